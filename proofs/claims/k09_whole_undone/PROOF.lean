import PyProof.Rows.All
import Wide.All
import OpenK.AllK
import Wide.FinOn
import Lean
import PyProof.EqAt
import PyProof.EqKinds
import PyProof.TupleCall
import PyProof.NeKinds
import PyProof.CompFree
import KE.KRevIter
import KE.KSortTup
import KE.KUnpack
import PyProof.Rows.Range3
import PyProof.Rows.SumAny
import PyProof.ConsumeWalk
import PyProof.Rows.TupMore
import KE.KDictList
import PyProof.MinMaxWalk
import PyProof.CompMap
import PyProof.Rows.MinMaxN
import PyProof.MeetsSeq
import PyProof.FactsAll.list_3
import PyProof.SetScanFacts
import PyProof.SetKind
import PyProof.Seq
import PyProof.DictIter
import PyProof.WalksS
import PyProof.FactsAll.set_1
import PyProof.WalkLemmas
import PyProof.MakeMany
import PyProof.Rows.SetFrom
import PyProof.ListNew
import PyProof.Rows.SortWalk
import PyProof.CollectWalk
import PySem.Challenge.RW_pilehall_k09_whole_undone
set_option Elab.async false
set_option linter.all false
set_option maxRecDepth 100000
def PySem.W.Fast.tw1752193776781473601 : Unit := ()
def PySem.W.Fast.tw9524561670572860259 : Unit := ()
def PySem.W.Fast.tw3043249077945807816 : Unit := ()
def PySem.W.Fast.tw12315620802854747657 : Unit := ()
def PySem.W.Fast.tw18028233259219307533 : Unit := ()
def PySem.W.Fast.tw12711409896407128525 : Unit := ()
def PySem.W.Fast.tw10291580022777237422 : Unit := ()
def PySem.W.Fast.tw11418160915800315219 : Unit := ()
def PySem.W.Fast.tw13873426157665689941 : Unit := ()
def PySem.W.Fast.tw15857685104862158999 : Unit := ()
def PySem.W.Fast.tw7114757612601942750 : Unit := ()
def PySem.W.Fast.tw15464459732028156735 : Unit := ()
namespace L2
open PySem PySem.Spec PyProof.Rows
abbrev Key := Sum Int Str
def keyIs : Key → Value → Bool
  | .inl k, v => Value.isInt k v
  | .inr x, v => Value.isStrOf x v
def keyH (w : World) : Key → Int
  | .inl k => hashInt k
  | .inr x => hashStr w x
theorem keyIs_shape : ∀ {k : Key} {v : Value}, keyIs k v = true → (∃ i t, k = Sum.inl i ∧ v = Value.int i t) ∨ (∃ x t, k = Sum.inr x ∧ v = Value.str x t)
  | .inl i, v, h => by
    obtain ⟨t, e⟩ := Value.isInt_shape (k := i) (v := v) h
    exact .inl ⟨i, t, rfl, e⟩
  | .inr x, v, h => by
    obtain ⟨t, e⟩ := Value.isStrOf_shape (x := x) (v := v) h
    exact .inr ⟨x, t, rfl, e⟩
theorem keyIs_int (i : Int) (t : Tok) : keyIs (.inl i) (.int i t) = true := by simp [keyIs, Value.isInt]
theorem keyIs_str (x : Str) (t : Tok) : keyIs (.inr x) (.str x t) = true := by simp [keyIs, Value.isStrOf]
theorem key_ll (a b : Int) : decide ((Sum.inl a : Key) = Sum.inl b) = (a == b) := by
  by_cases e : a = b
  · subst e; simp
  · have h : ¬ (Sum.inl a : Key) = Sum.inl b := fun q => e (Sum.inl.inj q)
    rw [decide_eq_false h]
    exact (beq_eq_false_iff_ne.mpr e).symm
theorem key_rr (a b : Str) : decide ((Sum.inr a : Key) = Sum.inr b) = decide (a = b) := by
  by_cases e : a = b
  · subst e; simp
  · have h : ¬ (Sum.inr a : Key) = Sum.inr b := fun q => e (Sum.inr.inj q)
    rw [decide_eq_false h, decide_eq_false e]
theorem key_lr (a : Int) (b : Str) : decide ((Sum.inl a : Key) = Sum.inr b) = false := decide_eq_false (fun q => nomatch q)
theorem key_rl (a : Str) (b : Int) : decide ((Sum.inr a : Key) = Sum.inl b) = false := decide_eq_false (fun q => nomatch q)
def mixKind (prog : Program) (w : World) : PySem.KeyKind prog w Key where
  is := keyIs
  hash := keyH w
  inj := fun v a b ha hb => by
    rcases keyIs_shape ha with ⟨i, t, rfl, rfl⟩ | ⟨x, t, rfl, rfl⟩
    · rcases keyIs_shape hb with ⟨j, u, rfl, e⟩ | ⟨y, u, rfl, e⟩
      · injection e with e1 _; rw [e1]
      · exact nomatch e
    · rcases keyIs_shape hb with ⟨j, u, rfl, e⟩ | ⟨y, u, rfl, e⟩
      · exact nomatch e
      · injection e with e1 _; rw [e1]
  byValue := fun k v h => by
    rcases keyIs_shape h with ⟨i, t, rfl, rfl⟩ | ⟨x, t, rfl, rfl⟩ <;> rfl
  pyHash := fun hv h => by
    rcases keyIs_shape hv with ⟨i, t, rfl, rfl⟩ | ⟨x, t, rfl, rfl⟩
    · exact wpAny_pyHash_int h
    · exact wpAny_pyHash_str h
  eqBool := fun hu hv h => by
    rcases keyIs_shape hu with ⟨i, t, rfl, rfl⟩ | ⟨x, t, rfl, rfl⟩
    · rcases keyIs_shape hv with ⟨j, u, rfl, rfl⟩ | ⟨y, u, rfl, rfl⟩
      · rw [key_ll] at h; exact wpAny_eqBool_int h
      · rw [key_lr] at h; exact SeqAt.EqAt.int_str i t y u _ _ _ _ h
    · rcases keyIs_shape hv with ⟨j, u, rfl, rfl⟩ | ⟨y, u, rfl, rfl⟩
      · rw [key_rl] at h; exact SeqAt.EqAt.str_int x t j u _ _ _ _ h
      · rw [key_rr] at h; exact wpAny_eqBool_str h
  «strs» := fun k x t v h => by
    rcases keyIs_shape h with ⟨i, u, rfl, e⟩ | ⟨y, u, rfl, e⟩
    · exact nomatch e
    · injection e with e1 _
      subst e1
      cases v <;> rfl
theorem mixKind_int (prog : Program) (w : World) (i : Int) (t : Tok) : (mixKind prog w).is (.inl i) (.int i t) = true := keyIs_int i t
theorem mixKind_str (prog : Program) (w : World) (x : Str) (t : Tok) : (mixKind prog w).is (.inr x) (.str x t) = true := keyIs_str x t
end L2
namespace L2
open PySem PySem.Spec PyProof.Rows
inductive V where
  | non | bl (b : Bool) | int (i : Int) | str (x : Str) | byt (b : Array UInt8) | flt (b : UInt64) | ref (a : Addr) | ty (n : String)
  deriving DecidableEq
def RelV : V → Value → Prop
  | .non, u => u = Value.none
  | .bl b, u => u = Value.bool b
  | .int i, u => ∃ t, u = Value.int i t
  | .str x, u => ∃ t, u = Value.str x t
  | .byt b, u => ∃ t, u = Value.bytes b t
  | .flt b, u => ∃ t, u = Value.float b t
  | .ref a, u => u = Value.ref a
  | .ty n, u => u = Value.type n
abbrev Vals : List V → List Value → Prop := Paired RelV
theorem Vals.length {xs : List V} {us : List Value} (r : Vals xs us) : xs.length = us.length := Paired.length r
theorem Vals.get : ∀ {xs : List V} {us : List Value} {i : Nat} {x : V}, Vals xs us → xs[i]? = some x → ∃ u, us[i]? = some u ∧ RelV x u
  | _, _, _, _, .nil, e => by simp at e
  | _, _, 0, _, .cons r _, e => by simp at e; subst e; exact ⟨_, rfl, r⟩
  | _, _, i + 1, x, .cons _ t, e => by
    obtain ⟨u, h1, h2⟩ := Vals.get (i := i) (x := x) t (by simpa using e)
    exact ⟨u, by simpa using h1, h2⟩
theorem Vals.set {x : V} {u : Value} (r : RelV x u) : ∀ {xs : List V} {us : List Value} (i : Nat), Vals xs us → Vals (xs.set i x) (us.set i u)
  | _, _, _, .nil => .nil
  | _, _, 0, .cons _ t => .cons r t
  | _, _, i + 1, .cons q t => .cons q (Vals.set r i t)
theorem Vals.append : ∀ {xs ys : List V} {us ws : List Value}, Vals xs us → Vals ys ws → Vals (xs ++ ys) (us ++ ws)
  | _, _, _, _, .nil, s => s
  | _, _, _, _, .cons r t, s => .cons r (Vals.append t s)
theorem Vals.take : ∀ {xs : List V} {us : List Value} (n : Nat), Vals xs us → Vals (xs.take n) (us.take n)
  | _, _, 0, _ => .nil
  | _, _, _ + 1, .nil => .nil
  | _, _, n + 1, .cons r t => .cons r (Vals.take n t)
theorem Vals.drop : ∀ {xs : List V} {us : List Value} (n : Nat), Vals xs us → Vals (xs.drop n) (us.drop n)
  | _, _, 0, r => r
  | _, _, _ + 1, .nil => .nil
  | _, _, n + 1, .cons _ t => Vals.drop n t
def RelO : Option V → Option Value → Prop
  | some v, some u => RelV v u
  | none, none => True
  | _, _ => False
def KV {κ : Type} : List (κ × V) → List (κ × Value) → Prop := Paired fun (p : κ × V) (q : κ × Value) => p.1 = q.1 ∧ RelV p.2 q.2
def kV : Key → V
  | .inl i => .int i
  | .inr x => .str x
inductive HO where
  | lst (xs : List V)
  | tup (xs : List V)
  | dK (kvs : List (Key × V)) | dT (kvs : List (List Key × V))
  | set (S : Int → Bool) (n : Nat)
  | ins (C dx : Addr) (fs : List (Str × V))
  | own (x : Addr)
  | xd (fs : List (Str × V))
  | met (f x : Addr)
  | rng (lo hi : Int)
  | frz (o : Obj) (u : HO)
  | tbl (ps : Array Value)
  | ext (φ : Heap → Prop)
abbrev Hp := Addr → Option HO
def upd (H : Hp) (a : Addr) (o : HO) : Hp := fun b => if b = a then some o else H b
theorem upd_same {H : Hp} {a : Addr} {o : HO} : upd H a o a = some o := by unfold upd; rw [if_pos rfl]
theorem upd_ne {H : Hp} {a b : Addr} {o : HO} (h : b ≠ a) : upd H a o b = H b := by unfold upd; rw [if_neg h]
theorem ne_of {H : Hp} {a b : Addr} {o u : HO} (h : H a = some o) (h' : H b = some u) (d : o ≠ u) : a ≠ b := by
  intro e; subst e; rw [h] at h'; exact d (Option.some.inj h')
theorem ne_of_none {H : Hp} {a b : Addr} {o : HO} (h : H a = some o) (h' : H b = none) : a ≠ b := by
  intro e; subst e; rw [h] at h'; cases h'
section
variable (P : Program) (w : World)
def ObjOk (H : Hp) (h : Heap) (a : Addr) : HO → Prop
  | .lst xs => xs.length ≤ sizeLine ∧ ∃ (its : List Value) (n : Nat), Vals xs its ∧ h.get? a = some { cls := .type "list", data := .seq its.toArray n }
  | .tup xs => xs.length ≤ sizeLine ∧ ∃ its : List Value, Vals xs its ∧ IsTup h a its.toArray
  | .dK kvs => kvs.length ≤ sizeLine ∧ (a == sysModules) = false ∧ ∃ vs, KV kvs vs ∧ h.DictOf (mixKind P w) a vs
  | .dT kvs => kvs.length ≤ sizeLine ∧ (a == sysModules) = false ∧ ∃ xs : List (List Key × Addr × Value),
      Paired (fun (p : List Key × V) (q : List Key × Addr × Value) => p.1 = q.1 ∧ H q.2.1 = some (.tup (p.1.map kV)) ∧ RelV p.2 q.2.2) kvs xs ∧
      ∃ o es ep, h.get? a = some o ∧ o.ExactDict ∧ o.data = .dict es ep ∧ es.toList = xs.map (entryOfKey (tupleKind (mixKind P w))) ∧ (xs.map (·.1)).Nodup
  | .set S n => h.SetOf (intKind P w) a S n
  | .ins C dx fs => H dx = some (.own a) ∧ fs.length ≤ 1000 ∧ dx ≠ a ∧ h.get? a = some (PySem.W.instObj C dx) ∧
      ∃ mA, h.Ns1 dx mA ∧ (∀ f, RelO (fs.lookup f) (mA f)) ∧ PySem.Within mA (fs.map (·.1))
  | .own _ => ∃ o, h.get? a = some o
  | .xd fs => ∃ mA, h.Ns1 a mA ∧ ∀ f, RelO (fs.lookup f) (mA f)
  | .rng lo hi => ∃ t u v, h.get? a = some { cls := .type "range", data := .fields #[.int lo t, .int hi u, .int 1 v] }
  | .frz o u => h.get? a = some o ∧ ObjOk H h a u
  | .tbl ps => h.get? a = some { cls := .none, data := .fields ps }
  | .met f x => h.get? a = some (PySem.W.methodObj (.ref f) (.ref x))
  | .ext φ => φ h ∧ (∃ o, h.get? a = some o) ∧ ∀ h1 h2 : Heap, φ h1 → (∀ o, h1.get? a = some o → h2.get? a = some o) → φ h2
def HOk (H : Hp) (h : Heap) : Prop := ∀ a o, H a = some o → ObjOk P w H h a o
end
section
variable {P : Program} {w : World} {H H' : Hp} {h h' : Heap} {a : Addr} {o : HO}
theorem ObjOk.lt (x : ObjOk P w H h a o) : a < h.objs.size := by
  cases o with
  | lst xs => obtain ⟨_, _, _, _, e⟩ := x; exact Heap.lt_size e
  | tup xs => obtain ⟨_, _, _, p⟩ := x; exact p.lt
  | dK kvs => obtain ⟨_, _, _, _, o, _, _, e, _⟩ := x; exact Heap.lt_size e
  | dT kvs => obtain ⟨_, _, _, _, o, _, _, e, _⟩ := x; exact Heap.lt_size e
  | set S n => obtain ⟨o, _, _, _, e, _⟩ := x; exact Heap.lt_size e
  | ins C dx fs => obtain ⟨_, _, _, e, _⟩ := x; exact Heap.lt_size e
  | own y => obtain ⟨_, e⟩ := x; exact Heap.lt_size e
  | xd fs => obtain ⟨_, ⟨_, _, _, e, _⟩, _⟩ := x; exact Heap.lt_size e
  | rng lo hi => obtain ⟨_, _, _, e⟩ := x; exact Heap.lt_size e
  | frz ob u => obtain ⟨e, _⟩ := x; exact Heap.lt_size e
  | tbl ps => exact Heap.lt_size (show h.get? a = some _ from x)
  | met f y => exact Heap.lt_size (show h.get? a = some _ from x)
  | ext φ => obtain ⟨_, ⟨_, e⟩, _⟩ := x; exact Heap.lt_size e
theorem Paired.mapP {α β : Type} {F G : α → β → Prop} : ∀ {l₁ : List α} {l₂ : List β}, Paired F l₁ l₂ → (∀ a b, F a b → G a b) → Paired G l₁ l₂
  | _, _, .nil, _ => .nil
  | _, _, .cons r t, f => .cons (f _ _ r) (Paired.mapP t f)
theorem Paired.imp' {α β : Type} {F G : α → β → Prop} (f : ∀ a b, F a b → G a b) {l₁ : List α} {l₂ : List β} (r : Paired F l₁ l₂) : Paired G l₁ l₂ := Paired.mapP r f
theorem ObjOk.stay (x : ObjOk P w H h a o) (k : ∀ b u, (b = a ∨ H b = some (.own a)) → h.get? b = some u → h'.get? b = some u)
    (ho : ∀ b, H b = some (.own a) → H' b = some (.own a)) (ht : ∀ b xs, H b = some (.tup xs) → H' b = some (.tup xs)) : ObjOk P w H' h' a o := by
  induction o with
  | lst xs => obtain ⟨z, its, n, r, e⟩ := x; exact ⟨z, its, n, r, k _ _ (.inl rfl) e⟩
  | tup xs => obtain ⟨z, its, r, ob, e, c⟩ := x; exact ⟨z, its, r, ob, k _ _ (.inl rfl) e, c⟩
  | dK kvs => obtain ⟨z, y, vs, r, ob, es, ep, e, c⟩ := x; exact ⟨z, y, vs, r, ob, es, ep, k _ _ (.inl rfl) e, c⟩
  | dT kvs =>
    obtain ⟨z, y, xs, r, ob, es, ep, e, c⟩ := x
    exact ⟨z, y, xs, Paired.mapP r fun p q z => ⟨z.1, ht _ _ z.2.1, z.2.2⟩, ob, es, ep, k _ _ (.inl rfl) e, c⟩
  | set S n => obtain ⟨ob, es, ep, t, e, c⟩ := x; exact ⟨ob, es, ep, t, k _ _ (.inl rfl) e, c⟩
  | ins C dx fs =>
    obtain ⟨d, z, ne, e, mA, ⟨od, es, ep, e2, c⟩, r⟩ := x
    exact ⟨ho _ d, z, ne, k _ _ (.inl rfl) e, mA, ⟨od, es, ep, k _ _ (.inr d) e2, c⟩, r⟩
  | own y => obtain ⟨ob, e⟩ := x; exact ⟨ob, k _ _ (.inl rfl) e⟩
  | xd fs => obtain ⟨mA, ⟨od, es, ep, e, c⟩, r⟩ := x; exact ⟨mA, ⟨od, es, ep, k _ _ (.inl rfl) e, c⟩, r⟩
  | rng lo hi => obtain ⟨t, u, v, e⟩ := x; exact ⟨t, u, v, k _ _ (.inl rfl) e⟩
  | frz ob u ih => obtain ⟨e, q⟩ := x; exact ⟨k _ _ (.inl rfl) e, ih q⟩
  | tbl ps =>
    have e : h.get? a = some { cls := .none, data := .fields ps } := x
    show h'.get? a = some { cls := .none, data := .fields ps }
    exact k a _ (.inl rfl) e
  | met f y =>
    have e : h.get? a = some (PySem.W.methodObj (.ref f) (.ref y)) := x
    show h'.get? a = some (PySem.W.methodObj (.ref f) (.ref y))
    exact k a _ (.inl rfl) e
  | ext φ => obtain ⟨p, ⟨o, e⟩, st⟩ := x; exact ⟨st _ _ p fun o q => k _ _ (.inl rfl) q, ⟨o, k _ _ (.inl rfl) e⟩, st⟩
theorem HOk.lt (x : HOk P w H h) (e : H a = some o) : a < h.objs.size := (x a o e).lt
theorem HOk.fresh (x : HOk P w H h) (e : h.objs.size ≤ a) : H a = none := by
  cases q : H a with
  | none => rfl
  | some u => exact absurd (Nat.lt_of_lt_of_le (x.lt q) e) (Nat.lt_irrefl _)
theorem HOk.kept (x : HOk P w H h) (k : ∀ b u, h.get? b = some u → h'.get? b = some u) : HOk P w H h' := fun a o e =>
  (x a o e).stay (fun b u _ q => k b u q) (fun _ q => q) fun _ _ q => q
theorem HOk.laid (x : HOk P w H h) (k : ∀ b u, h.get? b = some u → h'.get? b = some u) (hp : h.objs.size ≤ a) (new : ObjOk P w (upd H a o) h' a o) : HOk P w (upd H a o) h' := fun b u e => by
  have hn := x.fresh hp
  by_cases hb : b = a
  · subst hb; rw [upd_same] at e; cases e; exact new
  · rw [upd_ne hb] at e
    exact (x b u e).stay (fun c v _ q => k c v q) (fun c q => by rw [upd_ne (ne_of_none q hn)]; exact q) fun c xs q => by rw [upd_ne (ne_of_none q hn)]; exact q
end
def Rd (H : Hp) (a : Addr) (u : HO) : Prop := H a = some u ∨ ∃ o, H a = some (.frz o u)
theorem Rd.ok {P : Program} {w : World} {H : Hp} {h : Heap} {a : Addr} {u : HO} (r : Rd H a u) (x : HOk P w H h) : ObjOk P w H h a u := by
  rcases r with r | ⟨o, r⟩
  · exact x a u r
  · obtain ⟨_, q⟩ := x a _ r
    exact q
def Mut : Option HO → Prop
  | some (.lst _) => True
  | some (.dK _) => True
  | some (.dT _) => True
  | some (.set _ _) => True
  | some (.ins _ _ _) => True
  | some (.ext _) => True
  | _ => False
section
variable {P : Program} {w : World} {H : Hp} {h h' : Heap} {x e : Addr} {o' : HO}
theorem HOk.write (ok : HOk P w H h) (mu : Mut (H x)) (he : e = x ∨ H e = some (.own x)) (k : ∀ b u, b ≠ e → h.get? b = some u → h'.get? b = some u) (heo : ∃ u, h'.get? e = some u)
    (new : ObjOk P w (upd H x o') h' x o') : HOk P w (upd H x o') h' := fun b u q => by
  have nown : ∀ c y, H c = some (.own y) → c ≠ x := fun c y r z => by subst z; rw [r] at mu; exact mu
  have ntup : ∀ c xs, H c = some (.tup xs) → c ≠ x := fun c xs r z => by subst z; rw [r] at mu; exact mu
  by_cases hb : b = x
  · subst hb; rw [upd_same] at q; cases q; exact new
  · rw [upd_ne hb] at q
    by_cases hbe : b = e
    · have q' : H b = some (.own x) := by
        rcases he with z | z
        · exact absurd (hbe.trans z) hb
        · rw [hbe]; exact z
      rw [q] at q'; cases q'
      obtain ⟨v, hv⟩ := heo
      exact ⟨v, by rw [hbe]; exact hv⟩
    · refine (ok b u q).stay (fun c v hc r => k c v ?_ r) (fun c r => by rw [upd_ne (nown c b r)]; exact r) fun c xs r => by rw [upd_ne (ntup c xs r)]; exact r
      rcases hc with rfl | hc
      · exact hbe
      · rintro rfl
        rcases he with z | z
        · exact nown c b hc z
        · rw [hc] at z; cases z; exact hb rfl
end
structure Un (fs ex : List Addr) (H H' : Hp) (h h' : Heap) : Prop where
  keep : ∀ b o, h.get? b = some o → H b = none → b ∉ fs → b ∉ ex → h'.get? b = some o
  slot : ∀ b o, h.get? b = some o → H b = none → b ∈ fs → b ∉ ex → ∃ sl, h'.get? b = some { o with slots := sl }
  free : ∀ b o, h.get? b = some o → H b = none → b ∉ ex → H' b = none
  there : ∀ b o, h.get? b = some o → b ∉ ex → ∃ o', h'.get? b = some o'
  tups : ∀ b xs, H b = some (.tup xs) → H' b = some (.tup xs)
  frzs : ∀ b o u, H b = some (.frz o u) → H' b = some (.frz o u)
  tbls : ∀ b ps, H b = some (.tbl ps) → ∃ more, H' b = some (.tbl (ps ++ more))
section
variable {fs fs' ex ex' : List Addr} {H H1 H2 : Hp} {h h1 h2 h' : Heap} {a x e : Addr} {o : HO}
theorem Un.any (u : Un fs ex H H1 h h1) {b : Addr} {ob : Obj} (q : h.get? b = some ob) (n : H b = none) (hx : b ∉ ex) : ∃ sl, h1.get? b = some { ob with slots := sl } := by
  by_cases hb : b ∈ fs
  · exact u.slot b ob q n hb hx
  · exact ⟨ob.slots, u.keep b ob q n hb hx⟩
theorem Un.kept (k : ∀ b u, h.get? b = some u → h'.get? b = some u) : Un fs ex H H h h' :=
  ⟨fun b ob q _ _ _ => k b ob q, fun b ob q _ _ _ => ⟨ob.slots, k b ob q⟩, fun _ _ _ n _ => n, fun b ob q _ => ⟨ob, k b ob q⟩, fun _ _ q => q, fun _ _ _ q => q, fun _ ps q => ⟨#[], by rw [q]; simp⟩⟩
theorem Un.refl : Un fs ex H H h h := Un.kept fun _ _ q => q
theorem Un.laid (k : ∀ b u, h.get? b = some u → h'.get? b = some u) (hp : h.objs.size ≤ a) (hn : H a = none) : Un fs ex H (upd H a o) h h' where
  keep := fun b u q _ _ _ => k b u q
  slot := fun b u q _ _ _ => ⟨u.slots, k b u q⟩
  free := fun b u q n _ => by rw [upd_ne (Nat.ne_of_lt (Nat.lt_of_lt_of_le (Heap.lt_size q) hp))]; exact n
  there := fun b u q _ => ⟨u, k b u q⟩
  tups := fun b xs q => by rw [upd_ne (ne_of_none q hn)]; exact q
  frzs := fun b u xs q => by rw [upd_ne (ne_of_none q hn)]; exact q
  tbls := fun b ps q => ⟨#[], by rw [upd_ne (ne_of_none q hn), q]; simp⟩
theorem Un.write (mu : Mut (H x)) (he : e = x ∨ H e = some (.own x)) (k : ∀ b u, b ≠ e → h.get? b = some u → h'.get? b = some u) (heo : ∃ u, h'.get? e = some u) : Un fs ex H (upd H x o) h h' := by
  have hx : ∀ b, H b = none → b ≠ x := fun b n z => by subst z; rw [n] at mu; exact mu
  have hb : ∀ b, H b = none → b ≠ e := fun b n z => by
    subst z
    rcases he with r | r
    · exact hx b n r
    · rw [n] at r; cases r
  have hm : ∀ b u, H b = some u → ¬ Mut (some u) → b ≠ x := fun b u q nm z => by subst z; rw [q] at mu; exact nm mu
  refine ⟨fun b u q n _ _ => k b u (hb b n) q, fun b u q n _ _ => ⟨u.slots, k b u (hb b n) q⟩, fun b u q n _ => by rw [upd_ne (hx b n)]; exact n, fun b u q _ => ?_,
    fun b xs q => by rw [upd_ne (hm b _ q fun z => z)]; exact q, fun b u xs q => by rw [upd_ne (hm b _ q fun z => z)]; exact q, fun b ps q => ⟨#[], by rw [upd_ne (hm b _ q fun z => z), q]; simp⟩⟩
  by_cases hbe : b = e
  · subst hbe; exact heo
  · exact ⟨u, k b u hbe q⟩
end
def trk (h : Heap) (H : Hp) : List Addr := (List.range h.objs.size).filter fun a => (H a).isSome
def hidT (h : Heap) (H : Hp) : Heap := PySem.W.hideAll h (trk h H)
theorem hidT_size (h : Heap) (H : Hp) : (hidT h H).objs.size = h.objs.size := PySem.W.hideAll_size _ _
theorem hidT_get {h : Heap} {H : Hp} {b : Addr} {o : Obj} (e : h.get? b = some o) (n : H b = none) : (hidT h H).get? b = some o :=
  PySem.W.hideAll_get _ e fun hm => by
    have q : (H b).isSome = true := (List.mem_filter.mp hm).2
    rw [n] at q; simp at q
theorem of_hidT {h : Heap} {H : Hp} {b : Addr} {o : Obj} (e : (hidT h H).get? b = some o) : h.get? b = some o ∧ H b = none := by
  have e' : h.get? b = some o := PySem.W.of_hideAll (trk h H) e
  refine ⟨e', ?_⟩
  cases q : H b with
  | none => rfl
  | some x =>
    have hm : b ∈ trk h H := List.mem_filter.mpr ⟨List.mem_range.mpr (Heap.lt_size e'), by simp [q]⟩
    have z : (hidT h H).get? b = none := PySem.W.hideAll_none (trk h H) hm
    rw [z] at e; cases e
def allNews (g h : Heap) (L : Addr) : List (Addr × Obj) := (List.range h.objs.size).filterMap fun a => if a = L ∨ (g.get? a).isSome = true then none else (h.get? a).map fun o => (a, o)
theorem mem_allNews {g h : Heap} {L a : Addr} {o : Obj} (h1 : a ≠ L) (h2 : g.get? a = none) (h3 : h.get? a = some o) : (a, o) ∈ allNews g h L :=
  List.mem_filterMap.mpr ⟨a, List.mem_range.mpr (Heap.lt_size h3), by simp [h1, h2, h3]⟩
theorem of_mem_allNews {g h : Heap} {L : Addr} {p : Addr × Obj} (hp : p ∈ allNews g h L) : p.1 ≠ L ∧ g.get? p.1 = none ∧ h.get? p.1 = some p.2 := by
  obtain ⟨b, _, e⟩ := List.mem_filterMap.mp hp
  split at e
  · cases e
  · rename_i hn
    cases q : h.get? b with
    | none => rw [q] at e; simp at e
    | some u =>
      rw [q] at e
      simp only [Option.map_some, Option.some.injEq] at e
      subst e
      refine ⟨fun z => hn (.inl z), ?_, q⟩
      show g.get? b = none
      cases r : g.get? b with
      | none => rfl
      | some v => exact (hn (.inr (by simp [r]))).elim
theorem news_all {g h : Heap} {L : Addr} : News g L h (allNews g h L) := fun p hp => let ⟨a, b, c⟩ := of_mem_allNews hp; ⟨c, a, b⟩
end L2
namespace L2
open PySem PySem.Spec PyProof.Rows
structure Mod (K : PySem.W.Frag) (mg : Str → Option Value) (base : Heap) : Prop where
  kin : K.In base
  glob : base.Ns mainGlobals mg
  blt : ∃ mb, base.Ns builtinsNs mb ∧ ∀ x : Str, x ≠ "__name__" → mb x = bootBuiltins x
  nolimit : base.NoLimit
/-- the context: a def's body (or a comprehension's block) running. base: fixed through the whole law; s₀, H₀: the entry; outer: the frames whose slots others may change (a def's callers); stack: all frames that run;
   ex: iterators that were made ahead of the entry and are walked here (a comprehension's); fn: the names whose cells were made at the entry (a def: all; a comprehension's block: its own); calm: not within an except suite; pn: pins that every state bears; xe: what is wanted of an exception that leaves the code -/
structure Cx where
  prog : Program
  w : World
  K : PySem.W.Frag
  mg : Str → Option Value
  base : Heap
  A : Around
  N : List Str
  s₀ : Shared
  H₀ : Hp
  env : Env
  outer : List Env
  stack : List Env
  ex : List Addr
  fn : Str → Bool
  calm : Bool
  pn : List (Addr × Obj)
  xe : Value → Shared → Prop
def frs (l : List Env) : List Addr := l.filterMap (·.frame)
abbrev Cx.fs (X : Cx) : List Addr := frs X.outer
def Vis (sc : Scope) (x : Str) : Prop := sc.names.lookup x = some .local ∨ sc.names.lookup x = some .cell ∨ sc.names.lookup x = some .free
def Loc (sc : Scope) (x : Str) : Prop := sc.names.lookup x = some .local ∨ sc.names.lookup x = some .cell
def Look (env : Env) (h : Heap) (m : Str → Option Value) (x : Str) (u : Value) : Prop :=
  (env.kindOf x = some .local ∧ m x = some u) ∨ ((env.kindOf x = some .cell ∨ env.kindOf x = some .free) ∧ ∃ c, env.cells.lookup x = some c ∧ h.IsCell c (some u))
structure Cx.Ok (X : Cx) : Prop where
  mod : Mod X.K X.mg X.base
  kind : X.env.scope.kind = .function
  glob : X.env.globals = mainGlobals
  blt : X.env.builtins = builtinsNs
  above : X.s₀.heap.objs.size ≤ X.env.locals
  inj : ∀ x y c, X.env.cells.lookup x = some c → X.env.cells.lookup y = some c → x = y
  has : ∀ x, (X.env.kindOf x = some .cell ∨ X.env.kindOf x = some .free) → ∃ c, X.env.cells.lookup x = some c
  cab : ∀ x c, X.fn x = true → X.env.cells.lookup x = some c → X.s₀.heap.objs.size ≤ c
  hd : X.calm = true → X.A.handled = none
  frames : X.A.frames = some X.stack
  stk : X.stack = X.outer ∨ (X.stack = X.env :: X.outer ∧ X.env.frame = some X.env.locals)
  exf : ∀ b ∈ X.ex, b ≠ X.env.locals ∧ ∀ x c, X.env.cells.lookup x = some c → c ≠ b
  bs : ∀ b o, X.base.get? b = some o → X.s₀.heap.get? b = some o ∧ X.H₀ b = none
  bsz : X.base.objs.size ≤ X.s₀.heap.objs.size
  noex : ∀ b o, X.base.get? b = some o → b ∉ X.ex
  exfs : ∀ b ∈ X.ex, b ∉ X.fs
  funs : X.s₀.heap.FunFrames X.base X.outer
  frf : ∀ b ∈ X.fs, X.H₀ b = none
structure Inv (X : Cx) (pins : List (Addr × Obj)) (σ : List (Option V)) (H : Hp) (s : Shared) : Prop where
  ok : X.Ok
  os : s.os = X.s₀.os
  bare : AllBare s.gens
  base : Un X.fs X.ex X.H₀ H X.s₀.heap s.heap
  loc : ∃ m, s.heap.Ns X.env.locals m ∧ ∀ (i : Nat) (x : Str) (v : V), X.N[i]? = some x → σ[i]? = some (some v) → Vis X.env.scope x → ∃ u, RelV v u ∧ Look X.env s.heap m x u
  cell : ∀ x c, X.env.cells.lookup x = some c → ∃ v, s.heap.IsCell c v
  free : H X.env.locals = none
  freeC : ∀ x c, X.env.cells.lookup x = some c → H c = none
  pin : ∀ p ∈ X.pn ++ pins, s.heap.get? p.1 = some p.2 ∧ H p.1 = none ∧ p.1 ≠ X.env.locals ∧ p.1 ∉ X.fs ∧ ∀ v, p.2.data ≠ .cell v
  hok : HOk X.prog X.w H s.heap
  len : σ.length = X.N.length
section
variable {X : Cx} {pins : List (Addr × Obj)} {σ : List (Option V)} {H H' : Hp} {s : Shared} {h' : Heap}
theorem Cx.Ok.nofr (ok : X.Ok) {b : Addr} {o : Obj} (e : X.base.get? b = some o) : b ∉ X.fs := fun hb => by
  have := (ok.funs.mem hb).1
  rw [e] at this; cases this
theorem Inv.bs (I : Inv X pins σ H s) : ∀ b o, X.base.get? b = some o → s.heap.get? b = some o ∧ H b = none := fun b o e =>
  ⟨I.base.keep b o (I.ok.bs b o e).1 (I.ok.bs b o e).2 (I.ok.nofr e) (I.ok.noex b o e), I.base.free b o (I.ok.bs b o e).1 (I.ok.bs b o e).2 (I.ok.noex b o e)⟩
theorem Inv.bk (I : Inv X pins σ H s) : ∀ b o, X.base.get? b = some o → s.heap.get? b = some o := fun b o e => (I.bs b o e).1
theorem Inv.mod (I : Inv X pins σ H s) : Mod X.K X.mg X.base := I.ok.mod
theorem Inv.kIn (I : Inv X pins σ H s) : X.K.In s.heap := I.ok.mod.kin.keeps I.bk
theorem Inv.fr (I : Inv X pins σ H s) : ∃ m, Fr X.base X.env.locals s.heap m :=
  let ⟨m, hn, _⟩ := I.loc
  ⟨m, hn, I.bk, Nat.le_trans I.ok.bsz I.ok.above⟩
theorem Inv.lt (I : Inv X pins σ H s) : X.env.locals < s.heap.objs.size := let ⟨_, hn, _⟩ := I.loc; hn.lt
theorem Inv.sz (I : Inv X pins σ H s) : X.s₀.heap.objs.size ≤ s.heap.objs.size := Nat.le_trans I.ok.above (Nat.le_of_lt I.lt)
theorem Inv.nofs (I : Inv X pins σ H s) {a : Addr} (h : s.heap.objs.size ≤ a) : a ∉ X.fs := fun hb => by
  obtain ⟨_, o, ho, _⟩ := I.ok.funs.mem hb
  exact absurd (Nat.lt_of_lt_of_le (Heap.lt_size ho) (Nat.le_trans I.sz h)) (Nat.lt_irrefl _)
theorem Inv.cne (I : Inv X pins σ H s) : ∀ x c, X.env.cells.lookup x = some c → c ≠ X.env.locals := fun x c e z => by
  obtain ⟨v, o, ho, hd⟩ := I.cell x c e
  obtain ⟨m, ⟨o', es, ep, ho', hd', _⟩, _⟩ := I.loc
  rw [z, ho'] at ho; cases ho; rw [hd'] at hd; cases hd
theorem Inv.funs (I : Inv X pins σ H s) : s.heap.FunFrames X.base X.outer := by
  have all : ∀ (l : List Env), (∀ b ∈ frs l, b ∈ X.fs) → X.s₀.heap.FunFrames X.base l → s.heap.FunFrames X.base l := by
    intro l
    induction l with
    | nil => intro _ _; trivial
    | cons env r ih =>
      intro hs hl
      obtain ⟨hk, ⟨L, o, hf, hn, ho, hd⟩, hr⟩ := hl
      have hL : L ∈ X.fs := hs L (by unfold frs; rw [List.filterMap_cons, hf]; exact List.mem_cons_self)
      obtain ⟨sl, e⟩ := I.base.slot L o ho (I.ok.frf L hL) hL fun z => I.ok.exfs L z hL
      exact ⟨hk, ⟨L, _, hf, hn, e, hd⟩, ih (fun b hb => hs b (by unfold frs; rw [List.filterMap_cons, hf]; exact List.mem_cons_of_mem _ hb)) hr⟩
  exact all X.outer (fun _ hb => hb) I.ok.funs
theorem Inv.stack (I : Inv X pins σ H s) : s.heap.FunFrames X.base X.stack := by
  rcases I.ok.stk with e | ⟨e, hf⟩
  · rw [e]; exact I.funs
  · rw [e]
    obtain ⟨m, hn, _⟩ := I.loc
    refine .cons (by rw [I.ok.kind]; decide) hf hn ?_ I.funs
    exact Heap.get?_none_of_le (Nat.le_trans I.ok.bsz I.ok.above)
theorem Inv.stkSub (I : Inv X pins σ H s) : ∀ b ∈ frs X.stack, b ∈ X.env.locals :: X.fs := fun b hb => by
  rcases I.ok.stk with e | ⟨e, hf⟩
  · rw [e] at hb; exact List.mem_cons_of_mem _ hb
  · rw [e] at hb
    unfold frs at hb
    rw [List.filterMap_cons, hf] at hb
    exact hb
theorem Inv.stkFree (I : Inv X pins σ H s) : ∀ b ∈ frs X.stack, H b = none := fun b hb => by
  rcases List.mem_cons.mp (I.stkSub b hb) with e | hb
  · rw [e]; exact I.free
  · obtain ⟨_, o, ho, _⟩ := I.ok.funs.mem hb
    exact I.base.free b o ho (I.ok.frf b hb) fun z => I.ok.exfs b z hb
theorem Inv.step {g' : Array GenState} {t' : Nat} {d' : Drawn} {ch : List Addr} (I : Inv X pins σ H s)
    (hch : ∀ b ∈ ch, (b ∈ X.ex ∨ X.s₀.heap.objs.size ≤ b) ∧ b ≠ X.env.locals ∧ (∀ x c, X.env.cells.lookup x = some c → c ≠ b) ∧ ∀ p ∈ X.pn ++ pins, p.1 ≠ b)
    (keep : ∀ b o, b ≠ X.env.locals → b ∉ X.fs → b ∉ ch → s.heap.get? b = some o → H b = none → h'.get? b = some o)
    (slot : ∀ b o, b ≠ X.env.locals → b ∈ X.fs → b ∉ ch → s.heap.get? b = some o → H b = none → ∃ sl, h'.get? b = some { o with slots := sl }) (free : ∀ b o, b ∉ ch → s.heap.get? b = some o → H b = none → H' b = none)
    (there : ∀ b o, b ∉ ch → s.heap.get? b = some o → ∃ o', h'.get? b = some o')
    (tups : ∀ b xs, H b = some (.tup xs) → H' b = some (.tup xs)) (frzs : ∀ b o u, H b = some (.frz o u) → H' b = some (.frz o u)) (tbls : ∀ b ps, H b = some (.tbl ps) → ∃ more, H' b = some (.tbl (ps ++ more)))
    (ns : ∀ m, s.heap.Ns X.env.locals m → h'.Ns X.env.locals m) (hok : HOk X.prog X.w H' h') (hg : AllBare g') :
    Inv X pins σ H' { s with heap := h', gens := g', drawn := d', toks := t' } := by
  have neL : ∀ b o, X.s₀.heap.get? b = some o → b ≠ X.env.locals := fun b o e => Nat.ne_of_lt (Nat.lt_of_lt_of_le (Heap.lt_size e) I.ok.above)
  have neC : ∀ b o, X.s₀.heap.get? b = some o → b ∉ X.ex → b ∉ ch := fun b o e hx hb => by
    rcases (hch b hb).1 with z | z
    · exact hx z
    · exact absurd (Nat.lt_of_lt_of_le (Heap.lt_size e) z) (Nat.lt_irrefl _)
  have cellK : ∀ x c, X.env.cells.lookup x = some c → ∀ v, s.heap.IsCell c v → h'.IsCell c v := fun x c e v ⟨o, ho, hd⟩ => by
    have nch : c ∉ ch := fun z => (hch c z).2.2.1 x c e rfl
    by_cases hc : c ∈ X.fs
    · obtain ⟨sl, q⟩ := slot c o (I.cne x c e) hc nch ho (I.freeC x c e)
      exact ⟨_, q, hd⟩
    · exact ⟨o, keep c o (I.cne x c e) hc nch ho (I.freeC x c e), hd⟩
  refine ⟨I.ok, I.os, hg, ⟨fun b o e n hb hx => ?_, fun b o e n hb hx => ?_, fun b o e n hx => ?_, fun b o e hx => ?_, fun b xs e => tups b xs (I.base.tups b xs e), fun b o xs e => frzs b o xs (I.base.frzs b o xs e), fun b ps e => ?_⟩, ?_, fun x c e => ?_, ?_, fun x c e => ?_, fun p hp => ?_, hok, I.len⟩
  · exact keep b o (neL b o e) hb (neC b o e hx) (I.base.keep b o e n hb hx) (I.base.free b o e n hx)
  · obtain ⟨sl, e1⟩ := I.base.slot b o e n hb hx
    obtain ⟨sl', e2⟩ := slot b _ (neL b o e) hb (neC b o e hx) e1 (I.base.free b o e n hx)
    exact ⟨sl', e2⟩
  · obtain ⟨o', e1⟩ := I.base.there b o e hx
    exact free b o' (neC b o e hx) e1 (I.base.free b o e n hx)
  · obtain ⟨o', e1⟩ := I.base.there b o e hx
    exact there b o' (neC b o e hx) e1
  · obtain ⟨m1, e1⟩ := I.base.tbls b ps e
    obtain ⟨m2, e2⟩ := tbls b _ e1
    exact ⟨m1 ++ m2, by rw [e2, Array.append_assoc]⟩
  · obtain ⟨m, hn, hl⟩ := I.loc
    refine ⟨m, ns m hn, fun i x v e1 e2 e3 => ?_⟩
    obtain ⟨u, r, l⟩ := hl i x v e1 e2 e3
    refine ⟨u, r, ?_⟩
    rcases l with l | ⟨k, c, e, z⟩
    · exact .inl l
    · exact .inr ⟨k, c, e, cellK x c e _ z⟩
  · obtain ⟨v, z⟩ := I.cell x c e
    exact ⟨v, cellK x c e v z⟩
  · obtain ⟨m, ⟨o, _, _, ho, _⟩, _⟩ := I.loc
    exact free _ o (fun z => (hch _ z).2.1 rfl) ho I.free
  · obtain ⟨v, o, ho, hd⟩ := I.cell x c e
    exact free c o (fun z => (hch c z).2.2.1 x c e rfl) ho (I.freeC x c e)
  · obtain ⟨e, n, ne, nf, d⟩ := I.pin p hp
    have nch : p.1 ∉ ch := fun z => (hch p.1 z).2.2.2 p hp rfl
    exact ⟨keep p.1 p.2 ne nf nch e n, free p.1 p.2 nch e n, ne, nf, d⟩
theorem Inv.un {t' : Nat} (I : Inv X pins σ H s) (u : Un X.fs [] H H' s.heap h') (hok : HOk X.prog X.w H' h') : Inv X pins σ H' { s with heap := h', toks := t' } := by
  obtain ⟨m, ⟨o, es, ep, ho, r⟩, _⟩ := id I.loc
  obtain ⟨sl, hL⟩ := u.any ho I.free (by simp)
  exact I.step (g' := s.gens) (d' := s.drawn) (ch := []) (fun _ z => nomatch z) (fun b o _ hb _ e n => u.keep b o e n hb (by simp)) (fun b o _ hb _ e n => u.slot b o e n hb (by simp)) (fun b o _ e n => u.free b o e n (by simp)) (fun b o _ e => u.there b o e (by simp)) u.tups u.frzs u.tbls (fun m' hm => by
    obtain ⟨o', es', ep', ho', r'⟩ := hm
    rw [ho] at ho'; cases ho'
    exact ⟨_, es', ep', hL, r'⟩) hok I.bare
theorem Inv.call {g' : Array GenState} {t' : Nat} {d' : Drawn} {ch : List Addr} (I : Inv X pins σ H s) (u : Un (frs X.stack) ch H H' s.heap h') (hok : HOk X.prog X.w H' h') (hg : AllBare g')
    (hch : ∀ b ∈ ch, (b ∈ X.ex ∨ X.s₀.heap.objs.size ≤ b) ∧ b ≠ X.env.locals ∧ (∀ x c, X.env.cells.lookup x = some c → c ≠ b) ∧ ∀ p ∈ X.pn ++ pins, p.1 ≠ b) :
    Inv X pins σ H' { s with heap := h', gens := g', drawn := d', toks := t' } := by
  obtain ⟨m, ⟨o, es, ep, ho, r⟩, _⟩ := id I.loc
  obtain ⟨sl, hL⟩ := u.any ho I.free fun z => (hch _ z).2.1 rfl
  exact I.step (ch := ch) hch (fun b o hL hb hc e n => u.keep b o e n (fun z => (List.mem_cons.mp (I.stkSub b z)).elim hL hb) hc) (fun b o _ _ hc e n => u.any e n hc) (fun b o hc e n => u.free b o e n hc) (fun b o hc e => u.there b o e hc) u.tups u.frzs u.tbls (fun m' hm => by
    obtain ⟨o', es', ep', ho', r'⟩ := hm
    rw [ho] at ho'; cases ho'
    exact ⟨_, es', ep', hL, r'⟩) hok hg
theorem Inv.turned {t' : Nat} {it : Addr} (I : Inv X pins σ H s) (k : ∀ b o, b ≠ it → s.heap.get? b = some o → h'.get? b = some o) (hn : H it = none) (hL : it ≠ X.env.locals)
    (h1 : it ∈ X.ex ∨ X.s₀.heap.objs.size ≤ it) (h2 : ∀ x c, X.env.cells.lookup x = some c → c ≠ it) (h3 : ∀ p ∈ X.pn ++ pins, p.1 ≠ it) : Inv X pins σ H { s with heap := h', toks := t' } := by
  have nit : ∀ b u, H b = some u → b ≠ it := fun b u e z => by rw [z, hn] at e; cases e
  refine I.step (g' := s.gens) (d' := s.drawn) (ch := [it]) (fun b hb => ?_) (fun b o _ _ hc e _ => k b o (fun z => hc (by simp [z])) e) (fun b o _ _ hc e _ => ⟨o.slots, k b o (fun z => hc (by simp [z])) e⟩) (fun _ _ _ _ n => n)
    (fun b o hc e => ⟨o, k b o (fun z => hc (by simp [z])) e⟩) (fun _ _ e => e) (fun _ _ _ e => e) (fun b ps e => ⟨#[], by rw [e]; simp⟩) (fun m hm => ?_) (fun b u e => ?_) I.bare
  · have e : b = it := by simpa using hb
    subst e
    exact ⟨h1, hL, h2, h3⟩
  · obtain ⟨o, es, ep, ho, r⟩ := hm
    exact ⟨o, es, ep, k _ o (Ne.symm hL) ho, r⟩
  · refine (I.hok b u e).stay (fun c v hc q => k c v ?_ q) (fun _ q => q) fun _ _ q => q
    rcases hc with z | z
    · rw [z]; exact nit b u e
    · exact nit c _ z
theorem Inv.tok (I : Inv X pins σ H s) (t : Nat) : Inv X pins σ H { s with toks := t } := I.un (h' := s.heap) (t' := t) Un.refl I.hok
theorem Inv.kept {t' : Nat} (I : Inv X pins σ H s) (k : ∀ b u, s.heap.get? b = some u → h'.get? b = some u) : Inv X pins σ H { s with heap := h', toks := t' } := I.un (Un.kept k) (I.hok.kept k)
theorem Inv.laid {a : Addr} {o : HO} {t' : Nat} (I : Inv X pins σ H s) (k : ∀ b u, s.heap.get? b = some u → h'.get? b = some u) (hp : s.heap.objs.size ≤ a) (new : ObjOk X.prog X.w (upd H a o) h' a o) :
    Inv X pins σ (upd H a o) { s with heap := h', toks := t' } := I.un (Un.laid k hp (I.hok.fresh hp)) (I.hok.laid k hp new)
theorem Inv.write {x e : Addr} {o : HO} {t' : Nat} (I : Inv X pins σ H s) (mu : Mut (H x)) (he : e = x ∨ H e = some (.own x)) (k : ∀ b u, b ≠ e → s.heap.get? b = some u → h'.get? b = some u) (heo : ∃ u, h'.get? e = some u)
    (new : ObjOk X.prog X.w (upd H x o) h' x o) : Inv X pins σ (upd H x o) { s with heap := h', toks := t' } := I.un (Un.write mu he k heo) (I.hok.write mu he k heo new)
theorem Inv.weak {σ' : List (Option V)} (I : Inv X pins σ H s) (hl : σ'.length = σ.length) (w : ∀ (i : Nat) v, σ'[i]? = some (some v) → σ[i]? = some (some v)) : Inv X pins σ' H s :=
  ⟨I.ok, I.os, I.bare, I.base, let ⟨m, hn, hl'⟩ := I.loc; ⟨m, hn, fun i x v e1 e2 e3 => hl' i x v e1 (w i v e2) e3⟩, I.cell, I.free, I.freeC, I.pin, I.hok, hl.trans I.len⟩
theorem Inv.pins_of {pins' : List (Addr × Obj)} (I : Inv X pins σ H s) (h : ∀ p ∈ pins', s.heap.get? p.1 = some p.2 ∧ H p.1 = none ∧ p.1 ≠ X.env.locals ∧ p.1 ∉ X.fs ∧ ∀ v, p.2.data ≠ .cell v) : Inv X pins' σ H s :=
  ⟨I.ok, I.os, I.bare, I.base, I.loc, I.cell, I.free, I.freeC, fun p hp => (List.mem_append.mp hp).elim (fun z => I.pin p (List.mem_append_left _ z)) (h p), I.hok, I.len⟩
theorem nodup_ix {N : List Str} (hN : N.Nodup) {i j : Nat} {x : Str} (a : N[i]? = some x) (b : N[j]? = some x) : i = j := by
  obtain ⟨h1, e1⟩ := List.getElem?_eq_some_iff.mp a
  obtain ⟨h2, e2⟩ := List.getElem?_eq_some_iff.mp b
  exact (List.getElem_inj hN).mp (e1.trans e2.symm)
theorem store_ok2 {M : Model} {A : Around} {E : Value → Shared → Prop} {i : Nat} {x : Str} {v : V} {u : Value} {Q : Unit → Shared → Prop} (I : Inv X pins σ H s) (hN : X.N.Nodup) (hi : X.N[i]? = some x) (hx : Loc X.env.scope x) (r : RelV v u)
    (h : ∀ s', Inv X pins (σ.set i (some v)) H s' → (∃ a, Heap.SameBut a s.heap s'.heap ∧ (a = X.env.locals ∨ X.env.cells.lookup x = some a)) → Q () s') (hf : X.fn x = true ∨ X.env.scope.names.lookup x = some .local := by first | exact .inl rfl | exact .inr rfl | assumption) : wpAny M A (storeName X.env x u) Q E s := by
  obtain ⟨m, hn, hl⟩ := id I.loc
  have hcls : (X.env.scope.kind == .class || (X.env.scope.kind == .module && X.env.locals != X.env.globals)) = false := by rw [I.ok.kind]; rfl
  have hiσ : i < σ.length := by rw [I.len]; exact (List.getElem?_eq_some_iff.mp hi).1
  have cne := I.cne
  have tracked : ∀ {a : Addr} {h' : Heap}, (∃ o, s.heap.get? a = some o ∧ H a = none) → Heap.SameBut a s.heap h' → HOk X.prog X.w H h' := fun {a h'} ha hs b ob e => by
    obtain ⟨_, _, hfree⟩ := ha
    refine (I.hok b ob e).stay (fun c w' hc q => (hs.2 c ?_).trans q) (fun _ q => q) fun _ _ q => q
    rintro rfl
    rcases hc with rfl | hc
    · rw [hfree] at e; cases e
    · rw [hfree] at hc; cases hc
  rcases hx with hk | hk
  · refine wpAny_storeName_local hk hn (fun h' hn' hs => ?_) hcls
    obtain ⟨oL, _, _, hoL, _⟩ := id hn
    refine h _ ⟨I.ok, I.os, I.bare, ⟨fun b o e n hb hx => ?_, fun b o e n hb hx => ?_, I.base.free, fun b o e hx => ?_, I.base.tups, I.base.frzs, I.base.tbls⟩, ⟨_, hn', fun j y v' e1 e2 e3 => ?_⟩, fun y c e => ?_, I.free, I.freeC, fun p hp => ?_, tracked ⟨oL, hoL, I.free⟩ hs, by simpa using I.len⟩ ⟨_, hs, .inl rfl⟩
    · exact (hs.2 b (Nat.ne_of_lt (Nat.lt_of_lt_of_le (Heap.lt_size e) I.ok.above))).trans (I.base.keep b o e n hb hx)
    · obtain ⟨sl, e1⟩ := I.base.slot b o e n hb hx
      exact ⟨sl, (hs.2 b (Nat.ne_of_lt (Nat.lt_of_lt_of_le (Heap.lt_size e) I.ok.above))).trans e1⟩
    · obtain ⟨o', e1⟩ := I.base.there b o e hx
      exact ⟨o', (hs.2 b (Nat.ne_of_lt (Nat.lt_of_lt_of_le (Heap.lt_size e) I.ok.above))).trans e1⟩
    · by_cases hj : j = i
      · subst hj
        rw [hi] at e1; cases e1
        rw [List.getElem?_set_self hiσ] at e2
        cases e2
        exact ⟨u, r, .inl ⟨hk, by simp⟩⟩
      · rw [List.getElem?_set_ne (Ne.symm hj)] at e2
        obtain ⟨u', r', q⟩ := hl j y v' e1 e2 e3
        refine ⟨u', r', ?_⟩
        rcases q with ⟨k, e⟩ | ⟨k, c, e, z⟩
        · refine .inl ⟨k, ?_⟩
          have : y ≠ x := fun e => hj (nodup_ix hN e1 (e ▸ hi))
          simp [this, e]
        · exact .inr ⟨k, c, e, z.sameBut hs (cne y c e)⟩
    · obtain ⟨w', z⟩ := I.cell y c e
      exact ⟨w', z.sameBut hs (cne y c e)⟩
    · obtain ⟨e, n, ne, nf, d⟩ := I.pin p hp
      exact ⟨(hs.2 p.1 ne).trans e, n, ne, nf, d⟩
  · have hfn : X.fn x = true := by
      rcases hf with z | z
      · exact z
      · rw [z] at hk; cases hk
    obtain ⟨c, hc⟩ := I.ok.has x (.inl hk)
    obtain ⟨w', z⟩ := I.cell x c hc
    refine wpAny_storeName_cell I.ok.kind hk hc z (fun h' hc' hs => ?_)
    obtain ⟨oc, hoc, hocd⟩ := id z
    refine h { s with heap := h' } ⟨I.ok, I.os, I.bare, ⟨fun b o e n hb hx => ?_, fun b o e n hb hx => ?_, I.base.free, fun b o e hx => ?_, I.base.tups, I.base.frzs, I.base.tbls⟩, ⟨m, hn.sameBut hs (Ne.symm (cne x c hc)), fun j y v' e1 e2 e3 => ?_⟩, fun y c' e => ?_, I.free, I.freeC, fun p hp => ?_, tracked ⟨oc, hoc, I.freeC x c hc⟩ hs, by simpa using I.len⟩ ⟨c, hs, .inr hc⟩
    · exact (hs.2 b (Nat.ne_of_lt (Nat.lt_of_lt_of_le (Heap.lt_size e) (I.ok.cab x c hfn hc)))).trans (I.base.keep b o e n hb hx)
    · obtain ⟨sl, e1⟩ := I.base.slot b o e n hb hx
      exact ⟨sl, (hs.2 b (Nat.ne_of_lt (Nat.lt_of_lt_of_le (Heap.lt_size e) (I.ok.cab x c hfn hc)))).trans e1⟩
    · obtain ⟨o', e1⟩ := I.base.there b o e hx
      exact ⟨o', (hs.2 b (Nat.ne_of_lt (Nat.lt_of_lt_of_le (Heap.lt_size e) (I.ok.cab x c hfn hc)))).trans e1⟩
    · by_cases hj : j = i
      · subst hj
        rw [hi] at e1; cases e1
        rw [List.getElem?_set_self hiσ] at e2
        cases e2
        exact ⟨u, r, .inr ⟨.inl hk, c, hc, hc'⟩⟩
      · rw [List.getElem?_set_ne (Ne.symm hj)] at e2
        obtain ⟨u', r', q⟩ := hl j y v' e1 e2 e3
        refine ⟨u', r', ?_⟩
        rcases q with q | ⟨k, c', e, z'⟩
        · exact .inl q
        · refine .inr ⟨k, c', e, z'.sameBut hs ?_⟩
          rintro rfl
          exact hj (nodup_ix hN e1 (I.ok.inj _ _ _ e hc ▸ hi))
    · by_cases hcc : c' = c
      · subst hcc; exact ⟨_, hc'⟩
      · obtain ⟨w2, z2⟩ := I.cell y c' e
        exact ⟨w2, z2.sameBut hs hcc⟩
    · obtain ⟨e, n, ne, nf, d⟩ := I.pin p hp
      refine ⟨(hs.2 p.1 ?_).trans e, n, ne, nf, d⟩
      intro q
      rw [q, hoc] at e
      have q' : oc = p.2 := Option.some.inj e
      exact d w' (by rw [← q']; exact hocd)
theorem store_ok {M : Model} {A : Around} {E : Value → Shared → Prop} {i : Nat} {x : Str} {v : V} {u : Value} {Q : Unit → Shared → Prop} (I : Inv X pins σ H s) (hN : X.N.Nodup) (hi : X.N[i]? = some x) (hx : Loc X.env.scope x) (r : RelV v u)
    (h : ∀ s', Inv X pins (σ.set i (some v)) H s' → Q () s') (hf : X.fn x = true ∨ X.env.scope.names.lookup x = some .local := by first | exact .inl rfl | exact .inr rfl | assumption) : wpAny M A (storeName X.env x u) Q E s :=
  store_ok2 I hN hi hx r (fun s' I' _ => h s' I') hf
theorem Inv.call' {s' : Shared} {ch : List Addr} (I : Inv X pins σ H s) (ho : s'.os = s.os) (u : Un (frs X.stack) ch H H' s.heap s'.heap) (hok : HOk X.prog X.w H' s'.heap) (hg : AllBare s'.gens)
    (hch : ∀ b ∈ ch, (b ∈ X.ex ∨ X.s₀.heap.objs.size ≤ b) ∧ b ≠ X.env.locals ∧ (∀ x c, X.env.cells.lookup x = some c → c ≠ b) ∧ ∀ p ∈ X.pn ++ pins, p.1 ≠ b) : Inv X pins σ H' s' := by
  obtain ⟨h', g', d', t', o'⟩ := s'
  have e : o' = s.os := ho
  subst e
  exact I.call (g' := g') (t' := t') (d' := d') u hok hg hch
end
abbrev XK := Value → Option Addr → Hp → Prop
abbrev St := List (Option V)
abbrev VK := V → Hp → Prop
abbrev TE := St → Hp → VK → Prop
abbrev TT := St → Hp → (Bool → Hp → Prop) → Prop
abbrev TA := St → Hp → (List V → Hp → Prop) → Prop
structure Ends where
  nx : St → Hp → Prop
  rt : VK
  bk : St → Hp → Prop := fun _ _ => False
  ct : St → Hp → Prop := fun _ _ => False
abbrev TS := Ends → St → Hp → Prop
def EP (X : Cx) (pins : List (Addr × Obj)) (σ : St) (Q : VK) (u : Value) (s' : Shared) : Prop := ∃ v H', Inv X pins σ H' s' ∧ RelV v u ∧ Q v H'
def TP (X : Cx) (pins : List (Addr × Obj)) (σ : St) (Q : Bool → Hp → Prop) (b : Bool) (s' : Shared) : Prop := ∃ H', Inv X pins σ H' s' ∧ Q b H'
def AP (X : Cx) (pins : List (Addr × Obj)) (σ : St) (Q : List V → Hp → Prop) (us : List Value) (s' : Shared) : Prop := ∃ vs H', Inv X pins σ H' s' ∧ Vals vs us ∧ Q vs H'
def SP (X : Cx) (pins : List (Addr × Obj)) (D : Ends) (f : Flow) (s' : Shared) : Prop :=
  match f with
  | .next => ∃ σ' H', Inv X pins σ' H' s' ∧ D.nx σ' H'
  | .brk => ∃ σ' H', Inv X pins σ' H' s' ∧ D.bk σ' H'
  | .cont => ∃ σ' H', Inv X pins σ' H' s' ∧ D.ct σ' H'
  | .ret u => ∃ v σ' H', Inv X pins σ' H' s' ∧ RelV v u ∧ D.rt v H'
def PE (X : Cx) (e : Expr) (t : TE) : Prop :=
  ∀ (pins : List (Addr × Obj)) (s : Shared) (σ : St) (H : Hp) (Q : VK), Inv X pins σ H s → t σ H Q → wpAny (model X.prog X.w) X.A (eval e X.env) (EP X pins σ Q) X.xe s
def PT (X : Cx) (e : Expr) (t : TT) : Prop :=
  ∀ (pins : List (Addr × Obj)) (s : Shared) (σ : St) (H : Hp) (Q : Bool → Hp → Prop), Inv X pins σ H s → t σ H Q → wpAny (model X.prog X.w) X.A (isTrue e X.env (eval e X.env)) (TP X pins σ Q) X.xe s
def PW (X : Cx) (e : Expr) (t : TT) : Prop :=
  ∀ (whole : Sem Value) (pins : List (Addr × Obj)) (s : Shared) (σ : St) (H : Hp) (Q : Bool → Hp → Prop), Inv X pins σ H s → t σ H Q → wpAny (model X.prog X.w) X.A (isTrue e X.env whole) (TP X pins σ Q) X.xe s
theorem PW.pt {X : Cx} {e : Expr} {t : TT} (h : PW X e t) : PT X e t := h _
def PA (X : Cx) (es : List Expr) (t : TA) : Prop :=
  ∀ (pos : Pos) (pins : List (Addr × Obj)) (s : Shared) (σ : St) (H : Hp) (Q : List V → Hp → Prop), Inv X pins σ H s → t σ H Q → wpAny (model X.prog X.w) X.A (spliced (backTo pos (starEach es X.env))) (AP X pins σ Q) X.xe s
def PS (X : Cx) (st : Stmt) (t : TS) : Prop :=
  ∀ (pins : List (Addr × Obj)) (s : Shared) (σ : St) (H : Hp) (D : Ends), Inv X pins σ H s → t D σ H → wpAny (model X.prog X.w) X.A (exec st X.env) (SP X pins D) X.xe s
def PSs (X : Cx) (st : List Stmt) (t : TS) : Prop :=
  ∀ (pins : List (Addr × Obj)) (s : Shared) (σ : St) (H : Hp) (D : Ends), Inv X pins σ H s → t D σ H → wpAny (model X.prog X.w) X.A (execs st X.env) (SP X pins D) X.xe s
theorem thn {α : Type} {t : Sem α} {Q Q' : α → Shared → Prop} {M : Model} {A : Around} {E : Value → Shared → Prop} {s : Shared} (h : wpAny M A t Q E s) (hQ : ∀ a s, Q a s → Q' a s) : wpAny M A t Q' E s := wpAny_mono h hQ fun _ _ x => x
end L2
namespace L2
open PySem PySem.Spec PyProof.Rows
section
variable {X : Cx}
inductive ItVar (i : Nat) (σ : St) (H : Hp) (Q : VK) : Prop
  | mk : ∀ v, (σ[i]? = some (some v)) → (Q v H) → ItVar i σ H Q
def tVar (i : Nat) : TE := fun σ H Q => ItVar i σ H Q
def tC (v : V) : TE := fun _ H Q => Q v H
theorem pe_var {i : Nat} {x : Str} {pos : Pos} (hN : X.N[i]? = some x) (hv : Vis X.env.scope x) (hd : (x == ("__debug__" : Str)) = false := by decide) (hcd : (x == ("__classdict__" : Str)) = false := by decide) : PE X (.Name x pos) (tVar i) := by
  intro pins s σ H Q I h
  obtain ⟨v, e, h⟩ := h
  obtain ⟨m, hn, hl⟩ := I.loc
  obtain ⟨u, r, l⟩ := hl i x v hN e hv
  have fin : EP X pins σ Q u s := ⟨v, H, I, r, h⟩
  rcases l with ⟨hk, hm⟩ | ⟨hk, c, hc, hcell⟩
  · exact wpAny_Name (wpAny_loadName_local I.ok.kind hk hn hm fin) hd
  · rcases hk with hk | hk
    · exact wpAny_Name (wpAny_loadName_cell I.ok.kind hk hc hcell fin) hd
    · exact wpAny_Name (wpAny_loadName_free I.ok.kind hk hc hcell fin hcd) hd
theorem pe_int {i j pos} : PE X (.Constant (.int i) j pos) (tC (.int i)) := fun _ _ _ H _ I h => wpAny_Constant_int ⟨.int i, H, I.tok _, ⟨_, rfl⟩, h⟩
theorem pe_bl {b j pos} : PE X (.Constant (.bool b) j pos) (tC (.bl b)) := fun _ _ _ H _ I h => Constant_bool ⟨.bl b, H, I, rfl, h⟩
theorem pe_non {j pos} : PE X (.Constant .none j pos) (tC .non) := fun _ _ _ H _ I h => Constant_none ⟨.non, H, I, rfl, h⟩
theorem pe_str {x j pos} : PE X (.Constant (.str x) j pos) (tC (.str x)) := fun _ _ _ H _ I h => Calls.Constant_str ⟨.str x, H, I.tok _, ⟨_, rfl⟩, h⟩
def Gl (X : Cx) (x : Str) : Prop := X.env.kindOf x = some .globalImplicit
theorem ld_glob {E : Value → Shared → Prop} {pins : List (Addr × Obj)} {s : Shared} {σ : St} {H : Hp} {x : Str} {u : Value} {pos : Pos} {Q : Value → Shared → Prop} (I : Inv X pins σ H s) (hg : Gl X x) (hm : X.mg x = some u) (h : Q u s)
    (hd : (x == ("__debug__" : Str)) = false := by decide) : wpAny (model X.prog X.w) X.A (eval (.Name x pos) X.env) Q E s :=
  Calls.Name_function_global I.ok.kind hg (Calls.loadGlobal_global (by rw [I.ok.glob]; exact I.mod.glob.keeps I.bk) hm h) hd
theorem ld_blt {E : Value → Shared → Prop} {pins : List (Addr × Obj)} {s : Shared} {σ : St} {H : Hp} {x : Str} {u : Value} {pos : Pos} {Q : Value → Shared → Prop} (I : Inv X pins σ H s) (hg : Gl X x) (hm : X.mg x = none) (hv : bootBuiltins x = some u) (h : Q u s)
    (hn : x ≠ "__name__" := by decide) (hd : (x == ("__debug__" : Str)) = false := by decide) : wpAny (model X.prog X.w) X.A (eval (.Name x pos) X.env) Q E s := by
  obtain ⟨mb, h1, h2⟩ := I.mod.blt
  exact Calls.Name_function_global I.ok.kind hg (Calls.loadGlobal_builtin (by rw [I.ok.glob]; exact I.mod.glob.keeps I.bk) hm (by rw [I.ok.blt]; exact h1.keeps I.bk) ((h2 x hn).trans hv) h) hd
theorem pe_glob {x : Str} {v : V} {u : Value} {pos : Pos} (hg : Gl X x) (hm : X.mg x = some u) (r : RelV v u) (hd : (x == ("__debug__" : Str)) = false := by decide) : PE X (.Name x pos) (tC v) :=
  fun _ _ _ H _ I h => ld_glob I hg hm ⟨v, H, I, r, h⟩ hd
theorem pe_bltn {x : Str} {v : V} {u : Value} {pos : Pos} (hg : Gl X x) (hm : X.mg x = none) (hv : bootBuiltins x = some u) (r : RelV v u) (hn : x ≠ "__name__" := by decide) (hd : (x == ("__debug__" : Str)) = false := by decide) : PE X (.Name x pos) (tC v) :=
  fun _ _ _ H _ I h => ld_blt I hg hm hv ⟨v, H, I, r, h⟩ hn hd
variable {a b : Expr} {ta tb : TE} {pos : Pos}
variable {tA tB' : TT} {rest : List Expr}
def tAnd (t u : TT) : TT := fun σ H Q => t σ H fun c H1 => if c = true then u σ H1 Q else Q false H1
def tOr (t u : TT) : TT := fun σ H Q => t σ H fun c H1 => if c = true then Q true H1 else u σ H1 Q
def tNot (t : TT) : TT := fun σ H Q => t σ H fun c H1 => Q (!c) H1
theorem pw_and1 (ha : PT X a tA) : PW X (.BoolOp .And [a] pos) tA := by
  intro wh pins s σ H Q I h
  refine isTrue_and (thn (ha pins s σ H Q I h) fun c s1 e => ?_)
  cases c with
  | true => exact isTrue_and_nil e
  | false => exact e
theorem pw_or1 (ha : PT X a tA) : PW X (.BoolOp .Or [a] pos) tA := by
  intro wh pins s σ H Q I h
  refine isTrue_or (thn (ha pins s σ H Q I h) fun c s1 e => ?_)
  cases c with
  | false => exact isTrue_or_nil e
  | true => exact e
theorem pw_and (ha : PT X a tA) (hb : PW X (.BoolOp .And (b :: rest) pos) tB') : PW X (.BoolOp .And (a :: b :: rest) pos) (tAnd tA tB') := by
  intro wh pins s σ H Q I h
  refine isTrue_and (thn (ha pins s σ H _ I h) fun c s1 ⟨H1, I1, q1⟩ => ?_)
  cases c with
  | true => exact hb wh pins s1 σ H1 Q I1 q1
  | false => exact ⟨H1, I1, q1⟩
theorem pw_or (ha : PT X a tA) (hb : PW X (.BoolOp .Or (b :: rest) pos) tB') : PW X (.BoolOp .Or (a :: b :: rest) pos) (tOr tA tB') := by
  intro wh pins s σ H Q I h
  refine isTrue_or (thn (ha pins s σ H _ I h) fun c s1 ⟨H1, I1, q1⟩ => ?_)
  cases c with
  | true => exact ⟨H1, I1, q1⟩
  | false => exact hb wh pins s1 σ H1 Q I1 q1
theorem pt_not (ha : PT X a tA) : PT X (.UnaryOp .Not a pos) (tNot tA) := by
  intro pins s σ H Q I h
  exact isTrue_not (ha pins s σ H (fun c H1 => Q (!c) H1) I h)
inductive ItAndV (tb : TE) (σ : St) (Q : VK) (x : V) (H1 : Hp) : Prop
  | mk : ∀ c, (x = .bl c) → (if c = true then tb σ H1 Q else Q (.bl false) H1) → ItAndV tb σ Q x H1
def tAndV (ta tb : TE) : TE := fun σ H Q => ta σ H fun x H1 => ItAndV tb σ Q x H1
inductive ItNotV (Q : VK) (x : V) (H1 : Hp) : Prop
  | mk : ∀ c, (x = .bl c) → (Q (.bl (!c)) H1) → ItNotV Q x H1
def tNotV (ta : TE) : TE := fun σ H Q => ta σ H fun x H1 => ItNotV Q x H1
theorem pe_one {op} {t : TE} (h : PE X a t) : PE X (.BoolOp op [a] pos) t := fun pins s σ H Q I hw => BoolOp_one (h pins s σ H Q I hw)
theorem pe_and (ha : PE X a ta) (hb : PE X (.BoolOp .And (b :: rest) pos) tb) : PE X (.BoolOp .And (a :: b :: rest) pos) (tAndV ta tb) := by
  intro pins s σ H Q I h
  refine BoolOp_and (thn (ha pins s σ H _ I h) fun v s1 ⟨x, H1, I1, r1, q1⟩ => ?_)
  obtain ⟨c, rfl, q1⟩ := q1
  cases r1
  refine wpAny_truthy_bool ?_
  cases c with
  | true => exact hb pins s1 σ H1 Q I1 q1
  | false => exact ⟨.bl false, H1, I1, rfl, q1⟩
theorem pe_not (ha : PE X a ta) : PE X (.UnaryOp .Not a pos) (tNotV ta) := by
  intro pins s σ H Q I h
  refine UnaryOp_ (thn (ha pins s σ H _ I h) fun v s1 ⟨x, H1, I1, r1, q1⟩ => ?_)
  obtain ⟨c, rfl, q1⟩ := q1
  cases r1
  exact not_of (wpAny_truthy_bool ⟨.bl (!c), H1, I1, rfl, q1⟩)
def tIf (t : TT) (ta tb : TE) : TE := fun σ H Q => t σ H fun c H1 => if c = true then ta σ H1 Q else tb σ H1 Q
theorem pe_ifExp {c : Expr} (hc : PT X c tA) (ha : PE X a ta) (hb : PE X b tb) : PE X (.IfExp c a b pos) (tIf tA ta tb) := by
  intro pins s σ H Q I h
  refine wpAny_IfExp (thn (hc pins s σ H _ I h) fun d s1 ⟨H1, I1, q1⟩ => ?_)
  cases d with
  | true => exact ha pins s1 σ H1 Q I1 q1
  | false => exact hb pins s1 σ H1 Q I1 q1
end
end L2
namespace L2
open PySem PySem.Spec PyProof.Rows
def SqL (K : PySem.W.Frag) (H : Hp) (a : Addr) (xs : List V) : Prop :=
  Rd H a (.lst xs) ∨
    ∃ (o : Obj) (its : Array Value) (n : Nat), K.lookup a = some o ∧ o.cls = .type "list" ∧ o.dict = none ∧ o.data = .seq its n ∧ its.size ≤ sizeLine ∧ Vals xs its.toList
def SqT (K : PySem.W.Frag) (H : Hp) (a : Addr) (xs : List V) : Prop :=
  Rd H a (.tup xs) ∨
    ∃ (o : Obj) (its : Array Value) (n : Nat), K.lookup a = some o ∧ o.cls = .type "tuple" ∧ o.data = .seq its n ∧ its.size ≤ sizeLine ∧ Vals xs its.toList
def absV : Value → Option V
  | .none => some .non
  | .bool b => some (.bl b)
  | .int i _ => some (.int i)
  | .str x _ => some (.str x)
  | .bytes b _ => some (.byt b)
  | .float b _ => some (.flt b)
  | .ref a => some (.ref a)
  | .type n => some (.ty n)
  | _ => none
theorem RelV.abs {x : V} {u : Value} (r : RelV x u) : absV u = some x := by
  cases x with
  | non => cases r; rfl
  | bl _ => cases r; rfl
  | int _ => obtain ⟨t, rfl⟩ := r; rfl
  | str _ => obtain ⟨t, rfl⟩ := r; rfl
  | byt _ => obtain ⟨t, rfl⟩ := r; rfl
  | flt _ => obtain ⟨t, rfl⟩ := r; rfl
  | ref _ => cases r; rfl
  | ty _ => cases r; rfl
theorem RelV.inj {x y : V} {u : Value} (r : RelV x u) (q : RelV y u) : x = y := Option.some.inj (r.abs.symm.trans q.abs)
theorem Vals.inj : ∀ {xs ys : List V} {us : List Value}, Vals xs us → Vals ys us → xs = ys
  | _, _, _, .nil, .nil => rfl
  | _, _, _, .cons r t, .cons r' t' => by rw [r.inj r', Vals.inj t t']
section
variable {X : Cx} {pins : List (Addr × Obj)} {σ : St} {H : Hp} {s : Shared} {a : Addr} {xs ys : List V}
theorem SqL.of {K : PySem.W.Frag} (h : H a = some (.lst xs)) : SqL K H a xs := .inl (.inl h)
theorem SqT.of {K : PySem.W.Frag} (h : H a = some (.tup xs)) : SqT K H a xs := .inl (.inl h)
theorem Inv.list (I : Inv X pins σ H s) (h : SqL X.K H a xs) : ∃ its : List Value, Vals xs its ∧ PlainL s.heap a its.toArray ∧ xs.length ≤ sizeLine := by
  rcases h with h | ⟨o, its, n, hk, hc, hd, hs, hz, r⟩
  · obtain ⟨z, its, n, r, e⟩ := h.ok I.hok
    exact ⟨its, r, ⟨_, n, e, rfl, rfl, rfl⟩, z⟩
  · refine ⟨its.toList, r, ⟨o, n, I.kIn a o hk, hc, hd, by simpa using hs⟩, ?_⟩
    have e := r.length
    simp only [Array.length_toList] at e
    omega
theorem Inv.tuple (I : Inv X pins σ H s) (h : SqT X.K H a xs) : ∃ its : List Value, Vals xs its ∧ IsTup s.heap a its.toArray ∧ xs.length ≤ sizeLine := by
  rcases h with h | ⟨o, its, n, hk, hc, hs, hz, r⟩
  · obtain ⟨z, its, r, p⟩ := h.ok I.hok
    exact ⟨its, r, p, z⟩
  · refine ⟨its.toList, r, ⟨o, I.kIn a o hk, hc, n, by simpa using hs⟩, ?_⟩
    have e := r.length
    simp only [Array.length_toList] at e
    omega
theorem Inv.list_inj (I : Inv X pins σ H s) (h : SqL X.K H a xs) (h' : SqL X.K H a ys) : xs = ys := by
  obtain ⟨its, r, ⟨o, n, e, _, _, d⟩, _⟩ := I.list h
  obtain ⟨its', r', ⟨o', n', e', _, _, d'⟩, _⟩ := I.list h'
  rw [e] at e'; cases e'
  rw [d] at d'
  injection d' with d1 _
  have : its = its' := by simpa using congrArg Array.toList d1
  subst this
  exact r.inj r'
theorem Inv.tuple_inj (I : Inv X pins σ H s) (h : SqT X.K H a xs) (h' : SqT X.K H a ys) : xs = ys := by
  obtain ⟨its, r, ⟨o, e, _, n, d⟩, _⟩ := I.tuple h
  obtain ⟨its', r', ⟨o', e', _, n', d'⟩, _⟩ := I.tuple h'
  rw [e] at e'; cases e'
  rw [d] at d'
  injection d' with d1 _
  have : its = its' := by simpa using congrArg Array.toList d1
  subst this
  exact r.inj r'
end
abbrev Cx.wish (X : Cx) (E : Value → Shared → Prop) : Cx := { X with xe := E }
abbrev Cx.nox (X : Cx) : Cx := X.wish fun _ _ => False
theorem Cx.Ok.wish {X : Cx} (ok : X.Ok) (E : Value → Shared → Prop) : (X.wish E).Ok :=
  ⟨ok.mod, ok.kind, ok.glob, ok.blt, ok.above, ok.inj, ok.has, ok.cab, ok.hd, ok.frames, ok.stk, ok.exf, ok.bs, ok.bsz, ok.noex, ok.exfs, ok.funs, ok.frf⟩
theorem Cx.Ok.unwish {X : Cx} {E : Value → Shared → Prop} (ok : (X.wish E).Ok) : X.Ok :=
  ⟨ok.mod, ok.kind, ok.glob, ok.blt, ok.above, ok.inj, ok.has, ok.cab, ok.hd, ok.frames, ok.stk, ok.exf, ok.bs, ok.bsz, ok.noex, ok.exfs, ok.funs, ok.frf⟩
section
variable {X : Cx} {pins : List (Addr × Obj)} {σ : St} {H : Hp} {s : Shared} {E : Value → Shared → Prop}
theorem Inv.wish (I : Inv X pins σ H s) (E : Value → Shared → Prop) : Inv (X.wish E) pins σ H s := ⟨I.ok.wish E, I.os, I.bare, I.base, I.loc, I.cell, I.free, I.freeC, I.pin, I.hok, I.len⟩
theorem Inv.unwish (I : Inv (X.wish E) pins σ H s) : Inv X pins σ H s := ⟨I.ok.unwish, I.os, I.bare, I.base, I.loc, I.cell, I.free, I.freeC, I.pin, I.hok, I.len⟩
theorem SP.unwish {D : Ends} {f : Flow} {s' : Shared} (h : SP (X.wish E) pins D f s') : SP X pins D f s' := by
  cases f with
  | next => obtain ⟨σ', H', I, q⟩ := h; exact ⟨σ', H', I.unwish, q⟩
  | brk => obtain ⟨σ', H', I, q⟩ := h; exact ⟨σ', H', I.unwish, q⟩
  | cont => obtain ⟨σ', H', I, q⟩ := h; exact ⟨σ', H', I.unwish, q⟩
  | ret u => obtain ⟨v, σ', H', I, r, q⟩ := h; exact ⟨v, σ', H', I.unwish, r, q⟩
theorem PSs.nox {st : List Stmt} {t : TS} (h : PSs X.nox st t) : PSs X st t := fun pins s σ H D I hw =>
  wpAny_mono (h pins s σ H D (I.wish _) hw) (fun _ _ q => q.unwish) fun _ _ z => False.elim z
end
section
variable {X : Cx} {st : Stmt} {rest : List Stmt} {t u : TS} {e : Expr} {te : TE} {pos : Pos}
def tNext : TS := fun D σ H => D.nx σ H
def tSeq (t u : TS) : TS := fun D σ H => t { D with nx := u D } σ H
theorem pss_nil : PSs X [] tNext := fun _ _ σ H _ I h => wpAny_execs_nil ⟨σ, H, I, h⟩
theorem pss_cons (h1 : PS X st t) (h2 : PSs X rest u) : PSs X (st :: rest) (tSeq t u) := by
  intro pins s σ H D I h
  refine wpAny_execs_cons (thn (h1 pins s σ H { D with nx := u D } I h) fun f s1 q => ?_)
  cases f with
  | next =>
    obtain ⟨σ', H', I', q⟩ := q
    exact h2 pins s1 σ' H' D I' q
  | ret v => exact q
  | brk => exact q
  | cont => exact q
theorem pss_one (h1 : PS X st t) : PSs X [st] t := by
  intro pins s σ H D I h
  refine wpAny_execs_cons (thn (h1 pins s σ H D I h) fun f s1 q => ?_)
  cases f with
  | next => exact wpAny_execs_nil q
  | ret v => exact q
  | brk => exact q
  | cont => exact q
theorem Inv.quiet {pins : List (Addr × Obj)} {σ : St} {H : Hp} {s : Shared} (I : Inv X pins σ H s) : interactive X.env = false := by simp [interactive, I.ok.kind]
def tDrop (te : TE) : TS := fun D σ H => te σ H fun _ H1 => D.nx σ H1
theorem ps_expr (he : PE X e te) (hs : swapsWith e none pos.line X.env = pure false := by rfl) : PS X (.Expr e pos) (tDrop te) := by
  intro pins s σ H D I h
  exact wpAny_Expr_any (thn (he pins s σ H _ I h) fun v s1 ⟨x, H1, I1, r1, q1⟩ => ⟨σ, H1, I1, q1⟩) I.quiet hs
def tRet (te : TE) : TS := fun D σ H => te σ H D.rt
theorem ps_ret (he : PE X e te) : PS X (.Return (some e) pos) (tRet te) := by
  intro pins s σ H D I h
  exact wpAny_Return_some (thn (he pins s σ H _ I h) fun v s1 ⟨x, H1, I1, r1, q1⟩ => ⟨x, σ, H1, I1, r1, q1⟩)
def tIfS (c : TT) (t u : TS) : TS := fun D σ H => c σ H fun b H1 => if b = true then t D σ H1 else u D σ H1
theorem ps_if {c : Expr} {a b : List Stmt} {tc : TT} (hc : PT X c tc) (ha : PSs X a t) (hb : PSs X b u) : PS X (.If c a b pos) (tIfS tc t u) := by
  intro pins s σ H D I h
  refine wpAny_If (thn (hc pins s σ H _ I h) fun d s1 ⟨H1, I1, q1⟩ => ?_)
  cases d with
  | true => exact ha pins s1 σ H1 D I1 q1
  | false => exact hb pins s1 σ H1 D I1 q1
def tNever : TS := fun _ _ _ => False
theorem pss_never {sts : List Stmt} : PSs X sts tNever := fun _ _ _ _ _ _ h => h.elim
end
abbrev TG := V → St → Hp → (St → Hp → Prop) → Prop
abbrev TGs := List V → St → Hp → (St → Hp → Prop) → Prop
def PG (X : Cx) (target : Expr) (t : TG) : Prop :=
  ∀ (pins : List (Addr × Obj)) (s : Shared) (σ : St) (H : Hp) (v : V) (u : Value) (Q : St → Hp → Prop), Inv X pins σ H s → RelV v u → t v σ H Q →
    wpAny (model X.prog X.w) X.A (assign target X.env u) (fun _ s' => ∃ σ' H', Inv X pins σ' H' s' ∧ Q σ' H') X.xe s
def PGs (X : Cx) (ts : List Expr) (t : TGs) : Prop :=
  ∀ (pins : List (Addr × Obj)) (s : Shared) (σ : St) (H : Hp) (vs : List V) (us : List Value) (Q : St → Hp → Prop), Inv X pins σ H s → Vals vs us → t vs σ H Q →
    wpAny (model X.prog X.w) X.A (assignInOrder ((assignEach ts X.env).map (·.2)) us) (fun _ s' => ∃ σ' H', Inv X pins σ' H' s' ∧ Q σ' H') X.xe s
abbrev TSet := V → V → V → Hp → (Hp → Prop) → Prop
def PSet (X : Cx) (t : TSet) : Prop :=
  ∀ (pins : List (Addr × Obj)) (s : Shared) (σ : St) (H : Hp) (o i v : V) (ov iv u : Value) (Q : Hp → Prop), Inv X pins σ H s → RelV o ov → RelV i iv → RelV v u → t o i v H Q →
    wpAny (model X.prog X.w) X.A (setItem ov iv u) (fun _ s' => ∃ H', Inv X pins σ H' s' ∧ Q H') X.xe s
abbrev TIp := V → V → Hp → VK → Prop
def PIp (X : Cx) (op : Operator) (t : TIp) : Prop :=
  ∀ (pins : List (Addr × Obj)) (s : Shared) (σ : St) (H : Hp) (x y : V) (v u : Value) (Q : VK), Inv X pins σ H s → RelV x v → RelV y u → t x y H Q →
    wpAny (model X.prog X.w) X.A (inplaceOp op v u) (EP X pins σ Q) X.xe s
section
variable {X : Cx} {pos : Pos}
def gName (i : Nat) : TG := fun v σ H Q => Q (σ.set i (some v)) H
theorem pg_name {i : Nat} {x : Str} (hN : X.N.Nodup) (hi : X.N[i]? = some x) (hx : Loc X.env.scope x) (hf : X.fn x = true ∨ X.env.scope.names.lookup x = some .local := by first | exact .inl rfl | exact .inr rfl | assumption) : PG X (.Name x pos) (gName i) := by
  intro pins s σ H v u Q I r h
  exact wpAny_assign_Name (store_ok I hN hi hx r (fun s' I' => ⟨_, H, I', h⟩) hf)
def gNil : TGs := fun vs σ H Q => vs = [] ∧ Q σ H
inductive IgCons (t : TG) (u : TGs) (vs : List V) (σ : St) (H : Hp) (Q : St → Hp → Prop) : Prop
  | mk : ∀ v r, (vs = v :: r) → (t v σ H fun σ' H' => u r σ' H' Q) → IgCons t u vs σ H Q
def gCons (t : TG) (u : TGs) : TGs := fun vs σ H Q => IgCons t u vs σ H Q
theorem pgs_nil : PGs X [] gNil := by
  intro pins s σ H vs us Q I r h
  obtain ⟨e, h⟩ := h
  subst e
  cases r
  exact assignInOrder_nil ⟨σ, H, I, h⟩
theorem pgs_cons {e : Expr} {es : List Expr} {t : TG} {u : TGs} (h1 : PG X e t) (h2 : PGs X es u)
    (hs : (assignEach (e :: es) X.env).map (·.2) = assign e X.env :: (assignEach es X.env).map (·.2) := by rfl) : PGs X (e :: es) (gCons t u) := by
  intro pins s σ H vs us Q I r h
  obtain ⟨v, vr, e1, h⟩ := h
  subst e1
  cases r with
  | cons r rr =>
    rw [hs]
    refine assignInOrder_cons (thn (h1 pins s σ H _ _ _ I r h) fun _ s1 ⟨σ1, H1, I1, q1⟩ => ?_)
    exact h2 pins s1 σ1 H1 _ _ Q I1 rr q1
inductive IgTup (K : PySem.W.Frag) (n : Nat) (t : TGs) (v : V) (σ : St) (H : Hp) (Q : St → Hp → Prop) : Prop
  | mk : ∀ a xs, (v = .ref a) → (SqT K H a xs) → (xs.length = n) → (t xs σ H Q) → IgTup K n t v σ H Q
def gTup (K : PySem.W.Frag) (n : Nat) (t : TGs) : TG := fun v σ H Q => IgTup K n t v σ H Q
theorem pg_tup {es : List Expr} {k : Nat} {t : TGs} {n : Nat} (hc : X.calm = true) (h : PGs X es t)
    (hn : (assignEach es X.env).length = n := by rfl) (hst : (assignEach es X.env).findIdx? (·.1) = none := by rfl) : PG X (.Tuple es k pos) (gTup X.K n t) := by
  intro pins s σ H v u Q I r hw
  obtain ⟨a, xs, e1, hq, hl, hw⟩ := hw
  subst e1
  cases r
  obtain ⟨its, rv, ht, hz⟩ := I.tuple hq
  refine assign_Tuple_tuple (I.ok.hd hc) ht (by simp [hn, ← hl, rv.length]) hst fun h' hx => ?_
  have I1 : Inv X pins σ H { s with heap := h' } := I.kept (t' := s.toks) fun b o e => hx b o (Nat.ne_of_lt (Heap.lt_size e)) e
  exact h pins _ σ H xs _ Q I1 (by simpa using rv) hw
def gSub (to ti : TE) (t : TSet) : TG := fun v σ H Q => to σ H fun o H1 => ti σ H1 fun i H2 => t o i v H2 fun H3 => Q σ H3
theorem pg_sub {o i : Expr} {to ti : TE} {t : TSet} (ho : PE X o to) (hi : PE X i ti) (hs : PSet X t)
    (ha : ∀ v, assign (.Subscript o i pos) X.env v = (do
      let ov ← holding [v] (eval o X.env)
      let iv ← holding [v, ov] (eval i X.env)
      standAt pos
      holding [v, ov, iv] (setItem ov iv v)
      release [v, ov, iv] []) := by intro _; rfl) : PG X (.Subscript o i pos) (gSub to ti t) := by
  intro pins s σ H v u Q I r h
  rw [ha]
  refine wpAny_bind (wpAny_holding (thn (ho pins s σ H _ I h) fun ov s1 ⟨x, H1, I1, r1, q1⟩ => ?_))
  refine wpAny_bind (wpAny_holding (thn (hi pins s1 σ H1 _ I1 q1) fun iv s2 ⟨y, H2, I2, r2, q2⟩ => ?_))
  refine wpAny_bind (wpAny_standAt (wpAny_bind (wpAny_holding (thn (hs pins s2 σ H2 x y v ov iv u _ I2 r1 r2 r q2) fun _ s3 ⟨H3, I3, q3⟩ => ?_))))
  exact wpAny_release ⟨σ, H3, I3, q3⟩
def tAsg (te : TE) (g : TG) : TS := fun D σ H => te σ H fun x H1 => g x σ H1 D.nx
theorem ps_asg {tg e : Expr} {te : TE} {g : TG} (he : PE X e te) (hg : PG X tg g) (hs : swapsWithSole [tg] e pos.line X.env = pure false := by rfl) (hw : swappedStores [tg] e X.env = pure none := by rfl)
    (h1 : (assignEach [tg] X.env).map (·.2) = [assign tg X.env] := by rfl) : PS X (.Assign [tg] e pos) (tAsg te g) := by
  intro pins s σ H D I h
  refine wpAny_Assign_stores (thn (he pins s σ H _ I h) fun v s1 ⟨x, H1, I1, r1, q1⟩ => ?_) hs hw
  rw [h1]
  exact thn (hg pins s1 σ H1 x v _ I1 r1 q1) fun _ s2 q => q
theorem ps_set {i : Nat} {x : Str} {e : Expr} {te : TE} {pos' : Pos} (hN : X.N.Nodup) (hi : X.N[i]? = some x) (hx : Loc X.env.scope x) (he : PE X e te) (hs : swapsWith e (some (.Name x pos')) pos.line X.env = pure false := by rfl) (hf : X.fn x = true ∨ X.env.scope.names.lookup x = some .local := by first | exact .inl rfl | exact .inr rfl | assumption) :
    PS X (.Assign [.Name x pos'] e pos) (tAsg te (gName i)) := by
  intro pins s σ H D I h
  refine wpAny_Assign_Name (thn (he pins s σ H _ I h) fun v s1 ⟨y, H1, I1, r1, q1⟩ => ?_) hs
  exact store_ok I1 hN hi hx r1 (fun s2 I2 => ⟨_, H1, I2, q1⟩) hf
inductive ItAug (i : Nat) (te : TE) (ti : TIp) (D : Ends) (σ : St) (H : Hp) : Prop
  | mk : ∀ x, (σ[i]? = some (some x)) → (te σ H fun y H1 => ti x y H1 fun z H2 => D.nx (σ.set i (some z)) H2) → ItAug i te ti D σ H
def tAug (i : Nat) (te : TE) (ti : TIp) : TS := fun D σ H => ItAug i te ti D σ H
theorem ps_aug {i : Nat} {x : Str} {e : Expr} {te : TE} {op : Operator} {ti : TIp} {pos' : Pos} (hN : X.N.Nodup) (hi : X.N[i]? = some x) (hx : Loc X.env.scope x) (he : PE X e te) (ho : PIp X op ti) (hf : X.fn x = true ∨ X.env.scope.names.lookup x = some .local := by first | exact .inl rfl | exact .inr rfl | assumption) :
    PS X (.AugAssign (.Name x pos') op e pos) (tAug i te ti) := by
  intro pins s σ H D I h
  obtain ⟨v, e1, h⟩ := h
  obtain ⟨m, hn, hl⟩ := I.loc
  have vis : Vis X.env.scope x := by rcases hx with k | k; exact .inl k; exact .inr (.inl k)
  obtain ⟨u, r, l⟩ := hl i x v hi e1 vis
  refine wpAny_AugAssign_Name ?_
  have go : wpAny (model X.prog X.w) X.A (eval e X.env) (fun w s₂ => wpAny (model X.prog X.w) X.A (inplaceOp op u w) (fun r s₃ => wpAny (model X.prog X.w) X.A (storeName X.env x r) (fun _ => SP X pins D .next) X.xe s₃) X.xe s₂) X.xe s := by
    refine thn (he pins s σ H _ I h) fun w s1 ⟨y, H1, I1, r1, q1⟩ => ?_
    refine thn (ho pins s1 σ H1 v y u w _ I1 r r1 q1) fun z s2 ⟨zv, H2, I2, r2, q2⟩ => ?_
    exact store_ok I2 hN hi hx r2 (fun s3 I3 => ⟨_, H2, I3, q2⟩) hf
  rcases l with ⟨hk, hm⟩ | ⟨hk, c, hc, hcell⟩
  · exact wpAny_loadName_local I.ok.kind hk hn hm go
  · rcases hk with hk | hk
    · exact wpAny_loadName_cell I.ok.kind hk hc hcell go
    · rcases hx with k | k
      · have : X.env.scope.names.lookup x = some .free := hk
        rw [k] at this; cases this
      · have : X.env.scope.names.lookup x = some .free := hk
        rw [k] at this; cases this
def tAugS (to ti te : TE) (tget : V → V → Hp → VK → Prop) (tip : TIp) (tset : TSet) : TS := fun D σ H => to σ H fun o H1 => ti σ H1 fun i H2 => tget o i H2 fun x H3 => te σ H3 fun y H4 => tip x y H4 fun z H5 => tset o i z H5 fun H6 => D.nx σ H6
def PGet (X : Cx) (t : V → V → Hp → VK → Prop) : Prop :=
  ∀ (pins : List (Addr × Obj)) (s : Shared) (σ : St) (H : Hp) (o i : V) (ov iv : Value) (Q : VK), Inv X pins σ H s → RelV o ov → RelV i iv → t o i H Q →
    wpAny (model X.prog X.w) X.A (getItem ov iv) (EP X pins σ Q) X.xe s
theorem ps_augS {o i e : Expr} {to ti te : TE} {tget : V → V → Hp → VK → Prop} {tip : TIp} {tset : TSet} {op : Operator} {tpos : Pos} (ho : PE X o to) (hi : PE X i ti) (hg : PGet X tget) (he : PE X e te) (hp : PIp X op tip) (hs : PSet X tset)
    (ha : ∀ ov iv new, augStore i ov iv new = (do holding [new, ov, iv] (setItem ov iv new); release [new, ov, iv] []; pure .next) := by intros; rfl) : PS X (.AugAssign (.Subscript o i tpos) op e pos) (tAugS to ti te tget tip tset) := by
  intro pins s σ H D I h
  refine wpAny_AugAssign_SubscriptAny (thn (ho pins s σ H _ I h) fun ov s1 ⟨x1, H1, I1, r1, q1⟩ => ?_) ha
  refine thn (hi pins s1 σ H1 _ I1 q1) fun iv s2 ⟨x2, H2, I2, r2, q2⟩ => ?_
  refine thn (hg pins s2 σ H2 x1 x2 ov iv _ I2 r1 r2 q2) fun old s3 ⟨x3, H3, I3, r3, q3⟩ => ?_
  refine thn (he pins s3 σ H3 _ I3 q3) fun v s4 ⟨x4, H4, I4, r4, q4⟩ => ?_
  refine thn (hp pins s4 σ H4 x3 x4 old v _ I4 r3 r4 q4) fun new s5 ⟨x5, H5, I5, r5, q5⟩ => ?_
  exact thn (hs pins s5 σ H5 x1 x2 x5 ov iv new _ I5 r1 r2 r5 q5) fun _ s6 ⟨H6, I6, q6⟩ => ⟨σ, H6, I6, q6⟩
inductive IipI (f : Int → Int → Int) (x : V) (y : V) (H : Hp) (Q : VK) : Prop
  | mk : ∀ i j, (x = .int i) → (y = .int j) → (Q (.int (f i j)) H) → IipI f x y H Q
def ipI (f : Int → Int → Int) : TIp := fun x y H Q => IipI f x y H Q
theorem ip_add : PIp X .Add (ipI fun i j => i + j) := by
  intro pins s σ H x y v u Q I r1 r2 h
  obtain ⟨i, j, e1, e2, q⟩ := h
  subst e1; subst e2
  obtain ⟨t, rfl⟩ := r1
  obtain ⟨t', rfl⟩ := r2
  exact iadd_int ⟨.int _, H, I.tok _, ⟨_, rfl⟩, q⟩
theorem ip_sub : PIp X .Sub (ipI fun i j => i - j) := by
  intro pins s σ H x y v u Q I r1 r2 h
  obtain ⟨i, j, e1, e2, q⟩ := h
  subst e1; subst e2
  obtain ⟨t, rfl⟩ := r1
  obtain ⟨t', rfl⟩ := r2
  exact isub_int ⟨.int _, H, I.tok _, ⟨_, rfl⟩, q⟩
end
section
variable {X : Cx} {pos : Pos}
inductive ItWhile (c : TT) (tb : TS) (D : Ends) (σ : St) (H : Hp) : Prop
  | mk : ∀ W : Nat → St → Hp → Prop, ((∃ m, W m σ H)) → (∀ m σ H, W m σ H →
  c σ H fun b H1 => if b = true then ∃ N : St → Hp → Prop, (∀ σ' H', N σ' H' → ∃ m', m' < m ∧ W m' σ' H') ∧ tb { D with nx := N, ct := N, bk := D.nx } σ H1 else D.nx σ H1) → ItWhile c tb D σ H
def tWhile (c : TT) (tb : TS) : TS := fun D σ H => ItWhile c tb D σ H
theorem ps_while {c : Expr} {body : List Stmt} {tc : TT} {tb : TS} (hp : PassesOwn (model X.prog X.w) X.A X.env X.xe) (hc : PT X c tc) (hb : PSs X body tb) : PS X (.While c body [] pos) (tWhile tc tb) := by
  intro pins s σ H D I h
  obtain ⟨W, ⟨m0, w0⟩, turn⟩ := h
  refine wpAny_While (codeAny_whileLoop (fun n s' => ∃ σ' H', Inv X pins σ' H' s' ∧ W n σ' H') ?_ m0 ⟨σ, H, I, w0⟩)
  rintro n s1 ⟨σ1, H1, I1, w1⟩
  refine wpAny_passesOwn hp (thn (hc pins s1 σ1 H1 _ I1 (turn n σ1 H1 w1)) fun b s2 ⟨H2, I2, q2⟩ => ?_)
  cases b with
  | true =>
    obtain ⟨N, hN, q2⟩ := q2
    rw [if_pos rfl]
    refine wpAny_passesOwn hp (thn (hb pins s2 σ1 H2 _ I2 q2) fun f s3 q3 => ?_)
    cases f with
    | next =>
      obtain ⟨σ3, H3, I3, n3⟩ := q3
      obtain ⟨m', hm, w3⟩ := hN σ3 H3 n3
      exact ⟨m', hm, σ3, H3, I3, w3⟩
    | cont =>
      obtain ⟨σ3, H3, I3, n3⟩ := q3
      obtain ⟨m', hm, w3⟩ := hN σ3 H3 n3
      exact ⟨m', hm, σ3, H3, I3, w3⟩
    | brk => exact q3
    | ret v => exact q3
  | false =>
    rw [if_neg Bool.false_ne_true]
    exact wpAny_execs_nil ⟨σ1, H2, I2, q2⟩
end
structure It where
  go : Nat → Hp → Prop
  yld : Nat → Hp → V → Hp → Prop
  stop : Nat → Hp → Prop
def FpOk (X : Cx) (pins : List (Addr × Obj)) (H : Hp) (b : Addr) : Prop :=
  H b = none ∧ b ≠ X.env.locals ∧ b ∉ X.fs ∧ (b ∈ X.ex ∨ X.s₀.heap.objs.size ≤ b) ∧ (∀ x c, X.env.cells.lookup x = some c → c ≠ b) ∧ ∀ p ∈ X.pn ++ pins, p.1 ≠ b
theorem Inv.fpOk {X : Cx} {pins : List (Addr × Obj)} {σ : St} {H H' : Hp} {s : Shared} {b : Addr} (I : Inv X pins σ H s) (hb : s.heap.objs.size ≤ b) (hn : H' b = none) : FpOk X pins H' b := by
  refine ⟨hn, Nat.ne_of_gt (Nat.lt_of_lt_of_le I.lt hb), I.nofs hb, .inr (Nat.le_trans I.sz hb), fun x c e z => ?_, fun p hp z => ?_⟩
  · obtain ⟨v, q⟩ := I.cell x c e
    exact absurd (Nat.lt_of_lt_of_le q.lt (by rw [z]; exact hb)) (Nat.lt_irrefl _)
  · exact absurd (Nat.lt_of_lt_of_le (Heap.lt_size (I.pin p hp).1) (by rw [z]; exact hb)) (Nat.lt_irrefl _)
structure Turn (P : Program) (w : World) (K : PySem.W.Frag) (tg : Expr) (J : It) (fp : List Addr) (it : Addr) (tn : Nat → Heap → Prop) : Prop where
  mem : it ∈ fp
  obj : ∀ i h, tn i h → ∀ b ∈ fp, ∃ o, h.get? b = some o ∧ ∀ v, o.data ≠ .cell v
  keep : ∀ i h h', tn i h → (∀ b ∈ fp, ∀ o, h.get? b = some o → h'.get? b = some o) → tn i h'
  item : ∀ (X : Cx), X.prog = P → X.w = w → X.K = K → X.calm = true → ∀ (i : Nat) (pins : List (Addr × Obj)) (s : Shared) (σ : St) (H : Hp) (E : Value → Shared → Prop), Inv X pins σ H s → (∀ b ∈ fp, FpOk X pins H b) → tn i s.heap → J.go i H →
    wpAny (model P w) X.A (pyNext (.ref it)) (fun r s1 => ∃ u, r = some u ∧
      wpAny (model P w) X.A (letOwnedTupleGo tg (.ref it) u) (fun _ s2 => ∃ x H', Inv X pins σ H' s2 ∧ RelV x u ∧ J.yld i H x H' ∧ tn (i + 1) s2.heap ∧ ∀ b ∈ fp, H' b = none) E s1) E s
  done : ∀ (X : Cx), X.prog = P → X.w = w → X.K = K → X.calm = true → ∀ (i : Nat) (pins : List (Addr × Obj)) (s : Shared) (σ : St) (H : Hp) (E : Value → Shared → Prop), Inv X pins σ H s → (∀ b ∈ fp, FpOk X pins H b) → tn i s.heap → J.stop i H →
    wpAny (model P w) X.A (pyNext (.ref it)) (fun r s1 => r = none ∧ Inv X pins σ H s1) E s
  self : ∀ (A : Around) (i : Nat) (s : Shared) (Q : Value → Shared → Prop) (E : Value → Shared → Prop), tn i s.heap → Q (.ref it) s → wpAny (model P w) A (pyIter (.ref it)) Q E s
abbrev TI := St → Hp → (It → Hp → Prop) → Prop
def PIE (X : Cx) (pins : List (Addr × Obj)) (σ : St) (tg : Expr) (R : It → Hp → Prop) (itv : Value) (s2 : Shared) : Prop :=
  ∃ (it : Addr) (fp : List Addr) (tn : Nat → Heap → Prop) (J : It) (H' : Hp), itv = .ref it ∧ Inv X pins σ H' s2 ∧ Turn X.prog X.w X.K tg J fp it tn ∧ tn 0 s2.heap ∧ (∀ b ∈ fp, FpOk X pins H' b) ∧ R J H'
def PI (X : Cx) (tg iter : Expr) (wi : TI) : Prop :=
  ∀ (pins : List (Addr × Obj)) (s : Shared) (σ : St) (H : Hp) (R : It → Hp → Prop), Inv X pins σ H s → wi σ H R →
    wpAny (model X.prog X.w) X.A (eval iter X.env) (fun v s1 => wpAny (model X.prog X.w) X.A (pyIter v) (PIE X pins σ tg R) X.xe s1) X.xe s
theorem go_of {M : Model} {A : Around} {E : Value → Shared → Prop} {s : Shared} {tg : Expr} {it : Addr} {u : Value} {o : Obj} {n : String} {vs : Array Value} {Q : Unit → Shared → Prop} (ho : s.heap.get? it = some o) (hc : o.cls = .type n) (hd : o.data = .fields vs)
    (hn : ["enumerate", "zip", "dict_itemiterator", "dict_reverseitemiterator", "odict_iterator", "itertools.zip_longest", "itertools.pairwise"].contains n = false) (hQ : Q () s) : wpAny M A (letOwnedTupleGo tg (.ref it) u) Q E s := by
  unfold letOwnedTupleGo
  cases tg <;> first
    | exact wpAny_pure hQ
    | (cases u <;> first
        | exact wpAny_pure hQ
        | (refine wpAny_bind (wpAny_load ho ?_)
           rw [hc, hd]
           show wpAny M A (if (["enumerate", "zip", "dict_itemiterator", "dict_reverseitemiterator", "odict_iterator", "itertools.zip_longest", "itertools.pairwise"].contains n && vs[0]? == some (rawInt _)) = true then _ else _) Q E s
           rw [if_neg (by intro h; rw [hn, Bool.false_and] at h; cases h)]
           exact wpAny_pure hQ))
def Itl (K : PySem.W.Frag) (a : Addr) : It :=
  ⟨fun i H => ∃ xs x, SqL K H a xs ∧ xs[i]? = some x, fun i H x H' => H' = H ∧ ∀ xs, SqL K H a xs → xs[i]? = some x, fun i H => ∃ xs, SqL K H a xs ∧ xs.length ≤ i⟩
def Itt (K : PySem.W.Frag) (a : Addr) : It :=
  ⟨fun i H => ∃ xs x, SqT K H a xs ∧ xs[i]? = some x, fun i H x H' => H' = H ∧ ∀ xs, SqT K H a xs → xs[i]? = some x, fun i H => ∃ xs, SqT K H a xs ∧ xs.length ≤ i⟩
def Itr (lo : Int) (n : Nat) : It := ⟨fun i _ => i < n, fun i H x H' => H' = H ∧ x = .int (lo + i), fun i _ => n ≤ i⟩
theorem turn_list {P : Program} {w : World} {K : PySem.W.Frag} {tg : Expr} (a it : Addr) : Turn P w K tg (Itl K a) [it] it (fun i h => h.IsListIter it a i) where
  mem := by simp
  obj := fun i h st b hb => by
    have e : b = it := by simpa using hb
    subst e
    obtain ⟨o, e, c, d⟩ := st
    exact ⟨o, e, fun v z => by rw [d] at z; cases z⟩
  keep := fun i h h' st k => st.at fun o e => k it (by simp) o e
  item := by
    intro X hP hw hK hc i pins s σ H E I hf st hg
    subst hP hw hK
    obtain ⟨xs, x, hq, hx⟩ := hg
    obtain ⟨its, rv, p, hz⟩ := I.list hq
    obtain ⟨u, hu, ru⟩ := rv.get hx
    obtain ⟨f0, f1, f2, f3, f4, f5⟩ := hf it (by simp)
    refine wpAny_pyNext_list_item st p.isList (x := u) (by simpa using hu) fun h' st' sb => ?_
    have I1 : Inv X pins σ H { s with heap := h' } := I.turned (t' := s.toks) (fun b o hb e => (sb.2 b hb).trans e) f0 f1 f3 f4 f5
    obtain ⟨o, e, c, d⟩ := id st'
    exact ⟨u, rfl, go_of (s := { s with heap := h' }) e c d (by decide) ⟨x, H, I1, ru, ⟨rfl, fun ys hy => by rw [I.list_inj hy hq]; exact hx⟩, st', fun b hb => (hf b hb).1⟩⟩
  done := by
    intro X hP hw hK hc i pins s σ H E I hf st hg
    subst hP hw hK
    obtain ⟨xs, hq, hx⟩ := hg
    obtain ⟨its, rv, p, hz⟩ := I.list hq
    obtain ⟨f0, f1, f2, f3, f4, f5⟩ := hf it (by simp)
    have hl := rv.length
    exact wpAny_pyNext_list_end (I.ok.hd hc) st p.isList (by simp; omega) fun h' eb => ⟨rfl, I.turned (t' := s.toks) (fun b o hb e => eb b o hb e) f0 f1 f3 f4 f5⟩
  self := fun _ _ _ _ _ st h => wpAny_pyIter_listiter st h
theorem turn_tuple {P : Program} {w : World} {K : PySem.W.Frag} {tg : Expr} (a it : Addr) : Turn P w K tg (Itt K a) [it] it (fun i h => h.IsTupleIter it a i) where
  mem := by simp
  obj := fun i h st b hb => by
    have e : b = it := by simpa using hb
    subst e
    obtain ⟨o, e, c, d⟩ := st
    exact ⟨o, e, fun v z => by rw [d] at z; cases z⟩
  keep := fun i h h' st k => st.at fun o e => k it (by simp) o e
  item := by
    intro X hP hw hK hc i pins s σ H E I hf st hg
    subst hP hw hK
    obtain ⟨xs, x, hq, hx⟩ := hg
    obtain ⟨its, rv, p, hz⟩ := I.tuple hq
    obtain ⟨u, hu, ru⟩ := rv.get hx
    obtain ⟨f0, f1, f2, f3, f4, f5⟩ := hf it (by simp)
    refine wpAny_pyNext_tuple_item st (show s.heap.IsTuple a its.toArray from p) (x := u) (by simpa using hu) fun h' st' sb => ?_
    have I1 : Inv X pins σ H { s with heap := h' } := I.turned (t' := s.toks) (fun b o hb e => (sb.2 b hb).trans e) f0 f1 f3 f4 f5
    obtain ⟨o, e, c, d⟩ := id st'
    exact ⟨u, rfl, go_of (s := { s with heap := h' }) e c d (by decide) ⟨x, H, I1, ru, ⟨rfl, fun ys hy => by rw [I.tuple_inj hy hq]; exact hx⟩, st', fun b hb => (hf b hb).1⟩⟩
  done := by
    intro X hP hw hK hc i pins s σ H E I hf st hg
    subst hP hw hK
    obtain ⟨xs, hq, hx⟩ := hg
    obtain ⟨its, rv, p, hz⟩ := I.tuple hq
    obtain ⟨f0, f1, f2, f3, f4, f5⟩ := hf it (by simp)
    have hl := rv.length
    exact wpAny_pyNext_tuple_end (I.ok.hd hc) st (show s.heap.IsTuple a its.toArray from p) (by simp; omega) fun h' eb => ⟨rfl, I.turned (t' := s.toks) (fun b o hb e => eb b o hb e) f0 f1 f3 f4 f5⟩
  self := fun _ _ _ _ _ st h => wpAny_pyIter_tupleiter st h
theorem turn_range {P : Program} {w : World} {K : PySem.W.Frag} {tg : Expr} (it : Addr) (lo : Int) (n : Nat) : Turn P w K tg (Itr lo n) [it] it (fun i h => IsRangeIter h it (lo + (i : Nat) * 1) ((n : Int) - (i : Nat)) 1) where
  mem := by simp
  obj := fun i h st b hb => by
    have e : b = it := by simpa using hb
    subst e
    exact ⟨_, st, fun v z => by
      have z' : Data.fields _ = Data.cell v := z
      cases z'⟩
  keep := fun i h h' st k => k it (by simp) _ st
  item := by
    intro X hP hw hK hc i pins s σ H E I hf st hg
    subst hP hw hK
    obtain ⟨f0, f1, f2, f3, f4, f5⟩ := hf it (by simp)
    have W := Walks.range (prog := X.prog) (w := X.w) (I.ok.hd hc) it lo 1 n
    refine W.item i s _ _ hg st fun v h' tk hv st' kk => ?_
    obtain ⟨t, rfl⟩ := hv
    have I1 : Inv X pins σ H { s with heap := h', toks := tk } := I.turned (fun b o hb e => kk b o (by simpa using hb) e) f0 f1 f3 f4 f5
    refine ⟨_, rfl, go_of (s := { s with heap := h', toks := tk }) (n := "range_iterator") st' rfl rfl (by decide) ⟨.int (lo + i), H, I1, ⟨t, ?_⟩, ⟨rfl, rfl⟩, st', fun b hb => (hf b hb).1⟩⟩
    rw [Int.mul_one]
  done := by
    intro X hP hw hK hc i pins s σ H E I hf st hg
    subst hP hw hK
    obtain ⟨f0, f1, f2, f3, f4, f5⟩ := hf it (by simp)
    exact wpAny_pyNext_range_end (I.ok.hd hc) st (by have : n ≤ i := hg; omega) fun h' eb => ⟨rfl, I.turned (t' := s.toks) (fun b o hb e => eb b o hb e) f0 f1 f3 f4 f5⟩
  self := fun _ _ _ _ _ st h => wpAny_pyIter_rangeiter st h
end L2
namespace L2
open PySem PySem.Spec PyProof.Rows
section
variable {X : Cx} {tg : Expr}
def iList (K : PySem.W.Frag) (tl : TE) : TI := fun σ H R => tl σ H fun x H1 => ∃ a, x = .ref a ∧ (∃ xs, SqL K H1 a xs) ∧ R (Itl K a) H1
def iTup (K : PySem.W.Frag) (tl : TE) : TI := fun σ H R => tl σ H fun x H1 => ∃ a, x = .ref a ∧ (∃ xs, SqT K H1 a xs) ∧ R (Itt K a) H1
theorem pi_list {l : Expr} {tl : TE} (hl : PE X l tl) : PI X tg l (iList X.K tl) := by
  intro pins s σ H R I h
  refine thn (hl pins s σ H _ I h) fun v s1 ⟨x, H1, I1, r1, q1⟩ => ?_
  obtain ⟨a, e, ⟨xs, hq⟩, q⟩ := q1
  subst e
  cases r1
  obtain ⟨its, rv, p, hz⟩ := I1.list hq
  refine wpAny_pyIter_list p.isList ?_
  refine ⟨s1.heap.objs.size, [s1.heap.objs.size], _, _, H1, rfl, I1.kept (t' := s1.toks) fun b o e => Heap.get?_push_of_some _ e, turn_list a _, ⟨_, Heap.get?_push_size _ rfl, rfl, rfl⟩, fun b hb => ?_, q⟩
  have e : b = s1.heap.objs.size := by simpa using hb
  subst e
  exact I1.fpOk (Nat.le_refl _) (I1.hok.fresh (Nat.le_refl _))
theorem pi_tup {l : Expr} {tl : TE} (hl : PE X l tl) : PI X tg l (iTup X.K tl) := by
  intro pins s σ H R I h
  refine thn (hl pins s σ H _ I h) fun v s1 ⟨x, H1, I1, r1, q1⟩ => ?_
  obtain ⟨a, e, ⟨xs, hq⟩, q⟩ := q1
  subst e
  cases r1
  obtain ⟨its, rv, p, hz⟩ := I1.tuple hq
  refine wpAny_pyIter_tuple (show s1.heap.IsTuple a its.toArray from p) ?_
  refine ⟨s1.heap.objs.size, [s1.heap.objs.size], _, _, H1, rfl, I1.kept (t' := s1.toks) fun b o e => Heap.get?_push_of_some _ e, turn_tuple a _, ⟨_, Heap.get?_push_size _ rfl, rfl, rfl⟩, fun b hb => ?_, q⟩
  have e : b = s1.heap.objs.size := by simpa using hb
  subst e
  exact I1.fpOk (Nat.le_refl _) (I1.hok.fresh (Nat.le_refl _))
theorem range_it {pins : List (Addr × Obj)} {σ : St} {H : Hp} {s : Shared} {R : It → Hp → Prop} {E : Value → Shared → Prop} {lo hi : Int} {t u v : Tok} {tk : Nat} (I : Inv X pins σ H s) (h1 : -(2 ^ 62) ≤ lo) (h2 : lo < 2 ^ 62) (h3 : -(2 ^ 62) ≤ hi) (h4 : hi < 2 ^ 62)
    (q : R (Itr lo (hi - lo).toNat) H) : wpAny (model X.prog X.w) X.A (pyIter (.ref s.heap.objs.size)) (PIE X pins σ tg R) E { s with heap := s.heap.push { cls := .type "range", data := .fields #[.int lo t, .int hi u, .int 1 v] }, toks := tk } := by
  refine wpAny_pyIter_range (IsRange.new ..) (small_one h1 h2 h3 h4) ?_
  have I1 : Inv X pins σ H { s with heap := s.heap.push { cls := .type "range", data := .fields #[.int lo t, .int hi u, .int 1 v] }, toks := tk } := I.kept fun b o e => Heap.get?_push_of_some _ e
  refine ⟨(s.heap.push { cls := .type "range", data := .fields #[.int lo t, .int hi u, .int 1 v] }).objs.size, [(s.heap.push { cls := .type "range", data := .fields #[.int lo t, .int hi u, .int 1 v] }).objs.size], _, _, H, rfl,
    I1.kept (t' := tk) fun b o e => Heap.get?_push_of_some _ e, turn_range _ lo (hi - lo).toNat, ?_, fun b hb => ?_, q⟩
  · have e1 : lo + ((0 : Nat) : Int) * 1 = lo := by simp
    have e2 : (((hi - lo).toNat : Nat) : Int) - ((0 : Nat) : Int) = Builtin.Range.rangeSize lo hi 1 := by rw [rangeSize_one]; split <;> omega
    show IsRangeIter _ _ (lo + ((0 : Nat) : Int) * 1) ((((hi - lo).toNat : Nat) : Int) - ((0 : Nat) : Int)) 1
    rw [e1, e2]
    exact Heap.get?_push_size _ rfl
  · have e : b = (s.heap.push { cls := .type "range", data := .fields #[.int lo t, .int hi u, .int 1 v] }).objs.size := by simpa using hb
    subst e
    exact I1.fpOk (Nat.le_refl _) (I1.hok.fresh (Nat.le_refl _))
def iRng1 (ta : TA) : TI := fun σ H R => ta σ H fun vs H1 => ∃ j : Int, vs = [.int j] ∧ -(2 ^ 62) ≤ j ∧ j < 2 ^ 62 ∧ R (Itr 0 j.toNat) H1
def iRng2 (ta : TA) : TI := fun σ H R => ta σ H fun vs H1 => ∃ i j : Int, vs = [.int i, .int j] ∧ (-(2 ^ 62) ≤ i ∧ i < 2 ^ 62 ∧ -(2 ^ 62) ≤ j ∧ j < 2 ^ 62) ∧ R (Itr i (j - i).toNat) H1
theorem pi_range1 {a : Expr} {ta : TA} {p pos : Pos} (hg : Gl X "range") (hm : X.mg "range" = none) (ha : PA X [a] ta) (hs : starEach [a] X.env = [(false, eval a X.env)] := by rfl) : PI X tg (.Call (.Name "range" p) [a] [] pos) (iRng1 ta) := by
  intro pins s σ H R I h
  refine Call_ (ld_blt I hg hm boot_range (PyProof.Rows.callWith_type1 (thn (ha pos pins s σ H _ I h) fun us s1 ⟨vs, H1, I1, r1, q1⟩ => ?_) hs rfl))
  obtain ⟨j, e, q1, q2, q⟩ := q1
  subst e
  cases r1 with
  | cons r rr =>
    cases rr
    obtain ⟨t, rfl⟩ := r
    exact call_range_1 (range_it I1 (by omega) (by omega) q1 q2 (by simpa using q))
theorem pi_range2 {a b : Expr} {ta : TA} {p pos : Pos} (hg : Gl X "range") (hm : X.mg "range" = none) (ha : PA X [a, b] ta) (hs : starEach [a, b] X.env = [(false, eval a X.env), (false, eval b X.env)] := by rfl) (hs2 : starEach [b] X.env = [(false, eval b X.env)] := by rfl) :
    PI X tg (.Call (.Name "range" p) [a, b] [] pos) (iRng2 ta) := by
  intro pins s σ H R I h
  refine Call_ (ld_blt I hg hm boot_range (PyProof.Rows.callWith_type1 (thn (ha pos pins s σ H _ I h) fun us s1 ⟨vs, H1, I1, r1, q1⟩ => ?_) (by rw [hs, hs2]) (by rw [hs2]; rfl)))
  obtain ⟨i, j, e, ⟨q1, q2, q3, q4⟩, q⟩ := q1
  subst e
  cases r1 with
  | cons r rr =>
    cases rr with
    | cons r' rr =>
      cases rr
      obtain ⟨t, rfl⟩ := r
      obtain ⟨t', rfl⟩ := r'
      exact call_range_2 (range_it I1 q1 q2 q3 q4 q)
def tFor (wi : TI) (g : TG) (tb : TS) : TS := fun D σ H => wi σ H fun J H1 => ∃ W : Nat → Nat → St → Hp → Prop, (∃ m, W 0 m σ H1) ∧ ∀ i m σ H, W i m σ H →
  (J.stop i H ∧ D.nx σ H) ∨ (J.go i H ∧ ∃ N : St → Hp → Prop, (∀ σ' H', N σ' H' → ∃ m', m' < m ∧ W (i + 1) m' σ' H') ∧ ∀ x H', J.yld i H x H' → g x σ H' fun σ2 H2 => tb { D with nx := N, ct := N, bk := D.nx } σ2 H2)
def pinsAt (fp : List Addr) (h : Heap) : List (Addr × Obj) := fp.filterMap fun b => (h.get? b).map fun o => (b, o)
theorem mem_pinsAt {fp : List Addr} {h : Heap} {b : Addr} {o : Obj} (hb : b ∈ fp) (e : h.get? b = some o) : (b, o) ∈ pinsAt fp h := List.mem_filterMap.mpr ⟨b, hb, by rw [e]; rfl⟩
theorem of_pinsAt {fp : List Addr} {h : Heap} {p : Addr × Obj} (hp : p ∈ pinsAt fp h) : p.1 ∈ fp ∧ h.get? p.1 = some p.2 := by
  obtain ⟨b, hb, e⟩ := List.mem_filterMap.mp hp
  cases q : h.get? b with
  | none => rw [q] at e; cases e
  | some o =>
    rw [q] at e
    have e' : (b, o) = p := Option.some.inj e
    subst e'
    exact ⟨hb, q⟩
theorem Inv.pinned {pins : List (Addr × Obj)} {σ : St} {H : Hp} {s : Shared} {fp : List Addr} (I : Inv X pins σ H s) (hf : ∀ b ∈ fp, FpOk X pins H b) (ho : ∀ b ∈ fp, ∃ o, s.heap.get? b = some o ∧ ∀ v, o.data ≠ .cell v) : Inv X (pins ++ pinsAt fp s.heap) σ H s :=
  I.pins_of fun p hp => (List.mem_append.mp hp).elim (fun z => I.pin p (List.mem_append_right _ z)) fun z => by
    obtain ⟨hb, e⟩ := of_pinsAt z
    obtain ⟨f0, f1, f2, _⟩ := hf p.1 hb
    obtain ⟨o, e', d⟩ := ho p.1 hb
    rw [e] at e'; cases e'
    exact ⟨e, f0, f1, f2, d⟩
theorem Inv.unpinned {pins pl : List (Addr × Obj)} {σ : St} {H : Hp} {s : Shared} (I : Inv X (pins ++ pl) σ H s) : Inv X pins σ H s := I.pins_of fun p hp => I.pin p (List.mem_append_right _ (List.mem_append_left _ hp))
theorem ps_for {iter : Expr} {body : List Stmt} {wi : TI} {g : TG} {tb : TS} {pos : Pos} (hp : PassesOwn (model X.prog X.w) X.A X.env X.xe) (hc : X.calm = true) (hi : PI X tg iter wi) (hg : PG X tg g) (hb : PSs X body tb)
    (hs : ∀ x, foldedSetIterable iter X.env x = pure x := by intro _; rfl) : PS X (.For tg iter body [] pos) (tFor wi g tb) := by
  intro pins s σ H D I h
  refine wpAny_For (thn (hi pins s σ H _ I h) fun v s1 h1 => thn h1 fun itv s2 h2 => ?_) hs
  obtain ⟨it, fp, tn, J, H2, e, I2, T, st2, f2, W, ⟨m0, w0⟩, turn⟩ := h2
  subst e
  have stat : ∀ {H' : Hp}, (∀ b ∈ fp, H' b = none) → ∀ b ∈ fp, FpOk X pins H' b := fun hn b hb => ⟨hn b hb, (f2 b hb).2⟩
  refine codeAny_forLoop_any (fun n s' => ∃ i σ' H', Inv X pins σ' H' s' ∧ tn i s'.heap ∧ (∀ b ∈ fp, H' b = none) ∧ W i n σ' H') ?_ m0 ⟨0, σ, H2, I2, st2, fun b hb => (f2 b hb).1, w0⟩
  rintro n s3 ⟨i, σ3, H3, I3, st3, fr3, w3⟩
  rcases turn i n σ3 H3 w3 with ⟨stop, qn⟩ | ⟨go, N, hN, step⟩
  · refine wpAny_passesOwn hp (thn (T.done X rfl rfl rfl hc i pins s3 σ3 H3 X.xe I3 (stat fr3) st3 stop) fun r s4 ⟨hr, I4⟩ => ?_)
    subst hr
    exact wpAny_execs_nil ⟨σ3, H3, I4, qn⟩
  · refine wpAny_passesOwn hp (thn (T.item X rfl rfl rfl hc i pins s3 σ3 H3 X.xe I3 (stat fr3) st3 go) fun r s4 ⟨u, hr, h4⟩ => ?_)
    subst hr
    refine wpAny_passesOwn hp (thn h4 fun _ s5 ⟨x, H5, I5, r5, y5, st5, fr5⟩ => ?_)
    have I5' := I5.pinned (stat fr5) (T.obj _ _ st5)
    refine wpAny_passesOwn hp (thn (hg _ s5 σ3 H5 x u _ I5' r5 (step x H5 y5)) fun _ s6 ⟨σ6, H6, I6, q6⟩ => ?_)
    refine wpAny_passesOwn hp (thn (hb _ s6 σ6 H6 _ I6 q6) fun f s7 q7 => ?_)
    have again : ∀ {σ7 : St} {H7 : Hp}, Inv X (pins ++ pinsAt fp s5.heap) σ7 H7 s7 → N σ7 H7 → ∃ m, m < n ∧ ∃ i σ' H', Inv X pins σ' H' s7 ∧ tn i s7.heap ∧ (∀ b ∈ fp, H' b = none) ∧ W i m σ' H' := fun {σ7 H7} I7 n7 => by
      obtain ⟨m', hm, w7⟩ := hN σ7 H7 n7
      refine ⟨m', hm, i + 1, σ7, H7, I7.unpinned, T.keep _ _ _ st5 fun b hb o e => (I7.pin (b, o) (List.mem_append_right _ (List.mem_append_right _ (mem_pinsAt hb e)))).1, fun b hb => ?_, w7⟩
      obtain ⟨o, e, d⟩ := T.obj _ _ st5 b hb
      exact (I7.pin (b, o) (List.mem_append_right _ (List.mem_append_right _ (mem_pinsAt hb e)))).2.1
    cases f with
    | next => obtain ⟨σ7, H7, I7, n7⟩ := q7; exact again I7 n7
    | cont => obtain ⟨σ7, H7, I7, n7⟩ := q7; exact again I7 n7
    | brk => obtain ⟨σ7, H7, I7, q7⟩ := q7; exact ⟨σ7, H7, I7.unpinned, q7⟩
    | ret v => obtain ⟨x7, σ7, H7, I7, r7, q7⟩ := q7; exact ⟨x7, σ7, H7, I7.unpinned, r7, q7⟩
end
theorem for_list {K : PySem.W.Frag} {a : Addr} {xs : List V} {g : TG} {tb : TS} {D : Ends} {σ : St} {H : Hp} (Pv : Nat → St → Hp → Prop) (h0 : Pv 0 σ H) (hl : ∀ i σ H, i ≤ xs.length → Pv i σ H → SqL K H a xs)
    (hs : ∀ i x σ H, xs[i]? = some x → Pv i σ H → g x σ H fun σ2 H2 => tb { D with nx := Pv (i + 1), ct := Pv (i + 1), bk := D.nx } σ2 H2) (hd : ∀ σ H, Pv xs.length σ H → D.nx σ H) :
    ∃ W : Nat → Nat → St → Hp → Prop, (∃ m, W 0 m σ H) ∧ ∀ i m σ H, W i m σ H →
      ((Itl K a).stop i H ∧ D.nx σ H) ∨ ((Itl K a).go i H ∧ ∃ N : St → Hp → Prop, (∀ σ' H', N σ' H' → ∃ m', m' < m ∧ W (i + 1) m' σ' H') ∧ ∀ x H', (Itl K a).yld i H x H' → g x σ H' fun σ2 H2 => tb { D with nx := N, ct := N, bk := D.nx } σ2 H2) := by
  refine ⟨fun i m σ H => m = xs.length - i ∧ i ≤ xs.length ∧ Pv i σ H, ⟨xs.length, by simp, Nat.zero_le _, h0⟩, ?_⟩
  rintro i m σ H ⟨rfl, hi, p⟩
  have q := hl i σ H hi p
  by_cases hlt : i < xs.length
  · refine .inr ⟨⟨xs, xs[i], q, by simp [hlt]⟩, Pv (i + 1), fun σ' H' p' => ⟨xs.length - (i + 1), by omega, rfl, hlt, p'⟩, fun x H' y => ?_⟩
    obtain ⟨e, y⟩ := y
    subst e
    exact hs i x σ _ (y xs q) p
  · have e : i = xs.length := by omega
    subst e
    exact .inl ⟨⟨xs, q, Nat.le_refl _⟩, hd σ H p⟩
theorem for_range {lo : Int} {n : Nat} {g : TG} {tb : TS} {D : Ends} {σ : St} {H : Hp} (Pv : Nat → St → Hp → Prop) (h0 : Pv 0 σ H)
    (hs : ∀ i σ H, i < n → Pv i σ H → g (.int (lo + i)) σ H fun σ2 H2 => tb { D with nx := Pv (i + 1), ct := Pv (i + 1), bk := D.nx } σ2 H2) (hd : ∀ σ H, Pv n σ H → D.nx σ H) :
    ∃ W : Nat → Nat → St → Hp → Prop, (∃ m, W 0 m σ H) ∧ ∀ i m σ H, W i m σ H →
      ((Itr lo n).stop i H ∧ D.nx σ H) ∨ ((Itr lo n).go i H ∧ ∃ N : St → Hp → Prop, (∀ σ' H', N σ' H' → ∃ m', m' < m ∧ W (i + 1) m' σ' H') ∧ ∀ x H', (Itr lo n).yld i H x H' → g x σ H' fun σ2 H2 => tb { D with nx := N, ct := N, bk := D.nx } σ2 H2) := by
  refine ⟨fun i m σ H => m = n - i ∧ i ≤ n ∧ Pv i σ H, ⟨n, by simp, Nat.zero_le _, h0⟩, ?_⟩
  rintro i m σ H ⟨rfl, hi, p⟩
  by_cases hlt : i < n
  · refine .inr ⟨hlt, Pv (i + 1), fun σ' H' p' => ⟨n - (i + 1), by omega, rfl, hlt, p'⟩, fun x H' y => ?_⟩
    obtain ⟨e, y⟩ := y
    subst e y
    exact hs i σ _ hlt p
  · have e : i = n := by omega
    subst e
    exact .inl ⟨Nat.le_refl _, hd σ H p⟩
end L2
namespace L2
open PySem PySem.Spec PyProof.Rows
abbrev R2 := V → V → Hp → VK → Prop
def OpR (X : Cx) (f : Value → Value → Sem Value) (r : R2) : Prop :=
  ∀ (pins : List (Addr × Obj)) (s : Shared) (σ : St) (H : Hp) (x y : V) (v u : Value) (Q : VK), Inv X pins σ H s → RelV x v → RelV y u → r x y H Q →
    wpAny (model X.prog X.w) X.A (f v u) (EP X pins σ Q) X.xe s
def UnR (X : Cx) (f : Value → Sem Value) (r : V → Hp → VK → Prop) : Prop :=
  ∀ (pins : List (Addr × Obj)) (s : Shared) (σ : St) (H : Hp) (x : V) (v : Value) (Q : VK), Inv X pins σ H s → RelV x v → r x H Q →
    wpAny (model X.prog X.w) X.A (f v) (EP X pins σ Q) X.xe s
def CallR (X : Cx) (f : Value) (r : List V → Hp → VK → Prop) : Prop :=
  ∀ (pins : List (Addr × Obj)) (s : Shared) (σ : St) (H : Hp) (xs : List V) (us : List Value) (Q : VK), Inv X pins σ H s → Vals xs us → r xs H Q →
    wpAny (model X.prog X.w) X.A (call f us) (EP X pins σ Q) X.xe s
def TruR (X : Cx) (r : V → Hp → (Bool → Hp → Prop) → Prop) : Prop :=
  ∀ (pins : List (Addr × Obj)) (s : Shared) (σ : St) (H : Hp) (x : V) (v : Value) (Q : Bool → Hp → Prop), Inv X pins σ H s → RelV x v → r x H Q →
    wpAny (model X.prog X.w) X.A (truthy v) (TP X pins σ Q) X.xe s
def tOp (r : R2) (ta tb : TE) : TE := fun σ H Q => ta σ H fun x H1 => tb σ H1 fun y H2 => r x y H2 Q
def tUn (r : V → Hp → VK → Prop) (ta : TE) : TE := fun σ H Q => ta σ H fun x H1 => r x H1 Q
inductive IrI (C : Int → Int → Prop) (g : Int → Int → V) (x : V) (y : V) (H : Hp) (Q : VK) : Prop
  | mk : ∀ i j, (x = .int i) → (y = .int j) → (C i j) → (Q (g i j) H) → IrI C g x y H Q
def rI (C : Int → Int → Prop) (g : Int → Int → V) : R2 := fun x y H Q => IrI C g x y H Q
inductive IrI0 (g : Int → Int → V) (x : V) (y : V) (H : Hp) (Q : VK) : Prop
  | mk : ∀ i j, (x = .int i) → (y = .int j) → (Q (g i j) H) → IrI0 g x y H Q
def rI0 (g : Int → Int → V) : R2 := fun x y H Q => IrI0 g x y H Q
def rU (g : Int → V) : V → Hp → VK → Prop := fun x H Q => ∃ i, x = .int i ∧ Q (g i) H
section
variable {X : Cx} {a b c : Expr} {ta tb tc : TE} {pos : Pos}
theorem binT (ha : PE X a ta) (hb : PE X b tb) {pins : List (Addr × Obj)} {s : Shared} {σ : St} {H : Hp} {R : V → V → Hp → Prop} (I : Inv X pins σ H s)
    (h : ta σ H fun x H1 => tb σ H1 fun y H2 => R x y H2) {Q : Value → Shared → Prop} {f : Value → Value → Sem Value}
    (hf : ∀ v u s2 x y H2, Inv X pins σ H2 s2 → RelV x v → RelV y u → R x y H2 → wpAny (model X.prog X.w) X.A (f v u) Q X.xe s2) :
    wpAny (model X.prog X.w) X.A (eval a X.env) (fun v s₁ => wpAny (model X.prog X.w) X.A (eval b X.env) (fun u s₂ => wpAny (model X.prog X.w) X.A (f v u) Q X.xe s₂) X.xe s₁) X.xe s := by
  refine thn (ha pins s σ H _ I h) fun v s1 ⟨x, H1, I1, r1, q1⟩ => ?_
  refine thn (hb pins s1 σ H1 _ I1 q1) fun u s2 ⟨y, H2, I2, r2, q2⟩ => ?_
  exact hf v u s2 x y H2 I2 r1 r2 q2
theorem pe_op {op : Operator} {r : R2} (ho : OpR X (binaryOp op) r) (ha : PE X a ta) (hb : PE X b tb) : PE X (.BinOp a op b pos) (tOp r ta tb) := by
  intro pins s σ H Q I h
  exact wpAny_BinOp (binT ha hb I h fun v u s2 x y H2 I2 rx ry q => ho pins s2 σ H2 x y v u Q I2 rx ry q)
theorem pe_un {op : UnaryOp} {r : V → Hp → VK → Prop} (ho : UnR X (unaryOp op) r) (ha : PE X a ta) : PE X (.UnaryOp op a pos) (tUn r ta) := by
  intro pins s σ H Q I h
  exact UnaryOp_ (thn (ha pins s σ H _ I h) fun v s1 ⟨x, H1, I1, r1, q1⟩ => ho pins s1 σ H1 x v Q I1 r1 q1)
theorem opI {f : Value → Value → Sem Value} {C : Int → Int → Prop} {g : Int → Int → Int}
    (rule : ∀ (i j : Int) (t u : Tok) (s : Shared) (Q : Value → Shared → Prop) (E : Value → Shared → Prop), C i j → Q (.int (g i j) s.toks) { s with toks := s.toks + 1 } → wpAny (model X.prog X.w) X.A (f (.int i t) (.int j u)) Q E s) :
    OpR X f (rI C fun i j => .int (g i j)) := by
  intro pins s σ H x y v u Q I rx ry h
  obtain ⟨i, j, rfl, rfl, hc, q⟩ := h
  obtain ⟨t, rfl⟩ := rx
  obtain ⟨t', rfl⟩ := ry
  exact rule i j t t' s _ _ hc ⟨.int (g i j), H, I.tok _, ⟨_, rfl⟩, q⟩
theorem opI0 {f : Value → Value → Sem Value} {g : Int → Int → Int}
    (rule : ∀ (i j : Int) (t u : Tok) (s : Shared) (Q : Value → Shared → Prop) (E : Value → Shared → Prop), Q (.int (g i j) s.toks) { s with toks := s.toks + 1 } → wpAny (model X.prog X.w) X.A (f (.int i t) (.int j u)) Q E s) :
    OpR X f (rI0 fun i j => .int (g i j)) := by
  intro pins s σ H x y v u Q I rx ry h
  obtain ⟨i, j, rfl, rfl, q⟩ := h
  obtain ⟨t, rfl⟩ := rx
  obtain ⟨t', rfl⟩ := ry
  exact rule i j t t' s _ _ ⟨.int (g i j), H, I.tok _, ⟨_, rfl⟩, q⟩
theorem opB0 {f : Value → Value → Sem Value} {g : Int → Int → Bool}
    (rule : ∀ (i j : Int) (t u : Tok) (s : Shared) (Q : Value → Shared → Prop) (E : Value → Shared → Prop), Q (.bool (g i j)) s → wpAny (model X.prog X.w) X.A (f (.int i t) (.int j u)) Q E s) :
    OpR X f (rI0 fun i j => .bl (g i j)) := by
  intro pins s σ H x y v u Q I rx ry h
  obtain ⟨i, j, rfl, rfl, q⟩ := h
  obtain ⟨t, rfl⟩ := rx
  obtain ⟨t', rfl⟩ := ry
  exact rule i j t t' s _ _ ⟨.bl (g i j), H, I, rfl, q⟩
def CDiv (i j : Int) : Prop := 0 < j ∧ j < 1073741824
def CPow (i j : Int) : Prop := 0 ≤ j ∧ j ≤ 1000000 ∧ i.natAbs < 2 ^ 64
def CMul (i j : Int) : Prop := (-(2 ^ 64) < i ∧ i < 2 ^ 64) ∨ (-(2 ^ 64) < j ∧ j < 2 ^ 64)
theorem CMul.ok {i j : Int} (h : CMul i j) : IntMulOk i j := by
  rcases h with ⟨h1, h2⟩ | ⟨h1, h2⟩
  · exact .of_left (intBits_le_64 h1 h2)
  · exact .of_right (intBits_le_64 h1 h2)
theorem op_add : OpR X (binaryOp .Add) (rI0 fun i j => .int (i + j)) := opI0 fun _ _ _ _ _ _ _ q => add_int q
theorem op_sub : OpR X (binaryOp .Sub) (rI0 fun i j => .int (i - j)) := opI0 fun _ _ _ _ _ _ _ q => sub_int q
theorem op_mul : OpR X (binaryOp .Mult) (rI CMul fun i j => .int (i * j)) := opI fun _ _ _ _ _ _ _ hc q => mul_int q hc.ok
theorem op_fdiv : OpR X (binaryOp .FloorDiv) (rI CDiv fun i j => .int (i / j)) := opI fun i j _ _ _ _ _ hc q => by
  have h1 : (0 : Int) < j := hc.1
  have h2 : j < 1073741824 := hc.2
  exact floordiv_int (by omega) (by rw [Int.fdiv_eq_ediv_of_nonneg i (by omega)]; exact q) (.inl (PyProof.noPylong_small (by omega)))
theorem op_mod : OpR X (binaryOp .Mod) (rI (fun _ j => 0 < j) fun i j => .int (i % j)) := opI fun i j _ _ _ _ _ hc q => by
  have h1 : (0 : Int) < j := hc
  exact mod_int' (by omega) (by rw [Int.fmod_eq_emod_of_nonneg i (by omega)]; exact q)
theorem op_pow : OpR X (binaryOp .Pow) (rI CPow fun i j => .int (i ^ j.toNat)) := opI fun _ _ _ _ _ _ _ hc q => pow_int_small hc.1 hc.2.1 hc.2.2 q
theorem unI {f : Value → Sem Value} {g : Int → Int}
    (rule : ∀ (i : Int) (t : Tok) (s : Shared) (Q : Value → Shared → Prop) (E : Value → Shared → Prop), Q (.int (g i) s.toks) { s with toks := s.toks + 1 } → wpAny (model X.prog X.w) X.A (f (.int i t)) Q E s) :
    UnR X f (rU fun i => .int (g i)) := by
  intro pins s σ H x v Q I rx h
  obtain ⟨i, rfl, q⟩ := h
  obtain ⟨t, rfl⟩ := rx
  exact rule i t s _ _ ⟨.int (g i), H, I.tok _, ⟨_, rfl⟩, q⟩
theorem un_neg : UnR X (unaryOp .USub) (rU fun i => .int (-i)) := unI fun _ _ _ _ _ q => neg_int q
end
def scal : V → V → Bool
  | .non, .non => true | .non, .int _ => true | .int _, .non => true | .non, .bl _ => true | .bl _, .non => true | .non, .str _ => true | .str _, .non => true
  | .int _, .int _ => true | .bl _, .bl _ => true | .str _, .str _ => true | .byt _, .byt _ => true
  | .int _, .str _ => true | .str _, .int _ => true | .bl _, .str _ => true | .str _, .bl _ => true
  | _, _ => false
def rEq : R2 := fun x y H Q => scal x y = true ∧ Q (.bl (decide (x = y))) H
def rNe : R2 := fun x y H Q => scal x y = true ∧ Q (.bl (!decide (x = y))) H
theorem dec_int {i j : Int} : decide (V.int i = V.int j) = (i == j) := by
  rw [Bool.eq_iff_iff]
  simp
theorem dec_bl {i j : Bool} : decide (V.bl i = V.bl j) = (i == j) := by
  rw [Bool.eq_iff_iff]
  simp
theorem dec_str {i j : Str} : decide (V.str i = V.str j) = (i == j) := by
  rw [Bool.eq_iff_iff]
  simp
theorem dec_byt {i j : Array UInt8} : decide (V.byt i = V.byt j) = (i.toList == j.toList) := by
  rw [Bool.eq_iff_iff]
  cases i
  cases j
  simp
section
variable {X : Cx} {a b c : Expr} {ta tb tc : TE} {pos : Pos}
theorem fin_bl {pins : List (Addr × Obj)} {σ : St} {H : Hp} {s : Shared} {Q : VK} {k k' : Bool} (I : Inv X pins σ H s) (q : Q (.bl k) H) (e : k = k') : EP X pins σ Q (.bool k') s := by
  subst e
  exact ⟨.bl k, H, I, rfl, q⟩
theorem op_eq : OpR X (compareOp .Eq) rEq := by
  intro pins s σ H x y v u Q I rx ry h
  obtain ⟨hs, q⟩ := h
  cases x with
  | non =>
    cases rx
    cases y with
    | non => cases ry; exact PySem.EqNone.eq_none_none (fin_bl I q (by simp))
    | bl j => cases ry; exact PySem.EqNone.eq_none_bool (fin_bl I q (by simp))
    | int j => obtain ⟨t', rfl⟩ := ry; exact PySem.EqNone.eq_none_int (fin_bl I q (by simp))
    | str j => obtain ⟨t', rfl⟩ := ry; exact PySem.EqNone.eq_none_str (fin_bl I q (by simp))
    | _ => exact absurd (show false = true from hs) Bool.false_ne_true
  | bl i =>
    cases rx
    cases y with
    | non => cases ry; exact PySem.EqNone.eq_bool_none (fin_bl I q (by simp))
    | bl j => cases ry; exact eq_bool (fin_bl I q dec_bl)
    | str j => obtain ⟨t', rfl⟩ := ry; exact PySem.EqMixed.eq_bool_str (fin_bl I q (by simp))
    | _ => exact absurd (show false = true from hs) Bool.false_ne_true
  | int i =>
    obtain ⟨t, rfl⟩ := rx
    cases y with
    | non => cases ry; exact PySem.EqNone.eq_int_none (fin_bl I q (by simp))
    | int j => obtain ⟨t', rfl⟩ := ry; exact eq_int (fin_bl I q dec_int)
    | str j => obtain ⟨t', rfl⟩ := ry; exact PySem.EqMixed.eq_int_str (fin_bl I q (by simp))
    | _ => exact absurd (show false = true from hs) Bool.false_ne_true
  | str i =>
    obtain ⟨t, rfl⟩ := rx
    cases y with
    | non => cases ry; exact PySem.EqNone.eq_str_none (fin_bl I q (by simp))
    | bl j => cases ry; exact PySem.EqMixed.eq_str_bool (fin_bl I q (by simp))
    | int j => obtain ⟨t', rfl⟩ := ry; exact PySem.EqMixed.eq_str_int (fin_bl I q (by simp))
    | str j => obtain ⟨t', rfl⟩ := ry; exact eq_str (fin_bl I q dec_str)
    | _ => exact absurd (show false = true from hs) Bool.false_ne_true
  | byt i =>
    obtain ⟨t, rfl⟩ := rx
    cases y with
    | byt j => obtain ⟨t', rfl⟩ := ry; exact PySem.W.eq_bytes (fin_bl I q dec_byt)
    | _ => exact absurd (show false = true from hs) Bool.false_ne_true
  | _ => cases y <;> exact absurd (show false = true from hs) Bool.false_ne_true
theorem op_ne : OpR X (compareOp .NotEq) rNe := by
  intro pins s σ H x y v u Q I rx ry h
  obtain ⟨hs, q⟩ := h
  cases x with
  | non =>
    cases rx
    cases y with
    | non => cases ry; exact PySem.EqNone.ne_none_none (fin_bl I q (by simp))
    | bl j => cases ry; exact PySem.EqNone.ne_none_bool (fin_bl I q (by simp))
    | int j => obtain ⟨t', rfl⟩ := ry; exact PySem.EqNone.ne_none_int (fin_bl I q (by simp))
    | str j => obtain ⟨t', rfl⟩ := ry; exact PySem.EqNone.ne_none_str (fin_bl I q (by simp))
    | _ => exact absurd (show false = true from hs) Bool.false_ne_true
  | bl i =>
    cases rx
    cases y with
    | non => cases ry; exact PySem.EqNone.ne_bool_none (fin_bl I q (by simp))
    | bl j => cases ry; exact ne_bool (fin_bl I q (congrArg not dec_bl))
    | str j => obtain ⟨t', rfl⟩ := ry; exact PySem.EqMixed.ne_bool_str (fin_bl I q (by simp))
    | _ => exact absurd (show false = true from hs) Bool.false_ne_true
  | int i =>
    obtain ⟨t, rfl⟩ := rx
    cases y with
    | non => cases ry; exact PySem.EqNone.ne_int_none (fin_bl I q (by simp))
    | int j => obtain ⟨t', rfl⟩ := ry; exact ne_int (fin_bl I q (congrArg not dec_int))
    | str j => obtain ⟨t', rfl⟩ := ry; exact PySem.EqMixed.ne_int_str (fin_bl I q (by simp))
    | _ => exact absurd (show false = true from hs) Bool.false_ne_true
  | str i =>
    obtain ⟨t, rfl⟩ := rx
    cases y with
    | non => cases ry; exact PySem.EqNone.ne_str_none (fin_bl I q (by simp))
    | bl j => cases ry; exact PySem.EqMixed.ne_str_bool (fin_bl I q (by simp))
    | int j => obtain ⟨t', rfl⟩ := ry; exact PySem.EqMixed.ne_str_int (fin_bl I q (by simp))
    | str j => obtain ⟨t', rfl⟩ := ry; exact ne_str (fin_bl I q (congrArg not dec_str))
    | _ => exact absurd (show false = true from hs) Bool.false_ne_true
  | byt i =>
    obtain ⟨t, rfl⟩ := rx
    cases y with
    | byt j => obtain ⟨t', rfl⟩ := ry; exact PySem.W.ne_bytes (fin_bl I q (congrArg not dec_byt))
    | _ => exact absurd (show false = true from hs) Bool.false_ne_true
  | _ => cases y <;> exact absurd (show false = true from hs) Bool.false_ne_true
theorem op_lt : OpR X (compareOp .Lt) (rI0 fun i j => .bl (decide (i < j))) := opB0 fun _ _ _ _ _ _ _ q => lt_int q
theorem op_le : OpR X (compareOp .LtE) (rI0 fun i j => .bl (decide (i ≤ j))) := opB0 fun _ _ _ _ _ _ _ q => le_int q
theorem op_gt : OpR X (compareOp .Gt) (rI0 fun i j => .bl (decide (j < i))) := opB0 fun _ _ _ _ _ _ _ q => gt_int q
theorem op_ge : OpR X (compareOp .GtE) (rI0 fun i j => .bl (decide (j ≤ i))) := opB0 fun _ _ _ _ _ _ _ q => ge_int q
theorem op_isN : OpR X (compareOp .Is) (fun x y H Q => y = .non ∧ Q (.bl (decide (x = .non))) H) := by
  intro pins s σ H x y v u Q I rx ry h
  obtain ⟨rfl, q⟩ := h
  cases ry
  refine is_none_gen (fin_bl I q ?_)
  cases x <;> first
    | (cases rx; rfl)
    | (obtain ⟨t, rfl⟩ := rx; rfl)
theorem op_notN : OpR X (compareOp .IsNot) (fun x y H Q => y = .non ∧ Q (.bl (!decide (x = .non))) H) := by
  intro pins s σ H x y v u Q I rx ry h
  obtain ⟨rfl, q⟩ := h
  cases ry
  refine isnot_none_gen (fin_bl I q ?_)
  cases x <;> first
    | (cases rx; rfl)
    | (obtain ⟨t, rfl⟩ := rx; rfl)
theorem nomark (b : Expr) {op : CmpOp} (h : op ≠ .In := by decide) (h2 : op ≠ .NotIn := by decide) : behindInMarks op b = false := by
  have e1 : (op == CmpOp.In) = false := by cases op <;> first | rfl | exact absurd rfl h
  have e2 : (op == CmpOp.NotIn) = false := by cases op <;> first | rfl | exact absurd rfl h2
  cases b <;> simp [behindInMarks, e1, e2]
theorem pe_cmpR {op : CmpOp} {r : R2} (ho : OpR X (compareOp op) r) (ha : PE X a ta) (hb : PE X b tb) (hm : behindInMarks op b = false) : PE X (.Compare a [op] [b] pos) (tOp r ta tb) := by
  intro pins s σ H Q I h
  exact wpAny_Compare1 (binT ha hb I h fun v u s2 x y H2 I2 rx ry q => ho pins s2 σ H2 x y v u Q I2 rx ry q) hm
inductive ItTest (Q : Bool → Hp → Prop) (x : V) (H' : Hp) : Prop
  | mk : ∀ k, (x = .bl k) → (Q k H') → ItTest Q x H'
def tTest (t : TE) : TT := fun σ H Q => t σ H fun x H' => ItTest Q x H'
theorem pt_cmpR {op : CmpOp} {r : R2} (ho : OpR X (compareOp op) r) (ha : PE X a ta) (hb : PE X b tb) (hm : behindInMarks op b = false) : PT X (.Compare a [op] [b] pos) (tTest (tOp r ta tb)) := by
  intro pins s σ H Q I h
  refine wpAny_isTrue_Compare1 (thn (ha pins s σ H _ I h) fun v s1 ⟨x, H1, I1, r1, q1⟩ => thn (hb pins s1 σ H1 _ I1 q1) fun u s2 ⟨y, H2, I2, r2, q2⟩ =>
    thn (ho pins s2 σ H2 x y v u _ I2 r1 r2 q2) fun c s3 ⟨z, H3, I3, r3, k, e, q3⟩ => ?_) hm
  subst e
  cases r3
  exact wpAny_truthy_bool ⟨H3, I3, q3⟩
inductive ItChain (r' : R2) (tc : TE) (σ : St) (Q : VK) (y : V) (z : V) (H3 : Hp) : Prop
  | mk : ∀ k, (z = .bl k) → ((if k = true then tc σ H3 fun w' H4 => r' y w' H4 Q else Q (.bl false) H3)) → ItChain r' tc σ Q y z H3
def tChain (r r' : R2) (ta tb tc : TE) : TE := fun σ H Q => ta σ H fun x H1 => tb σ H1 fun y H2 => r x y H2 fun z H3 => ItChain r' tc σ Q y z H3
theorem pe_chain {op op' : CmpOp} {r r' : R2} (ho : OpR X (compareOp op) r) (ho' : OpR X (compareOp op') r') (ha : PE X a ta) (hb : PE X b tb) (hc : PE X c tc)
    (hm : lastMarks [op, op'] [b, c] = false := by with_unfolding_all rfl) : PE X (.Compare a [op, op'] [b, c] pos) (tChain r r' ta tb tc) := by
  intro pins s σ H Q I h
  refine Compare_chain (thn (ha pins s σ H _ I h) fun v s1 ⟨x, H1, I1, r1, q1⟩ => chain_link (thn (hb pins s1 σ H1 _ I1 q1) fun u s2 ⟨y, H2, I2, r2, q2⟩ =>
    thn (ho pins s2 σ H2 x y v u _ I2 r1 r2 q2) fun d s3 ⟨z, H3, I3, r3, k, e, q3⟩ => ?_)) hm
  subst e
  cases r3
  refine wpAny_truthy_bool ?_
  cases k with
  | false => exact ite_ff ⟨.bl false, H3, I3, rfl, q3⟩
  | true => exact ite_tt (chain_last (thn (hc pins s3 σ H3 _ I3 q3) fun w' s4 ⟨z', H4, I4, r4, q4⟩ => ho' pins s4 σ H4 y z' u w' Q I4 r2 r4 q4))
def TruV (K : PySem.W.Frag) (x : V) (H : Hp) (k : Bool) : Prop :=
  match x with
  | .non => k = false
  | .bl b => k = b
  | .int i => k = (i != 0)
  | .str y => y.length ≤ sizeLine ∧ k = ((y.length : Int) != 0)
  | .byt y => y.size ≤ sizeLine ∧ k = ((y.size : Int) != 0)
  | .ref p => (∃ xs, SqL K H p xs ∧ k = !xs.isEmpty) ∨ (∃ xs, SqT K H p xs ∧ k = !xs.isEmpty) ∨ ∃ kvs, H p = some (.dK kvs) ∧ k = !kvs.isEmpty
  | _ => False
theorem isEmpty_kv {κ : Type} {kvs : List (κ × V)} {vs : List (κ × Value)} (r : KV kvs vs) : (!vs.isEmpty) = !kvs.isEmpty := by
  cases r <;> rfl
theorem isEmpty_of {xs : List V} {its : List Value} (r : Vals xs its) : (!its.toArray.isEmpty) = !xs.isEmpty := by
  cases r <;> simp
theorem line63 : (sizeLine : Nat) < 2 ^ 63 := by rw [sizeLine_eq]; decide
theorem tru_ok : TruR X (fun x H Q => ∃ k, TruV X.K x H k ∧ Q k H) := by
  intro pins s σ H x v Q I rx h
  obtain ⟨k, e, q⟩ := h
  have hl := line63
  have hs : sizeLine = 16777216 := sizeLine_eq
  cases x with
  | non =>
    cases rx
    have e' : k = false := e
    subst e'
    exact truthy_none ⟨H, I, q⟩
  | bl b =>
    cases rx
    have e' : k = b := e
    subst e'
    exact wpAny_truthy_bool ⟨H, I, q⟩
  | int i =>
    obtain ⟨t, rfl⟩ := rx
    have e' : k = (i != 0) := e
    subst e'
    exact PySem.P.truthy_int ⟨H, I, q⟩
  | str y =>
    obtain ⟨t, rfl⟩ := rx
    obtain ⟨hy, e'⟩ : y.length ≤ sizeLine ∧ k = ((y.length : Int) != 0) := e
    subst e'
    exact PySem.P.truthy_str (by omega) ⟨H, I.tok _, q⟩
  | byt y =>
    obtain ⟨t, rfl⟩ := rx
    obtain ⟨hy, e'⟩ : y.size ≤ sizeLine ∧ k = ((y.size : Int) != 0) := e
    subst e'
    exact PySem.W.truthy_bytes (by omega) ⟨H, I.tok _, q⟩
  | ref p =>
    cases rx
    have e' : (∃ xs, SqL X.K H p xs ∧ k = !xs.isEmpty) ∨ (∃ xs, SqT X.K H p xs ∧ k = !xs.isEmpty) ∨ ∃ kvs, H p = some (.dK kvs) ∧ k = !kvs.isEmpty := e
    rcases e' with ⟨xs, hx, e'⟩ | ⟨xs, hx, e'⟩ | ⟨kvs, hx, e'⟩
    · subst e'
      obtain ⟨its, r, pl, hz⟩ := I.list hx
      have hlen := r.length
      exact wpAny_truthy_list pl.isList (by simp only [List.size_toArray]; omega) ⟨H, I.tok _, by rw [isEmpty_of r]; exact q⟩
    · subst e'
      obtain ⟨its, r, pl, hz⟩ := I.tuple hx
      have hlen := r.length
      exact truthy_tuple pl (by simp only [List.size_toArray]; omega) ⟨H, I.tok _, by rw [isEmpty_of r]; exact q⟩
    · subst e'
      obtain ⟨hz, hS, vs, r, m⟩ : kvs.length ≤ sizeLine ∧ (p == sysModules) = false ∧ ∃ vs, KV kvs vs ∧ s.heap.DictOf (mixKind X.prog X.w) p vs := I.hok p _ hx
      have hlen : kvs.length = vs.length := Paired.length r
      exact wpAny_truthy_dict hS m (by omega) ⟨H, I.tok _, by rw [isEmpty_kv r]; exact q⟩
  | _ => exact (show False from e).elim
theorem pt_truth (ha : PE X a ta) (he : ∀ whole, isTrue a X.env whole = (do let v ← whole; standAt a.pos; holding [v] (truthy v))) :
    PT X a (fun σ H Q => ta σ H fun x H' => ∃ k, TruV X.K x H' k ∧ Q k H') := by
  intro pins s σ H Q I h
  exact isTrue_plain (thn (ha pins s σ H _ I h) fun v s1 ⟨x, H1, I1, r1, q1⟩ => tru_ok pins s1 σ H1 x v Q I1 r1 q1) (he _)
theorem vals1 {x : V} {us : List Value} (r : Vals [x] us) : ∃ u, us = [u] ∧ RelV x u := by
  cases r with
  | cons r1 r2 => cases r2; exact ⟨_, rfl, r1⟩
theorem vals2 {x y : V} {us : List Value} (r : Vals [x, y] us) : ∃ u w', us = [u, w'] ∧ RelV x u ∧ RelV y w' := by
  cases r with
  | cons r1 r2 =>
    cases r2 with
    | cons r3 r4 => cases r4; exact ⟨_, _, rfl, r1, r3⟩
theorem call_int1 : CallR X (.type "int") (fun xs H Q => (∃ i, xs = [.int i] ∧ Q (.int i) H) ∨ ∃ k, xs = [.bl k] ∧ Q (.int (if k then 1 else 0)) H) := by
  intro pins s σ H xs us Q I r h
  rcases h with ⟨i, rfl, q⟩ | ⟨k, rfl, q⟩
  · obtain ⟨u, rfl, t, rfl⟩ := vals1 r
    exact call_int_int ⟨.int i, H, I, ⟨_, rfl⟩, q⟩
  · obtain ⟨u, rfl, r1⟩ := vals1 r
    cases r1
    exact call_int_bool ⟨.int (if k then 1 else 0), H, I.tok _, ⟨_, rfl⟩, q⟩
end
end L2
namespace L2
open PySem PySem.Spec PyProof.Rows
structure ObjM (h : Heap) (x dx C : Addr) (mA : Str → Option Value) : Prop where
  obj : h.get? x = some (PySem.W.instObj C dx)
  ns : h.Ns1 dx mA
  ne : dx ≠ x
theorem lookIn_ns {h : Heap} {dx : Addr} {mA : Str → Option Value} (n : h.Ns1 dx mA) : ∃ od, h.get? dx = some od ∧ ∀ name, PySem.W.lookIn name od = some (mA name) := by
  obtain ⟨o, es, ep, ho, hd, hk, _, hm⟩ := n
  refine ⟨o, ho, fun name => ?_⟩
  have e := hm name
  unfold nsFind findBy at e
  rw [← Array.find?_toList] at e
  unfold PySem.W.lookIn
  rw [hd]
  dsimp only
  split
  · rename_i y q
    rw [q] at e
    exact congrArg some e
  · rename_i q
    rw [q] at e
    have a : es.toList.any (·.refKey) = false := by
      rw [List.any_eq_false]
      intro y hy
      obtain ⟨z, t, hkey⟩ := hk y (Array.mem_toList_iff.mp hy)
      simp [DictEntry.refKey, hkey]
    have a' : ¬ es.toList.any (·.refKey) = true := by rw [a]; exact Bool.false_ne_true
    rw [if_neg a']
    exact congrArg some e
theorem ObjM.look {h : Heap} {x dx C : Addr} {mA : Str → Option Value} (I : ObjM h x dx C mA) : ∃ od, PySem.W.InstAt h x (PySem.W.instObj C dx) C (some od) ∧ ∀ name, PySem.W.lookIn name od = some (mA name) :=
  let ⟨od, ho, hl⟩ := lookIn_ns I.ns
  ⟨od, ⟨I.obj, rfl, rfl, ho⟩, hl⟩
section
variable {prog : Program} {w : World} {A : Around} {E : Value → Shared → Prop} {s : Shared} {K : PySem.W.Frag} {x dx C f : Addr} {mA : Str → Option Value} {name : Str} {v : Value}
theorem get_map {expr : Bool} {Q : Value → Shared → Prop} (X : K.In s.heap) (I : ObjM s.heap x dx C mA) (hg : PySem.W.plainGet K C name = true) (hh : PySem.W.hasDictIn K C = true)
    (ha : PySem.W.findIn K (.ref C) name = some none) (hv : mA name = some v) (hv' : PySem.W.handedIn v = true) (h : Q v { s with toks := s.toks + 1 }) :
    wpAny (model prog w) A (getAttr (.ref x) name expr) Q E s := by
  obtain ⟨od, J, hl⟩ := I.look
  exact PySem.W.get_value X J (PySem.W.plainGet_of hg).1 (PySem.W.findObj_own hh ha rfl (by rw [hl, hv])) hv' h
theorem get_meth {pl : Sem Bool} {Q : Value × List Value → Shared → Prop} (X : K.In s.heap) (I : ObjM s.heap x dx C mA) (hg : PySem.W.plainGet K C name = true)
    (hf : PySem.W.findIn K (.ref C) name = some (some (.ref f))) (ht : PySem.W.isFn K (.ref f) = true) (hv : mA name = none) (h : Q (.ref f, [.ref x]) s) :
    wpAny (model prog w) A (getMethod (.ref x) name pl) Q E s := by
  obtain ⟨od, J, hl⟩ := I.look
  exact PySem.W.method_fn X J (PySem.W.plainGet_of hg).1 (PySem.W.plainGet_of hg).2 hf (beq_iff_eq.mp ht) (by show (PySem.W.lookIn name od).map (·.isSome) = some false; rw [hl, hv]; rfl) h
theorem set_map {ns : List Str} {Q : Unit → Shared → Prop} (X : K.In s.heap) (I : ObjM s.heap x dx C mA)
    (hs : PySem.W.findIn K (.ref C) "__setattr__" = some (some (.builtin "object.__setattr__"))) (hp : PySem.W.plainOver K C = true) (ht : PySem.W.takerIn K C name = some none) (hh : PySem.W.hasDictIn K C = true)
    (hw : PySem.Within mA ns) (hsz : ns.length ≤ sizeLine)
    (h : ∀ h', ObjM h' x dx C (fun y => if y = name then some v else mA y) → Heap.SameBut dx s.heap h' → Q () { s with heap := h', toks := s.toks + 2 }) :
    wpAny (model prog w) A (setAttr (.ref x) name v) Q E s := by
  obtain ⟨od, J, hl⟩ := I.look
  refine PySem.W.set_plain X J hs (PySem.W.osa_open (s := { s with toks := s.toks + 1 }) (r := none) X J hp ht fun b => ?_)
  obtain ⟨cd, hc, hd'⟩ := PySem.W.any_some hh
  have hx : s.heap.get? x = some ⟨.ref C, some dx, .plain, #[]⟩ := I.obj
  refine wpAny_bind (wpAny_pure (wpAny_bind (wpAny_bind (wpAny_loadPart hx (wpAny_bind (PySem.W.Looks.here (s := { s with toks := s.toks + 1 }) (PySem.W.looks_clsIn X hc) ?_))))))
  rw [hd']
  refine wpAny_pure (a := some dx) (wpAny_bind (wpAny_pure (wpAny_bind ?_)))
  refine wpAny_nsSet1 (s := { s with toks := s.toks + 1 }) I.ns fun h' hn2 hs2 => ?_
  obtain ⟨oD, esD, epD, hoD, hdD, hcD⟩ := hn2.count (PySem.Within.cons name v hw)
  refine wpAny_bind (wpAny_lookBehind hoD (by rw [hdD]; exact pastItsLine_dict (Nat.le_trans hcD (by rw [List.length_cons]; omega))) ?_)
  exact wpAny_pure (h _ ⟨(hs2.2 _ (Ne.symm I.ne)).trans I.obj, hn2, I.ne⟩ hs2)
theorem make_map {R : Result → Shared → Prop} {vs : List Value} {kw : List (Str × Value)} (X : K.In s.heap) (hm : PySem.W.makesIn K C = true)
    (hi : PySem.W.findIn K (.ref C) "__init__" = some (some (.ref f))) (hf : PySem.W.typeIn K (.ref f) = some (.type "function"))
    (h : codeAny (model prog w) (A.under (.builtin "type.__call__" ⟨.ref C :: vs, kw⟩)) (.call (.ref f) ⟨.ref (s.heap.objs.size + 1) :: vs, kw⟩) (PySem.W.InitBack (s.heap.objs.size + 1) R)
      { s with heap := (s.heap.push PySem.W.emptyDict).push (PySem.W.instObj C s.heap.objs.size) }) :
    codeAny (model prog w) A (.call (.ref C) ⟨vs, kw⟩) R s := by
  obtain ⟨hh, g, d, t, os⟩ := s
  exact PySem.W.make_core (PySem.W.makes_of X hm) (PySem.W.looks_findIn X hi) (fun self => PySem.W.bind_fn X self hf) (.inl rfl) h
end
def putF (f : Str) (v : V) : List (Str × V) → List (Str × V)
  | [] => [(f, v)]
  | (g, x) :: r => if g = f then (g, v) :: r else (g, x) :: putF f v r
theorem lookup_putF (f g : Str) (v : V) : ∀ fs : List (Str × V), (putF f v fs).lookup g = if g = f then some v else fs.lookup g
  | [] => by
    show List.lookup g [(f, v)] = _
    by_cases h : g = f
    · have hb : (g == f) = true := beq_iff_eq.mpr h
      simp only [List.lookup, hb, if_pos h]
    · have hb : (g == f) = false := beq_eq_false_iff_ne.mpr h
      simp only [List.lookup, hb, if_neg h]
  | (k, x) :: r => by
    have ih := lookup_putF f g v r
    rw [show putF f v ((k, x) :: r) = (if k = f then (k, v) :: r else (k, x) :: putF f v r) from rfl]
    by_cases hk : k = f
    · rw [if_pos hk]
      by_cases h : g = k
      · have hb : (g == k) = true := beq_iff_eq.mpr h
        simp only [List.lookup, hb, if_pos (h.trans hk)]
      · have hb : (g == k) = false := beq_eq_false_iff_ne.mpr h
        simp only [List.lookup, hb, if_neg (fun e : g = f => h (e.trans hk.symm))]
    · rw [if_neg hk]
      by_cases h : g = k
      · have hb : (g == k) = true := beq_iff_eq.mpr h
        simp only [List.lookup, hb, if_neg (fun e : g = f => hk (h.symm.trans e))]
      · have hb : (g == k) = false := beq_eq_false_iff_ne.mpr h
        simp only [List.lookup, hb]
        exact ih
theorem keys_putF (f : Str) (v : V) : ∀ fs : List (Str × V), f ∈ (putF f v fs).map (·.1) ∧ ∀ g, g ∈ fs.map (·.1) → g ∈ (putF f v fs).map (·.1)
  | [] => ⟨by simp [putF], fun g h => by simp at h⟩
  | (k, x) :: r => by
    obtain ⟨i1, i2⟩ := keys_putF f v r
    rw [show putF f v ((k, x) :: r) = (if k = f then (k, v) :: r else (k, x) :: putF f v r) from rfl]
    by_cases hk : k = f
    · rw [if_pos hk]
      subst hk
      exact ⟨by simp, fun g h => by simpa using h⟩
    · rw [if_neg hk]
      refine ⟨?_, fun g h => ?_⟩
      · rw [List.map_cons]
        exact List.mem_cons_of_mem _ i1
      · rw [List.map_cons] at h ⊢
        rcases List.mem_cons.mp h with e | e
        · exact List.mem_cons.mpr (.inl e)
        · exact List.mem_cons_of_mem _ (i2 g e)
theorem length_putF (f : Str) (v : V) : ∀ fs : List (Str × V), (putF f v fs).length ≤ fs.length + 1
  | [] => by simp [putF]
  | (k, x) :: r => by
    have ih := length_putF f v r
    rw [show putF f v ((k, x) :: r) = (if k = f then (k, v) :: r else (k, x) :: putF f v r) from rfl]
    by_cases hk : k = f
    · rw [if_pos hk, List.length_cons, List.length_cons]; omega
    · rw [if_neg hk, List.length_cons, List.length_cons]; omega
theorem RelO.some_of {v : V} {o : Option Value} (r : RelO (some v) o) : ∃ u, o = some u ∧ RelV v u := by
  cases o with
  | none => exact (show False from r).elim
  | some u => exact ⟨u, rfl, r⟩
theorem RelO.none_of {o : Option Value} (r : RelO none o) : o = none := by
  cases o with
  | none => rfl
  | some u => exact (show False from r).elim
theorem handed_of {v : V} {u : Value} (r : RelV v u) : PySem.W.handedIn u = true := by
  cases v with
  | non => cases (show u = Value.none from r); rfl
  | bl b => cases (show u = Value.bool b from r); rfl
  | int i => obtain ⟨t, e⟩ := (show ∃ t, u = Value.int i t from r); cases e; rfl
  | str x => obtain ⟨t, e⟩ := (show ∃ t, u = Value.str x t from r); cases e; rfl
  | byt b => obtain ⟨t, e⟩ := (show ∃ t, u = Value.bytes b t from r); cases e; rfl
  | flt b => obtain ⟨t, e⟩ := (show ∃ t, u = Value.float b t from r); cases e; rfl
  | ref a => cases (show u = Value.ref a from r); rfl
  | ty n => cases (show u = Value.type n from r); rfl
section
variable {P : Program} {w : World} {H H' : Hp} {h h' : Heap} {a C dx : Addr} {fs fs' : List (Str × V)}
theorem ins_get (hok : HOk P w H h) (e : H a = some (.ins C dx fs)) : ∃ mA, ObjM h a dx C mA ∧ (∀ f, RelO (fs.lookup f) (mA f)) ∧ PySem.Within mA (fs.map (·.1)) ∧ fs.length ≤ 1000 ∧ H dx = some (.own a) := by
  obtain ⟨d, z, ne, ob, mA, n, r, q⟩ := (show ObjOk P w H h a (.ins C dx fs) from hok a _ e)
  exact ⟨mA, ⟨ob, n, ne⟩, r, q, z, d⟩
end
structure Cls (K : PySem.W.Frag) (C : Addr) : Prop where
  pg : PySem.W.plainGet K C Str.empty = true
  hd : PySem.W.hasDictIn K C = true
  po : PySem.W.plainOver K C = true
  sa : PySem.W.findIn K (.ref C) "__setattr__" = some (some (.builtin "object.__setattr__"))
theorem Cls.get {K : PySem.W.Frag} {C : Addr} (c : Cls K C) (f : Str) : PySem.W.plainGet K C f = true := c.pg
def NoAttr (K : PySem.W.Frag) (C : Addr) (f : Str) : Prop := PySem.W.findIn K (.ref C) f = some none
theorem NoAttr.taker {K : PySem.W.Frag} {C : Addr} {f : Str} (n : NoAttr K C f) : PySem.W.takerIn K C f = some none := by
  unfold PySem.W.takerIn
  rw [show PySem.W.findIn K (.ref C) f = some none from n]
  rfl
structure Meth (K : PySem.W.Frag) (C : Addr) (m : Str) (f : Addr) : Prop where
  at_ : PySem.W.findIn K (.ref C) m = some (some (.ref f))
  fn : PySem.W.isFn K (.ref f) = true
  kp : PySem.W.keepIn K (.ref f) = true
section
variable {X : Cx} {pins : List (Addr × Obj)} {σ : St} {H : Hp} {s : Shared} {a C dx : Addr} {fs : List (Str × V)} {f : Str} {v : V} {A : Around} {E : Value → Shared → Prop}
theorem getattr_ok {b : Bool} {Q : Value → Shared → Prop} (I : Inv X pins σ H s) (e : H a = some (.ins C dx fs)) (c : Cls X.K C) (n : NoAttr X.K C f) (l : fs.lookup f = some v)
    (h : ∀ u s', Inv X pins σ H s' → RelV v u → Q u s') : wpAny (model X.prog X.w) A (getAttr (.ref a) f b) Q E s := by
  obtain ⟨mA, O, r, _, _, _⟩ := ins_get I.hok e
  obtain ⟨u, hu, ru⟩ := RelO.some_of (v := v) (o := mA f) (by rw [← l]; exact r f)
  exact get_map I.kIn O (c.get f) c.hd n hu (handed_of ru) (h u _ (I.tok _) ru)
theorem getmeth_ok {m : Str} {g : Addr} {pl : Sem Bool} {Q : Value × List Value → Shared → Prop} (I : Inv X pins σ H s) (e : H a = some (.ins C dx fs)) (c : Cls X.K C) (k : Meth X.K C m g) (l : fs.lookup m = none)
    (h : Q (.ref g, [.ref a]) s) : wpAny (model X.prog X.w) A (getMethod (.ref a) m pl) Q E s := by
  obtain ⟨mA, O, r, _, _, _⟩ := ins_get I.hok e
  have hn : mA m = none := RelO.none_of (by rw [← l]; exact r m)
  exact get_meth I.kIn O (c.get m) k.at_ k.fn hn h
theorem setattr_ok {y : V} {u : Value} {Q : Unit → Shared → Prop} (I : Inv X pins σ H s) (e : H a = some (.ins C dx fs)) (c : Cls X.K C) (n : NoAttr X.K C f) (hl : fs.length < 1000) (ry : RelV y u)
    (h : ∀ s', Inv X pins σ (upd H a (.ins C dx (putF f y fs))) s' → Q () s') : wpAny (model X.prog X.w) A (setAttr (.ref a) f u) Q E s := by
  obtain ⟨mA, O, r, wi, _, ho⟩ := ins_get I.hok e
  have hz : (fs.map (·.1)).length ≤ sizeLine := by rw [List.length_map, sizeLine_eq]; omega
  refine set_map I.kIn O c.sa c.po n.taker c.hd wi hz fun h' O' sb => h _ ?_
  have hd : ∃ o, h'.get? dx = some o := let ⟨o, _, _, e', _⟩ := O'.ns; ⟨o, e'⟩
  refine I.write (x := a) (e := dx) (by rw [e]; exact True.intro) (.inr ho) (fun b q hb z => (sb.2 b hb).trans z) hd ?_
  refine ⟨by rw [upd_ne O.ne]; exact ho, ?_, O.ne, O'.obj, _, O'.ns, fun g => ?_, fun g hg => ?_⟩
  · have := length_putF f y fs; omega
  · show RelO ((putF f y fs).lookup g) (if g = f then some u else mA g)
    rw [lookup_putF]
    by_cases q : g = f
    · rw [if_pos q, if_pos q]; exact ry
    · rw [if_neg q, if_neg q]; exact r g
  · by_cases q : g = f
    · rw [q]; exact (keys_putF f y fs).1
    · refine (keys_putF f y fs).2 g (wi g fun z => hg ?_)
      show (if g = f then some u else mA g) = none
      rw [if_neg q]; exact z
theorem Inv.made (I : Inv X pins σ H s) : Inv X pins σ (upd (upd H s.heap.objs.size (.own (s.heap.objs.size + 1))) (s.heap.objs.size + 1) (.ins C s.heap.objs.size []))
    { s with heap := (s.heap.push PySem.W.emptyDict).push (PySem.W.instObj C s.heap.objs.size) } := by
  have e1 : (s.heap.push PySem.W.emptyDict).get? s.heap.objs.size = some PySem.W.emptyDict := Heap.get?_push_size s.heap rfl
  have e2 : ((s.heap.push PySem.W.emptyDict).push (PySem.W.instObj C s.heap.objs.size)).get? (s.heap.objs.size + 1) = some (PySem.W.instObj C s.heap.objs.size) := by
    have := Heap.get?_push_size (s.heap.push PySem.W.emptyDict) (o := PySem.W.instObj C s.heap.objs.size) rfl
    rwa [Heap.size_push] at this
  have e3 : (s.heap.push PySem.W.emptyDict).Ns s.heap.objs.size (fun _ => none) := ⟨PySem.W.emptyDict, #[], _, e1, rfl, (fun e he => absurd he (by simp)), fun _ => rfl⟩
  have I1 := I.laid (a := s.heap.objs.size) (o := .own (s.heap.objs.size + 1)) (h' := s.heap.push PySem.W.emptyDict) (t' := s.toks) (fun b u q => Heap.get?_push_of_some _ q) (Nat.le_refl _) ⟨_, e1⟩
  refine I1.laid (a := s.heap.objs.size + 1) (o := .ins C s.heap.objs.size []) (t' := s.toks) (fun b u q => Heap.get?_push_of_some _ q) (Nat.le_of_eq (Heap.size_push _ _)) ?_
  have ne : s.heap.objs.size ≠ s.heap.objs.size + 1 := Nat.ne_of_lt (Nat.lt_succ_self _)
  refine ⟨by rw [upd_ne ne, upd_same], Nat.zero_le _, ne, e2, fun _ => none, (Heap.Ns1.of_empty e3).at fun o q => Heap.get?_push_of_some _ q, fun _ => True.intro, fun y hy => absurd rfl hy⟩
theorem attr_of {prog : Program} {w : World} {env : Env} {e : Expr} {f : Str} {pos : Pos} {s : Shared} {Q : Value → Shared → Prop} (hb : attributeBase e f env (eval e env) = eval e env)
    (h : wpAny (model prog w) A (eval e env) (fun o s₁ => wpAny (model prog w) A (getAttr o f true) Q E s₁) E s) : wpAny (model prog w) A (eval (.Attribute e f pos) env) Q E s :=
  Attribute_any_ h (by rw [arm_eval_Attribute, hb])
end
inductive ItFld (K : PySem.W.Frag) (f : Str) (Q : VK) (x : V) (H1 : Hp) : Prop
  | mk : ∀ a C dx fs v, (x = .ref a) → (H1 a = some (.ins C dx fs)) → (Cls K C) → (NoAttr K C f) → (fs.lookup f = some v) → (Q v H1) → ItFld K f Q x H1
def tFld (K : PySem.W.Frag) (ta : TE) (f : Str) : TE := fun σ H Q => ta σ H fun x H1 => ItFld K f Q x H1
inductive IsFld (K : PySem.W.Frag) (f : Str) (D : Ends) (σ : St) (y : V) (x : V) (H2 : Hp) : Prop
  | mk : ∀ a C dx fs, (x = .ref a) → (H2 a = some (.ins C dx fs)) → (Cls K C) → (NoAttr K C f) → (fs.length < 1000) → (D.nx σ (upd H2 a (.ins C dx (putF f y fs)))) → IsFld K f D σ y x H2
def sFld (K : PySem.W.Frag) (ta tv : TE) (f : Str) : TS := fun D σ H => tv σ H fun y H1 => ta σ H1 fun x H2 => IsFld K f D σ y x H2
def InOp (X : Cx) (op : Operator) (rd : V → V → Hp → VK → Prop) : Prop :=
  ∀ (pins : List (Addr × Obj)) (s : Shared) (σ : St) (H : Hp) (x y : V) (u v : Value) (Q : VK), Inv X pins σ H s → RelV x u → RelV y v → rd x y H Q → wpAny (model X.prog X.w) X.A (inplaceOp op u v) (EP X pins σ Q) X.xe s
inductive IsFldAug (K : PySem.W.Frag) (tv : TE) (rd : V → V → Hp → VK → Prop) (f : Str) (D : Ends) (σ : St) (x : V) (H1 : Hp) : Prop
  | mk : ∀ a C dx fs v, (x = .ref a) → (H1 a = some (.ins C dx fs)) → (Cls K C) → (NoAttr K C f) → (fs.lookup f = some v) → (tv σ H1 fun y H2 => rd v y H2 fun z H3 => ∃ dx' fs', H3 a = some (.ins C dx' fs') ∧ fs'.length < 1000 ∧ D.nx σ (upd H3 a (.ins C dx' (putF f z fs')))) → IsFldAug K tv rd f D σ x H1
def sFldAug (K : PySem.W.Frag) (ta tv : TE) (rd : V → V → Hp → VK → Prop) (f : Str) : TS := fun D σ H => ta σ H fun x H1 => IsFldAug K tv rd f D σ x H1
section
variable {X : Cx} {o e value : Expr} {f : Str} {pos pos' tpos : Pos} {ta tv : TE}
theorem pe_fld (he : PE X e ta) (hb : attributeBase e f X.env (eval e X.env) = eval e X.env) : PE X (.Attribute e f pos) (tFld X.K ta f) := by
  intro pins s σ H Q I h
  refine attr_of hb (thn (he pins s σ H _ I h) fun u s1 ⟨x, H1, I1, rx, a, C, dx, fs, v, ex, ea, c, n, l, q⟩ => ?_)
  subst ex
  obtain rfl : u = Value.ref a := rx
  exact getattr_ok I1 ea c n l fun u' s2 I2 ru => ⟨v, H1, I2, ru, q⟩
theorem ps_fld (ha : PE X o ta) (hv : PE X value tv) (hs : swapsWith value (some (.Attribute o f pos')) pos.line X.env = pure false) : PS X (.Assign [.Attribute o f pos'] value pos) (sFld X.K ta tv f) := by
  intro pins s σ H D I h
  refine plainObj_wpAny_Assign_Attribute (thn (hv pins s σ H _ I h) fun u s1 ⟨y, H1, I1, ry, q⟩ => thn (ha pins s1 σ H1 _ I1 q) fun ov s2 ⟨x, H2, I2, rx, a, C, dx, fs, ex, ea, c, n, l, q2⟩ => ?_) hs
  subst ex
  obtain rfl : ov = Value.ref a := rx
  exact setattr_ok I2 ea c n l ry fun s3 I3 => ⟨σ, _, I3, q2⟩
theorem ps_fldaug {op : Operator} {rd : V → V → Hp → VK → Prop} (ha : PE X o ta) (hv : PE X value tv) (hop : InOp X op rd) : PS X (.AugAssign (.Attribute o f tpos) op value pos) (sFldAug X.K ta tv rd f) := by
  intro pins s σ H D I h
  refine wpAny_AugAssign_AttributeAny (thn (ha pins s σ H _ I h) fun ov s1 ⟨x, H1, I1, rx, a, C, dx, fs, v, ex, ea, c, n, l, q⟩ => ?_)
  subst ex
  obtain rfl : ov = Value.ref a := rx
  refine getattr_ok I1 ea c n l fun u s2 I2 ru => thn (hv pins s2 σ H1 _ I2 q) fun w3 s3 ⟨y, H2, I3, ry, q3⟩ => thn (hop pins s3 σ H2 v y u w3 _ I3 ru ry q3) fun w4 s4 ⟨z, H3, I4, rz, dx', fs', ea', l', q4⟩ => ?_
  exact setattr_ok I4 ea' c n l' rz fun s5 I5 => ⟨σ, _, I5, q4⟩
def rAdd : V → V → Hp → VK → Prop := fun x y H Q => ∃ i j, x = .int i ∧ y = .int j ∧ Q (.int (i + j)) H
theorem in_add : InOp X .Add rAdd := by
  rintro pins s σ H x y u v Q I rx ry ⟨i, j, rfl, rfl, q⟩
  obtain ⟨t, rfl⟩ := (show ∃ t, u = Value.int i t from rx)
  obtain ⟨t', rfl⟩ := (show ∃ t', v = Value.int j t' from ry)
  exact PyProof.Rows.iadd_int ⟨.int (i + j), H, I.tok _, ⟨_, rfl⟩, q⟩
end
section
variable {X : Cx} {pins : List (Addr × Obj)} {σ : St} {H : Hp} {s : Shared} {A : Around} {E : Value → Shared → Prop} {Q : Value → Shared → Prop} {c : Value} {b : Bool}
inductive TyOf (K : PySem.W.Frag) (H : Hp) : V → Value → Prop where
  | non : TyOf K H .non (.type "NoneType")
  | bl (x : Bool) : TyOf K H (.bl x) (.type "bool")
  | int (i : Int) : TyOf K H (.int i) (.type "int")
  | str (x : Str) : TyOf K H (.str x) (.type "str")
  | flt (x : UInt64) : TyOf K H (.flt x) (.type "float")
  | lst {a : Addr} {xs : List V} (e : H a = some (.lst xs)) : TyOf K H (.ref a) (.type "list")
  | frz {a : Addr} {o : Obj} {xs : List V} (e : H a = some (.frz o (.lst xs))) : TyOf K H (.ref a) (.type "list")
  | tup {a : Addr} {xs : List V} (e : H a = some (.tup xs)) : TyOf K H (.ref a) (.type "tuple")
  | dK {a : Addr} {kvs : List (Key × V)} (e : H a = some (.dK kvs)) : TyOf K H (.ref a) (.type "dict")
  | dT {a : Addr} {kvs : List (List Key × V)} (e : H a = some (.dT kvs)) : TyOf K H (.ref a) (.type "dict")
  | ins {a C dx : Addr} {fs : List (Str × V)} (e : H a = some (.ins C dx fs)) (cl : Cls K C) (ha : PySem.W.findIn K (.ref C) "__class__" = some (some (.builtin "object.__class__")))
      (hn : PySem.W.specialIn K (.builtin "object.__class__") "__get__" = some (some (.builtin "getset_descriptor.__get__"))) (htk : PySem.W.takesIn K (.builtin "object.__class__") = some true)
      (hm : PySem.W.mroIn K C (.type "object") = some true) : TyOf K H (.ref a) (.ref C)
theorem isinst_ok {x : V} {u t : Value} (I : Inv X pins σ H s) (rx : RelV x u) (ty : TyOf X.K H x t) (e : PySem.W.kitOne X.K t c = some b) (h : ∀ tk, Q (.bool b) { s with toks := tk }) :
    wpAny (model X.prog X.w) A (call (.builtin "isinstance") [u, c]) Q E s := by
  cases ty with
  | non => cases (show u = Value.none from rx); exact PySem.W.kia_one PySem.W.kitx_none I.kIn True.intro e (fun z => nomatch z) h
  | bl y => cases (show u = Value.bool y from rx); exact PySem.W.kia_one PySem.W.kitx_bool I.kIn True.intro e (fun z => nomatch z) h
  | int i => obtain ⟨t, q⟩ := (show ∃ t, u = Value.int i t from rx); cases q; exact PySem.W.kia_one PySem.W.kitx_int I.kIn True.intro e (fun z => nomatch z) h
  | str y => obtain ⟨t, q⟩ := (show ∃ t, u = Value.str y t from rx); cases q; exact PySem.W.kia_one PySem.W.kitx_str I.kIn True.intro e (fun z => nomatch z) h
  | flt y => obtain ⟨t, q⟩ := (show ∃ t, u = Value.float y t from rx); cases q; exact PySem.W.kia_one PySem.W.kitx_float I.kIn True.intro e (fun z => nomatch z) h
  | @lst a xs ea =>
    cases (show u = Value.ref a from rx)
    obtain ⟨_, _, n, _, h1⟩ := (show ObjOk X.prog X.w H s.heap a (.lst xs) from I.hok a _ ea)
    exact PySem.W.kia_one PySem.W.kitx_list I.kIn ⟨_, h1, rfl⟩ e (fun z => nomatch z) h
  | @frz a ob xs ea =>
    cases (show u = Value.ref a from rx)
    obtain ⟨_, _, _, n, _, h1⟩ := (show ObjOk X.prog X.w H s.heap a (.frz ob (.lst xs)) from I.hok a _ ea)
    exact PySem.W.kia_one PySem.W.kitx_list I.kIn ⟨_, h1, rfl⟩ e (fun z => nomatch z) h
  | @tup a xs ea =>
    cases (show u = Value.ref a from rx)
    obtain ⟨_, _, _, p⟩ := (show ObjOk X.prog X.w H s.heap a (.tup xs) from I.hok a _ ea)
    obtain ⟨o, h1, h2, _⟩ := p
    exact PySem.W.kia_one PySem.W.kitx_tuple I.kIn ⟨o, h1, h2⟩ e (fun z => nomatch z) h
  | @dK a kvs ea =>
    cases (show u = Value.ref a from rx)
    obtain ⟨_, _, vs, _, p⟩ := (show ObjOk X.prog X.w H s.heap a (.dK kvs) from I.hok a _ ea)
    obtain ⟨o, es, ep, h1, h2, _⟩ := p
    exact PySem.W.kia_one PySem.W.kitx_dict I.kIn ⟨o, h1, h2.1⟩ e (fun z => nomatch z) h
  | @dT a kvs ea =>
    cases (show u = Value.ref a from rx)
    obtain ⟨_, _, xs, _, o, es, ep, h1, h2, _⟩ := (show ObjOk X.prog X.w H s.heap a (.dT kvs) from I.hok a _ ea)
    exact PySem.W.kia_one PySem.W.kitx_dict I.kIn ⟨o, h1, h2.1⟩ e (fun z => nomatch z) h
  | @ins a C dx fs ea cl ha hn htk hm =>
    cases (show u = Value.ref a from rx)
    obtain ⟨mA, O, _⟩ := ins_get I.hok ea
    obtain ⟨od, J, _⟩ := O.look
    exact PySem.W.kia_one (PySem.W.kitx_own (cl.get _) cl.hd ha hn htk hm) I.kIn J e (fun z => nomatch z) h
end
end L2
namespace L2
open PySem PySem.Spec PyProof.Rows
structure Room (k : Nat) (A : Around) : Prop where
  hd : A.handled = none
  dp : A.depth + 3 * k + 5 < recursionLimit
  un : A.units + 16 * k + 200 < cLine
theorem Room.mono {j k : Nat} {A : Around} (r : Room k A) (h : j ≤ k) : Room j A := ⟨r.hd, by have := r.dp; omega, by have := r.un; omega⟩
theorem Room.deeper {k : Nat} {A : Around} (r : Room (k + 1) A) (env : Env) : Room k (A.deeper env) :=
  ⟨r.hd, by have := r.dp; show A.depth + 1 + 3 * k + 5 < _; omega, by have := r.un; show A.units + 3 + 16 * k + 200 < _; omega⟩
theorem make_depth {A : Around} {C : Addr} {us : List Value} {kw : List (Str × Value)} : (A.under (.builtin "type.__call__" ⟨.ref C :: us, kw⟩)).depth = A.depth + 1 := by
  first | rfl | simp [Around.under, Code.weight, Code.isCreation, Code.isGuard, Code.isCaller, Code.frames, Code.isFrame, guardIds]
theorem make_units {A : Around} {C : Addr} {us : List Value} {kw : List (Str × Value)} : (A.under (.builtin "type.__call__" ⟨.ref C :: us, kw⟩)).units = A.units + 1 := by
  first | rfl | simp [Around.under, Code.cUnits, Code.frames, Code.isFrame]
theorem Room.make {k : Nat} {A : Around} (r : Room (k + 1) A) (C : Addr) (us : List Value) (kw : List (Str × Value)) : Room k (A.under (.builtin "type.__call__" ⟨.ref C :: us, kw⟩)) :=
  ⟨r.hd, by have := r.dp; rw [make_depth]; omega, by have := r.un; rw [make_units]; omega⟩
theorem Room.depth {k : Nat} {A : Around} (r : Room k A) : A.depth < recursionLimit := by have := r.dp; omega
theorem Room.units {k : Nat} {A : Around} (r : Room k A) : A.units + 64 < cLine := by have := r.un; omega
theorem Room.units0 {k : Nat} {A : Around} (r : Room k A) : A.units < cLine := by have := r.un; omega
def tNil : TA := fun _ H Q => Q [] H
def tCons (ta : TE) (tr : TA) : TA := fun σ H Q => ta σ H fun x H1 => tr σ H1 fun xs H2 => Q (x :: xs) H2
section
variable {X : Cx} {e : Expr} {es : List Expr} {te : TE} {t : TA} {pos : Pos}
theorem pa_nil : PA X [] tNil := fun _ _ _ _ H Q I h => Calls.spliced_nil ⟨[], H, I, .nil, h⟩
theorem pa_cons (ha : PE X e te) (hr : PA X es t) (hs : starEach (e :: es) X.env = (false, eval e X.env) :: starEach es X.env := by rfl) : PA X (e :: es) (tCons te t) := by
  intro pos pins s σ H Q I h
  rw [hs]
  show wpAny _ _ (spliced ((false, eval e X.env) :: backTo pos (starEach es X.env))) _ _ s
  refine Calls.spliced_cons (thn (ha pins s σ H _ I h) fun u s1 ⟨x, H1, I1, r1, q1⟩ => ?_)
  exact thn (hr pos pins s1 σ H1 _ I1 q1) fun us s2 ⟨xs, H2, I2, r2, q2⟩ => ⟨x :: xs, H2, I2, .cons r1 r2, q2⟩
def tTup (t : TA) : TE := fun σ H Q => t σ H fun xs H1 => xs.length ≤ sizeLine ∧ ∀ p, H1 p = none → Q (.ref p) (upd H1 p (.tup xs))
def tLst (t : TA) : TE := fun σ H Q => t σ H fun xs H1 => xs.length ≤ sizeLine ∧ ∀ p, H1 p = none → Q (.ref p) (upd H1 p (.lst xs))
theorem pe_tup {x1} (h : PA X es t) : PE X (.Tuple es x1 pos) (tTup t) := by
  intro pins s σ H Q I hq
  refine wpAny_Tuple_spliced (thn (h pos pins s σ H _ I hq) fun us s1 ⟨xs, H1, I1, r, z, q⟩ => ⟨by rw [← r.length]; exact z, ?_⟩)
  have hf : H1 s1.heap.objs.size = none := I1.hok.fresh (Nat.le_refl _)
  refine ⟨.ref s1.heap.objs.size, upd H1 s1.heap.objs.size (.tup xs), I1.laid (t' := s1.toks) (fun b u e => Heap.get?_push_of_some _ e) (Nat.le_refl _) ?_, rfl, q _ hf⟩
  exact ⟨z, us, r, ⟨_, Heap.get?_push_size _ rfl, rfl, _, rfl⟩⟩
theorem pe_lst (h : PA X es t) : PE X (.List es pos) (tLst t) := by
  intro pins s σ H Q I hq
  refine wpAny_List_spliced (thn (h pos pins s σ H _ I hq) fun us s1 ⟨xs, H1, I1, r, z, q⟩ => ⟨by rw [← r.length]; exact z, ?_⟩)
  have hf : H1 s1.heap.objs.size = none := I1.hok.fresh (Nat.le_refl _)
  refine ⟨.ref s1.heap.objs.size, upd H1 s1.heap.objs.size (.lst xs), I1.laid (t' := s1.toks) (fun b u e => Heap.get?_push_of_some _ e) (Nat.le_refl _) ?_, rfl, q _ hf⟩
  exact ⟨z, us, 0, r, Heap.get?_push_size _ rfl⟩
end
abbrev Sp := List V → Hp → VK → XK → Prop
abbrev CXT := List Env → Hp → Shared → XK → Value → Shared → Prop
structure Env0 (P : Program) (w : World) (K : PySem.W.Frag) (mg : Str → Option Value) (base : Heap) (A : Around) (outer : List Env) (s : Shared) (H : Hp) : Prop where
  frames : A.frames = some outer
  mod : Mod K mg base
  bs : ∀ b o, base.get? b = some o → s.heap.get? b = some o ∧ H b = none
  bsz : base.objs.size ≤ s.heap.objs.size
  funs : s.heap.FunFrames base outer
  frf : ∀ b ∈ frs outer, H b = none
  hok : HOk P w H s.heap
  bare : AllBare s.gens
def CE (outer : List Env) (P : Program) (w : World) (H : Hp) (s : Shared) (Q : VK) (u : Value) (s' : Shared) : Prop :=
  ∃ v H', s'.os = s.os ∧ AllBare s'.gens ∧ Un (frs outer) [] H H' s.heap s'.heap ∧ HOk P w H' s'.heap ∧ RelV v u ∧ Q v H'
def CR (CX : CXT) (outer : List Env) (P : Program) (w : World) (H : Hp) (s : Shared) (Q : VK) (E : XK) (r : Result) (s' : Shared) : Prop :=
  match r with
  | .ok (.ret u) => CE outer P w H s Q u s'
  | .ok _ => False
  | .error e => CX outer H s E e s'
structure FnOk (P : Program) (w : World) (K : PySem.W.Frag) (mg : Str → Option Value) (base : Heap) (CX : CXT) (k : Nat) (f : Addr) (fd : FuncData) (ps : List Str) (sp : Sp) : Prop where
  len : ∀ vs H Q E, sp vs H Q E → vs.length = ps.length
  run : ∀ (A : Around) (outer : List Env) (s : Shared) (H : Hp) (args : Args) (us : List Value) (vs : List V) (Q : VK) (E : XK), Room k A → Env0 P w K mg base A outer s H → BindsTo s fd args (ps.zip us) → Vals vs us → sp vs H Q E →
    codeAny (model P w) A (.call (.ref f) args) (CR CX outer P w H s Q E) s
theorem Env0.make {P : Program} {w : World} {K : PySem.W.Frag} {mg : Str → Option Value} {base : Heap} {A : Around} {outer : List Env} {s : Shared} {H : Hp} (e : Env0 P w K mg base A outer s H) (C : Addr) (us : List Value) (kw : List (Str × Value)) :
    Env0 P w K mg base (A.under (.builtin "type.__call__" ⟨.ref C :: us, kw⟩)) outer s H := ⟨by first | exact e.frames | (simpa [Around.under, Code.envs, Code.isFrame, pushEnvs] using e.frames), e.mod, e.bs, e.bsz, e.funs, e.frf, e.hok, e.bare⟩
section
variable {X : Cx} {pins : List (Addr × Obj)} {σ : St} {H : Hp} {s s' : Shared}
theorem Inv.env0 (I : Inv X pins σ H s) : Env0 X.prog X.w X.K X.mg X.base X.A X.stack s H :=
  ⟨I.ok.frames, I.ok.mod, I.bs, Nat.le_trans I.ok.bsz I.sz, I.stack, I.stkFree, I.hok, I.bare⟩
theorem Inv.after {Q : VK} {u : Value} (I : Inv X pins σ H s) (h : CE X.stack X.prog X.w H s Q u s') : EP X pins σ Q u s' := by
  obtain ⟨v, H', os, bare, un, hok, r, q⟩ := h
  obtain ⟨hh, g, d, t, os'⟩ := s'
  obtain rfl : os' = s.os := os
  exact ⟨v, H', I.call (h' := hh) (g' := g) (d' := d) (t' := t) (ch := []) un hok bare (fun b z => absurd z (by simp)), r, q⟩
end
def tCall (sp : Sp) (dvs : List V) (E : XK) (t : TA) : TE := fun σ H Q => t σ H fun vs H1 => sp (vs ++ dvs) H1 Q E
inductive ItMeth (C : Addr) (m : Str) (sp : Sp) (dvs : List V) (E : XK) (t : TA) (σ : St) (Q : VK) (x : V) (H1 : Hp) : Prop
  | mk : ∀ a dx fs, (x = .ref a) → (H1 a = some (.ins C dx fs)) → (fs.lookup m = none) → (t σ H1 fun vs H2 => sp (x :: (vs ++ dvs)) H2 Q E) → ItMeth C m sp dvs E t σ Q x H1
def tMeth (C : Addr) (m : Str) (sp : Sp) (dvs : List V) (E : XK) (ta : TE) (t : TA) : TE := fun σ H Q => ta σ H fun x H1 => ItMeth C m sp dvs E t σ Q x H1
def tMake (C : Addr) (sp : Sp) (dvs : List V) (E : XK) (t : TA) : TE := fun σ H Q => t σ H fun vs H1 => ∀ x dx, H1 x = none → H1 dx = none → dx ≠ x →
  sp (.ref x :: (vs ++ dvs)) (upd (upd H1 dx (.own x)) x (.ins C dx [])) (fun v H2 => v = .non ∧ Q (.ref x) H2) E
def Binds (K : PySem.W.Frag) (fd : FuncData) (ps : List Str) (ds : List Value) : Prop :=
  ∀ (s : Shared) (us : List Value), K.In s.heap → (us ++ ds).length = ps.length → BindsTo s fd ⟨us, []⟩ (ps.zip (us ++ ds))
theorem Binds.all {K : PySem.W.Frag} {fd : FuncData} {ps : List Str} (h : ∀ us : List Value, us.length = ps.length → bindArgs fd ⟨us, []⟩ = pure (ps.zip us)) : Binds K fd ps [] := fun s us _ hl => by
  rw [List.append_nil] at hl ⊢
  exact .of_eq (h us hl)
def Passes (CX : CXT) (X : Cx) (E : XK) : Prop := ∀ (pins : List (Addr × Obj)) (σ : St) (H : Hp) (s : Shared) (e : Value) (s' : Shared), Inv X pins σ H s → CX X.stack H s E e s' → X.xe e s'
section
variable {X : Cx} {CX : CXT} {k : Nat} {f C : Addr} {fd : FuncData} {ps : List Str} {sp : Sp} {dvs : List V} {ds : List Value} {E : XK} {x m : Str} {p pos apos : Pos} {e o : Expr} {es : List Expr} {ta : TE} {t : TA}
theorem run_fn {pins : List (Addr × Obj)} {σ : St} {H : Hp} {s : Shared} {Q : VK} {us : List Value} {vs : List V} (F : FnOk X.prog X.w X.K X.mg X.base CX k f fd ps sp) (hr : Room k X.A) (hb : Binds X.K fd ps ds) (hd : Vals dvs ds) (hx : Passes CX X E)
    (I : Inv X pins σ H s) (r : Vals vs us) (h : sp (vs ++ dvs) H Q E) : wpAny (model X.prog X.w) X.A (call (.ref f) us) (EP X pins σ Q) X.xe s := by
  have r2 : Vals (vs ++ dvs) (us ++ ds) := r.append hd
  have hl : (us ++ ds).length = ps.length := by rw [← r2.length]; exact F.len _ _ _ _ h
  refine wpAny_call (codeAny_mono (F.run X.A X.stack s H ⟨us, []⟩ (us ++ ds) (vs ++ dvs) Q E hr I.env0 (hb s us I.kIn hl) r2 h) fun r s' hq => ?_)
  cases r with
  | error e => exact hx pins σ H s e s' I hq
  | ok fl =>
    cases fl with
    | ret u => exact I.after hq
    | next => exact False.elim hq
    | brk => exact False.elim hq
    | cont => exact False.elim hq
theorem pe_call (F : FnOk X.prog X.w X.K X.mg X.base CX k f fd ps sp) (hr : Room k X.A) (hg : Gl X x) (hm : X.mg x = some (.ref f)) (hk : PySem.W.keepIn X.K (.ref f) = true) (hb : Binds X.K fd ps ds) (hd : Vals dvs ds) (hx : Passes CX X E)
    (ha : PA X (e :: es) t) (hdb : (x == ("__debug__" : Str)) = false := by decide) (he : starEach (e :: es) X.env = (false, eval e X.env) :: starEach es X.env := by rfl) (hpl : (backTo pos (starEach es X.env)).any (·.1) = false := by rfl) :
    PE X (.Call (.Name x p) (e :: es) [] pos) (tCall sp dvs E t) := by
  intro pins s σ H Q I h
  refine wpAny_Call_Name_kw (ld_glob I hg hm ?_ hdb)
  refine PySem.W.callWith_K (h₀ := X.base) I.ok.mod.kin hk (thn (ha pos pins s σ H _ I h) fun us s1 ⟨vs, H1, I1, r, q⟩ => ⟨I1.kIn, ?_⟩) he hpl
  exact run_fn F hr hb hd hx I1 r q
theorem pe_call0 (F : FnOk X.prog X.w X.K X.mg X.base CX k f fd ps sp) (hr : Room k X.A) (hg : Gl X x) (hm : X.mg x = some (.ref f)) (hk : PySem.W.keepIn X.K (.ref f) = true) (hb : Binds X.K fd ps ds) (hd : Vals dvs ds) (hx : Passes CX X E)
    (hdb : (x == ("__debug__" : Str)) = false := by decide) : PE X (.Call (.Name x p) [] [] pos) (tCall sp dvs E tNil) := by
  intro pins s σ H Q I h
  refine wpAny_Call_Name_kw (ld_glob I hg hm ?_ hdb)
  exact PySem.W.callWith_K0 I.kIn hk (run_fn (us := []) F hr hb hd hx I .nil h)
theorem pe_meth {pl : Sem Bool} (he : PE X o ta) (c : Cls X.K C) (hm : Meth X.K C m f) (F : FnOk X.prog X.w X.K X.mg X.base CX k f fd ps sp) (hr : Room k X.A) (hb : Binds X.K fd ps ds) (hd : Vals dvs ds) (hx : Passes CX X E) (ha : PA X (e :: es) t)
    (hst : starEach (e :: es) X.env = (false, eval e X.env) :: starEach es X.env := by rfl) (hpl : (backTo pos (starEach es X.env)).any (·.1) = false := by rfl)
    (ht : eval (.Call (.Attribute o m apos) (e :: es) [] pos) X.env = (do
      let ov ← eval o X.env
      standAt apos.atName
      let (f, first) ← holding [ov] (getMethod ov m pl)
      callWith pos f first (backTo pos (starEach (e :: es) X.env)) (backToKw pos (keywordEach [] X.env))) := by rfl) :
    PE X (.Call (.Attribute o m apos) (e :: es) [] pos) (tMeth C m sp dvs E ta t) := by
  intro pins s σ H Q I h
  refine PySem.W.methodCall_KW (pl := pl) (thn (he pins s σ H _ I h) fun u s1 ⟨x, H1, I1, rx, a, dx, fs, ex, ea, l, q⟩ => ?_) ht
  subst ex
  obtain rfl : u = Value.ref a := rx
  refine getmeth_ok I1 ea c hm l ?_
  refine PySem.W.callWith_K (first := [.ref a]) (h₀ := X.base) I.ok.mod.kin hm.kp (thn (ha pos pins s1 σ H1 _ I1 q) fun us s2 ⟨vs, H2, I2, r, q2⟩ => ⟨I2.kIn, ?_⟩) hst hpl
  exact run_fn (us := .ref a :: us) (vs := .ref a :: vs) F hr hb hd hx I2 (.cons rfl r) q2
theorem pe_meth0 {pl : Sem Bool} (he : PE X o ta) (c : Cls X.K C) (hm : Meth X.K C m f) (F : FnOk X.prog X.w X.K X.mg X.base CX k f fd ps sp) (hr : Room k X.A) (hb : Binds X.K fd ps ds) (hd : Vals dvs ds) (hx : Passes CX X E)
    (ht : eval (.Call (.Attribute o m apos) [] [] pos) X.env = (do
      let ov ← eval o X.env
      standAt apos.atName
      let (f, first) ← holding [ov] (getMethod ov m pl)
      callWith pos f first (backTo pos (starEach [] X.env)) (backToKw pos (keywordEach [] X.env))) := by rfl) :
    PE X (.Call (.Attribute o m apos) [] [] pos) (tMeth C m sp dvs E ta tNil) := by
  intro pins s σ H Q I h
  refine PySem.W.methodCall_KW (pl := pl) (thn (he pins s σ H _ I h) fun u s1 ⟨x, H1, I1, rx, a, dx, fs, ex, ea, l, q⟩ => ?_) ht
  subst ex
  obtain rfl : u = Value.ref a := rx
  refine getmeth_ok I1 ea c hm l ?_
  exact PySem.W.callWith_K0 (first := [.ref a]) I1.kIn hm.kp (run_fn (us := [.ref a]) (vs := [.ref a]) F hr hb hd hx I1 (.cons rfl .nil) q)
structure Mk (K : PySem.W.Frag) (C f : Addr) : Prop where
  makes : PySem.W.makesIn K C = true
  init : PySem.W.findIn K (.ref C) "__init__" = some (some (.ref f))
  fn : PySem.W.isFn K (.ref f) = true
  kp : PySem.W.keepIn K (.ref C) = true
theorem run_make {pins : List (Addr × Obj)} {σ : St} {H : Hp} {s : Shared} {Q : VK} {us : List Value} {vs : List V} (M : Mk X.K C f) (F : FnOk X.prog X.w X.K X.mg X.base CX k f fd ps sp) (hr : Room (k + 1) X.A) (hb : Binds X.K fd ps ds) (hd : Vals dvs ds)
    (hx : Passes CX X E) (I : Inv X pins σ H s) (r : Vals vs us)
    (h : ∀ x dx, H x = none → H dx = none → dx ≠ x → sp (.ref x :: (vs ++ dvs)) (upd (upd H dx (.own x)) x (.ins C dx [])) (fun v H2 => v = .non ∧ Q (.ref x) H2) E) :
    wpAny (model X.prog X.w) X.A (call (.ref C) us) (EP X pins σ Q) X.xe s := by
  have hq := h (s.heap.objs.size + 1) s.heap.objs.size (I.hok.fresh (Nat.le_succ _)) (I.hok.fresh (Nat.le_refl _)) (Nat.ne_of_lt (Nat.lt_succ_self _))
  have I2 := Inv.made (C := C) I
  have r2 : Vals (V.ref (s.heap.objs.size + 1) :: (vs ++ dvs)) (Value.ref (s.heap.objs.size + 1) :: (us ++ ds)) := .cons rfl (r.append hd)
  have hl : (Value.ref (s.heap.objs.size + 1) :: us ++ ds).length = ps.length := by
    have e := r2.length
    rw [F.len _ _ _ _ hq] at e
    exact e.symm
  refine wpAny_call (make_map (f := f) I.kIn M.makes M.init (beq_iff_eq.mp M.fn) (codeAny_mono (F.run _ X.stack _ _ ⟨Value.ref (s.heap.objs.size + 1) :: us, []⟩ (Value.ref (s.heap.objs.size + 1) :: (us ++ ds)) _ _ E (hr.make C us [])
    (I2.env0.make C us []) (hb _ (Value.ref (s.heap.objs.size + 1) :: us) I2.kIn hl) r2 hq) fun r s' hq' => ?_))
  cases r with
  | error e => exact hx pins σ _ _ e s' I2 hq'
  | ok fl =>
    cases fl with
    | ret u =>
      obtain ⟨v, H', I3, rv, ev, q3⟩ := I2.after hq'
      subst ev
      exact ⟨rv, ⟨V.ref (s.heap.objs.size + 1), H', I3, rfl, q3⟩⟩
    | next => exact False.elim hq'
    | brk => exact False.elim hq'
    | cont => exact False.elim hq'
theorem pe_make0 (M : Mk X.K C f) (F : FnOk X.prog X.w X.K X.mg X.base CX k f fd ps sp) (hr : Room (k + 1) X.A) (hg : Gl X x) (hm : X.mg x = some (.ref C)) (hb : Binds X.K fd ps ds) (hd : Vals dvs ds) (hx : Passes CX X E)
    (hdb : (x == ("__debug__" : Str)) = false := by decide) : PE X (.Call (.Name x p) [] [] pos) (tMake C sp dvs E tNil) := by
  intro pins s σ H Q I h
  refine wpAny_Call_Name_kw (ld_glob I hg hm ?_ hdb)
  exact PySem.W.callWith_K0 I.kIn M.kp (run_make (us := []) M F hr hb hd hx I .nil h)
end
section
variable {X : Cx} {CX : CXT} {k : Nat} {f C : Addr} {fd : FuncData} {ps ks : List Str} {sp : Sp} {E : XK} {x m : Str} {p pos apos kpos : Pos} {e o : Expr} {es : List Expr} {kws : List Keyword} {te ta : TE} {t tk : TA} {nm : Option Str}
variable {g : List Value → List Value → List Value} {gV : List V → List V → List V}
end
structure FnScope (N P : List Str) (sc : Scope) : Prop where
  kind : sc.kind = .function
  co : sc.isCoroutine = false
  gen : sc.isGenerator = false
  nd : N.Nodup
  pre : N.take P.length = P
  par : ∀ x ∈ P, sc.names.lookup x = some .local ∨ sc.names.lookup x = some .cell
  nofree : ∀ y ∈ sc.names, y.2 ≠ .free
theorem bindL_out {kindOf : Str → Option NameKind} {x : Str} : ∀ {binds : List (Str × Value)} {m : Str → Option Value}, (∀ v, (x, v) ∉ binds) → bindL kindOf binds m x = m x
  | [], _, _ => rfl
  | (n, v) :: r, m, h => by
    unfold bindL
    rw [bindL_out fun w hw => h w (List.mem_cons_of_mem _ hw)]
    split
    · have : x ≠ n := by rintro rfl; exact h v List.mem_cons_self
      simp [this]
    · rfl
theorem bindC_out {kindOf : Str → Option NameKind} {x : Str} : ∀ {binds : List (Str × Value)} {m : Str → Option Value}, (∀ v, (x, v) ∉ binds) → bindC kindOf binds m x = m x
  | [], _, _ => rfl
  | (n, v) :: r, m, h => by
    unfold bindC
    rw [bindC_out fun w hw => h w (List.mem_cons_of_mem _ hw)]
    split
    · rfl
    · have : x ≠ n := by rintro rfl; exact h v List.mem_cons_self
      simp [this]
theorem bindL_get {kindOf : Str → Option NameKind} {x : Str} {v : Value} : ∀ {P : List Str} {vs : List Value} {i : Nat} {m : Str → Option Value}, P.Nodup → P[i]? = some x → vs[i]? = some v → kindOf x = some .local →
    bindL kindOf (P.zip vs) m x = some v
  | [], _, _, _, _, h, _, _ => by simp at h
  | _ :: _, [], _, _, _, _, h, _ => by simp at h
  | p :: P, w :: vs, 0, m, nd, h1, h2, hk => by
    simp at h1 h2; subst h1; subst h2
    show bindL kindOf ((p, w) :: P.zip vs) m p = _
    unfold bindL
    rw [bindL_out fun v hv => (List.nodup_cons.mp nd).1 (List.of_mem_zip hv).1, if_pos hk]
    simp
  | p :: P, w :: vs, i + 1, m, nd, h1, h2, hk => by
    show bindL kindOf ((p, w) :: P.zip vs) m x = _
    unfold bindL
    exact bindL_get (i := i) (List.nodup_cons.mp nd).2 (by simpa using h1) (by simpa using h2) hk
theorem bindC_get {kindOf : Str → Option NameKind} {x : Str} {v : Value} : ∀ {P : List Str} {vs : List Value} {i : Nat} {m : Str → Option Value}, P.Nodup → P[i]? = some x → vs[i]? = some v → kindOf x ≠ some .local →
    bindC kindOf (P.zip vs) m x = some v
  | [], _, _, _, _, h, _, _ => by simp at h
  | _ :: _, [], _, _, _, _, h, _ => by simp at h
  | p :: P, w :: vs, 0, m, nd, h1, h2, hk => by
    simp at h1 h2; subst h1; subst h2
    show bindC kindOf ((p, w) :: P.zip vs) m p = _
    unfold bindC
    rw [bindC_out fun v hv => (List.nodup_cons.mp nd).1 (List.of_mem_zip hv).1, if_neg hk]
    simp
  | p :: P, w :: vs, i + 1, m, nd, h1, h2, hk => by
    show bindC kindOf ((p, w) :: P.zip vs) m x = _
    unfold bindC
    exact bindC_get (i := i) (List.nodup_cons.mp nd).2 (by simpa using h1) (by simpa using h2) hk
def start (N : List Str) (vs : List V) : St := vs.map some ++ List.replicate (N.length - vs.length) none
def cxOf (CX : CXT) (P : Program) (w : World) (K : PySem.W.Frag) (mg : Str → Option Value) (base : Heap) (N : List Str) (qual : Str) (scope : Scope) (f : Addr) (cd : Value) (A : Around) (outer : List Env) (s : Shared) (H : Hp) (E : XK) : Cx where
  prog := P
  w := w
  K := K
  mg := mg
  base := base
  A := A.deeper (envOfC qual scope s.heap.objs.size f cd)
  N := N
  s₀ := s
  H₀ := H
  env := envOfC qual scope s.heap.objs.size f cd
  outer := outer
  stack := envOfC qual scope s.heap.objs.size f cd :: outer
  ex := []
  calm := true
  fn := fun _ => true
  pn := []
  xe := fun e s' => wpAny (model P w) (A.deeper (envOfC qual scope s.heap.objs.size f cd)) (leaving (envOfC qual scope s.heap.objs.size f cd) e) (fun _ s'' => CX outer H s E e s'') (fun e' s'' => CX outer H s E e' s'') s'
theorem cell_has {sc : Scope} {n : Nat} {x : Str} (h : sc.names.lookup x = some .cell) : ∃ c, (cellsFrom n sc.names []).lookup x = some c := by
  have q := PySem.W.cellsFrom_some sc.names n [] (.inl h)
  exact Option.isSome_iff_exists.mp q
theorem inv_start {CX : CXT} {P : Program} {w : World} {K : PySem.W.Frag} {mg : Str → Option Value} {base : Heap} {N ps : List Str} {qual : Str} {scope : Scope} {f : Addr} {cd : Value} {A : Around} {outer : List Env} {s s1 : Shared} {H : Hp} {E : XK} {us : List Value} {vs : List V}
    (S : FnScope N ps scope) (hd : A.handled = none) (e0 : Env0 P w K mg base A outer s H) (hl : vs.length = ps.length) (r : Vals vs us)
    (x : InCallC s s.heap.objs.size (bindL (envOfC qual scope s.heap.objs.size f cd).kindOf (ps.zip us) fun _ => none) (cellsFrom (s.heap.objs.size + 1) scope.names []) (bindC (envOfC qual scope s.heap.objs.size f cd).kindOf (ps.zip us) fun _ => none) s1) :
    Inv (cxOf CX P w K mg base N qual scope f cd A outer s H E) [] (start N vs) H s1 := by
  have hpl : ps.length ≤ N.length := by have := congrArg List.length S.pre; rw [List.length_take] at this; omega
  obtain ⟨h1, tk, rfl, hk⟩ := x.done
  have noA : ∀ b : Addr, b ∉ (cxOf CX P w K mg base N qual scope f cd A outer s H E).ex := fun b z => absurd (show b ∈ ([] : List Addr) from z) (by simp)
  refine ⟨⟨e0.mod, S.kind, rfl, rfl, Nat.le_refl _, fun y z c h1 h2 => ?_, fun y hy => ?_, fun y c _ h => ?_, fun _ => hd, Around.frames_deeper e0.frames, .inr ⟨rfl, rfl⟩, fun b z => absurd z (noA b), e0.bs, e0.bsz, fun b _ _ => noA b, fun b z => absurd z (noA b), e0.funs, e0.frf⟩,
    rfl, e0.bare, Un.kept hk, ⟨_, x.toInCall.ns, fun i y v h1 h2 h3 => ?_⟩, fun y c h => ⟨_, x.cell y c h⟩, e0.hok.fresh (Nat.le_refl _), fun y c h => ?_, fun p hp => absurd (show p ∈ ([] : List (Addr × Obj)) from hp) (by simp), e0.hok.kept hk, ?_⟩
  · exact name_of_addr x.apart (PySem.mem_of_lookup h1) (PySem.mem_of_lookup h2)
  · have hy : scope.names.lookup y = some .cell ∨ scope.names.lookup y = some .free := hy
    rcases hy with hy | hy
    · exact cell_has hy
    · exact absurd rfl (S.nofree _ (PySem.mem_of_lookup hy))
  · exact Nat.le_of_lt (x.above y c (PySem.mem_of_lookup h))
  · have hi : i < vs.length := by
      unfold start at h2
      by_cases hi : i < vs.length
      · exact hi
      · rw [List.getElem?_append_right (by simpa using hi)] at h2
        rw [List.getElem?_replicate] at h2
        split at h2 <;> cases h2
    have ha : vs[i]? = some v := by
      unfold start at h2
      rw [List.getElem?_append_left (by simpa using hi), List.getElem?_map] at h2
      cases e : vs[i]? with
      | none => rw [e] at h2; cases h2
      | some a => rw [e] at h2; cases h2; rfl
    obtain ⟨u, hu, rv⟩ := r.get ha
    have hp : ps[i]? = some y := by
      rw [← S.pre, List.getElem?_take_of_lt (by omega)]; exact h1
    have ndP : ps.Nodup := by rw [← S.pre]; exact S.nd.sublist (List.take_sublist _ _)
    refine ⟨u, rv, ?_⟩
    rcases S.par y (List.mem_of_getElem? hp) with k | k
    · exact .inl ⟨k, bindL_get ndP hp hu k⟩
    · obtain ⟨c, e⟩ := cell_has (n := s.heap.objs.size + 1) k
      refine .inr ⟨.inl k, c, e, ?_⟩
      have q := x.cell y c e
      rw [bindC_get ndP hp hu (by show scope.names.lookup y ≠ _; rw [k]; decide)] at q
      exact q
  · exact e0.hok.fresh (Nat.le_of_lt (x.above y c (PySem.mem_of_lookup h)))
  · unfold start
    show _ = N.length
    rw [List.length_append, List.length_map, List.length_replicate]
    omega
theorem fn_of {CX : CXT} {P : Program} {w : World} {K : PySem.W.Frag} {mg : Str → Option Value} {base : Heap} {k : Nat} {f : Addr} {name qual : Str} {params : Arguments} {body : List Stmt} {scope : Scope} {dV kV doc pm cdv ct oc : Value} {an od : Option Addr}
    {osl : Array (Option Value)} {N ps : List Str} {sp : Sp} (lk : K.lookup f = some ⟨oc, od, .func (PySem.W.fnOf name qual params body scope dV kV doc pm an cdv ct), osl⟩) (hcd : PySem.W.codeIn K cdv qual = true) (S : FnScope N ps scope)
    (len : ∀ vs H Q E, sp vs H Q E → vs.length = ps.length)
    (hbody : ∀ (A : Around) (outer : List Env) (s : Shared) (H : Hp) (vs : List V) (Q : VK) (E : XK), Room k (A.deeper (envOfC qual scope s.heap.objs.size f cdv)) → sp vs H Q E →
      ∃ t, PSs (cxOf CX P w K mg base N qual scope f cdv A outer s H E) body t ∧ t { nx := fun _ H' => Q .non H', rt := Q } (start N vs) H) :
    FnOk P w K mg base CX (k + 1) f (PySem.W.fnOf name qual params body scope dV kV doc pm an cdv ct) ps sp := by
  refine ⟨len, fun A outer s H args us vs Q E hr e0 hb r hsp => ?_⟩
  have hl := len _ _ _ _ hsp
  have KX : K.In s.heap := e0.mod.kin.keeps fun b o e => (e0.bs b o e).1
  have lim : s.heap.NoLimit := e0.mod.nolimit.keeps fun b o e => (e0.bs b o e).1
  have hkind : ∀ y ∈ ps.zip us, scope.names.lookup y.1 = some .local ∨ (scope.names.lookup y.1 = some .cell ∧ ((cellsFrom (s.heap.objs.size + 1) scope.names []).lookup y.1).isSome = true) := fun ⟨n, v⟩ hy => by
    rcases S.par n (List.of_mem_zip hy).1 with q | q
    · exact .inl q
    · exact .inr ⟨q, PySem.W.cellsFrom_some _ _ _ (.inl q)⟩
  refine codeAny_call_function hr.depth (KX _ _ lk) rfl S.co S.gen rfl (PySem.W.codeRec_of KX hcd) (hb _ _ _ _ ?_)
  refine wpAny_newFunctionEnv_cells S.kind hkind fun env he s1 x => ?_
  subst he
  refine ⟨lim.keeps x.toInCall.keep, codeAny_func ?_⟩
  obtain ⟨t, ht, hq⟩ := hbody A outer s H vs Q E (hr.deeper _) hsp
  have I : Inv (cxOf CX P w K mg base N qual scope f cdv A outer s H E) [] (start N vs) H s1 := inv_start S hr.hd e0 hl r x
  refine wpAny_mono (ht [] s1 (start N vs) H _ I hq) (fun fl s' hs => ?_) fun e s' hs => hs
  have fin : ∀ {σ' : St} {H' : Hp} {v : V} {u : Value}, Inv (cxOf CX P w K mg base N qual scope f cdv A outer s H E) [] σ' H' s' → RelV v u → Q v H' → CE outer P w H s Q u s' :=
    fun {σ' H' v u} J rv q => ⟨v, H', J.os, J.bare, J.base, J.hok, rv, q⟩
  cases fl with
  | ret u =>
    obtain ⟨v, σ', H', J, rv, q⟩ := hs
    exact fin J rv q
  | next =>
    obtain ⟨σ', H', J, q⟩ := hs
    exact fin (v := V.non) (u := Value.none) J rfl q
  | brk =>
    obtain ⟨_, _, _, q⟩ := hs
    exact False.elim q
  | cont =>
    obtain ⟨_, _, _, q⟩ := hs
    exact False.elim q
end L2
namespace L2
open PySem PySem.Spec PyProof.Rows
section
variable {X : Cx} {x : Str} {p pos : Pos} {e : Expr} {es : List Expr} {t : TA} {id T : String} {r : List V → Hp → VK → Prop}
def tCB (r : List V → Hp → VK → Prop) (t : TA) : TE := fun σ H Q => t σ H fun vs H1 => r vs H1 Q
theorem pe_callB (hc : CallR X (.builtin id) r) (hg : Gl X x) (hm : X.mg x = none) (hv : bootBuiltins x = some (.builtin id)) (ha : PA X (e :: es) t) (hn : x ≠ "__name__" := by decide) (hdb : (x == ("__debug__" : Str)) = false := by decide)
    (he : starEach (e :: es) X.env = (false, eval e X.env) :: starEach es X.env := by rfl) (hpl : (backTo pos (starEach es X.env)).any (·.1) = false := by rfl) : PE X (.Call (.Name x p) (e :: es) [] pos) (tCB r t) := by
  intro pins s σ H Q I h
  refine wpAny_Call_Name_kw (ld_blt I hg hm hv ?_ hn hdb)
  exact PyProof.Rows.callWith_builtin1 (thn (ha pos pins s σ H _ I h) fun us s1 ⟨vs, H1, I1, r1, q1⟩ => hc pins s1 σ H1 vs us Q I1 r1 q1) he hpl
theorem pe_callTy (hc : CallR X (.type T) r) (hg : Gl X x) (hm : X.mg x = none) (hv : bootBuiltins x = some (.type T)) (ha : PA X (e :: es) t) (hn : x ≠ "__name__" := by decide) (hdb : (x == ("__debug__" : Str)) = false := by decide)
    (he : starEach (e :: es) X.env = (false, eval e X.env) :: starEach es X.env := by rfl) (hpl : (backTo pos (starEach es X.env)).any (·.1) = false := by rfl) : PE X (.Call (.Name x p) (e :: es) [] pos) (tCB r t) := by
  intro pins s σ H Q I h
  refine wpAny_Call_Name_kw (ld_blt I hg hm hv ?_ hn hdb)
  exact PyProof.Rows.callWith_type1 (thn (ha pos pins s σ H _ I h) fun us s1 ⟨vs, H1, I1, r1, q1⟩ => hc pins s1 σ H1 vs us Q I1 r1 q1) he hpl
end
end L2
namespace HT
open PySem PyProof.Rows
def lexLt : List Int → List Int → Bool
  | [], [] => false
  | [], _ :: _ => true
  | _ :: _, [] => false
  | x :: xs, y :: ys => if x = y then lexLt xs ys else decide (x < y)
theorem lexLt_cons (x y : Int) (xs ys : List Int) : lexLt (x :: xs) (y :: ys) = if x = y then lexLt xs ys else decide (x < y) := rfl
theorem lexLt_nil_nil : lexLt [] [] = false := rfl
theorem lexLt_nil_cons (y : Int) (ys : List Int) : lexLt [] (y :: ys) = true := rfl
theorem lexLt_cons_nil (x : Int) (xs : List Int) : lexLt (x :: xs) [] = false := rfl
theorem eqAt_int (A : Around) (s : Shared) (a : Int) (t : Tok) (c : Int) (u : Tok) : ∃ e, SeqAt.EqAt A s (.int a t) (.int c u) e ∧ (e = true ↔ a = c) :=
  ⟨(a == c), SeqAt.EqAt.int_int a t c u, by simp⟩
theorem rcLt_int (A : Around) (s : Shared) (a : Int) (t : Tok) (c : Int) (u : Tok) (prog : Program) (w : World) (E : Value → Shared → Prop) (Q : Value → Shared → Prop) (h : Q (.bool (decide (a < c))) s) :
    wpAny (model prog w) A (richCompare .Lt (.int a t) (.int c u)) Q E s :=
  (PyProof.Rows.lt_int h : wpAny (model prog w) A (compareOp .Lt (.int a t) (.int c u)) Q E s)
section
open PySem.SeqAt
open PySem.AutoSeq1 (wpAny_loadPart')
open PySem.MeetsSeq PySem.MeetsSeq2 PySem.MeetsSeq3
theorem tuple_lt_ints (l b : Addr) (items items2 : Array Value) (n n2 : Nat) (dd dd2 : Option Addr) (sl sl2 : Array (Option Value)) (ns ms : List Int) (hi : IntsAre items.toList ns) (hj : IntsAre items2.toList ms) :
    Meets (Builtin.«tuple.__lt__» ⟨[.ref l, .ref b], []⟩)
      (fun _ R s => s.heap.get? l = some { cls := .type "tuple", dict := dd, data := .seq items n, slots := sl } ∧ s.heap.get? b = some { cls := .type "tuple", dict := dd2, data := .seq items2 n2, slots := sl2 } ∧
        R (.ok (.ret (.bool (lexLt ns ms)))) s) :=
  .of_wp fun prog w A R s h => by
    obtain ⟨hp, g, d, tk, os⟩ := s; obtain ⟨hl, hb, h⟩ := h
    have f2 := AutoSeq1.sub_tuple_tuple
    have z1 : items.size = ns.length := by rw [← hi.length]; simp
    have z2 : items2.size = ms.length := by rw [← hj.length]; simp
    wp_walk using wpAny_loadPart' hl, wpAny_loadPart' hb, wpAny_forIn_list _ (fun rest b s' => b.1 = none ∧ s' = ⟨hp, g, d, tk, os⟩ ∧ ∃ (vs ws : List Value) (ns' ms' : List Int), rest = vs.zip ws ∧
      IntsAre vs ns' ∧ IntsAre ws ms' ∧ ns'.length + items2.size = ms'.length + items.size ∧ R (.ok (.ret (.bool (lexLt ns' ms')))) ⟨hp, g, d, tk, os⟩) _
    case turn =>
      rintro ⟨y, x⟩ rest b s' ⟨hb', rfl, vs, ws, ns', ms', hz, hvi, hwi, hlen, hR⟩
      cases hvi with
      | nil => rw [List.zip_nil_left] at hz; cases hz
      | cons a t hvi' =>
        cases hwi with
        | nil => rw [List.zip_nil_right] at hz; cases hz
        | cons c u hwi' =>
          rw [List.zip_cons_cons] at hz
          injection hz with hyx hrest
          injection hyx with hy hx
          subst hy hx
          rw [lexLt_cons] at hR
          simp only [List.length_cons] at hlen
          obtain ⟨e, he, hiff⟩ := eqAt_int A.in1 ⟨hp, g, d, tk, os⟩ a t c u
          refine wpAny_bind (he prog w _ _ ?_)
          cases e with
          | true =>
            rw [if_pos (hiff.mp rfl)] at hR
            wp_walk
            exact ⟨rfl, rfl, _, _, _, _, hrest, hvi', hwi', by omega, hR⟩
          | false =>
            rw [if_neg (fun q => absurd (hiff.mpr q) Bool.false_ne_true)] at hR
            have hri := rcLt_int A.in1 ⟨hp, g, d, tk, os⟩ a t c u prog w
            wp_walk using hri
            exact ⟨_, rfl, by simpa using hR⟩
    case fin =>
      rintro ⟨b1, b2⟩ s' ⟨hb', rfl, vs, ws, ns', ms', hz, hvi, hwi, hlen, hR⟩
      simp only at hb'
      subst hb'
      have hv : lexLt ns' ms' = decide (items.size < items2.size) := by
        cases hvi with
        | nil =>
          cases hwi with
          | nil =>
            simp only [List.length_nil] at hlen
            rw [lexLt_nil_nil]
            exact (decide_eq_false (by omega)).symm
          | cons c u hw =>
            simp only [List.length_nil, List.length_cons] at hlen
            rw [lexLt_nil_cons]
            exact (decide_eq_true (by omega)).symm
        | cons a t hv =>
          cases hwi with
          | nil =>
            simp only [List.length_nil, List.length_cons] at hlen
            rw [lexLt_cons_nil]
            exact (decide_eq_false (by omega)).symm
          | cons c u hw =>
            rw [List.zip_cons_cons] at hz
            cases hz
      rw [hv] at hR
      wp_walk
      exact ⟨_, rfl, by simpa [Builtin.Tuple.tupleCompareSizes] using hR⟩
    case h =>
      exact ⟨rfl, rfl, items.toList, items2.toList, ns, ms, rfl, hi, hj, by omega, h⟩
end
section
variable {prog : Program} {w : World} {A : Around} {E : Value → Shared → Prop} {s : Shared}
theorem lt_tupInts {l b : Addr} {items items2 : Array Value} {ns ms : List Int} {Q : Value → Shared → Prop} (hl : IsTup s.heap l items) (hb : IsTup s.heap b items2) (hi : IntsAre items.toList ns) (hj : IntsAre items2.toList ms)
    (hu : A.units < cLine) (h : Q (.bool (lexLt ns ms)) s) : wpAny (model prog w) A (compareOp .Lt (.ref l) (.ref b)) Q E s := by
  obtain ⟨⟨cls, dd, data, sl⟩, ho, hc, n, hd⟩ := id hl
  obtain ⟨⟨cls2, dd2, data2, sl2⟩, ho2, hc2, n2, hd2⟩ := id hb
  simp only at hc hd hc2 hd2
  subst hc hd hc2 hd2
  exact richCompare_meets_room (op := .Lt) ⟨_, ho, rfl⟩ ⟨_, ho2, rfl⟩ PySem.F.slot_tuple_lt PySem.F.entry_tuple_lt (PySem.F.args_tuple_lt_2 _ _) (tuple_lt_ints l b items items2 n n2 dd dd2 sl sl2 ns ms hi hj)
    ⟨ho, ho2, show Value.bool (lexLt ns ms) ≠ Value.notImplemented ∧ Q (.bool (lexLt ns ms)) s from ⟨(fun x => nomatch x), h⟩⟩ hu
def sIx (n d : Nat) : Option Int → Nat
  | none => d
  | some v => if v < 0 then (v + (n : Int)).toNat else min v.toNat n
theorem sIx_none (n d : Nat) : sIx n d none = d := rfl
theorem sIx_nat (n d k : Nat) : sIx n d (some (k : Int)) = min k n := by
  show (if (k : Int) < 0 then ((k : Int) + (n : Int)).toNat else min (k : Int).toNat n) = min k n
  rw [if_neg (by omega), Int.toNat_natCast]
theorem sIx_le (n d : Nat) (hd : d ≤ n) (o : Option Int) : sIx n d o ≤ n := by
  cases o with
  | none => exact hd
  | some v =>
    show (if v < 0 then (v + (n : Int)).toNat else min v.toNat n) ≤ n
    by_cases hv : v < 0
    · rw [if_pos hv]; omega
    · rw [if_neg hv]; exact Nat.min_le_right _ _
theorem clip_eq (v : Int) (n d : Nat) : (if v < 0 then max (v + (n : Int)) 0 else min v (n : Int)) = ((sIx n d (some v) : Nat) : Int) := by
  show (if v < 0 then max (v + (n : Int)) 0 else min v (n : Int)) = (((if v < 0 then (v + (n : Int)).toNat else min v.toNat n) : Nat) : Int)
  by_cases hv : v < 0
  · simp only [if_pos hv]; omega
  · simp only [if_neg hv]; omega
theorem adjust_gen (lo hi : Option Int) (n : Nat) : Builtin.Slice.sliceAdjust lo hi 1 (n : Int) = (((sIx n 0 lo : Nat) : Int), ((sIx n n hi : Nat) : Int)) := by
  have h1 : ¬ ((1 : Int) < 0) := by omega
  unfold Builtin.Slice.sliceAdjust
  simp only [h1, if_false]
  refine Prod.ext ?_ ?_
  · cases lo with
    | none => rfl
    | some v => exact clip_eq v n 0
  · cases hi with
    | none => rfl
    | some v => exact clip_eq v n n
theorem places_gen (i j : Nat) : Builtin.Slice.slicePlaces (i : Int) (j : Int) 1 = j - i := by
  unfold Builtin.Slice.slicePlaces
  have h1 : (1 : Int) > 0 := by omega
  simp only [h1, if_true, Int.ediv_one]
  split <;> omega
theorem slicePart_ {v : Value} {o : Option Int} {Q : Option Int → Shared → Prop} (p : IsPart v o) (h : Q o s) : wpAny (model prog w) A (Builtin.Slice.slicePartIndex v) Q E s := by
  cases p with
  | none => exact slicePart_none h
  | int i t => exact slicePart_int h
theorem sliceApplied_gen {sl : Addr} {vl vu : Value} {lo hi : Option Int} {n : Nat} {Q : Int × Int × Nat → Shared → Prop} (hs : s.heap.IsSliceOf sl vl vu .none) (pl : IsPart vl lo) (pu : IsPart vu hi)
    (h : Q (((sIx n 0 lo : Nat) : Int), 1, sIx n n hi - sIx n 0 lo) s) : wpAny (model prog w) A (Builtin.Slice.sliceApplied (.ref sl) (pure (n : Int))) Q E s := by
  obtain ⟨os, hos, hcs, hds⟩ := id hs
  unfold Builtin.Slice.sliceApplied Builtin.Slice.sliceFields
  refine wpAny_bind (wpAny_bind (wpAny_field hos hds (x := vl) rfl (wpAny_bind (wpAny_field hos hds (x := vu) rfl (wpAny_bind (wpAny_field hos hds (x := .none) rfl (wpAny_pure ?_)))))))
  refine wpAny_bind (slicePart_none ?_)
  show wpAny _ _ (if ((1 : Int) == 0) = true then _ else _) _ _ s
  rw [if_neg (by decide)]
  refine wpAny_bind (slicePart_ pl (wpAny_bind (slicePart_ pu (wpAny_bind (wpAny_pure ?_)))))
  show wpAny _ _ (match Builtin.Slice.sliceAdjust lo hi 1 (n : Int) with | (lo, hi) => pure (lo, (1 : Int), Builtin.Slice.slicePlaces lo hi 1)) _ _ s
  rw [adjust_gen lo hi n]
  show wpAny _ _ (pure (((sIx n 0 lo : Nat) : Int), (1 : Int), Builtin.Slice.slicePlaces ((sIx n 0 lo : Nat) : Int) ((sIx n n hi : Nat) : Int) 1)) _ _ s
  rw [places_gen]
  exact wpAny_pure h
theorem pick_gen (xs : Array Value) (i k : Nat) : ((List.range k).filterMap fun (m : Nat) => xs[((i : Int) + (m : Int) * 1).toNat]?).toArray = ((xs.toList.drop i).take k).toArray := by
  have e : (fun (m : Nat) => xs[((i : Int) + (m : Int) * 1).toNat]?) = fun m => xs[i + m]? := by
    funext m
    have : ((i : Int) + (m : Int) * 1).toNat = i + m := by omega
    rw [this]
  rw [e]
  have := pick_run xs i k
  rw [List.filterMap_map] at this
  have e2 : ((fun x => xs[x]?) ∘ fun x => i + x) = fun m => xs[i + m]? := rfl
  rw [e2] at this
  rw [this]
theorem getItem_tuple_cut {t sl : Addr} {items : Array Value} {vl vu : Value} {lo hi : Option Int} {Q : Value → Shared → Prop} (ht : IsTup s.heap t items) (hs : s.heap.IsSliceOf sl vl vu .none) (pl : IsPart vl lo) (pu : IsPart vu hi)
    (hw : ¬ (sIx items.size 0 lo = 0 ∧ sIx items.size items.size hi = items.size))
    (h : Q (.ref s.heap.objs.size) { s with heap := s.heap.push { cls := .type "tuple", data := .seq ((items.toList.drop (sIx items.size 0 lo)).take (sIx items.size items.size hi - sIx items.size 0 lo)).toArray } })
    (hsz : items.size ≤ sizeLine) : wpAny (model prog w) A (getItem (.ref t) (.ref sl)) Q E s := by
  have htake : sizeOk (.seq ((items.toList.drop (sIx items.size 0 lo)).take (sIx items.size items.size hi - sIx items.size 0 lo)).toArray) := by
    show ((items.toList.drop (sIx items.size 0 lo)).take (sIx items.size items.size hi - sIx items.size 0 lo)).toArray.size ≤ sizeLine
    rw [List.size_toArray, List.length_take, List.length_drop, Array.length_toList]
    omega
  have hj : sIx items.size items.size hi ≤ items.size := sIx_le _ _ (Nat.le_refl _) hi
  obtain ⟨os, hos, hcs, hds⟩ := id hs
  have hTs : s.TypeIs (.ref sl) "slice" := ⟨os, hos, hcs⟩
  unfold getItem
  try with_reducible refine wpAny_holding ?_
  first | refine wpAny_bind (wpAny_pure ?_) | skip
  refine wpAny_bind (wpAny_sequenceKey ht.typeIs (by decide) ?_)
  refine wpAny_bind (wpAny_callSpecial?_slot (name := Str.ofString "__getitem__") ht.typeIs PyProof.Rows.slot_tuple_getitem
    (wpAny_call_entry PyProof.Rows.slot_tuple_getitem ht.typeIs entry_tuple_getitem ?_ (args_tuple_getitem _ _)))
  show wpAny _ _ (Builtin.Tuple.tupleItemsOf (.ref t) >>= _) _ _ s
  refine wpAny_bind (tupleItemsOf_ ht ?_)
  refine wpAny_bind (wpAny_typeOf hTs ?_)
  rw [if_pos (by decide)]
  refine wpAny_bind (sliceApplied_gen hs pl pu ?_)
  have hno : ¬ ((((sIx items.size 0 lo : Nat) : Int) == 0 && (1 : Int) == 1 && (sIx items.size items.size hi - sIx items.size 0 lo) == items.size) = true) := by
    intro q
    rw [Bool.and_eq_true, Bool.and_eq_true] at q
    have q1 : ((sIx items.size 0 lo : Nat) : Int) = 0 := eq_of_beq q.1.1
    have q2 : sIx items.size items.size hi - sIx items.size 0 lo = items.size := eq_of_beq q.2
    exact hw ⟨by omega, by omega⟩
  show wpAny _ _ (if (((sIx items.size 0 lo : Nat) : Int) == 0 && (1 : Int) == 1 && (sIx items.size items.size hi - sIx items.size 0 lo) == items.size) = true then _ else _) _ _ s
  rw [if_neg hno, pick_gen]
  first
    | exact wpAny_bind (m := Builtin.Tuple.tupleExact _) (wpAny_newObj_type (wpAny_pure ⟨_, rfl, wpAny_pure h⟩) htake)
    | exact wpAny_bind (m := Builtin.Tuple.tupleExact _) (wpAny_newObj_type (wpAny_bind (wpAny_pure (wpAny_pure ⟨_, rfl, wpAny_pure h⟩))) htake)
    | exact wpAny_bind (wpAny_bind (m := Builtin.Tuple.tupleExact _) (wpAny_newObj_type (wpAny_pure (wpAny_pure ⟨_, rfl, wpAny_pure h⟩)) htake))
    | exact wpAny_bind (wpAny_bind (m := Builtin.Tuple.tupleExact _) (wpAny_newObj_type (wpAny_pure ⟨_, rfl, wpAny_pure h⟩) htake))
end
end HT
namespace L2
open PySem PySem.Spec PyProof.Rows
abbrev TO := St → Hp → (Option Int → Hp → Prop) → Prop
def PO (X : Cx) (e : Option Expr) (t : TO) : Prop :=
  ∀ (pins : List (Addr × Obj)) (s : Shared) (σ : St) (H : Hp) (Q : Option Int → Hp → Prop), Inv X pins σ H s → t σ H Q →
    wpAny (model X.prog X.w) X.A (evalPart e X.env) (fun u s' => ∃ o H', Inv X pins σ H' s' ∧ IsPart u o ∧ Q o H') X.xe s
def tNoPart : TO := fun _ H Q => Q none H
inductive ItPart (Q : Option Int → Hp → Prop) (x : V) (H1 : Hp) : Prop
  | mk : ∀ i, (x = .int i) → (Q (some i) H1) → ItPart Q x H1
def tPart (t : TE) : TO := fun σ H Q => t σ H fun x H1 => ItPart Q x H1
theorem intsAre_of {ns : List Int} : ∀ {us : List Value}, Vals (ns.map V.int) us → IntsAre us ns := by
  induction ns with
  | nil => intro us r; rw [List.map_nil] at r; cases r; exact .nil
  | cons n ns ih =>
    intro us r
    rw [List.map_cons] at r
    cases r with
    | cons r1 r2 =>
      obtain ⟨t, e⟩ := r1
      subst e
      exact .cons n t (ih r2)
section
variable {X : Cx} {e : Expr} {te : TE} {lo hi : Option Expr} {tl th : TO} {pos p2 : Pos}
theorem po_none : PO X none tNoPart := by
  intro pins s σ H Q I h
  rw [evalPart_none]
  exact wpAny_pure ⟨none, H, I, .none, h⟩
theorem po_some (h : PE X e te) : PO X (some e) (tPart te) := by
  intro pins s σ H Q I hw
  rw [evalPart_some]
  refine thn (h pins s σ H _ I hw) fun u s1 ⟨x, H1, I1, r1, q1⟩ => ?_
  obtain ⟨i, rfl, q⟩ := q1
  obtain ⟨t, rfl⟩ := r1
  exact ⟨some i, H1, I1, .int i t, q⟩
def SlR (X : Cx) (r : V → Option Int → Option Int → Hp → VK → Prop) : Prop :=
  ∀ (pins : List (Addr × Obj)) (s : Shared) (σ : St) (H : Hp) (x : V) (v vl vu : Value) (lo hi : Option Int) (sl : Addr) (Q : VK), Inv X pins σ H s → RelV x v → s.heap.IsSliceOf sl vl vu .none → IsPart vl lo → IsPart vu hi → r x lo hi H Q →
    ∃ T id, typeLookup (.type T) "__getitem__" = pure (some (.builtin id)) ∧ s.TypeIs v T ∧ wpAny (model X.prog X.w) X.A (getItem v (.ref sl)) (EP X pins σ Q) X.xe s
def tSl (r : V → Option Int → Option Int → Hp → VK → Prop) (te : TE) (tl th : TO) : TE := fun σ H Q => te σ H fun x H1 => tl σ H1 fun l H2 => th σ H2 fun u H3 => r x l u H3 Q
theorem pe_slice {r : V → Option Int → Option Int → Hp → VK → Prop} (hr : SlR X r) (he : PE X e te) (hl : PO X lo tl) (hu : PO X hi th) : PE X (.Subscript e (.Slice lo hi none p2) pos) (tSl r te tl th) := by
  intro pins s σ H Q I h
  refine Subscript_ (thn (he pins s σ H _ I h) fun v s1 ⟨x, H1, I1, r1, q1⟩ => ?_)
  refine wpAny_Slice (thn (hl pins s1 σ H1 _ I1 q1) fun vl s2 ⟨l, H2, I2, pl, q2⟩ => thn (hu pins s2 σ H2 _ I2 q2) fun vu s3 ⟨u, H3, I3, pu, q3⟩ => ?_)
  rw [evalPart_none]
  refine wpAny_pure ?_
  have I4 : Inv X pins σ H3 { s3 with heap := s3.heap.push { cls := .type "slice", data := .fields #[vl, vu, .none] } } := I3.kept (t' := s3.toks) fun b ob q => Heap.get?_push_of_some _ q
  obtain ⟨T, id, hT, ht, hg⟩ := hr pins { s3 with heap := s3.heap.push { cls := .type "slice", data := .fields #[vl, vu, .none] } } σ H3 x v vl vu l u s3.heap.objs.size Q I4 r1 (Heap.IsSliceOf.new ..) pl pu q3
  show wpAny (model X.prog X.w) X.A (subscriptTail e (.Slice lo hi none p2) v (.ref s3.heap.objs.size)) (EP X pins σ Q) X.xe { s3 with heap := s3.heap.push { cls := .type "slice", data := .fields #[vl, vu, .none] } }
  exact tail_any (ops := [.ref s3.heap.objs.size, v]) ht hT hg (by with_unfolding_all rfl)
def cutV (xs : List V) (lo hi : Option Int) : List V := (xs.drop (HT.sIx xs.length 0 lo)).take (HT.sIx xs.length xs.length hi - HT.sIx xs.length 0 lo)
theorem cutV_length (xs : List V) (lo hi : Option Int) : (cutV xs lo hi).length ≤ xs.length := by
  unfold cutV
  rw [List.length_take, List.length_drop]
  omega
def rSlT (K : PySem.W.Frag) : V → Option Int → Option Int → Hp → VK → Prop := fun x lo hi H Q => ∃ a xs, x = .ref a ∧ SqT K H a xs ∧
  ¬ (HT.sIx xs.length 0 lo = 0 ∧ HT.sIx xs.length xs.length hi = xs.length) ∧ ∀ p, H p = none → Q (.ref p) (upd H p (.tup (cutV xs lo hi)))
theorem sl_tup : SlR X (rSlT X.K) := by
  intro pins s σ H x v vl vu lo hi sl Q I rx hs pl pu h
  obtain ⟨a, xs, rfl, hx, hw, q⟩ := h
  cases rx
  obtain ⟨its, r, ht, hz⟩ := I.tuple hx
  have hlen : its.toArray.size = xs.length := by rw [List.size_toArray]; exact r.length.symm
  refine ⟨"tuple", _, PyProof.Rows.slot_tuple_getitem.lookup, ht.typeIs, ?_⟩
  refine HT.getItem_tuple_cut ht hs pl pu (by rw [hlen]; exact hw) ?_ (by rw [hlen]; exact hz)
  rw [hlen]
  refine ⟨.ref s.heap.objs.size, _, I.laid (t' := s.toks) (o := .tup (cutV xs lo hi)) (fun b ob q => Heap.get?_push_of_some _ q) (Nat.le_refl _) ?_, rfl, q _ (I.hok.fresh (Nat.le_refl _))⟩
  exact ⟨Nat.le_trans (cutV_length xs lo hi) hz, _, (r.drop (HT.sIx xs.length 0 lo)).take (HT.sIx xs.length xs.length hi - HT.sIx xs.length 0 lo), IsTup.new _ _⟩
inductive IrLtT (K : PySem.W.Frag) (x : V) (y : V) (H : Hp) (Q : VK) : Prop
  | mk : ∀ a b ns ms, (x = .ref a) → (y = .ref b) → (SqT K H a (ns.map V.int)) → (SqT K H b (ms.map V.int)) → (Q (.bl (HT.lexLt ns ms)) H) → IrLtT K x y H Q
def rLtT (K : PySem.W.Frag) : R2 := fun x y H Q => IrLtT K x y H Q
theorem op_ltT (hu : X.A.units < cLine) : OpR X (compareOp .Lt) (rLtT X.K) := by
  intro pins s σ H x y v u Q I rx ry h
  obtain ⟨a, b, ns, ms, rfl, rfl, ha, hb, q⟩ := h
  cases rx
  cases ry
  obtain ⟨its, r1, p1, _⟩ := I.tuple ha
  obtain ⟨its2, r2, p2, _⟩ := I.tuple hb
  have i1 : IntsAre its.toArray.toList ns := intsAre_of r1
  have i2 : IntsAre its2.toArray.toList ms := intsAre_of r2
  exact HT.lt_tupInts p1 p2 i1 i2 hu ⟨.bl (HT.lexLt ns ms), H, I, rfl, q⟩
end
end L2
namespace L2
open PySem PySem.Spec PyProof.Rows
def ixN (n : Nat) (i : Int) : Option Nat := if 0 ≤ i then (if i < n then some i.toNat else none) else if -(n : Int) ≤ i then some (i + n).toNat else none
def atI {α : Type} (xs : List α) (i : Int) : Option α := (ixN xs.length i).bind fun j => xs[j]?
theorem ixN_seq {n : Nat} {i : Int} {j : Nat} (h : ixN n i = some j) : seqIndex? i n = some j ∧ j < n ∧ -(n : Int) ≤ i ∧ i < n := by
  unfold ixN at h
  by_cases h0 : 0 ≤ i
  · rw [if_pos h0] at h
    by_cases h1 : i < n
    · rw [if_pos h1] at h
      have e : i.toNat = j := Option.some.inj h
      exact ⟨by rw [seqIndex_of h0 h1, e], by omega, by omega, h1⟩
    · rw [if_neg h1] at h; cases h
  · rw [if_neg h0] at h
    by_cases h1 : -(n : Int) ≤ i
    · rw [if_pos h1] at h
      have e : (i + n).toNat = j := Option.some.inj h
      exact ⟨by rw [seqIndex_neg (by omega) h1, e], by omega, h1, by omega⟩
    · rw [if_neg h1] at h; cases h
theorem atI_get {α : Type} {xs : List α} {i : Int} {v : α} (h : atI xs i = some v) : ∃ j, seqIndex? i xs.length = some j ∧ xs[j]? = some v ∧ j < xs.length ∧ -(xs.length : Int) ≤ i ∧ i < xs.length := by
  unfold atI at h
  cases e : ixN xs.length i with
  | none => rw [e] at h; cases h
  | some j =>
    rw [e] at h
    obtain ⟨h1, h2, h3, h4⟩ := ixN_seq e
    exact ⟨j, h1, h, h2, h3, h4⟩
theorem atI_nat {α : Type} {xs : List α} {j : Nat} {v : α} (h : xs[j]? = some v) : atI xs (j : Int) = some v := by
  have hj : j < xs.length := (List.getElem?_eq_some_iff.mp h).1
  have e : ixN xs.length (j : Int) = some j := by
    unfold ixN
    rw [if_pos (by omega), if_pos (by omega)]; simp
  unfold atI; rw [e]; exact h
def PlainIx (b : Expr) : Prop := ∀ o i, subscripted b false o i = operate [o, i] (getItem o i)
def IxR (X : Cx) (r : R2) : Prop :=
  ∀ (value slice : Expr) (pins : List (Addr × Obj)) (s : Shared) (σ : St) (H : Hp) (x y : V) (v u : Value) (Q : VK), Inv X pins σ H s → RelV x v → RelV y u → r x y H Q →
    subscripted slice false v u = operate [v, u] (getItem v u) → wpAny (model X.prog X.w) X.A (subscriptTail value slice v u) (EP X pins σ Q) X.xe s
def MtR (X : Cx) (id : String) (r : V → List V → Hp → VK → Prop) : Prop :=
  ∀ (pins : List (Addr × Obj)) (s : Shared) (σ : St) (H : Hp) (x : V) (xs : List V) (v : Value) (us : List Value) (Q : VK), Inv X pins σ H s → RelV x v → Vals xs us → r x xs H Q →
    wpAny (model X.prog X.w) X.A (call (.builtin id) (v :: us)) (EP X pins σ Q) X.xe s
section
variable {X : Cx} {a b : Expr} {ta tb : TE} {pos : Pos}
theorem pe_ix {r : R2} (hr : IxR X r) (ha : PE X a ta) (hb : PE X b tb) (hs : PlainIx b) : PE X (.Subscript a b pos) (tOp r ta tb) := by
  intro pins s σ H Q I h
  exact Subscript_ (binT ha hb I h fun v u s2 x y H2 I2 rx ry q => hr a b pins s2 σ H2 x y v u Q I2 rx ry q (hs _ _))
inductive IrIxL (K : PySem.W.Frag) (x : V) (y : V) (H : Hp) (Q : VK) : Prop
  | mk : ∀ p xs i v, (x = .ref p) → (y = .int i) → (SqL K H p xs) → (atI xs i = some v) → (Q v H) → IrIxL K x y H Q
def rIxL (K : PySem.W.Frag) : R2 := fun x y H Q => IrIxL K x y H Q
inductive IrIxT (K : PySem.W.Frag) (x : V) (y : V) (H : Hp) (Q : VK) : Prop
  | mk : ∀ p xs i v, (x = .ref p) → (y = .int i) → (SqT K H p xs) → (atI xs i = some v) → (Q v H) → IrIxT K x y H Q
def rIxT (K : PySem.W.Frag) : R2 := fun x y H Q => IrIxT K x y H Q
theorem ix_list : IxR X (rIxL X.K) := by
  intro value slice pins s σ H x y v u Q I rx ry h hs
  obtain ⟨p, xs, i, z, rfl, rfl, hq, he, q⟩ := h
  cases rx
  obtain ⟨t, rfl⟩ := ry
  obtain ⟨its, r, pl, hz⟩ := I.list hq
  obtain ⟨j, h1, h2, h3, h4, h5⟩ := atI_get he
  obtain ⟨w, ew, rw'⟩ := r.get h2
  have hl := r.length
  have hn := line63
  have fin : EP X pins σ Q w s := ⟨z, H, I, rw', q⟩
  by_cases h0 : 0 ≤ i
  · have hj : i.toNat = j := by
      rw [seqIndex_of h0 h5] at h1
      exact Option.some.inj h1
    exact item_listR pl.isList h0 (by omega) (by rw [hj]; simpa using ew) fin hs
  · have hj : (i + (its.toArray.size : Int)).toNat = j := by
      rw [seqIndex_neg (by omega) h4] at h1
      rw [List.size_toArray, ← hl]
      exact Option.some.inj h1
    exact subscriptTail_builtinR (x := w) pl.isList.typeIs slot_list_getitem.lookup
      (wpAny_getItem_list_neg (Q := fun r s' => r = w ∧ EP X pins σ Q r s') pl.isList (by omega) (by rw [List.size_toArray] <;> omega) (by omega) (by rw [hj]; simpa using ew) ⟨rfl, fin⟩) hs
theorem ix_tup : IxR X (rIxT X.K) := by
  intro value slice pins s σ H x y v u Q I rx ry h hs
  obtain ⟨p, xs, i, z, rfl, rfl, hq, he, q⟩ := h
  cases rx
  obtain ⟨t, rfl⟩ := ry
  obtain ⟨its, r, pl, hz⟩ := I.tuple hq
  obtain ⟨j, h1, h2, h3, h4, h5⟩ := atI_get he
  obtain ⟨w, ew, rw'⟩ := r.get h2
  have hl := r.length
  have hn := line63
  have fin : EP X pins σ Q w s := ⟨z, H, I, rw', q⟩
  exact subscriptTail_builtinR (x := w) pl.typeIs slot_tuple_getitem.lookup
    (getItem_tuple (j := j) (Q := fun r s' => r = w ∧ EP X pins σ Q r s') pl (by omega) (by omega) (by rw [List.size_toArray, ← hl]; exact h1) (by simpa using ew) ⟨rfl, fin⟩) hs
theorem mapSeq_set (its : List Value) (n j : Nat) (u : Value) : Obj.mapSeq (·.setIfInBounds j u) { cls := .type "list", data := .seq its.toArray n } = { cls := .type "list", data := .seq (its.set j u).toArray n } := by
  simp [Obj.mapSeq]
theorem Inv.lst {pins : List (Addr × Obj)} {σ : St} {H : Hp} {s : Shared} {p : Addr} {xs : List V} (I : Inv X pins σ H s) (h : H p = some (.lst xs)) :
    ∃ (its : List Value) (n : Nat), Vals xs its ∧ s.heap.get? p = some { cls := .type "list", data := .seq its.toArray n } ∧ xs.length ≤ sizeLine := by
  obtain ⟨z, its, n, r, e⟩ := I.hok p _ h
  exact ⟨its, n, r, e, z⟩
theorem Inv.lstUpd {pins : List (Addr × Obj)} {σ : St} {H : Hp} {s : Shared} {p : Addr} {xs ys : List V} {its its' : List Value} {n n' : Nat} {f : Obj → Obj} (I : Inv X pins σ H s) (h : H p = some (.lst xs))
    (ho : s.heap.get? p = some { cls := .type "list", data := .seq its.toArray n }) (hf : f { cls := .type "list", data := .seq its.toArray n } = { cls := .type "list", data := .seq its'.toArray n' }) (r : Vals ys its') (hz : ys.length ≤ sizeLine) (t : Nat) :
    Inv X pins σ (upd H p (.lst ys)) { s with heap := s.heap.update p f, toks := t } := by
  have e : (s.heap.update p f).get? p = some { cls := .type "list", data := .seq its'.toArray n' } := by
    rw [Heap.get?_update_self f ho (by rw [hf] <;> rfl), hf]
  refine I.write (x := p) (e := p) (by rw [h]; trivial) (.inl rfl) (fun b u hb q => (Heap.get?_update_other _ _ (Ne.symm hb)).trans q) ⟨_, e⟩ ?_
  exact ⟨hz, its', n', r, e⟩
def rSetL : V → V → V → Hp → (Hp → Prop) → Prop := fun o i v H Q => ∃ p xs k j, o = .ref p ∧ i = .int k ∧ H p = some (.lst xs) ∧ ixN xs.length k = some j ∧ Q (upd H p (.lst (xs.set j v)))
theorem set_list : PSet X rSetL := by
  intro pins s σ H o i v ov iv u Q I ro ri rv h
  obtain ⟨p, xs, k, j, rfl, rfl, hp, hj, q⟩ := h
  cases ro
  obtain ⟨t, rfl⟩ := ri
  obtain ⟨its, n, r, ho, hz⟩ := I.lst hp
  obtain ⟨h1, h2, h3, h4⟩ := ixN_seq hj
  have hl := r.length
  have hn := line63
  have I' : Inv X pins σ (upd H p (.lst (xs.set j v))) { s with heap := s.heap.update p (Obj.mapSeq (·.setIfInBounds j u)) } :=
    I.lstUpd hp ho (mapSeq_set its n j u) (r.set rv j) (by rw [List.length_set]; exact hz) s.toks
  by_cases h0 : 0 ≤ k
  · have hk : k.toNat = j := by
      rw [seqIndex_of h0 h4] at h1
      exact Option.some.inj h1
    exact PySem.W.ki_setAt ho h0 (by omega) (by rw [List.size_toArray, ← hl]; exact h4) (by rw [hk]; exact ⟨_, I', q⟩)
  · have hk : (k + (its.toArray.size : Int)).toNat = j := by
      rw [seqIndex_neg (by omega) h3] at h1
      rw [List.size_toArray, ← hl]
      exact Option.some.inj h1
    exact PySem.W.ki_setBack ho (by omega) (by rw [List.size_toArray, ← hl]; exact h3) (by omega) (by rw [hk]; exact ⟨_, I', q⟩)
theorem slice_bounds (lo hi : Option Int) (n : Nat) : (sliceBounds lo hi none n).1 = ((HT.sIx n 0 lo : Nat) : Int) ∧ (sliceBounds lo hi none n).2.1 = ((HT.sIx n n hi : Nat) : Int) ∧ (sliceBounds lo hi none n).2.2 = 1 := by
  refine ⟨?_, ?_, rfl⟩
  · cases lo with
    | none => simp [sliceBounds, HT.sIx]
    | some i =>
      simp only [sliceBounds, HT.sIx, Option.getD_none, show (1 : Int) > 0 by decide, if_true]
      by_cases h : i < 0
      · simp only [h, if_true] <;> omega
      · simp only [h, if_false] <;> omega
  · cases hi with
    | none => simp [sliceBounds, HT.sIx]
    | some i =>
      simp only [sliceBounds, HT.sIx, Option.getD_none, show (1 : Int) > 0 by decide, if_true]
      by_cases h : i < 0
      · simp only [h, if_true] <;> omega
      · simp only [h, if_false] <;> omega
theorem slicePick_cut (its : List Value) (lo hi : Option Int) : slicePick its.toArray lo hi none = ((its.drop (HT.sIx its.length 0 lo)).take (HT.sIx its.length its.length hi - HT.sIx its.length 0 lo)).toArray := by
  obtain ⟨h1, h2, h3⟩ := slice_bounds lo hi its.toArray.size
  unfold slicePick
  rw [h1, h2, h3]
  simp only [sliceRange_one, pick_run, List.size_toArray] <;> rfl
def rSlL (K : PySem.W.Frag) : V → Option Int → Option Int → Hp → VK → Prop := fun x lo hi H Q => ∃ a xs, x = .ref a ∧ SqL K H a xs ∧ ∀ p, H p = none → Q (.ref p) (upd H p (.lst (cutV xs lo hi)))
theorem sl_list : SlR X (rSlL X.K) := by
  intro pins s σ H x v vl vu lo hi sl Q I rx hs pl pu h
  obtain ⟨a, xs, rfl, hx, q⟩ := h
  cases rx
  obtain ⟨its, r, ht, hz⟩ := I.list hx
  have hlen := r.length
  refine ⟨"list", _, slot_list_getitem.lookup, ht.isList.typeIs, ?_⟩
  refine wpAny_getItem_list_slice ht.isList hs pl pu .none (by simp) ?_ (by rw [List.size_toArray] <;> omega)
  rw [slicePick_cut, ← hlen]
  refine ⟨.ref s.heap.objs.size, _, I.laid (t' := s.toks) (o := .lst (cutV xs lo hi)) (fun b ob q => Heap.get?_push_of_some _ q) (Nat.le_refl _) ?_, rfl, q _ (I.hok.fresh (Nat.le_refl _))⟩
  exact ⟨Nat.le_trans (cutV_length xs lo hi) hz, _, 0, (r.drop (HT.sIx xs.length 0 lo)).take (HT.sIx xs.length xs.length hi - HT.sIx xs.length 0 lo), Heap.get?_push_size _ rfl⟩
def flatV : V → Bool
  | .non => true
  | .bl _ => true
  | .int _ => true
  | .str _ => true
  | _ => false
def eqV : V → V → Bool
  | .non, .non => true
  | .bl a, .bl b => a == b
  | .bl a, .int b => (if a then 1 else 0) == b
  | .int a, .bl b => a == (if b then 1 else 0)
  | .int a, .int b => a == b
  | .str a, .str b => a == b
  | _, _ => false
theorem eqAt_V {A : Around} {s : Shared} {y x : V} {u v : Value} (ry : RelV y u) (rx : RelV x v) (fy : flatV y = true) (fx : flatV x = true) : SeqAt.EqAt A s u v (eqV y x) := by
  cases y with
  | non =>
    cases ry
    cases x with
    | non => cases rx; exact SeqAt.EqAt.same _
    | bl b => cases rx; exact SeqAt.EqAt.none_bool b
    | int b => obtain ⟨t, rfl⟩ := rx; exact SeqAt.EqAt.none_int b t
    | str b => obtain ⟨t, rfl⟩ := rx; exact SeqAt.EqAt.none_str b t
    | _ => exact absurd (show false = true from fx) Bool.false_ne_true
  | bl a =>
    cases ry
    cases x with
    | non => cases rx; exact SeqAt.EqAt.bool_none a
    | bl b => cases rx; exact SeqAt.EqAt.bool_bool a b
    | int b => obtain ⟨t, rfl⟩ := rx; exact SeqAt.EqAt.bool_int a b t
    | str b => obtain ⟨t, rfl⟩ := rx; exact SeqAt.EqAt.bool_str a b t
    | _ => exact absurd (show false = true from fx) Bool.false_ne_true
  | int a =>
    obtain ⟨t', rfl⟩ := ry
    cases x with
    | non => cases rx; exact SeqAt.EqAt.int_none a t'
    | bl b => cases rx; exact SeqAt.EqAt.int_bool a t' b
    | int b => obtain ⟨t, rfl⟩ := rx; exact SeqAt.EqAt.int_int a t' b t
    | str b => obtain ⟨t, rfl⟩ := rx; exact SeqAt.EqAt.int_str a t' b t
    | _ => exact absurd (show false = true from fx) Bool.false_ne_true
  | str a =>
    obtain ⟨t', rfl⟩ := ry
    cases x with
    | non => cases rx; exact SeqAt.EqAt.str_none a t'
    | bl b => cases rx; exact SeqAt.EqAt.str_bool a t' b
    | int b => obtain ⟨t, rfl⟩ := rx; exact SeqAt.EqAt.str_int a t' b t
    | str b => obtain ⟨t, rfl⟩ := rx; exact SeqAt.EqAt.str_str a t' b t
    | _ => exact absurd (show false = true from fx) Bool.false_ne_true
  | _ => exact absurd (show false = true from fy) Bool.false_ne_true
def eqU (x : V) (u : Value) : Bool := match u with
  | .none => eqV .non x
  | .bool b => eqV (.bl b) x
  | .int i _ => eqV (.int i) x
  | .str z _ => eqV (.str z) x
  | _ => false
theorem eqU_of {x y : V} {u : Value} (r : RelV y u) (f : flatV y = true) : eqU x u = eqV y x := by
  cases y with
  | non => cases r; rfl
  | bl b => cases r; rfl
  | int i => obtain ⟨t, rfl⟩ := r; rfl
  | str z => obtain ⟨t, rfl⟩ := r; rfl
  | _ => exact absurd (show false = true from f) Bool.false_ne_true
theorem any_eqU {x : V} : ∀ {xs : List V} {us : List Value}, Vals xs us → xs.all flatV = true → us.any (eqU x) = xs.any fun y => eqV y x
  | _, _, .nil, _ => rfl
  | y :: xs, u :: us, .cons r t, f => by
    rw [List.all_cons, Bool.and_eq_true] at f
    rw [List.any_cons, List.any_cons, eqU_of r f.1, any_eqU t f.2]
theorem mem_eqAt {A : Around} {s : Shared} {x : V} {v : Value} (rx : RelV x v) (fx : flatV x = true) : ∀ {xs : List V} {us : List Value}, Vals xs us → xs.all flatV = true → ∀ u ∈ us, SeqAt.EqAt A s u v (eqU x u)
  | _, _, .nil, _ => fun u hu => by cases hu
  | y :: xs, u :: us, .cons r t, f => fun u' hu => by
    rw [List.all_cons, Bool.and_eq_true] at f
    rcases List.mem_cons.mp hu with rfl | hu
    · rw [eqU_of r f.1]; exact eqAt_V r rx f.1 fx
    · exact mem_eqAt rx fx t f.2 u' hu
def inV (x : V) (xs : List V) : Bool := xs.any fun y => eqV y x
inductive IrIn (K : PySem.W.Frag) (neg : Bool) (x : V) (y : V) (H : Hp) (Q : VK) : Prop
  | mk : ∀ p xs, (y = .ref p) → ((SqL K H p xs ∨ SqT K H p xs)) → (flatV x = true) → (xs.all flatV = true) → (Q (.bl (if neg then !inV x xs else inV x xs)) H) → IrIn K neg x y H Q
def rIn (K : PySem.W.Frag) (neg : Bool) : R2 := fun x y H Q => IrIn K neg x y H Q
theorem op_in_seq : OpR X (compareOp .In) (rIn X.K false) := by
  intro pins s σ H x y v u Q I rx ry h
  obtain ⟨p, xs, rfl, hq, fx, fs, q⟩ := h
  cases ry
  rcases hq with hq | hq
  · obtain ⟨its, r, pl, hz⟩ := I.list hq
    refine SeqAt.in_listAt (eqU x) pl.isList (fun w hw => mem_eqAt rx fx r fs w (by simpa using hw)) ⟨.bl _, H, I, rfl, ?_⟩
    rw [show its.toArray.any (eqU x) = its.any (eqU x) by simp, any_eqU r fs]
    exact q
  · obtain ⟨its, r, pl, hz⟩ := I.tuple hq
    refine SeqAt.in_tupleAt (eqU x) pl (fun w hw => mem_eqAt rx fx r fs w (by simpa using hw)) ⟨.bl _, H, I, rfl, ?_⟩
    rw [show its.toArray.any (eqU x) = its.any (eqU x) by simp, any_eqU r fs]
    exact q
theorem call_len_seq : CallR X (.builtin "len") (fun xs H Q => ∃ p ys, xs = [.ref p] ∧ (SqL X.K H p ys ∨ SqT X.K H p ys) ∧ Q (.int ys.length) H) := by
  intro pins s σ H xs us Q I r h
  obtain ⟨p, ys, rfl, hq, q⟩ := h
  obtain ⟨u, rfl, rx⟩ := vals1 r
  cases rx
  have hn := line63
  rcases hq with hq | hq
  · obtain ⟨its, r', pl, hz⟩ := I.list hq
    have hlen := r'.length
    exact Calls.call_len_list pl.isList (by simp only [List.size_toArray] <;> omega) ⟨.int ys.length, H, I.tok _, ⟨s.toks + 1, by rw [List.size_toArray, hlen]⟩, q⟩
  · obtain ⟨its, r', pl, hz⟩ := I.tuple hq
    have hlen := r'.length
    exact len_tuple pl (by simp only [List.size_toArray] <;> omega) ⟨.int ys.length, H, I.tok _, ⟨s.toks + 1, by rw [List.size_toArray, hlen]⟩, q⟩
theorem call_list_of : CallR X (.type "list") (fun xs H Q => ∃ p ys, xs = [.ref p] ∧ (SqL X.K H p ys ∨ SqT X.K H p ys) ∧ ∀ l, H l = none → Q (.ref l) (upd H l (.lst ys))) := by
  intro pins s σ H xs us Q I r h
  obtain ⟨p, ys, rfl, hq, q⟩ := h
  obtain ⟨u, rfl, rx⟩ := vals1 r
  cases rx
  have fin : ∀ (its : List Value), Vals ys its → ys.length ≤ sizeLine → ∀ (h' : Heap) (c' : Nat), (∀ b o', s.heap.get? b = some o' → h'.get? b = some o') →
      h'.get? s.heap.objs.size = some { cls := .type "list", dict := none, data := .seq its.toArray c', slots := #[] } → EP X pins σ Q (.ref s.heap.objs.size) { s with heap := h' } := fun its r' hz h' c' kp e =>
    ⟨.ref s.heap.objs.size, _, I.laid (t' := s.toks) kp (Nat.le_refl _) (show ObjOk X.prog X.w _ h' _ (.lst ys) from ⟨hz, its, c', r', e⟩), rfl, q _ (I.hok.fresh (Nat.le_refl _))⟩
  rcases hq with hq | hq
  · obtain ⟨its, r', pl, hz⟩ := I.list hq
    have hlen := r'.length
    obtain ⟨o, ho, hc, n, hd⟩ := pl.isList
    exact call_list_seq p (.inl rfl) ho hc hd (fun h' c' kp e => fin its r' hz h' c' kp e) (by simp only [List.size_toArray] <;> omega)
  · obtain ⟨its, r', pl, hz⟩ := I.tuple hq
    have hlen := r'.length
    obtain ⟨o, ho, hc, n, hd⟩ := pl
    exact call_list_seq p (.inr rfl) ho hc hd (fun h' c' kp e => fin its r' hz h' c' kp e) (by simp only [List.size_toArray] <;> omega)
def tyV (K : PySem.W.Frag) (T : String) (x : V) (H : Hp) : Prop := match x with
  | .str _ => T = "str"
  | .int _ => T = "int"
  | .ref p => (T = "list" ∧ ∃ xs, SqL K H p xs) ∨ (T = "tuple" ∧ ∃ o, K.lookup p = some o ∧ o.cls = .type "tuple" ∧ o.dict = none) ∨
      (T = "dict" ∧ ((∃ kvs, H p = some (.dK kvs)) ∨ ∃ kvs, H p = some (.dT kvs))) ∨ (T = "set" ∧ ∃ S n, H p = some (.set S n))
  | _ => False
theorem tyV_is {pins : List (Addr × Obj)} {σ : St} {H : Hp} {s : Shared} {T : String} {x : V} {v : Value} (I : Inv X pins σ H s) (r : RelV x v) (ty : tyV X.K T x H) :
    s.TypeIs v T ∧ ∀ a, v = .ref a → ∃ ob, s.heap.get? a = some ob ∧ ob.dict = none := by
  cases x with
  | str z =>
    obtain ⟨t, rfl⟩ := r
    cases (show T = "str" from ty)
    exact ⟨typeIs_str s z t, fun _ e => nomatch e⟩
  | int i =>
    obtain ⟨t, rfl⟩ := r
    cases (show T = "int" from ty)
    exact ⟨typeIs_int s i t, fun _ e => nomatch e⟩
  | ref p =>
    cases r
    rcases ty with ⟨rfl, xs, hq⟩ | ⟨rfl, o, hk, hc, hd⟩ | ⟨rfl, hk⟩ | ⟨rfl, S, n, hk⟩
    · obtain ⟨its, _, pl, _⟩ := I.list hq
      refine ⟨pl.isList.typeIs, fun a e => ?_⟩
      cases e
      obtain ⟨o, n, e, c, hd, _⟩ := pl
      exact ⟨o, e, hd⟩
    · refine ⟨⟨o, I.kIn p o hk, hc⟩, fun a e => ?_⟩
      cases e
      exact ⟨o, I.kIn _ o hk, hd⟩
    · have z : ∃ o, s.heap.get? p = some o ∧ o.ExactDict := by
        rcases hk with ⟨kvs, hk⟩ | ⟨kvs, hk⟩
        · obtain ⟨_, _, _, _, o, _, _, e, ex, _⟩ := I.hok p _ hk
          exact ⟨o, e, ex⟩
        · obtain ⟨_, _, _, _, o, _, _, e, ex, _⟩ := I.hok p _ hk
          exact ⟨o, e, ex⟩
      obtain ⟨o, e, ex⟩ := z
      refine ⟨⟨o, e, ex.1⟩, fun a e2 => ?_⟩
      cases e2
      exact ⟨o, e, ex.2.1⟩
    · obtain ⟨o, _, _, _, e, ex, _⟩ := I.hok p _ hk
      refine ⟨⟨o, e, ex.1⟩, fun a e2 => ?_⟩
      cases e2
      exact ⟨o, e, ex.2.1⟩
  | _ => exact False.elim ty
def tBM0 (K : PySem.W.Frag) (T : String) (r : V → List V → Hp → VK → Prop) (to : TE) : TE := fun σ H Q => to σ H fun x H1 => tyV K T x H1 ∧ r x [] H1 Q
def tBM (K : PySem.W.Frag) (T : String) (r : V → List V → Hp → VK → Prop) (to : TE) (t : TA) : TE := fun σ H Q => to σ H fun x H1 => tyV K T x H1 ∧ t σ H1 fun xs H2 => r x xs H2 Q
variable {o e : Expr} {es : List Expr} {to : TE} {t : TA} {name : Str} {apos cpos : Pos} {T id : String} {r : V → List V → Hp → VK → Prop}
theorem pe_bm0 (pa : PlainAttrs T) (slot : Slot T name id) (hty : typeOf (.builtin id) = pure (.type "method_descriptor")) (hm : MtR X id r) (ho : PE X o to)
    (hbase : attributeBase o name X.env (eval o X.env) = eval o X.env := by rfl) (hline : (apos.endLine == cpos.line) = true := by rfl) : PE X (.Call (.Attribute o name apos) [] [] cpos) (tBM0 X.K T r to) := by
  intro pins s σ H Q I h
  refine wpAny_Call_method0_late hbase hline (thn (ho pins s σ H _ I h) fun v s1 ⟨x, H1, I1, r1, ty, q1⟩ => ?_)
  obtain ⟨h1, h2⟩ := tyV_is I1 r1 ty
  exact ⟨T, id, pa, slot, hty, h1, h2, Calls.callWith_builtin rfl (PySem.evalArgs_none (hm pins s1 σ H1 x [] v [] Q I1 r1 .nil q1))⟩
theorem pe_bm (pa : PlainAttrs T) (slot : Slot T name id) (hty : typeOf (.builtin id) = pure (.type "method_descriptor")) (hm : MtR X id r) (ho : PE X o to) (ha : PA X (e :: es) t)
    (hbase : attributeBase o name X.env (eval o X.env) = eval o X.env := by rfl)
    (hfew : ((backTo cpos (starEach (e :: es) X.env)).all (fun x => !x.1) && (backToKw cpos (keywordEach [] X.env)).all (fun x => x.1.isSome)
      && decide ((e :: es).length + ([] : List Keyword).length + (if ([] : List Keyword).isEmpty then 0 else 1) < 30)) = true := by rfl)
    (hline : (apos.endLine == cpos.line) = true := by rfl) (hs : starEach (e :: es) X.env = (false, eval e X.env) :: starEach es X.env := by rfl) (hplain : (backTo cpos (starEach es X.env)).any (·.1) = false := by rfl) :
    PE X (.Call (.Attribute o name apos) (e :: es) [] cpos) (tBM X.K T r to t) := by
  intro pins s σ H Q I h
  refine wpAny_Call_method_late hbase hfew hline rfl (thn (ho pins s σ H _ I h) fun v s1 ⟨x, H1, I1, r1, ty, q1⟩ => ?_)
  obtain ⟨h1, h2⟩ := tyV_is I1 r1 ty
  refine ⟨T, id, pa, slot, hty, h1, h2, ?_⟩
  have hA := ha cpos pins s1 σ H1 _ I1 q1
  rw [hs] at hA ⊢
  refine Calls.callWith_builtin (by show (false || (backTo cpos (starEach es X.env)).any (·.1)) = false; rw [hplain] <;> rfl) (Calls.evalArgs_plain ?_)
  exact thn hA fun us s2 ⟨vs, H2, I2, r2, q2⟩ => hm pins s2 σ H2 x vs v us Q I2 r1 r2 q2
/- xs.append(e), list.index on a module's tuple .. are MtR facts of 06m -/
end
end L2
namespace L2
open PySem PySem.Spec PyProof.Rows
def MtM (X : Cx) (id : String) (r : V → List V → Hp → VK → Prop) : Prop :=
  ∀ (pins : List (Addr × Obj)) (s : Shared) (σ : St) (H : Hp) (x : V) (xs : List V) (v : Value) (us : List Value) (Q : VK), Inv X pins σ H s → RelV x v → Vals xs us → r x xs H Q →
    wpAny (model X.prog X.w) X.A (call (.builtin id) (v :: us)) (EP X pins σ Q) X.xe s
theorem Vals.one : ∀ {x : V} {us : List Value}, Vals [x] us → ∃ u, us = [u] ∧ RelV x u
  | _, _, .cons r .nil => ⟨_, rfl, r⟩
theorem Vals.zero : ∀ {us : List Value}, Vals [] us → us = []
  | _, .nil => rfl
theorem Vals.dropLast {xs : List V} {us : List Value} (h : Vals xs us) : Vals xs.dropLast us.dropLast := by
  induction h with
  | nil => exact .nil
  | cons r t ih =>
    cases t with
    | nil => exact .nil
    | cons q t' => exact .cons r ih
theorem Vals.rep {xs : List V} {us : List Value} (h : Vals xs us) : ∀ k : Nat, Vals (List.replicate k xs).flatten (List.replicate k us).flatten
  | 0 => .nil
  | k + 1 => by
    rw [List.replicate_succ, List.replicate_succ, List.flatten_cons, List.flatten_cons]
    exact Vals.append h (Vals.rep h k)
theorem erase_last {α : Type} (l : List α) : l.eraseIdx (l.length - 1) = l.dropLast := by
  induction l with
  | nil => rfl
  | cons a r ih =>
    cases r with
    | nil => rfl
    | cons b r =>
      have e : (a :: b :: r).length - 1 = ((b :: r).length - 1) + 1 := by
        have h1 : (a :: b :: r).length = r.length + 2 := rfl
        have h2 : (b :: r).length = r.length + 1 := rfl
        omega
      rw [e, List.eraseIdx_cons_succ, ih]
      all_goals rfl
theorem foldl_rep (its : List Value) : ∀ (k : Nat) (acc : List Value),
    List.foldl (fun x1 x2 => x1 ++ x2) acc.toArray (List.replicate k its.toArray) = (acc ++ (List.replicate k its).flatten).toArray
  | 0, acc => by simp
  | k + 1, acc => by
    have e : acc.toArray ++ its.toArray = (acc ++ its).toArray := by simp
    have e2 : (acc ++ its) ++ (List.replicate k its).flatten = acc ++ (List.replicate (k + 1) its).flatten := by
      rw [List.replicate_succ, List.flatten_cons, List.append_assoc]
    rw [← e2, ← foldl_rep its k (acc ++ its), ← e, List.replicate_succ, List.foldl_cons]
section
variable {X : Cx} {pins : List (Addr × Obj)} {σ : St} {H : Hp} {s : Shared} {l b : Addr} {xs ys zs : List V}
theorem Inv.lset {its its' : List Value} {n : Nat} {f : Array Value → Array Value} {t' : Nat} (I : Inv X pins σ H s) (hH : H l = some (.lst xs))
    (e : s.heap.get? l = some { cls := .type "list", data := .seq its.toArray n }) (hf : f its.toArray = its'.toArray) (hv : Vals ys its') (hz : ys.length ≤ sizeLine) :
    Inv X pins σ (upd H l (.lst ys)) { s with heap := s.heap.update l (Obj.mapSeq f), toks := t' } := by
  have q := PySem.IsL.update e f
  rw [hf] at q
  refine I.write (x := l) (e := l) (by rw [hH]; exact trivial) (.inl rfl) (fun b' u hb hu => (Heap.get?_update_other s.heap (Obj.mapSeq f) (Ne.symm hb)).trans hu) ⟨_, q⟩ ?_
  exact ⟨hz, its', _, hv, q⟩
theorem Inv.lnew {its : List Value} {t' : Nat} (I : Inv X pins σ H s) (hv : Vals ys its) (hz : ys.length ≤ sizeLine) :
    Inv X pins σ (upd H s.heap.objs.size (.lst ys)) { s with heap := s.heap.push { cls := .type "list", data := .seq its.toArray }, toks := t' } :=
  I.laid (fun _ _ q => Heap.get?_push_of_some _ q) (Nat.le_refl _) ⟨hz, its, 0, hv, Heap.get?_push_size _ rfl⟩
theorem Inv.fresh (I : Inv X pins σ H s) : H s.heap.objs.size = none := I.hok.fresh (Nat.le_refl _)
theorem Inv.lstM (I : Inv X pins σ H s) (hH : H l = some (.lst xs)) : xs.length ≤ sizeLine ∧ ∃ (its : List Value) (n : Nat), Vals xs its ∧ xs.length = its.length ∧ s.heap.get? l = some { cls := .type "list", data := .seq its.toArray n } := by
  obtain ⟨z, its, n, r, e⟩ := I.hok l _ hH
  exact ⟨z, its, n, r, r.length, e⟩
theorem notLongL {n : Nat} (h : n ≤ sizeLine) : Builtin.List.listTooLong n = false := by
  unfold Builtin.List.listTooLong
  exact decide_eq_false (by omega)
end
section
variable {X : Cx}
def rAppend : V → List V → Hp → VK → Prop := fun x vs H Q => ∃ l xs y, x = .ref l ∧ vs = [y] ∧ H l = some (.lst xs) ∧ xs.length < sizeLine ∧ Q .non (upd H l (.lst (xs ++ [y])))
theorem mt_append : MtM X "list.append" rAppend := by
  intro pins s σ H x vs v us Q I rx rv h
  obtain ⟨l, xs, y, rfl, rfl, hH, hz, q⟩ := h
  cases rx
  obtain ⟨u, rfl, ru⟩ := rv.one
  obtain ⟨z, its, n, r, hl, e⟩ := I.lstM hH
  refine call_meets F.slot_list_append ⟨_, e, rfl⟩ F.entry_list_append (F.args_list_append_2 _ _) (PySem.list_append l its.toArray n u (by rw [List.size_toArray]; omega)) ⟨e, ?_⟩
  refine ⟨.non, _, I.lset (its' := its ++ [u]) hH e (by simp) (r.append (.cons ru .nil)) ?_, rfl, q⟩
  rw [List.length_append, List.length_singleton]
  omega
def rPop : V → List V → Hp → VK → Prop := fun x vs H Q => ∃ l xs y, x = .ref l ∧ vs = [] ∧ H l = some (.lst xs) ∧ xs[xs.length - 1]? = some y ∧ Q y (upd H l (.lst xs.dropLast))
theorem mt_pop : MtM X "list.pop" rPop := by
  intro pins s σ H x vs v us Q I rx rv h
  obtain ⟨l, xs, y, rfl, rfl, hH, hy, q⟩ := h
  cases rx
  have hus := rv.zero
  subst hus
  obtain ⟨z, its, n, r, hl, e⟩ := I.lstM hH
  obtain ⟨u, hu, ru⟩ := r.get hy
  have hy' : its.toArray[its.toArray.size - 1]? = some u := by
    show its.toArray[its.length - 1]? = some u
    rw [← Array.getElem?_toList, ← hl]
    exact hu
  refine call_meets F.slot_list_pop ⟨_, e, rfl⟩ F.entry_list_pop (F.args_list_pop_1 _) (MeetsSeq.list_pop_last l its.toArray n u hy' (by rw [List.size_toArray]; omega)) ⟨e, ?_⟩
  refine ⟨y, _, I.lset (its' := its.dropLast) hH e ?_ r.dropLast ?_, ru, q⟩
  · show its.toArray.eraseIdxIfInBounds (its.toArray.size - 1) = its.dropLast.toArray
    rw [List.size_toArray, List.eraseIdxIfInBounds_toArray, erase_last]
  · rw [List.length_dropLast]
    omega
inductive IrCat (x : V) (y : V) (H : Hp) (Q : VK) : Prop
  | mk : ∀ l b xs zs, (x = .ref l) → (y = .ref b) → (H l = some (.lst xs)) → (H b = some (.lst zs)) → (xs.length + zs.length ≤ sizeLine) → (∀ p, H p = none → Q (.ref p) (upd H p (.lst (xs ++ zs)))) → IrCat x y H Q
def rCat : R2 := fun x y H Q => IrCat x y H Q
theorem op_cat : OpR X (binaryOp .Add) rCat := by
  intro pins s σ H x y v u Q I rx ry h
  obtain ⟨l, b, xs, zs, rfl, rfl, hH, hB, hz, q⟩ := h
  cases rx
  cases ry
  obtain ⟨z, its, n, r, hl, e⟩ := I.lstM hH
  obtain ⟨z2, its2, n2, r2, hl2, e2⟩ := I.lstM hB
  refine PySem.P.add_list e e2 ?_ (by rw [List.size_toArray, List.size_toArray]; omega)
  have ea : its.toArray ++ its2.toArray = (its ++ its2).toArray := by simp
  rw [ea]
  exact ⟨.ref _, _, I.lnew (t' := s.toks) (r.append r2) (by rw [List.length_append]; omega), rfl, q _ I.fresh⟩
inductive IrRep (x : V) (y : V) (H : Hp) (Q : VK) : Prop
  | mk : ∀ l k xs, (x = .ref l) → (y = .int k) → (H l = some (.lst xs)) → (-(2 ^ 63) ≤ k) → (k < 2 ^ 63) → (xs.length * k.toNat ≤ sizeLine) → (∀ p, H p = none → Q (.ref p) (upd H p (.lst (List.replicate k.toNat xs).flatten))) → IrRep x y H Q
def rRep : R2 := fun x y H Q => IrRep x y H Q
theorem len_rep {α : Type} (xs : List α) (k : Nat) : (List.replicate k xs).flatten.length = k * xs.length := by
  induction k with
  | zero => simp
  | succ k ih => rw [List.replicate_succ, List.flatten_cons, List.length_append, ih, Nat.succ_mul, Nat.add_comm]
theorem op_rep : OpR X (binaryOp .Mult) rRep := by
  intro pins s σ H x y v u Q I rx ry h
  obtain ⟨l, k, xs, rfl, rfl, hH, h1, h2, hz, q⟩ := h
  cases rx
  obtain ⟨t, rfl⟩ := ry
  obtain ⟨z, its, n, r, hl, e⟩ := I.lstM hH
  have hlen : its.toArray.size * k.toNat ≤ sizeLine := by rw [List.size_toArray, ← hl]; exact hz
  have hcap : ¬ its.toArray.size * k.toNat > (2 ^ 63 - 1) / 8 := by
    have : (sizeLine : Nat) ≤ (2 ^ 63 - 1) / 8 := by decide
    omega
  have hfit : ¬ (!Builtin.List.listFitsIndex k) = true := by
    rw [fitsIndex_both h1 h2]
    exact Bool.false_ne_true
  have hlong : ¬ Builtin.List.listTooLong (its.toArray.size * k.toNat) = true := by
    rw [notLongL hlen]
    exact Bool.false_ne_true
  have hnew : List.foldl (fun x1 x2 => x1 ++ x2) #[] (List.replicate (if its.toArray.isEmpty = true then 0 else k.toNat) its.toArray) = (List.replicate k.toNat its).flatten.toArray := by
    have f0 : ∀ m : Nat, List.foldl (fun x1 x2 => x1 ++ x2) #[] (List.replicate m its.toArray) = (List.replicate m its).flatten.toArray := fun m => by
      have := foldl_rep its m []
      rw [List.nil_append] at this
      exact this
    rw [f0]
    cases its with
    | nil => simp
    | cons a r' => rw [if_neg (by simp)]
  refine wpAny_binaryOp_repeat_ref (T := "list") (U := "int") (by decide) ⟨_, e, rfl⟩ (fun s' => typeIs_int s' k t) noFill_list_mul F.fills_int_mul F.slot_int_rmul repeat_list F.slot_int_index.lookup
    (call_meets F.slot_int_rmul (typeIs_int s k t) F.entry_int_rmul (F.args_int_rmul_2 _ _) (int___rmul___int_list k t l its.toArray n)
      ⟨e, rfl, ⟨_, e, rfl⟩, call_meets F.slot_list_mul ⟨_, e, rfl⟩ F.entry_list_mul (F.args_list_mul_2 _ _) (AutoListH.list___mul___list_int_3 l its.toArray n k t hfit hcap hlong) ⟨e, ?_⟩⟩)
  rw [hnew]
  exact ⟨.ref _, _, I.lnew (t' := s.toks) (r.rep k.toNat) (by rw [len_rep, Nat.mul_comm]; exact hz), rfl, q _ I.fresh⟩
end
section
variable {prog : Program} {w : World} {A : Around} {E : Value → Shared → Prop} {s : Shared}
end
section
variable {X : Cx}
end
end L2
namespace Att
open PySem PySem.W PySem.Calls PyProof.Rows
theorem ints_of_wellAll {P : Params} {h : Heap} : ∀ (ns : List Int) (vs : List Value), WellAll P h vs (ns.map WData.int) → IntsAre vs ns := by
  intro ns
  induction ns with
  | nil =>
    intro vs w
    rw [List.map_nil] at w
    cases w
    exact .nil
  | cons n ns ih =>
    intro vs w
    rw [List.map_cons] at w
    cases w with
    | cons a b =>
      cases a
      exact .cons _ _ (ih _ b)
theorem script_of {l : OpenLaw} {n : Nat} (hn : l.most = some n) {P : Params} {h : Heap} {args : List WData} {vals : List Value}
    (hpre : l.row.toRowW.claim.pre args = true) (hwl : WellAll P h vals args) :
    ∃ a vs ns, vals = [Value.ref a] ∧ args = [WData.list (ns.map WData.int)] ∧ h.get? a = some { cls := .type "list", data := .seq vs.toArray } ∧ IntsAre vs ns ∧ ns.length ≤ n := by
  have hsh : WShape.hasAll [] args [.list .int] = true := (pre_splitW hpre).1
  have hc : l.pre.holds [] { args := args } = true := (pre_splitW hpre).2
  obtain ⟨d, r, rfl, h1, h2⟩ := hasAllW_cons hsh
  obtain rfl := hasAllW_nil h2
  obtain ⟨xs, rfl, h3⟩ := hasW_list h1
  obtain ⟨ns, rfl⟩ := items_int h3
  have hlen : ns.length ≤ n := by
    unfold OpenLaw.pre at hc
    have h4 : (WTm.not (.lt (.lit (.int (n : Int))) (.len (.arg 0)))).holds [] { args := [.list (ns.map .int)] } = true := by
      have h4 := (holds_andW hc).1
      rw [hn] at h4
      exact h4
    have h5 := condW_of h4 (w_not (w_lt w_lit (w_len_list (w_arg rfl))))
    rw [List.length_map] at h5
    refine Nat.le_of_not_lt fun q => ?_
    have q' : (n : Int) < ((ns.length : Nat) : Int) := by omega
    first
      | (rw [decide_eq_true q'] at h5; exact absurd h5 (by decide))
      | (simp at h5; omega)
  cases hwl with
  | cons w1 w2 =>
    cases w2
    cases w1 with
    | list ho hall => exact ⟨_, _, ns, rfl, rfl, ho, ints_of_wellAll ns _ hall, hlen⟩
theorem post_true (l : OpenLaw) (args : List WData) : l.row.toRowW.claim.post args (.bool true) args = true :=
  postW_of (r := l.row.toRowW) (X := (true == true))
    (show WShape.has [] (.bool true) .bool = true by first | rfl | decide | simp [WShape.has, WShape.arms, WShape.armsAll])
    (show (WTm.eq .res (.lit (.bool true))).value [] { args := args, res := some (.bool true), after := args } = some (.bool (true == true)) from w_eq_bool (w_res rfl) w_lit) rfl
theorem attach_call {l : OpenLaw} {n : Nat} {q : Program} {loose : List Str} {XP : (Str → Option Value) → Heap → Prop} {YP : World → Heap → Prop} {d : DefRec}
    (hn : l.most = some n) (hdf : d.params.defaults = [])
    (call : ∀ (w : World) (s₀ s₁ : Shared) (mg mb : Str → Option Value) (fa : Addr) (o : Obj) (pm cd doc : Value) (a : Addr) (vs : List Value) (ns : List Int),
      Ground q loose [] XP w s₀ mg mb s₁.heap → YP w s₁.heap →
      s₁.heap.get? fa = some o → o.data = .func (docDef d.name d.params d.body d.scope pm cd doc) → s₁.heap.CodeRec cd d.name → mg d.name = some (.ref fa) →
      s₁.heap.get? a = some { cls := .type "list", data := .seq vs.toArray } → IntsAre vs ns → ns.length ≤ n → s₁.gens = #[] →
      codeAny (model l.prog w) callerA (.call (.ref fa) ⟨[.ref a], []⟩) (fun r s' => r = .ok (.ret (.bool true)) ∧ OldK s₁.heap s'.heap ∧ s'.os = s₁.os ∧ AllBare s'.gens) s₁) :
    WalkO q loose XP YP l.row.toRowW d [] (fun f vs => PySem.call f vs) := by
  intro w s₀ s₁ mg mb G Y fa o pm cd doc dV kV ho hd hcd hD hmg hg args vals as hpre hlay hrd hwl hlo
  obtain rfl : dV = .none := Dflts.none hD hdf
  obtain rfl : kV = .none := Dflts.noKw hD
  obtain ⟨a, vs, ns, rfl, rfl, hobj, hints, hlen⟩ := script_of hn hpre hwl
  refine enter_call (codeAny_mono (call w s₀ s₁ mg mb fa o pm cd doc a vs ns G Y ho (fd_plain hd) hcd hmg hobj hints hlen hg) fun r s' hq => ?_)
  obtain ⟨rfl, h2, h3, h4⟩ := hq
  exact ⟨.inl ⟨.bool true, .bool true, [], rfl, fun _ => rfl, .bool true, post_true l _, fun _ => ⟨List.Pairwise.nil, fun _ hm => (nomatch hm)⟩⟩, h2, h3, h4⟩
section
variable {prog : Program} {w : World} {A : Around} {E : Value → Shared → Prop} {s : Shared} {K : Frag}
end
end Att
namespace L2
open PySem PySem.Spec PyProof.Rows
theorem vals_ints : ∀ {vs : List Value} {ns : List Int}, IntsAre vs ns → Vals (ns.map V.int) vs
  | _, _, .nil => .nil
  | _, _, .cons n t h => .cons ⟨t, rfl⟩ (vals_ints h)
def Only (H : Hp) : Prop := ∀ b, H b = none ∨ ∃ o xs, H b = some (.frz o (.lst xs))
theorem law_call {P : Program} {w : World} {K : PySem.W.Frag} {mg mb : Str → Option Value} {CX : CXT} {k : Nat} {fa a : Addr} {fd : FuncData} {x : Str} {sp : Sp} {s₁ : Shared} {vs : List Value} {ns : List Int}
    (KX : K.In s₁.heap) (hns : s₁.heap.Ns mainGlobals mg) (hb : s₁.heap.Ns builtinsNs mb) (hbb : ∀ x : Str, x ≠ "__name__" → mb x = bootBuiltins x) (hlim : s₁.heap.NoLimit) (hg : s₁.gens = #[])
    (ha : s₁.heap.get? a = some { cls := .type "list", data := .seq vs.toArray }) (hi : IntsAre vs ns) (hl : ns.length ≤ sizeLine) (hr : Room k callerA)
    (F : ∀ base : Heap, K.In base → base.Ns mainGlobals mg → FnOk P w K mg base CX k fa fd [x] sp) (hbind : ∀ (s : Shared) (u : Value), BindsTo s fd ⟨[u], []⟩ [(x, u)])
    (hsp : ∀ H : Hp, Only H → SqL K H a (ns.map V.int) → sp [.ref a] H (fun v _ => v = .bl true) fun _ _ _ => False)
    (hCX : ∀ H e s', CX [] H s₁ (fun _ _ _ => False) e s' → False) :
    codeAny (model P w) callerA (.call (.ref fa) ⟨[.ref a], []⟩) (fun r s' => r = .ok (.ret (.bool true)) ∧ OldK s₁.heap s'.heap ∧ s'.os = s₁.os ∧ AllBare s'.gens) s₁ := by
  have rv := vals_ints hi
  have lenV := hi.length
  have core : ∀ H : Hp, Only H → SqL K H a (ns.map V.int) → HOk P w H s₁.heap → (∀ b, H b ≠ none → b = a) → (H a ≠ none → K.lookup a = none) →
      codeAny (model P w) callerA (.call (.ref fa) ⟨[.ref a], []⟩) (fun r s' => r = .ok (.ret (.bool true)) ∧ OldK s₁.heap s'.heap ∧ s'.os = s₁.os ∧ AllBare s'.gens) s₁ := by
    intro H hO hS hok hA hK
    have base_of : ∀ {b : Addr} {o : Obj}, s₁.heap.get? b = some o → H b = none → (hidT s₁.heap H).get? b = some o := fun e n => hidT_get e n
    have noA : ∀ {b : Addr} {o : Obj} {es : Array DictEntry} {ep : Nat}, s₁.heap.get? b = some o → o.data = .dict es ep → H b = none := fun {b o es ep} e d => by
      cases q : H b with
      | none => rfl
      | some u =>
        have e' : b = a := hA b (by rw [q]; simp)
        subst e'
        rw [ha] at e; cases e
        have d' : Data.seq vs.toArray _ = Data.dict es ep := d
        cases d'
    have nsK : ∀ {b : Addr} {m : Str → Option Value}, s₁.heap.Ns b m → (hidT s₁.heap H).Ns b m := fun {b m} ⟨o, es, ep, e, d, r⟩ => ⟨o, es, ep, base_of e (noA e d), d, r⟩
    have hKb : K.In (hidT s₁.heap H) := fun b o e => base_of (KX b o e) (by
      cases q : H b with
      | none => rfl
      | some u =>
        have e' : b = a := hA b (by rw [q]; simp)
        subst e'
        rw [hK (by rw [q]; simp)] at e; cases e)
    have hM : Mod K mg (hidT s₁.heap H) := ⟨hKb, nsK hns, ⟨mb, nsK hb, hbb⟩, let ⟨mc, h1, h2⟩ := hlim; ⟨mc, nsK h1, h2⟩⟩
    have e0 : Env0 P w K mg (hidT s₁.heap H) callerA [] s₁ H := ⟨rfl, hM, fun b o e => of_hidT e, Nat.le_of_eq (hidT_size _ _), trivial, fun b hb => absurd (show b ∈ ([] : List Addr) from hb) (by simp), hok, .of_eq hg⟩
    refine codeAny_mono ((F _ hKb (nsK hns)).run callerA [] s₁ H ⟨[.ref a], []⟩ [.ref a] [.ref a] _ _ hr e0 (hbind s₁ (.ref a)) (.cons rfl .nil) (hsp H hO hS)) fun r s' h => ?_
    cases r with
    | error e => exact (hCX H e s' h).elim
    | ok fl =>
      cases fl with
      | next => exact False.elim h
      | brk => exact False.elim h
      | cont => exact False.elim h
      | ret u =>
        obtain ⟨v, H', os, bare, un, hok', r', q⟩ := h
        have q' : v = .bl true := q
        subst q'
        obtain rfl : u = Value.bool true := r'
        refine ⟨rfl, OldK.of_keep fun b o e => ?_, os, bare⟩
        cases q : H b with
        | none => exact un.keep b o e q (by intro z; exact absurd (show b ∈ ([] : List Addr) from z) (by simp)) (by simp)
        | some u =>
          rcases hO b with z | ⟨ob, xs, z⟩
          · rw [q] at z; cases z
          · have z2 := un.frzs b ob _ z
            obtain ⟨e1, _⟩ := hok b _ z
            obtain ⟨e2, _⟩ := hok' b _ z2
            rw [e] at e1; cases e1
            exact e2
  cases hk : K.lookup a with
  | some o =>
    have e := KX a o hk
    rw [ha] at e
    cases e
    refine core (fun _ => none) (fun _ => .inl rfl) (.inr ⟨_, vs.toArray, _, hk, rfl, rfl, rfl, by rw [List.size_toArray, lenV]; exact hl, by simpa using rv⟩) (fun b u z => by have z' : (none : Option HO) = some u := z; cases z') (fun b z => absurd rfl z) fun z => absurd rfl z
  | none =>
    refine core (fun b => if b = a then some (.frz { cls := .type "list", data := .seq vs.toArray } (.lst (ns.map V.int))) else none) (fun b => ?_) (.inl (.inr ⟨{ cls := .type "list", data := .seq vs.toArray }, if_pos rfl⟩)) (fun b u z => ?_) (fun b z => ?_) fun _ => hk
    · by_cases hb : b = a
      · exact .inr ⟨_, _, if_pos hb⟩
      · exact .inl (if_neg hb)
    · by_cases hb : b = a
      · have z' := (if_pos hb).symm.trans z
        cases z'
        subst hb
        exact ⟨ha, by rw [List.length_map]; exact hl, vs, _, rv, ha⟩
      · have z' := (if_neg hb).symm.trans z
        cases z'
    · by_cases hb : b = a
      · exact hb
      · exact absurd (if_neg hb) z
end L2
namespace L2
open PySem PySem.Spec PyProof.Rows
abbrev KOf {K : PySem.W.Frag} {h : Heap} (_ : K.In h) : PySem.W.Frag := K
theorem walk_of {l : PySem.W.OpenLaw} {n k : Nat} {q : Program} {loose : List Str} {XP : (Str → Option Value) → Heap → Prop} {YP : World → Heap → Prop} {d : DefRec} {K : Params → PySem.W.Frag} {CX : World → CXT} {sp : World → Sp} {x : Str}
    (hn : l.most = some n) (hn2 : n ≤ sizeLine) (hdf : d.params.defaults = []) (hr : Room k callerA)
    (hY : ∀ (w : World) (h : Heap), YP w h → (K w.params).In h)
    (F : ∀ (w : World) (mg : Str → Option Value) (fa : Addr) (h : Heap), (K w.params).In h → h.Ns mainGlobals mg → mg d.name = some (.ref fa) →
      ∃ fd : FuncData, (∀ (s : Shared) (u : Value), BindsTo s fd ⟨[u], []⟩ [(x, u)]) ∧
        ∀ base : Heap, (K w.params).In base → base.Ns mainGlobals mg → FnOk l.prog w (K w.params) mg base (CX w) k fa fd [x] (sp w))
    (hsp : ∀ (w : World) (H : Hp) (a : Addr) (ns : List Int), ns.length ≤ n → Only H → SqL (K w.params) H a (ns.map V.int) → sp w [.ref a] H (fun v _ => v = .bl true) fun _ _ _ => False)
    (hCX : ∀ (w : World) (H : Hp) (s : Shared) (e : Value) (s' : Shared), CX w [] H s (fun _ _ _ => False) e s' → False) :
    PySem.W.WalkO q loose XP YP l.row.toRowW d [] (fun f vs => PySem.call f vs) := by
  refine Att.attach_call hn hdf fun w s₀ s₁ mg mb fa o pm cd doc a vs ns G Y ho hd hcd hmg hobj hints hlen hg => ?_
  have KX := hY w _ Y
  obtain ⟨fd, hb, hF⟩ := F w mg fa _ KX G.T.g hmg
  exact law_call KX G.T.g G.T.b G.T.builtins G.T.nolimit hg hobj hints (Nat.le_trans hlen hn2) hr hF hb (fun H hO hS => hsp w H a ns hlen hO hS) fun H e s' => hCX w H s₁ e s'
end L2
/- THE LAST THEOREM (shape; LID, My.* are yours):
   My.Adr: a structure of the addresses that your layer names (classes, functions); My.Txt K t: a structure (Prop) of the equations over K;
   My.txt_mk : {K} {implicit addresses ..} (e1 : nsIn K mainGlobals "law" = some (some (.ref f))) (e2 : K.lookup f = some ⟨oc, od, .func (fnOf "law" "law" params body scope dV kV doc pm an cdv ct), sl⟩) (e3 : codeIn K cdv "law" = true) .. : ∃ t, My.Txt K t
set_option maxRecDepth 100000 in
set_option maxHeartbeats 0 in
theorem PySem.Challenge.cw_LID_holds : PySem.Challenge.rw_LID.Holds := by
  w_on; o_law; k_head; (case hw => w_witness2)
  k_fill
  refine L2.walk_of (l := PySem.Challenge.rw_LID) (n := 63) (k := 40) (x := "script") (CX := fun w => ..) (sp := fun _ => My.sp_law) rfl (by decide) rfl ⟨rfl, by decide, by decide⟩ (fun w h Y => PySem.W.kIn_of Y) ?F ?S ?C
  case F =>
    intro w mg fa h KX G hmg
    have T : ∃ t, My.Txt (L2.KOf KX) t := by
      dsimp only [L2.KOf]                          -- K must stand as «<heap const> w.params» for k_is
      refine' My.txt_mk ?e1 ?e2 ?e3 ..
      (case e1 => PySem.W.k_is)                    -- in the order: a name -> its address -> its object -> its parts
      (case e2 => PySem.W.k_is)
      ..
    obtain ⟨t, T⟩ := T
    have e0 := hmg.symm.trans (PySem.W.mg_of KX G T.law)
    cases e0                                       -- fa is the law's own address
    exact ⟨_, fun s u => .of_eq rfl, fun base kb nb => My.law_fn T kb nb⟩     -- if «.of_eq rfl» comes too early: refine' ⟨_, ?b, fun base kb nb => My.law_fn T kb nb⟩; exact fun s u => .of_eq rfl
  case S => exact fun w H a ns hl hO hS => ..
  case C => exact ..
(the tactic k_is has no namespace: write k_is) -/
namespace L2
open PySem PySem.Spec PyProof.Rows
def inClass (s : Stmt) (j : Nat) : Stmt := match s with
  | .ClassDef _ _ _ body _ _ _ _ _ _ _ => body.getD j (.Pass ⟨0, 0, 0, 0⟩)
  | _ => .Pass ⟨0, 0, 0, 0⟩
def defArgs (s : Stmt) : Arguments := match s with
  | .FunctionDef _ a _ _ _ _ _ _ _ _ => a
  | _ => { posonlyargs := [], args := [], vararg := none, kwonlyargs := [], kw_defaults := [], kwarg := none, defaults := [] }
def defBody (s : Stmt) : List Stmt := match s with
  | .FunctionDef _ _ b _ _ _ _ _ _ _ => b
  | _ => []
def defScope (s : Stmt) : Scope := match s with
  | .FunctionDef _ _ _ _ _ _ sc _ _ _ => sc
  | _ => { kind := .function, names := [], isGenerator := false, isCoroutine := false }
abbrev CX0 : CXT := fun _ _ _ _ _ _ => False
abbrev E0 : XK := fun _ _ _ => False
theorem pass0 {X : Cx} : Passes CX0 X E0 := fun _ _ _ _ _ _ _ h => h.elim
structure Fun (K : PySem.W.Frag) (x qual : Str) (st : Stmt) (f : Addr) (fd : FuncData) : Prop where
  ex : ∃ (oc : Value) (od : Option Addr) (kV doc pm : Value) (an : Option Addr) (cdv ct : Value) (osl : Array (Option Value)),
    fd = PySem.W.fnOf x qual (defArgs st) (defBody st) (defScope st) .none kV doc pm an cdv ct ∧ K.lookup f = some ⟨oc, od, .func fd, osl⟩ ∧ PySem.W.codeIn K cdv qual = true
  kp : PySem.W.keepIn K (.ref f) = true
section
variable {P : Program} {w : World} {K : PySem.W.Frag} {mg : Str → Option Value} {base : Heap}
theorem Fun.ok {x qual : Str} {st : Stmt} {f : Addr} {fd : FuncData} {N ps : List Str} {k : Nat} {sp : Sp} (F : Fun K x qual st f fd) (S : FnScope N ps (defScope st)) (len : ∀ vs H Q E, sp vs H Q E → vs.length = ps.length)
    (hbody : ∀ (cdv : Value) (A : Around) (outer : List Env) (s : Shared) (H : Hp) (vs : List V) (Q : VK) (E : XK), Room k (A.deeper (envOfC qual (defScope st) s.heap.objs.size f cdv)) → sp vs H Q E →
      ∃ t, PSs (cxOf CX0 P w K mg base N qual (defScope st) f cdv A outer s H E).nox (defBody st) t ∧ t { nx := fun _ H' => Q .non H', rt := Q } (start N vs) H) : FnOk P w K mg base CX0 (k + 1) f fd ps sp := by
  obtain ⟨oc, od, kV, doc, pm, an, cdv, ct, osl, rfl, lk, hcd⟩ := F.ex
  refine fn_of lk hcd S len fun A outer s H vs Q E hr hsp => ?_
  obtain ⟨t, h, q⟩ := hbody cdv A outer s H vs Q E hr hsp
  exact ⟨t, h.nox, q⟩
theorem Fun.binds {x qual : Str} {st : Stmt} {f : Addr} {fd : FuncData} {ps : List Str} (F : Fun K x qual st f fd)
    (h : ∀ (kV doc pm : Value) (an : Option Addr) (cdv ct : Value) (us : List Value), us.length = ps.length → bindArgs (PySem.W.fnOf x qual (defArgs st) (defBody st) (defScope st) .none kV doc pm an cdv ct) ⟨us, []⟩ = pure (ps.zip us)) : Binds K fd ps [] := by
  obtain ⟨oc, od, kV, doc, pm, an, cdv, ct, osl, rfl, lk, hcd⟩ := F.ex
  exact .all (h kV doc pm an cdv ct)
theorem fun_mk {x qual : Str} {st : Stmt} {f : Addr} {oc : Value} {od an : Option Addr} {osl : Array (Option Value)} {kV doc pm cdv ct : Value} (l : K.lookup f = some ⟨oc, od, .func (PySem.W.fnOf x qual (defArgs st) (defBody st) (defScope st) .none kV doc pm an cdv ct), osl⟩)
    (c : PySem.W.codeIn K cdv qual = true) (k : PySem.W.keepIn K (.ref f) = true) : Fun K x qual st f (PySem.W.fnOf x qual (defArgs st) (defBody st) (defScope st) .none kV doc pm an cdv ct) := ⟨⟨oc, od, kV, doc, pm, an, cdv, ct, osl, rfl, l, c⟩, k⟩
end
theorem hu_of {A : Around} {k : Nat} (hr : Room k A) : A.units + 1 < cLine := Nat.lt_of_le_of_lt (Nat.add_le_add_left (by decide : 1 ≤ 64) _) hr.units
theorem small1000 {n : Nat} (h : n ≤ 1000) : n < sizeLine := Nat.lt_of_le_of_lt h (by decide)
section
variable {X : Cx}
theorem pv (i : Nat) {x : Str} {pos : Pos} (hN : X.N[i]? = some x := by rfl) (hv : Vis X.env.scope x := by first | exact Or.inl rfl | exact Or.inr (Or.inl rfl) | exact Or.inr (Or.inr rfl)) (hd : (x == ("__debug__" : Str)) = false := by decide)
    (hcd : (x == ("__classdict__" : Str)) = false := by decide) : PE X (.Name x pos) (tVar i) := pe_var hN hv hd hcd
end
theorem iteF {A B : Prop} (h : B) : if false = true then A else B := by
  rw [if_neg Bool.false_ne_true]
  exact h
theorem iteT {A B : Prop} (h : A) : if true = true then A else B := by
  rw [if_pos rfl]
  exact h
theorem ite2 {c A B : Prop} [Decidable c] (h1 : c → A) (h2 : ¬ c → B) : if c then A else B := by
  by_cases h : c
  · rw [if_pos h]
    exact h1 h
  · rw [if_neg h]
    exact h2 h
theorem iteNS {c A B : Prop} [Decidable c] (hc : c) (h : B) : if (!decide c) = true then A else B := by
  rw [decide_eq_true hc]
  exact iteF h
def Same (H H' : Hp) : Prop := ∀ b o, H b = some o → H' b = some o
theorem Same.refl (H : Hp) : Same H H := fun _ _ h => h
theorem Same.trans {H H1 H2 : Hp} (a : Same H H1) (b : Same H1 H2) : Same H H2 := fun c o h => b c o (a c o h)
theorem Same.free {H H' : Hp} (e : Same H H') {l : Addr} (h : H' l = Option.none) : H l = Option.none := by
  cases q : H l with
  | none => rfl
  | some o =>
    rw [e l o q] at h
    cases h
theorem Same.seq {K : PySem.W.Frag} {H H' : Hp} {a : Addr} {xs : List V} (e : Same H H') (h : SqL K H a xs) : SqL K H' a xs := by
  rcases h with (h | ⟨o, h⟩) | h
  · exact .inl (.inl (e _ _ h))
  · exact .inl (.inr ⟨o, e _ _ h⟩)
  · exact .inr h
end L2
set_option Elab.async false
set_option linter.all false
set_option maxRecDepth 100000
namespace L2
open PySem PySem.Spec PyProof.Rows
section
variable {κ : Type} [DecidableEq κ]
def valV (kvs : List (κ × V)) (k : κ) : Option V := (kvs.find? fun kv => decide (kv.1 = k)).map (·.2)
def putK (kvs : List (κ × V)) (k : κ) (v : V) : List (κ × V) :=
  if (kvs.any fun kv => decide (kv.1 = k)) = true then kvs.map (fun kv => if kv.1 = k then (kv.1, v) else kv) else kvs ++ [(k, v)]
theorem valV_pos {p : κ × V} {r : List (κ × V)} {k : κ} (e : p.1 = k) : valV (p :: r) k = some p.2 := by simp [valV, List.find?_cons, e]
theorem valV_neg {p : κ × V} {r : List (κ × V)} {k : κ} (e : ¬ p.1 = k) : valV (p :: r) k = valV r k := by simp [valV, List.find?_cons, e]
theorem valV_any (k : κ) : ∀ kvs : List (κ × V), (kvs.any fun kv => decide (kv.1 = k)) = (valV kvs k).isSome
  | [] => rfl
  | p :: r => by
    rw [List.any_cons]
    by_cases e : p.1 = k
    · simp only [valV_pos e, decide_eq_true e, Bool.true_or, Option.isSome_some]
    · rw [valV_neg e, decide_eq_false e, Bool.false_or]; exact valV_any k r
theorem valV_map (k j : κ) (y : V) : ∀ kvs : List (κ × V), valV (kvs.map fun kv => if kv.1 = k then (kv.1, y) else kv) j = (valV kvs j).map fun x => if j = k then y else x
  | [] => rfl
  | p :: r => by
    have ih := valV_map k j y r
    rw [List.map_cons]
    by_cases h : p.1 = k
    · rw [if_pos h]
      by_cases e : p.1 = j
      · rw [valV_pos (p := (p.1, y)) e, valV_pos e, Option.map_some, if_pos (e.symm.trans h)]
      · rw [valV_neg (p := (p.1, y)) e, valV_neg e, ih]
    · rw [if_neg h]
      by_cases e : p.1 = j
      · rw [valV_pos (p := p) e, valV_pos e, Option.map_some, if_neg (fun z => h (e.trans z))]
      · rw [valV_neg (p := p) e, valV_neg e, ih]
theorem valV_snoc (k j : κ) (y : V) : ∀ kvs : List (κ × V), valV kvs k = none → valV (kvs ++ [(k, y)]) j = if j = k then some y else valV kvs j
  | [], _ => by
    by_cases e : k = j
    · rw [if_pos e.symm]; exact valV_pos (p := (k, y)) e
    · rw [if_neg (fun z => e z.symm)]; exact valV_neg (p := (k, y)) e
  | p :: r, hn => by
    rw [List.cons_append]
    have hk : ¬ p.1 = k := fun z => by rw [valV_pos z] at hn; cases hn
    rw [valV_neg hk] at hn
    have ih := valV_snoc k j y r hn
    by_cases e : p.1 = j
    · rw [valV_pos e, valV_pos e, if_neg (fun z => hk (e.trans z))]
    · rw [valV_neg e, valV_neg e, ih]
theorem valV_put (kvs : List (κ × V)) (k j : κ) (y : V) : valV (putK kvs k y) j = if j = k then some y else valV kvs j := by
  unfold putK
  by_cases a : (kvs.any fun kv => decide (kv.1 = k)) = true
  · rw [if_pos a, valV_map]
    rw [valV_any] at a
    by_cases e : j = k
    · obtain ⟨x, hx⟩ := Option.isSome_iff_exists.mp a
      rw [if_pos e, e, hx, Option.map_some, if_pos rfl]
    · rw [if_neg e]
      cases valV kvs j with
      | none => rfl
      | some x => rw [Option.map_some, if_neg e]
  · rw [if_neg a]
    refine valV_snoc k j y kvs ?_
    rw [valV_any] at a
    cases q : valV kvs k with
    | none => rfl
    | some x => rw [q] at a; exact (a rfl).elim
theorem length_putK (kvs : List (κ × V)) (k : κ) (v : V) : (putK kvs k v).length ≤ kvs.length + 1 := by
  unfold putK
  split
  · rw [List.length_map]; omega
  · rw [List.length_append, List.length_cons, List.length_nil]; omega
theorem putK_new {kvs : List (κ × V)} {k : κ} (v : V) (h : valV kvs k = none) : putK kvs k v = kvs ++ [(k, v)] := by
  unfold putK
  rw [valV_any, h]
  exact if_neg (by decide)
theorem RelO.isSome_eq {o : Option V} {u : Option Value} (r : RelO o u) : o.isSome = u.isSome := by
  cases o with
  | none => cases u with
    | none => rfl
    | some _ => exact (show False from r).elim
  | some _ => cases u with
    | none => exact (show False from r).elim
    | some _ => rfl
theorem KV.val {kvs : List (κ × V)} {vs : List (κ × Value)} (r : KV kvs vs) (k : κ) : RelO (valV kvs k) (valueAt vs k) := by
  unfold KV at r
  induction r with
  | nil => exact True.intro
  | @cons p q ps qs h t ih =>
    obtain ⟨h1, h2⟩ := h
    by_cases e : p.1 = k
    · have e' : q.1 = k := h1.symm.trans e
      have b : valueAt (q :: qs) k = some q.2 := by simp [valueAt, List.find?_cons, e']
      rw [valV_pos e, b]; exact h2
    · have e' : ¬ q.1 = k := fun z => e (h1.trans z)
      have b : valueAt (q :: qs) k = valueAt qs k := by simp [valueAt, List.find?_cons, e']
      rw [valV_neg e, b]; exact ih
theorem KV.any {kvs : List (κ × V)} {vs : List (κ × Value)} (r : KV kvs vs) (k : κ) : (kvs.any fun kv => decide (kv.1 = k)) = vs.any fun kv => decide (kv.1 = k) := by
  unfold KV at r
  induction r with
  | nil => rfl
  | cons h t ih => rw [List.any_cons, List.any_cons, ih, h.1]
theorem KV.repl {kvs : List (κ × V)} {vs : List (κ × Value)} (r : KV kvs vs) (k : κ) {y : V} {u : Value} (ry : RelV y u) :
    KV (kvs.map fun kv => if kv.1 = k then (kv.1, y) else kv) (vs.map fun kv => if kv.1 = k then (kv.1, u) else kv) := by
  unfold KV at r ⊢
  induction r with
  | nil => exact .nil
  | @cons p q ps qs h t ih =>
    rw [List.map_cons, List.map_cons]
    refine .cons ?_ ih
    obtain ⟨h1, h2⟩ := h
    by_cases e : p.1 = k
    · rw [if_pos e, if_pos (h1.symm.trans e)]; exact ⟨h1, ry⟩
    · rw [if_neg e, if_neg (fun z => e (h1.trans z))]; exact ⟨h1, h2⟩
theorem KV.put {kvs : List (κ × V)} {vs : List (κ × Value)} (r : KV kvs vs) (k : κ) {y : V} {u : Value} (ry : RelV y u) : KV (putK kvs k y) (stored vs k u) := by
  unfold putK stored
  rw [r.any k]
  by_cases e : (vs.any fun kv => decide (kv.1 = k)) = true
  · rw [if_pos e, if_pos e]; exact r.repl k ry
  · rw [if_neg e, if_neg e]; exact Paired.snoc r ⟨rfl, ry⟩
theorem KV.keys {kvs : List (κ × V)} {vs : List (κ × Value)} (r : KV kvs vs) : kvs.map (·.1) = vs.map (·.1) := by
  unfold KV at r
  induction r with
  | nil => rfl
  | cons h t ih => rw [List.map_cons, List.map_cons, ih, h.1]
theorem KV.length {kvs : List (κ × V)} {vs : List (κ × Value)} (r : KV kvs vs) : kvs.length = vs.length := Paired.length r
end
theorem kV_is {P : Program} {w : World} {k : Key} {u : Value} (r : RelV (kV k) u) : (mixKind P w).is k u = true := by
  cases k with
  | inl i => obtain ⟨t, e⟩ := (show ∃ t, u = Value.int i t from r); subst e; exact mixKind_int P w i t
  | inr x => obtain ⟨t, e⟩ := (show ∃ t, u = Value.str x t from r); subst e; exact mixKind_str P w x t
theorem items_are {P : Program} {w : World} : ∀ {ks : List Key} {us : List Value}, Vals (ks.map kV) us → ItemsAre (mixKind P w) ks us
  | [], _, r => by rw [List.map_nil] at r; cases r; exact .nil
  | k :: ks, _, r => by
    rw [List.map_cons] at r
    cases r with
    | cons h t => exact .cons (kV_is h) (items_are t)
abbrev KT (H : Hp) : List (List Key × V) → List (List Key × Addr × Value) → Prop := Paired fun p q => p.1 = q.1 ∧ H q.2.1 = some (.tup (p.1.map kV)) ∧ RelV p.2 q.2.2
theorem KT.val {H : Hp} {kvs : List (List Key × V)} {xs : List (List Key × Addr × Value)} (r : KT H kvs xs) (k : List Key) : RelO (valV kvs k) ((atKey xs k).map (·.2)) := by
  induction r with
  | nil => exact True.intro
  | @cons p q ps qs h t ih =>
    obtain ⟨h1, _, h2⟩ := h
    by_cases e : p.1 = k
    · have e' : q.1 = k := h1.symm.trans e
      have b : atKey (q :: qs) k = some q.2 := by simp [atKey, List.find?_cons, e']
      rw [valV_pos e, b]; exact h2
    · have e' : ¬ q.1 = k := fun z => e (h1.trans z)
      have b : atKey (q :: qs) k = atKey qs k := by simp [atKey, List.find?_cons, e']
      rw [valV_neg e, b]; exact ih
theorem KT.repl {H : Hp} {kvs : List (List Key × V)} {xs : List (List Key × Addr × Value)} (r : KT H kvs xs) (k : List Key) {y : V} {u : Value} (ry : RelV y u) :
    KT H (kvs.map fun kv => if kv.1 = k then (kv.1, y) else kv) (xs.map (putAt k u)) := by
  induction r with
  | nil => exact .nil
  | @cons p q ps qs h t ih =>
    rw [List.map_cons, List.map_cons]
    refine .cons ?_ ih
    obtain ⟨h1, h2, h3⟩ := h
    unfold putAt
    by_cases e : p.1 = k
    · rw [if_pos e, if_pos (h1.symm.trans e)]; exact ⟨h1, h2, ry⟩
    · rw [if_neg e, if_neg (fun z => e (h1.trans z))]; exact ⟨h1, h2, h3⟩
theorem KT.put {H : Hp} {kvs : List (List Key × V)} {xs : List (List Key × Addr × Value)} (r : KT H kvs xs) (k : List Key) {b : Addr} {y : V} {u : Value} (hb : H b = some (.tup (k.map kV))) (ry : RelV y u) :
    KT H (putK kvs k y) (storedH xs k b u) := by
  have e : (kvs.any fun kv => decide (kv.1 = k)) = (atKey xs k).isSome := by
    rw [valV_any, (r.val k).isSome_eq, Option.isSome_map]
  unfold putK storedH
  rw [e]
  by_cases q : (atKey xs k).isSome = true
  · rw [if_pos q, if_pos q]; exact r.repl k ry
  · rw [if_neg q, if_neg q]; exact Paired.snoc r ⟨rfl, hb, ry⟩
theorem KT.keeps {H H' : Hp} {kvs : List (List Key × V)} {xs : List (List Key × Addr × Value)} (r : KT H kvs xs) (ht : ∀ b ys, H b = some (.tup ys) → H' b = some (.tup ys)) : KT H' kvs xs :=
  Paired.mapP r fun _ _ z => ⟨z.1, ht _ _ z.2.1, z.2.2⟩
section
variable {P : Program} {w : World} {H : Hp} {h : Heap} {a : Addr}
theorem rd_of {u : HO} (ok : HOk P w H h) (e : Rd H a u) : ObjOk P w H h a u := e.ok ok
theorem dk_rd {kvs : List (Key × V)} (ok : HOk P w H h) (e : Rd H a (.dK kvs)) : kvs.length ≤ sizeLine ∧ (a == sysModules) = false ∧ ∃ vs, KV kvs vs ∧ h.DictOf (mixKind P w) a vs :=
  show ObjOk P w H h a (.dK kvs) from rd_of ok e
theorem dk_of {kvs : List (Key × V)} (ok : HOk P w H h) (e : H a = some (.dK kvs)) : kvs.length ≤ sizeLine ∧ (a == sysModules) = false ∧ ∃ vs, KV kvs vs ∧ h.DictOf (mixKind P w) a vs := dk_rd ok (.inl e)
theorem key_of {ks : List Key} (ok : HOk P w H h) (e : H a = some (.tup (ks.map kV))) : (tupleKind (mixKind P w)).is h ks a := by
  obtain ⟨_, its, r, o, h1, h2, n, h3⟩ := (show ObjOk P w H h a (.tup (ks.map kV)) from ok a _ e)
  exact ⟨o, its.toArray, n, h1, h2, h3, by simpa using items_are r⟩
theorem dt_rd {kvs : List (List Key × V)} (ok : HOk P w H h) (e : Rd H a (.dT kvs)) : kvs.length ≤ sizeLine ∧ (a == sysModules) = false ∧
    ∃ xs, KT H kvs xs ∧ h.DictOfH (tupleKind (mixKind P w)) a xs := by
  obtain ⟨z, y, xs, r, o, es, ep, h1, h2, h3, h4, h5⟩ := (show ObjOk P w H h a (.dT kvs) from rd_of ok e)
  refine ⟨z, y, xs, r, o, es, ep, h1, h2, h3, h4, fun x hx => ?_, h5⟩
  have all : ∀ {l : List (List Key × V)} {m : List (List Key × Addr × Value)}, KT H l m → ∀ x ∈ m, (tupleKind (mixKind P w)).is h x.1 x.2.1 := by
    intro l m q
    induction q with
    | nil => intro x hx; exact nomatch hx
    | @cons p q ps qs hq t ih =>
      intro x hx
      rcases List.mem_cons.mp hx with e | hx
      · subst e
        exact key_of ok (by rw [← hq.1]; exact hq.2.1)
      · exact ih x hx
  exact all r x hx
theorem dt_of {kvs : List (List Key × V)} (ok : HOk P w H h) (e : H a = some (.dT kvs)) : kvs.length ≤ sizeLine ∧ (a == sysModules) = false ∧
    ∃ xs, KT H kvs xs ∧ h.DictOfH (tupleKind (mixKind P w)) a xs := dt_rd ok (.inl e)
end
def DGet (H : Hp) (a : Addr) (y : V) (r : Option V) : Prop :=
  (∃ kvs k, Rd H a (.dK kvs) ∧ y = kV k ∧ r = valV kvs k) ∨ ∃ kvs k b, Rd H a (.dT kvs) ∧ y = .ref b ∧ H b = some (.tup (k.map kV)) ∧ r = valV kvs k
def DPut (H : Hp) (a : Addr) (y v : V) (H' : Hp) : Prop :=
  (∃ kvs k, H a = some (.dK kvs) ∧ y = kV k ∧ kvs.length < sizeLine ∧ H' = upd H a (.dK (putK kvs k v))) ∨
  ∃ kvs k b, H a = some (.dT kvs) ∧ y = .ref b ∧ H b = some (.tup (k.map kV)) ∧ kvs.length < sizeLine ∧ H' = upd H a (.dT (putK kvs k v))
theorem DGet.k {H : Hp} {a : Addr} {kvs : List (Key × V)} {k : Key} (e : H a = some (.dK kvs)) : DGet H a (kV k) (valV kvs k) := .inl ⟨kvs, k, .inl e, rfl, rfl⟩
theorem DPut.k {H : Hp} {a : Addr} {kvs : List (Key × V)} {k : Key} {v : V} (e : H a = some (.dK kvs)) (hl : kvs.length < sizeLine) : DPut H a (kV k) v (upd H a (.dK (putK kvs k v))) := .inl ⟨kvs, k, e, rfl, hl, rfl⟩
section
variable {X : Cx} {pins : List (Addr × Obj)} {σ : St} {H : Hp} {s : Shared} {a : Addr} {y v : V} {u r : Value} {o : Option V} {A : Around} {E : Value → Shared → Prop}
theorem Inv.big (I : Inv X pins σ H s) : sysModules < s.heap.objs.size := by
  have h : mainGlobals < s.heap.objs.size := (I.mod.glob.keeps I.bk).lt
  exact Nat.lt_trans (by decide) h
theorem d_getItem {Q : Value → Shared → Prop} (hu : A.units + 1 < cLine) (I : Inv X pins σ H s) (g : DGet H a y (some v)) (ry : RelV y u) (h : ∀ w' s', Inv X pins σ H s' → RelV v w' → Q w' s') :
    wpAny (model X.prog X.w) A (getItem (.ref a) u) Q E s := by
  rcases g with ⟨kvs, k, e, ey, l⟩ | ⟨kvs, k, b, e, ey, eb, l⟩
  · subst ey
    obtain ⟨z, hd, vs, rel, dd⟩ := dk_rd I.hok e
    obtain ⟨w', hw, rw'⟩ := RelO.some_of (v := v) (o := valueAt vs k) (by rw [l]; exact rel.val k)
    exact wpAny_getItem_of (kV_is ry) dd.mapOf hw (h w' _ (I.tok _) rw')
  · subst ey
    cases (show u = Value.ref b from ry)
    obtain ⟨z, hd, xs, rel, dd⟩ := dt_rd I.hok e
    obtain ⟨w', hw, rw'⟩ := RelO.some_of (v := v) (o := (atKey xs k).map (·.2)) (by rw [l]; exact rel.val k)
    obtain ⟨p, hp, hp2⟩ := Option.map_eq_some_iff.mp hw
    refine wpAny_getItem_heap (tupleKind_room_in1 hu) (key_of I.hok eb) dd hp ?_
    rw [hp2]
    exact h w' _ (I.tok _) rw'
theorem d_write {h' : Heap} {t' : Nat} {ob : HO} (I : Inv X pins σ H s) (mu : Mut (H a)) (hs : Heap.SameBut a s.heap h') (he : ∃ q, h'.get? a = some q) (new : ObjOk X.prog X.w (upd H a ob) h' a ob) :
    Inv X pins σ (upd H a ob) { s with heap := h', toks := t' } :=
  I.write (x := a) (e := a) mu (.inl rfl) (fun b q hb z => (hs.2 b hb).trans z) he new
theorem dk_new {P : Program} {w : World} {H' : Hp} {h' : Heap} {kvs : List (Key × V)} {vs : List (Key × Value)} (z : kvs.length ≤ sizeLine) (hd : (a == sysModules) = false) (rel : KV kvs vs) (dd : h'.DictOf (mixKind P w) a vs) :
    ObjOk P w H' h' a (.dK kvs) := ⟨z, hd, vs, rel, dd⟩
theorem d_setItem {H' : Hp} {Q : Unit → Shared → Prop} (hu : A.units + 1 < cLine) (I : Inv X pins σ H s) (g : DPut H a y v H') (ry : RelV y u) (rv : RelV v r) (h : ∀ s', Inv X pins σ H' s' → Q () s') :
    wpAny (model X.prog X.w) A (setItem (.ref a) u r) Q E s := by
  rcases g with ⟨kvs, k, e, ey, l, eH⟩ | ⟨kvs, k, b, e, ey, eb, l, eH⟩
  · subst ey eH
    obtain ⟨z, hd, vs, rel, dd⟩ := dk_of I.hok e
    have hz : vs.length ≤ sizeLine := by rw [← rel.length]; exact z
    have hl : (putK kvs k v).length ≤ sizeLine := by have := length_putK kvs k v; omega
    refine wpAny_setItem_pairs (hsz := hz) (kV_is ry) dd fun h' dd' hs => h _ ?_
    have he : ∃ q, h'.get? a = some q := let ⟨q, _, _, hq, _⟩ := dd'; ⟨q, hq⟩
    exact d_write I (by rw [e]; exact True.intro) hs he (dk_new hl hd (rel.put k rv) dd')
  · subst ey eH
    cases (show u = Value.ref b from ry)
    obtain ⟨z, hd, xs, rel, dd⟩ := dt_of I.hok e
    have hz : xs.length ≤ sizeLine := by rw [← Paired.length rel]; exact z
    have hl : (putK kvs k v).length ≤ sizeLine := by have := length_putK kvs k v; omega
    refine wpAny_setItem_heap (hsz := hz) (tupleKind_room_in1 hu) (key_of I.hok eb) dd fun h' dd' hs => h _ ?_
    obtain ⟨q, es, ep, hq, h2, h3, h4, _, h5⟩ := dd'
    refine d_write I (by rw [e]; exact True.intro) hs ⟨q, hq⟩ ⟨hl, hd, _, (rel.put k eb rv).keeps fun c ys ec => ?_, q, es, ep, hq, h2, h3, h4, h5⟩
    rw [upd_ne (ne_of ec e (fun z => nomatch z))]
    exact ec
end
section
variable {X : Cx} {pins : List (Addr × Obj)} {σ : St} {H : Hp} {s : Shared} {a : Addr} {kvs : List (Key × V)} {k : Key} {u : Value} {A : Around} {E : Value → Shared → Prop}
end
def NoSl (i : Expr) : Prop := ∀ ov iv, subscripted i false ov iv = operate [ov, iv] (getItem ov iv)
theorem subD_of {prog : Program} {w : World} {A : Around} {E : Value → Shared → Prop} {s : Shared} {env : Env} {value slice : Expr} {pos : Pos} {T id : String} {Q : Value → Shared → Prop}
    (hl : typeLookup (.type T) "__getitem__" = pure (some (.builtin id))) (hs : NoSl slice)
    (h : wpAny (model prog w) A (eval value env) (fun o s₁ => wpAny (model prog w) A (eval slice env) (fun i s₂ => s₂.TypeIs o T ∧ wpAny (model prog w) A (getItem o i) Q E s₂) E s₁) E s) :
    wpAny (model prog w) A (eval (.Subscript value slice pos) env) Q E s := by
  refine Subscript_ (wpAny_mono h (fun o s₁ h₁ => wpAny_mono h₁ (fun i s₂ h₂ => ?_) fun _ _ x => x) fun _ _ x => x)
  obtain ⟨hT, h₂⟩ := h₂
  unfold subscriptTail
  refine wpAny_bind ?_
  rw [getitemInPython_of_ne hT.not_modules]
  refine wpAny_bind (wpAny_specialOf hT hl ?_)
  have fin : wpAny (model prog w) A (subscripted slice false o i) (fun r s₃ => wpAny (model prog w) A (letTemporaryGo value o r >>= fun _ => pure r) Q E s₃) E s₂ := by
    rw [hs o i]
    exact wpAny_operating (wpAny_mono h₂ (fun r s₃ h₃ => wpAny_bind (wpAny_letTemporaryGo (wpAny_pure h₃))) fun _ _ x => x)
  first
    | exact wpAny_pure (wpAny_bind fin)
    | exact wpAny_bind (wpAny_pure (wpAny_bind fin))
    | exact wpAny_bind fin
theorem dict_typeIs {X : Cx} {pins : List (Addr × Obj)} {σ : St} {H : Hp} {s : Shared} {a : Addr} {y : V} {o : Option V} (I : Inv X pins σ H s) (g : DGet H a y o) : s.TypeIs (.ref a) "dict" := by
  rcases g with ⟨kvs, k, e, _, _⟩ | ⟨kvs, k, b, e, _, _, _⟩
  · obtain ⟨_, _, vs, _, dd⟩ := dk_rd I.hok e
    exact dd.typeIs
  · obtain ⟨_, _, xs, _, dd⟩ := dt_rd I.hok e
    exact dd.typeIs
inductive ItDGet (Q : VK) (x : V) (y : V) (H2 : Hp) : Prop
  | mk : ∀ a v, (x = .ref a) → (DGet H2 a y (some v)) → (Q v H2) → ItDGet Q x y H2
def tDGet (td ty : TE) : TE := fun σ H Q => td σ H fun x H1 => ty σ H1 fun y H2 => ItDGet Q x y H2
inductive IsDPut (D : Ends) (σ : St) (v : V) (x : V) (y : V) (H3 : Hp) : Prop
  | mk : ∀ a H4, (x = .ref a) → (DPut H3 a y v H4) → (D.nx σ H4) → IsDPut D σ v x y H3
def sDPut (td ty tv : TE) : TS := fun D σ H => tv σ H fun v H1 => td σ H1 fun x H2 => ty σ H2 fun y H3 => IsDPut D σ v x y H3
section
variable {X : Cx} {o i e value : Expr} {pos pos' tpos : Pos} {td ty tv : TE}
theorem pe_dget (hu : X.A.units + 1 < cLine) (ho : PE X o td) (hi : PE X i ty) (hs : NoSl i) : PE X (.Subscript o i pos) (tDGet td ty) := by
  intro pins s σ H Q I h
  refine subD_of PySem.F.slot_dict_getitem.lookup hs (thn (ho pins s σ H _ I h) fun u s1 ⟨x, H1, I1, rx, q1⟩ => thn (hi pins s1 σ H1 _ I1 q1) fun iv s2 ⟨y, H2, I2, ry, a, v, ex, g, q2⟩ => ?_)
  subst ex
  obtain rfl : u = Value.ref a := rx
  exact ⟨dict_typeIs I2 g, d_getItem hu I2 g ry fun w' s3 I3 rw' => ⟨v, H2, I3, rw', q2⟩⟩
theorem ps_dput (hu : X.A.units + 1 < cLine) (ho : PE X o td) (hi : PE X i ty) (hv : PE X value tv) (hs : swapsWith value (some (.Subscript o i pos')) pos.line X.env = pure false) :
    PS X (.Assign [.Subscript o i pos'] value pos) (sDPut td ty tv) := by
  intro pins s σ H D I h
  refine wpAny_Assign_Subscript (thn (hv pins s σ H _ I h) fun r s1 ⟨v, H1, I1, rv, q1⟩ => thn (ho pins s1 σ H1 _ I1 q1) fun u s2 ⟨x, H2, I2, rx, q2⟩ => thn (hi pins s2 σ H2 _ I2 q2) fun iv s3 ⟨y, H3, I3, ry, a, H4, ex, g, q3⟩ => ?_) hs
  subst ex
  obtain rfl : u = Value.ref a := rx
  exact d_setItem hu I3 g ry rv fun s4 I4 => ⟨σ, H4, I4, q3⟩
end
theorem dk_empty {P : Program} {w : World} {H : Hp} (h : Heap) (hb : sysModules < h.objs.size) : ObjOk P w H (h.push { cls := .type "dict", data := .dict #[] }) h.objs.size (.dK []) :=
  ⟨Nat.zero_le _, beq_eq_false_iff_ne.mpr (Ne.symm (Nat.ne_of_lt hb)), [], .nil, Heap.DictOf.new h⟩
def tDNewK : TE := fun _ H Q => ∀ p, H p = none → Q (.ref p) (upd H p (.dK []))
section
variable {X : Cx} {pos : Pos}
theorem pe_dnewK : PE X (.Dict [] [] pos) tDNewK := fun pins s σ H Q I h =>
  wpAny_Dict_empty ⟨.ref s.heap.objs.size, _, I.laid (a := s.heap.objs.size) (o := .dK []) (t' := s.toks) (fun _ _ q => Heap.get?_push_of_some _ q) (Nat.le_refl _) (dk_empty s.heap I.big), rfl, h _ (I.hok.fresh (Nat.le_refl _))⟩
end
def tPairs : List (TE × TE) → St → Hp → (List (V × V) → Hp → Prop) → Prop
  | [], _, H, Q => Q [] H
  | (tk, tv) :: r, σ, H, Q => tk σ H fun x H1 => tv σ H1 fun y H2 => tPairs r σ H2 fun ps H3 => Q ((x, y) :: ps) H3
abbrev VV : List (V × V) → List (Value × Value) → Prop := Paired fun p q => RelV p.1 q.1 ∧ RelV p.2 q.2
def PPs (X : Cx) (pos : Pos) (keys : List (Option Expr)) (values : List Expr) (trs : List (TE × TE)) : Prop :=
  ∀ (pins : List (Addr × Obj)) (s : Shared) (σ : St) (H : Hp) (Q : List (V × V) → Hp → Prop), Inv X pins σ H s → tPairs trs σ H Q →
    wpAny (model X.prog X.w) X.A (evalPairs (pairTrees keys values X.env pos)) (fun vs s' => ∃ ps H', Inv X pins σ H' s' ∧ VV ps vs ∧ Q ps H') X.xe s
theorem pps_nil {X : Cx} {pos : Pos} : PPs X pos [] [] [] := fun pins s σ H Q I h => pairTrees_nil_walk ⟨[], H, I, .nil, h⟩
theorem pps_cons {X : Cx} {pos : Pos} {k v : Expr} {ks : List (Option Expr)} {vs : List Expr} {tk tv : TE} {trs : List (TE × TE)} (hk : PE X k tk) (hv : PE X v tv) (hr : PPs X pos ks vs trs) :
    PPs X pos (some k :: ks) (v :: vs) ((tk, tv) :: trs) := fun pins s σ H Q I h =>
  pairTrees_cons_walk (thn (hk pins s σ H _ I h) fun u s1 ⟨x, H1, I1, rx, q1⟩ => thn (hv pins s1 σ H1 _ I1 q1) fun w2 s2 ⟨y, H2, I2, ry, q2⟩ =>
    thn (hr pins s2 σ H2 _ I2 q2) fun ws s3 ⟨ps, H3, I3, rel, q3⟩ => ⟨(x, y) :: ps, H3, I3, .cons ⟨rx, ry⟩ rel, q3⟩)
def mergeK (kvs more : List (Key × V)) : List (Key × V) := more.foldl (fun acc kv => putK acc kv.1 kv.2) kvs
theorem KV.merge : ∀ {more : List (Key × V)} {rs : List (Key × Value)} {kvs : List (Key × V)} {vs : List (Key × Value)}, KV more rs → KV kvs vs → KV (mergeK kvs more) (merged vs rs) := by
  intro more rs kvs vs r
  unfold KV at r
  induction r generalizing kvs vs with
  | nil => intro q; exact q
  | @cons p q ps qs h t ih =>
    intro r0
    have e : KV (putK kvs p.1 p.2) (stored vs q.1 q.2) := by
      have := r0.put p.1 h.2
      rw [← h.1]; exact this
    exact ih e
theorem length_mergeK : ∀ (more kvs : List (Key × V)), (mergeK kvs more).length ≤ kvs.length + more.length
  | [], kvs => by show kvs.length ≤ kvs.length + 0; omega
  | p :: r, kvs => by
    have h1 := length_mergeK r (putK kvs p.1 p.2)
    have h2 := length_putK kvs p.1 p.2
    show (mergeK (putK kvs p.1 p.2) r).length ≤ _
    rw [List.length_cons]; omega
theorem carries_of {P : Program} {w : World} : ∀ {kvs : List (Key × V)} {ws : List (Value × Value)}, VV (kvs.map fun kv => (kV kv.1, kv.2)) ws → ∃ rs, Carries (mixKind P w) ws rs ∧ KV kvs rs
  | [], _, r => by rw [List.map_nil] at r; cases r; exact ⟨[], True.intro, .nil⟩
  | p :: kvs, _, r => by
    rw [List.map_cons] at r
    cases r with
    | @cons a b as bs h t =>
      obtain ⟨rs, c, q⟩ := carries_of (P := P) (w := w) t
      obtain ⟨b1, b2⟩ := b
      exact ⟨(p.1, b2) :: rs, ⟨kV_is h.1, rfl, c⟩, .cons ⟨rfl, h.2⟩ q⟩
def tDisp (trs : List (TE × TE)) : TE := fun σ H Q => ∀ p, H p = none → tPairs trs σ (upd H p (.dK [])) fun ps H2 => H2 p = some (.dK []) ∧ ∃ kvs : List (Key × V), ps = kvs.map (fun kv => (kV kv.1, kv.2)) ∧ kvs.length ≤ 15 ∧ Q (.ref p) (upd H2 p (.dK (mergeK [] kvs)))
theorem pe_disp {X : Cx} {pos : Pos} {keys : List (Option Expr)} {values : List Expr} {trs : List (TE × TE)} (h : PPs X pos keys values trs) (hall : keys.all (·.isSome) = true) (hl : keys.length = values.length) (h0 : keys ≠ [])
    (h15 : keys.length ≤ 15) : PE X (.Dict keys values pos) (tDisp trs) := by
  intro pins s σ H Q I q
  have hn := I.hok.fresh (Nat.le_refl s.heap.objs.size)
  have I1 := I.laid (a := s.heap.objs.size) (o := .dK []) (h' := s.heap.push { cls := .type "dict", data := .dict #[] }) (t' := s.toks) (fun _ _ q => Heap.get?_push_of_some _ q) (Nat.le_refl _) (dk_empty s.heap I.big)
  refine wpAny_Dict_walk (knd := mixKind X.prog X.w) hall hl h0 h15 (thn (h pins _ σ _ _ I1 (q _ hn)) fun ws s2 ⟨ps, H2, I2, rel, e, kvs, ep, lk, q2⟩ => ?_)
  subst ep
  obtain ⟨rs, c, rk⟩ := carries_of (P := X.prog) (w := X.w) rel
  obtain ⟨z, hd, vs0, r0, dd⟩ := dk_of I2.hok e
  cases r0
  refine ⟨rs, c, dd, fun h' dd' hs => ⟨.ref s.heap.objs.size, _, ?_, rfl, q2⟩⟩
  have hz : (mergeK [] kvs).length ≤ sizeLine := by
    have h1 := length_mergeK kvs []
    rw [List.length_nil] at h1
    rw [sizeLine_eq]; omega
  have he : ∃ q, h'.get? s.heap.objs.size = some q := let ⟨q, _, _, hq, _⟩ := dd'; ⟨q, hq⟩
  exact d_write I2 (by rw [e]; exact True.intro) hs he (dk_new hz hd (rk.merge .nil) dd')
end L2
namespace Ph
inductive T where
  | nil
  | node (r a : Int) (l rt : T) (rc hd : Int)
  deriving DecidableEq
def T.size : T → Nat
  | .nil => 0
  | .node _ _ l rt _ _ => l.size + rt.size + 1
def T.toL : T → List (Int × Int)
  | .nil => []
  | .node r a l rt _ _ => (r, a) :: (l.toL ++ rt.toL)
def T.reach : T → Int
  | .nil => 0
  | .node _ _ _ _ rc _ => rc
def T.held : T → Int
  | .nil => 0
  | .node _ _ _ _ _ hd => hd
theorem T.length_toL : ∀ t : T, t.toL.length = t.size
  | .nil => rfl
  | .node _ _ l rt _ _ => by simp [T.toL, T.size, l.length_toL, rt.length_toL]
def lt2 (p q : Int × Int) : Bool := if p.1 = q.1 then decide (p.2 < q.2) else decide (p.1 < q.1)
def le2 (p q : Int × Int) : Prop := lt2 q p = false
theorem le2_iff {p q : Int × Int} : le2 p q ↔ p.1 < q.1 ∨ (p.1 = q.1 ∧ p.2 ≤ q.2) := by
  unfold le2 lt2
  split
  · rw [decide_eq_false_iff_not]; omega
  · rw [decide_eq_false_iff_not]; omega
theorem lt2_iff {p q : Int × Int} : lt2 p q = true ↔ p.1 < q.1 ∨ (p.1 = q.1 ∧ p.2 < q.2) := by
  unfold lt2
  split
  · rw [decide_eq_true_iff]; omega
  · rw [decide_eq_true_iff]; omega
theorem le2_refl (p : Int × Int) : le2 p p := by rw [le2_iff]; omega
theorem le2_trans {p q r : Int × Int} (h1 : le2 p q) (h2 : le2 q r) : le2 p r := by
  rw [le2_iff] at *; omega
theorem le2_antisymm {p q : Int × Int} (h1 : le2 p q) (h2 : le2 q p) : p = q := by
  rw [le2_iff] at *
  obtain ⟨a, b⟩ := p; obtain ⟨c, d⟩ := q
  simp only at h1 h2
  have e1 : a = c := by omega
  have e2 : b = d := by omega
  rw [e1, e2]
theorem le2_of_lt2 {p q : Int × Int} (h : lt2 p q = true) : le2 p q := by
  rw [le2_iff]; rw [lt2_iff] at h; omega
abbrev Sorted2 (l : List (Int × Int)) : Prop := l.Pairwise le2
theorem sorted2_same : ∀ {a b : List (Int × Int)}, a.Perm b → Sorted2 a → Sorted2 b → a = b
  | [], b, hp, _, _ => by simpa using hp.symm.eq_nil.symm
  | x :: a, [], hp, _, _ => by simpa using hp.eq_nil
  | x :: a, y :: b, hp, ha, hb => by
    have hx : x ∈ y :: b := hp.mem_iff.mp List.mem_cons_self
    have hy : y ∈ x :: a := hp.mem_iff.mpr List.mem_cons_self
    have h1 : le2 x y := by
      rcases List.mem_cons.mp hy with e | e
      · rw [e]; exact le2_refl _
      · exact (List.pairwise_cons.mp ha).1 y e
    have h2 : le2 y x := by
      rcases List.mem_cons.mp hx with e | e
      · rw [e]; exact le2_refl _
      · exact (List.pairwise_cons.mp hb).1 x e
    have e := le2_antisymm h1 h2
    subst e
    rw [sorted2_same hp.cons_inv (List.pairwise_cons.mp ha).2 (List.pairwise_cons.mp hb).2]
def mk (r a : Int) (l rt : T) : T := .node r a l rt (rt.reach + 1) (l.held + rt.held + 1)
def leanT (r a : Int) (old other : T) : T := if old.reach < other.reach then mk r a other old else mk r a old other
theorem leanT_perm (r a : Int) (l o : T) : (leanT r a l o).toL.Perm ((r, a) :: (l.toL ++ o.toL)) := by
  unfold leanT mk
  split
  · exact List.Perm.cons _ List.perm_append_comm
  · exact List.Perm.refl _
def join : T → T → T
  | .nil, t => t
  | .node r a l rt rc hd, .nil => .node r a l rt rc hd
  | .node r a l rt rc hd, .node r' a' l' rt' rc' hd' =>
    if lt2 (r', a') (r, a) = true then leanT r' a' l' (join (.node r a l rt rc hd) rt') else leanT r a l (join rt (.node r' a' l' rt' rc' hd'))
termination_by s t => s.size + t.size
decreasing_by all_goals simp [T.size]; omega
def joinN : T → T → Nat
  | .nil, _ => 0
  | .node _ _ _ _ _ _, .nil => 0
  | .node r a l rt rc hd, .node r' a' l' rt' rc' hd' =>
    if lt2 (r', a') (r, a) = true then joinN (.node r a l rt rc hd) rt' + 1 else joinN rt (.node r' a' l' rt' rc' hd') + 1
termination_by s t => s.size + t.size
decreasing_by all_goals simp [T.size]; omega
theorem join_nil_left (t : T) : join .nil t = t := by rw [join]
theorem join_nil_right (t : T) : join t .nil = t := by cases t <;> rw [join]
theorem joinN_nil_left (t : T) : joinN .nil t = 0 := by rw [joinN]
theorem joinN_nil_right (t : T) : joinN t .nil = 0 := by cases t <;> rw [joinN]
theorem join_perm (s t : T) : (join s t).toL.Perm (s.toL ++ t.toL) := by
  fun_induction join s t with
  | case1 t => exact List.Perm.refl _
  | case2 r a l rt rc hd => simp [T.toL]
  | case3 r a l rt rc hd r' a' l' rt' rc' hd' h ih =>
    refine (leanT_perm _ _ _ _).trans ?_
    have e : T.toL (.node r' a' l' rt' rc' hd') = (r', a') :: (l'.toL ++ rt'.toL) := rfl
    rw [e]
    refine List.Perm.trans ?_ (List.perm_middle (a := (r', a'))).symm
    refine List.Perm.cons _ ?_
    refine (List.Perm.append_left _ ih).trans ?_
    rw [← List.append_assoc, ← List.append_assoc]
    exact List.Perm.append_right _ List.perm_append_comm
  | case4 r a l rt rc hd r' a' l' rt' rc' hd' h ih =>
    refine (leanT_perm _ _ _ _).trans ?_
    show List.Perm _ ((r, a) :: ((l.toL ++ rt.toL) ++ _))
    refine List.Perm.cons _ ?_
    rw [List.append_assoc]
    exact List.Perm.append_left _ ih
theorem join_size (s t : T) : (join s t).size = s.size + t.size := by
  have := (join_perm s t).length_eq
  rw [List.length_append, T.length_toL, T.length_toL, T.length_toL] at this
  exact this
def Ho : T → Prop
  | .nil => True
  | .node r a l rt _ _ => (∀ q ∈ l.toL ++ rt.toL, le2 (r, a) q) ∧ Ho l ∧ Ho rt
theorem Ho.top {r a rc hd : Int} {l rt : T} (h : Ho (.node r a l rt rc hd)) : ∀ q ∈ T.toL (.node r a l rt rc hd), le2 (r, a) q := by
  intro q hq
  rcases List.mem_cons.mp hq with e | e
  · rw [e]; exact le2_refl _
  · exact h.1 q e
theorem ho_lean {r a : Int} {l o : T} (hl : Ho l) (ho : Ho o) (h : ∀ q ∈ l.toL ++ o.toL, le2 (r, a) q) : Ho (leanT r a l o) := by
  unfold leanT mk
  split
  · exact ⟨fun q hq => h q (List.perm_append_comm.mem_iff.mp hq), ho, hl⟩
  · exact ⟨h, hl, ho⟩
theorem ho_join (s t : T) (hs : Ho s) (ht : Ho t) : Ho (join s t) := by
  fun_induction join s t with
  | case1 t => exact ht
  | case2 r a l rt rc hd => exact hs
  | case3 r a l rt rc hd r' a' l' rt' rc' hd' h ih =>
    refine ho_lean ht.2.1 (ih hs ht.2.2) fun q hq => ?_
    rcases List.mem_append.mp hq with e | e
    · exact ht.1 q (List.mem_append_left _ e)
    · rcases List.mem_append.mp ((join_perm _ _).mem_iff.mp e) with e | e
      · exact le2_trans (le2_of_lt2 h) (hs.top q e)
      · exact ht.1 q (List.mem_append_right _ e)
  | case4 r a l rt rc hd r' a' l' rt' rc' hd' h ih =>
    refine ho_lean hs.2.1 (ih hs.2.2 ht) fun q hq => ?_
    rcases List.mem_append.mp hq with e | e
    · exact hs.1 q (List.mem_append_left _ e)
    · rcases List.mem_append.mp ((join_perm _ _).mem_iff.mp e) with e | e
      · exact hs.1 q (List.mem_append_right _ e)
      · have h' : le2 (r, a) (r', a') := by unfold le2; simpa using h
        exact le2_trans h' (ht.top q e)
end Ph
namespace Ph
open PySem PySem.W PyProof.Rows
def krun {α : Type} (c : Nat → Nat → Bool) : KasT α → α
  | .ret a => a
  | .ask i j k => krun c (k (c i j))
theorem krun_bind {α β : Type} {c : Nat → Nat → Bool} {f : α → KasT β} : ∀ t : KasT α, krun c (t.bind f) = krun c (f (krun c t))
  | .ret _ => rfl
  | .ask i j k => krun_bind (k (c i j))
theorem krun_ite {α : Type} {c : Nat → Nat → Bool} {p : Prop} [Decidable p] {t u : KasT α} : krun c (if p then t else u) = if p then krun c t else krun c u := by
  split <;> rfl
section
variable (key : Nat → Int × Int)
def kc : Nat → Nat → Bool := fun i j => lt2 (key i) (key j)
def Ky (p : Array Nat) (i : Nat) : Int × Int := key (p.getD i 0)
def SortedTo2 (p : Array Nat) (k : Nat) : Prop := ∀ i j, i ≤ j → j < k → le2 (Ky key p i) (Ky key p j)
def NonInc2 (p : Array Nat) (k : Nat) : Prop := ∀ i j, i ≤ j → j < k → le2 (Ky key p j) (Ky key p i)
end
variable {key : Nat → Int × Int}
theorem getD_eq (p : Array Nat) (i : Nat) : p.getD i 0 = p[i]?.getD 0 := by
  by_cases h : i < p.size <;> simp [Array.getD, h]
theorem ky_congr {p q : Array Nat} {i j : Nat} (h : p[i]? = q[j]?) : Ky key p i = Ky key q j := by
  unfold Ky; rw [getD_eq, getD_eq, h]
theorem ky_bubble {xs : Array Nat} {src d : Nat} (hs : src < xs.size) (hd : d ≤ src) (k : Nat) :
    Ky key (bubble xs src d) k = if k = src - d then Ky key xs src else if src - d < k ∧ k ≤ src then Ky key xs (k - 1) else Ky key xs k := by
  have e := getElem?_bubble hs d hd k
  by_cases h1 : k = src - d
  · rw [if_pos h1] at e ⊢; exact ky_congr e
  · rw [if_neg h1] at e ⊢
    by_cases h2 : src - d < k ∧ k ≤ src
    · rw [if_pos h2] at e ⊢; exact ky_congr e
    · rw [if_neg h2] at e ⊢; exact ky_congr e
theorem ky_mirror {xs : Array Nat} {i j : Nat} (hj : j ≤ xs.size) (k : Nat) :
    Ky key (kas_rev xs i j) k = if i ≤ k ∧ k < j then Ky key xs (i + j - 1 - k) else Ky key xs k := by
  have e := getElem?_mirror_all (i := i) hj k
  unfold kas_rev
  by_cases h1 : i ≤ k ∧ k < j
  · rw [if_pos h1] at e ⊢; exact ky_congr e
  · rw [if_neg h1] at e ⊢; exact ky_congr e
theorem ky_mirror_equal {xs : Array Nat} {i j : Nat} (hj : j ≤ xs.size) (heq : ∀ k, i ≤ k → k < j → Ky key xs k = Ky key xs (j - 1)) (k : Nat) :
    Ky key (kas_rev xs i j) k = Ky key xs k := by
  rw [ky_mirror hj]
  split
  · rw [heq _ (by omega) (by omega), heq k (by omega) (by omega)]
  · rfl
theorem rev_perm (p : Array Nat) (i j : Nat) : (kas_rev p i j).Perm p := mirror_perm _ _ _ _
theorem rev_size (p : Array Nat) (i j : Nat) : (kas_rev p i j).size = p.size := mirror_size _ _ _ _
theorem asc_ok (p : Array Nat) : ∀ (f n : Nat), 1 ≤ n → SortedTo2 key p n →
    n ≤ krun (kc key) (kas_asc p f n) ∧ krun (kc key) (kas_asc p f n) ≤ n + f ∧ SortedTo2 key p (krun (kc key) (kas_asc p f n)) ∧
      (krun (kc key) (kas_asc p f n) = n + f ∨ lt2 (Ky key p (krun (kc key) (kas_asc p f n))) (Ky key p (krun (kc key) (kas_asc p f n) - 1)) = true)
  | 0, n, _, hs => ⟨Nat.le_refl _, Nat.le_refl _, hs, .inl rfl⟩
  | f + 1, n, h1, hs => by
    have e : krun (kc key) (kas_asc p (f + 1) n) = if lt2 (Ky key p n) (Ky key p (n - 1)) = true then n else krun (kc key) (kas_asc p f (n + 1)) := by
      show krun (kc key) (if lt2 (Ky key p n) (Ky key p (n - 1)) = true then KasT.ret n else kas_asc p f (n + 1)) = _
      rw [krun_ite]; rfl
    rw [e]
    split
    · rename_i h
      exact ⟨Nat.le_refl _, by omega, hs, .inr h⟩
    · rename_i h
      have h' : le2 (Ky key p (n - 1)) (Ky key p n) := by unfold le2; simpa using h
      have := asc_ok p f (n + 1) (by omega) (fun i j hij hj => by
        by_cases hjn : j < n
        · exact hs i j hij hjn
        · have ej : j = n := by omega
          subst ej
          by_cases hi : i = j
          · subst hi; exact le2_refl _
          · exact le2_trans (hs i (j - 1) (by omega) (by omega)) h')
      refine ⟨by omega, by omega, this.2.2.1, ?_⟩
      rcases this.2.2.2 with e | e
      · exact .inl (by omega)
      · exact .inr e
theorem noninc_step {p : Array Nat} {n : Nat} (hs : NonInc2 key p n) (h1 : 1 ≤ n) (h : le2 (Ky key p n) (Ky key p (n - 1))) : NonInc2 key p (n + 1) := by
  intro i j hij hj
  by_cases hjn : j < n
  · exact hs i j hij hjn
  · have ej : j = n := by omega
    subst ej
    by_cases hi : i = j
    · subst hi; exact le2_refl _
    · exact le2_trans h (hs i (j - 1) (by omega) (by omega))
theorem desc_ok : ∀ (f : Nat) (p : Array Nat) (n q : Nat), NonInc2 key p n → q + 1 ≤ n → n + f ≤ p.size → (∀ i, n - (q + 1) ≤ i → i < n → Ky key p i = Ky key p (n - 1)) →
    ∀ r, r = krun (kc key) (kas_desc f p n q) → r.1.Perm p ∧ n ≤ r.2.1 ∧ r.2.1 ≤ n + f ∧ NonInc2 key r.1 r.2.1 ∧ r.2.2 + 1 ≤ r.2.1 ∧ (∀ i, r.2.1 - (r.2.2 + 1) ≤ i → i < r.2.1 → Ky key r.1 i = Ky key r.1 (r.2.1 - 1))
  | 0, p, n, q, hs, hq, hz, he, r, hr => by
    subst hr
    exact ⟨Array.Perm.refl _, Nat.le_refl _, Nat.le_refl _, hs, hq, he⟩
  | f + 1, p, n, q, hs, hq, hz, he, r, hr => by
    have e : krun (kc key) (kas_desc (f + 1) p n q) = if lt2 (Ky key p n) (Ky key p (n - 1)) = true then (if q > 0 then krun (kc key) (kas_desc f (kas_rev p (n - (q + 1)) n) (n + 1) 0) else krun (kc key) (kas_desc f p (n + 1) 0))
        else if lt2 (Ky key p (n - 1)) (Ky key p n) = true then (p, n, q) else krun (kc key) (kas_desc f p (n + 1) (q + 1)) := by
      show krun (kc key) (if lt2 (Ky key p n) (Ky key p (n - 1)) = true then (if q > 0 then kas_desc f (kas_rev p (n - (q + 1)) n) (n + 1) 0 else kas_desc f p (n + 1) 0)
        else KasT.ask (p.getD (n - 1) 0) (p.getD n 0) fun d => if d = true then KasT.ret (p, n, q) else kas_desc f p (n + 1) (q + 1)) = _
      rw [krun_ite, krun_ite]
      congr 1
      show krun (kc key) (if lt2 (Ky key p (n - 1)) (Ky key p n) = true then KasT.ret (p, n, q) else kas_desc f p (n + 1) (q + 1)) = _
      rw [krun_ite]; rfl
    rw [e] at hr
    split at hr
    · rename_i h
      have hle := le2_of_lt2 h
      have st : ∀ xs : Array Nat, (∀ k, Ky key xs k = Ky key p k) → NonInc2 key xs (n + 1) := fun xs hk i j hij hj => by
        rw [hk, hk]; exact noninc_step hs (by omega) hle i j hij hj
      split at hr
      · have := desc_ok f (kas_rev p (n - (q + 1)) n) (n + 1) 0 (st _ (ky_mirror_equal (by omega) he)) (by omega) (by rw [rev_size]; omega) (fun i h1 h2 => by congr 1; omega) r hr
        exact ⟨this.1.trans (rev_perm _ _ _), by omega, by omega, this.2.2.2⟩
      · have := desc_ok f p (n + 1) 0 (st _ fun _ => rfl) (by omega) (by omega) (fun i h1 h2 => by congr 1; omega) r hr
        exact ⟨this.1, by omega, by omega, this.2.2.2⟩
    · rename_i h
      split at hr
      · subst hr
        exact ⟨Array.Perm.refl _, Nat.le_refl _, by simp, hs, hq, he⟩
      · rename_i h2
        have eq : Ky key p n = Ky key p (n - 1) := le2_antisymm (by unfold le2; simpa using h2) (by unfold le2; simpa using h)
        have := desc_ok f p (n + 1) (q + 1) (noninc_step hs (by omega) (by rw [eq]; exact le2_refl _)) (by omega) (by omega) (fun i h1 h2 => by
          rw [show n + 1 - 1 = n by omega]
          by_cases hi : i = n
          · subst hi; rfl
          · rw [eq]; exact he i (by omega) (by omega)) r hr
        exact ⟨this.1, by omega, by omega, this.2.2.2⟩
theorem tail3_ok {p : Array Nat} {n nrem : Nat} (h1 : 1 ≤ n) (hn : n ≤ nrem) (hz : nrem ≤ p.size) (hs : NonInc2 key p n) (r : Nat × Array Nat) (hr : r = krun (kc key) (kas_tail3 n nrem p)) :
    r.2.Perm p ∧ 1 ≤ r.1 ∧ r.1 ≤ nrem ∧ SortedTo2 key r.2 r.1 := by
  unfold kas_tail3 at hr
  rw [krun_bind] at hr
  have := asc_ok (key := key) (kas_rev p 0 n) (nrem - n) n h1 (fun i j hij hj => by
    rw [ky_mirror (by omega), ky_mirror (by omega), if_pos (by omega), if_pos (by omega)]
    exact hs _ _ (by omega) (by omega))
  subst hr
  exact ⟨rev_perm _ _ _, Nat.le_trans h1 this.1, Nat.le_trans this.2.1 (by omega), this.2.2.1⟩
theorem descPart_ok {p : Array Nat} {n nrem : Nat} (hn : n + 1 ≤ nrem) (hz : nrem ≤ p.size) (hs : NonInc2 key p (n + 1)) (r : Nat × Array Nat) (hr : r = krun (kc key) (kas_descPart n nrem p)) :
    r.2.Perm p ∧ 1 ≤ r.1 ∧ r.1 ≤ nrem ∧ SortedTo2 key r.2 r.1 := by
  unfold kas_descPart at hr
  rw [krun_bind, krun_ite] at hr
  obtain ⟨d1, d2, d3, d4, d5, d6⟩ := desc_ok (key := key) (nrem - (n + 1)) p (n + 1) 0 hs (by omega) (by omega) (fun i h1 h2 => by congr 1; omega) _ rfl
  generalize krun (kc key) (kas_desc (nrem - (n + 1)) p (n + 1) 0) = d at *
  have sz : d.1.size = p.size := d1.size_eq
  split at hr
  · have := tail3_ok (key := key) (p := kas_rev d.1 (d.2.1 - (d.2.2 + 1)) d.2.1) (n := d.2.1) (nrem := nrem) (by omega) (by omega) (by rw [rev_size]; omega) (fun i j hij hj => by
      rw [ky_mirror_equal (by omega) d6, ky_mirror_equal (by omega) d6]
      exact d4 i j hij hj) r hr
    exact ⟨this.1.trans ((rev_perm _ _ _).trans d1), this.2⟩
  · have := tail3_ok (key := key) (p := d.1) (n := d.2.1) (nrem := nrem) (by omega) (by omega) (by omega) d4 r hr
    exact ⟨this.1.trans d1, this.2⟩
theorem count_ok {p : Array Nat} {nrem : Nat} (h1 : 1 ≤ nrem) (hz : nrem ≤ p.size) (r : Nat × Array Nat) (hr : r = krun (kc key) (kas_count nrem p)) :
    r.2.Perm p ∧ 1 ≤ r.1 ∧ r.1 ≤ nrem ∧ SortedTo2 key r.2 r.1 := by
  unfold kas_count at hr
  rw [krun_bind] at hr
  obtain ⟨a1, a2, a3, a4⟩ := asc_ok (key := key) p (nrem - 1) 1 (Nat.le_refl _) (fun i j hij hj => by
    have : i = j := by omega
    subst this; exact le2_refl _)
  generalize krun (kc key) (kas_asc p (nrem - 1) 1) = n at *
  rw [krun_ite] at hr
  split at hr
  · subst hr
    exact ⟨Array.Perm.refl _, a1, by show n ≤ nrem; omega, a3⟩
  · rename_i hnn
    have hne : n ≠ nrem := fun e => hnn (by rw [e]; exact beq_self_eq_true _)
    have hlt : lt2 (Ky key p n) (Ky key p (n - 1)) = true := a4.resolve_left (by omega)
    rw [krun_ite] at hr
    split at hr
    · have e : krun (kc key) (KasT.ask (p.getD 0 0) (p.getD (n - 1) 0) fun c => if c = true then KasT.ret (n, p) else kas_descPart n nrem (kas_rev p 0 n)) =
          if lt2 (Ky key p 0) (Ky key p (n - 1)) = true then (n, p) else krun (kc key) (kas_descPart n nrem (kas_rev p 0 n)) := by
        show krun (kc key) (if lt2 (Ky key p 0) (Ky key p (n - 1)) = true then KasT.ret (n, p) else kas_descPart n nrem (kas_rev p 0 n)) = _
        rw [krun_ite]; rfl
      rw [e] at hr
      split at hr
      · subst hr
        exact ⟨Array.Perm.refl _, a1, by show n ≤ nrem; omega, a3⟩
      · rename_i hro
        have hro' : le2 (Ky key p (n - 1)) (Ky key p 0) := by unfold le2; simpa using hro
        have hall : ∀ k, 0 ≤ k → k < n → Ky key p k = Ky key p (n - 1) := fun k _ hk => by
          have b1 := a3 0 k (by omega) hk
          have b2 := a3 k (n - 1) (by omega) (by omega)
          exact le2_antisymm b2 (le2_trans hro' b1)
        have hsz : n ≤ p.size := by omega
        have := descPart_ok (key := key) (p := kas_rev p 0 n) (n := n) (nrem := nrem) (by omega) (by rw [rev_size]; omega) (fun i j hij hj => by
          rw [ky_mirror_equal hsz hall, ky_mirror_equal hsz hall]
          by_cases hjn : j < n
          · rw [hall i (by omega) (by omega), hall j (by omega) hjn]; exact le2_refl _
          · have ej : j = n := by omega
            subst ej
            by_cases hi : i = j
            · subst hi; exact le2_refl _
            · rw [hall i (by omega) (by omega)]; exact le2_of_lt2 hlt) r hr
        exact ⟨this.1.trans (rev_perm _ _ _), this.2⟩
    · have en : n = 1 := by omega
      subst en
      exact descPart_ok (key := key) (by omega) hz (fun i j hij hj => by
        by_cases hi : i = j
        · subst hi; exact le2_refl _
        · have hi0 : i = 0 := by omega
          have hj1 : j = 1 := by omega
          subst hi0; subst hj1
          exact le2_of_lt2 hlt) r hr
theorem place_ok {p : Array Nat} {k : Nat} (hs : SortedTo2 key p k) : ∀ (f l r : Nat), l ≤ r → r ≤ k → r - l ≤ f → (∀ i, i < l → le2 (Ky key p i) (Ky key p k)) → (∀ i, r ≤ i → i < k → lt2 (Ky key p k) (Ky key p i) = true) →
    ∀ m, m = krun (kc key) (kas_place p k f l r) → m ≤ k ∧ (∀ i, i < m → le2 (Ky key p i) (Ky key p k)) ∧ (∀ i, m ≤ i → i < k → lt2 (Ky key p k) (Ky key p i) = true)
  | 0, l, r, hlr, hrk, hf, hlo, hhi, m, hm => by
    have e1 : l = r := by omega
    have e2 : m = l := hm
    rw [e2]
    exact ⟨by omega, hlo, by rw [e1]; exact hhi⟩
  | f + 1, l, r, hlr, hrk, hf, hlo, hhi, m, hm => by
    have e : krun (kc key) (kas_place p k (f + 1) l r) = if l ≥ r then l else if lt2 (Ky key p k) (Ky key p ((l + r) / 2)) = true then krun (kc key) (kas_place p k f l ((l + r) / 2)) else krun (kc key) (kas_place p k f ((l + r) / 2 + 1) r) := by
      show krun (kc key) (if l ≥ r then KasT.ret l else KasT.ask (p.getD k 0) (p.getD ((l + r) / 2) 0) fun c => if c = true then kas_place p k f l ((l + r) / 2) else kas_place p k f ((l + r) / 2 + 1) r) = _
      rw [krun_ite]
      congr 1
      show krun (kc key) (if lt2 (Ky key p k) (Ky key p ((l + r) / 2)) = true then kas_place p k f l ((l + r) / 2) else kas_place p k f ((l + r) / 2 + 1) r) = _
      rw [krun_ite]
    rw [e] at hm
    split at hm
    · have e1 : l = r := by omega
      rw [hm]
      exact ⟨by omega, hlo, by rw [e1]; exact hhi⟩
    · split at hm
      · rename_i h
        exact place_ok hs f l ((l + r) / 2) (by omega) (by omega) (by omega) hlo (fun i h1 h2 => by
          have q := hs ((l + r) / 2) i h1 h2
          rw [lt2_iff] at h ⊢; rw [le2_iff] at q
          omega) m hm
      · rename_i h
        have h' : le2 (Ky key p ((l + r) / 2)) (Ky key p k) := by unfold le2; simpa using h
        exact place_ok hs f ((l + r) / 2 + 1) r (by omega) (by omega) (by omega) (fun i h1 => le2_trans (hs i ((l + r) / 2) (by omega) (by omega)) h') hhi m hm
theorem bin_ok : ∀ (f : Nat) (p : Array Nat) (k : Nat), 1 ≤ k → k + f ≤ p.size → SortedTo2 key p k → ∀ p', p' = krun (kc key) (kas_bin f p k) → p'.Perm p ∧ SortedTo2 key p' (k + f)
  | 0, p, k, _, _, hs, p', hp => by
    subst hp
    exact ⟨Array.Perm.refl _, hs⟩
  | f + 1, p, k, h1, hz, hs, p', hp => by
    have e : krun (kc key) (kas_bin (f + 1) p k) = krun (kc key) (kas_bin f (bubble p k (k - krun (kc key) (kas_place p k k 0 k))) (k + 1)) := by
      show krun (kc key) ((kas_place p k k 0 k).bind fun l => kas_bin f (bubble p k (k - l)) (k + 1)) = _
      rw [krun_bind]
    rw [e] at hp
    obtain ⟨b1, b2, b3⟩ := place_ok (key := key) hs k 0 k (by omega) (by omega) (by omega) (fun i h => by omega) (fun i h1 h2 => by omega) _ rfl
    generalize krun (kc key) (kas_place p k k 0 k) = l at *
    have hks : k < p.size := by omega
    have := bin_ok f (bubble p k (k - l)) (k + 1) (by omega) (by rw [bubble_size]; omega) (fun i j hij hj => by
      rw [ky_bubble hks (by omega), ky_bubble hks (by omega), show k - (k - l) = l by omega]
      repeat' split
      all_goals first
        | (exfalso; omega)
        | exact le2_refl _
        | exact b2 _ (by omega)
        | exact le2_of_lt2 (b3 _ (by omega) (by omega))
        | exact hs _ _ (by omega) (by omega)) p' hp
    refine ⟨this.1.trans (bubble_perm _ _ _), ?_⟩
    rw [show k + (f + 1) = k + 1 + f by omega]
    exact this.2
theorem sort_ok {n : Nat} (h : 1 ≤ n) (p : Array Nat) (hp : p = krun (kc key) (kas_sort n)) : p.Perm (List.range n).toArray ∧ SortedTo2 key p n := by
  unfold kas_sort at hp
  rw [krun_bind, krun_ite] at hp
  have hz : (List.range n).toArray.size = n := by simp
  obtain ⟨c1, c2, c3, c4⟩ := count_ok (key := key) (p := (List.range n).toArray) (nrem := n) h (by omega) _ rfl
  generalize krun (kc key) (kas_count n (List.range n).toArray) = r at *
  have sz : r.2.size = n := by rw [c1.size_eq, hz]
  split at hp
  · have := bin_ok (key := key) (n - max r.1 1) r.2 (max r.1 1) (by omega) (by omega) (by rw [Nat.max_eq_left c2]; exact c4) p hp
    refine ⟨this.1.trans c1, ?_⟩
    rw [show max r.1 1 + (n - max r.1 1) = n by omega] at this
    exact this.2
  · have hp' : p = r.2 := hp
    subst hp'
    have : r.1 = n := by omega
    rw [this] at c4
    exact ⟨c1, c4⟩
theorem sort_list {n : Nat} (h : 1 ≤ n) : (krun (kc key) (kas_sort n)).toList.Perm (List.range n) ∧ Sorted2 ((krun (kc key) (kas_sort n)).toList.map key) := by
  obtain ⟨h1, h2⟩ := sort_ok (key := key) h _ rfl
  generalize krun (kc key) (kas_sort n) = p at *
  have hz : p.size = n := by rw [h1.size_eq]; simp
  refine ⟨by simpa using Array.perm_iff_toList_perm.mp h1, ?_⟩
  rw [Sorted2, List.pairwise_iff_getElem]
  intro i j hi hj hij
  have hi' : i < p.size := by simpa using hi
  have hj' : j < p.size := by simpa using hj
  have q := h2 i j (by omega) (by omega)
  unfold Ky at q
  rw [getD_eq, getD_eq, Array.getElem?_eq_getElem hi', Array.getElem?_eq_getElem hj'] at q
  simpa using q
end Ph
set_option Elab.async false
set_option linter.all false
set_option maxRecDepth 100000
namespace Ph
open PySem PySem.Spec L2
open PyProof.Rows hiding St
def Tups (H H' : Hp) : Prop := ∀ b xs, H b = some (.tup xs) → H' b = some (.tup xs)
theorem Tups.trans {H H1 H2 : Hp} (a : Tups H H1) (b : Tups H1 H2) : Tups H H2 := fun c xs h => b c xs (a c xs h)
theorem Tups.of {H H' : Hp} (h : Same H H') : Tups H H' := fun b xs e => h b _ e
theorem Tups.put {H : Hp} {l : Addr} {xs : List V} {o : HO} (h : H l = some (.lst xs)) : Tups H (upd H l o) := fun b ys e => by
  rw [upd_ne (ne_of e h (by intro z; cases z))]; exact e
theorem Tups.new {H : Hp} {p : Addr} (h : H p = none) (o : HO) : Tups H (upd H p o) := fun b ys e => by
  rw [upd_ne (ne_of_none e h)]; exact e
theorem same_new {H : Hp} {p : Addr} (h : H p = none) (o : HO) : Same H (upd H p o) := fun b u q => by rw [upd_ne (ne_of_none q h)]; exact q
def PileAt (H : Hp) : T → V → Prop
  | .nil, v => ∃ p, v = .ref p ∧ H p = some (.tup [])
  | .node r a l rt rc hd, v => ∃ p vl vr, v = .ref p ∧ H p = some (.tup [.int r, .int a, vl, vr, .int rc, .int hd]) ∧ PileAt H l vl ∧ PileAt H rt vr
theorem PileAt.mono {H H' : Hp} (m : Tups H H') : ∀ {t : T} {v : V}, PileAt H t v → PileAt H' t v
  | .nil, _, ⟨p, e, h⟩ => ⟨p, e, m _ _ h⟩
  | .node _ _ _ _ _ _, _, ⟨p, vl, vr, e, h, hl, hr⟩ => ⟨p, vl, vr, e, m _ _ h, hl.mono m, hr.mono m⟩
def PairAt (H : Hp) (v : V) (p : Int × Int) : Prop := ∃ q, v = .ref q ∧ H q = some (.tup [.int p.1, .int p.2])
theorem PairAt.mono {H H' : Hp} (m : Tups H H') {v : V} {p : Int × Int} (h : PairAt H v p) : PairAt H' v p := by
  obtain ⟨q, e, h⟩ := h; exact ⟨q, e, m _ _ h⟩
abbrev PairsAt (H : Hp) (vs : List V) (ps : List (Int × Int)) : Prop := Paired (PairAt H) vs ps
theorem PairsAt.mono {H H' : Hp} (m : Tups H H') {vs : List V} {ps : List (Int × Int)} (h : PairsAt H vs ps) : PairsAt H' vs ps := Paired.imp' (fun _ _ z => z.mono m) h
theorem paired_len {α β : Type} {F : α → β → Prop} : ∀ {xs : List α} {ys : List β}, Paired F xs ys → xs.length = ys.length
  | _, _, .nil => rfl
  | _, _, .cons _ t => by rw [List.length_cons, List.length_cons, paired_len t]
theorem paired_get {α β : Type} {F : α → β → Prop} : ∀ {xs : List α} {ys : List β} {i : Nat} {x : α}, Paired F xs ys → xs[i]? = some x → ∃ y, ys[i]? = some y ∧ F x y
  | _, _, _, _, .nil, e => by simp at e
  | _, _, 0, _, .cons r _, e => by simp at e; subst e; exact ⟨_, rfl, r⟩
  | _, _, i + 1, x, .cons _ t, e => by
    obtain ⟨y, h1, h2⟩ := paired_get (i := i) (x := x) t (by simpa using e)
    exact ⟨y, by simpa using h1, h2⟩
theorem paired_get' {α β : Type} {F : α → β → Prop} : ∀ {xs : List α} {ys : List β} {i : Nat} {y : β}, Paired F xs ys → ys[i]? = some y → ∃ x, xs[i]? = some x ∧ F x y
  | _, _, _, _, .nil, e => by simp at e
  | _, _, 0, _, .cons r _, e => by simp at e; subst e; exact ⟨_, rfl, r⟩
  | _, _, i + 1, y, .cons _ t, e => by
    obtain ⟨x, h1, h2⟩ := paired_get' (i := i) (y := y) t (by simpa using e)
    exact ⟨x, by simpa using h1, h2⟩
theorem paired_app {α β : Type} {F : α → β → Prop} : ∀ {xs xs' : List α} {ys ys' : List β}, Paired F xs ys → Paired F xs' ys' → Paired F (xs ++ xs') (ys ++ ys')
  | _, _, _, _, .nil, s => s
  | _, _, _, _, .cons r t, s => .cons r (paired_app t s)
section
variable {X : Cx} {pins : List (Addr × Obj)} {σ : St} {H : Hp} {s : Shared}
theorem tupAt (I : Inv X pins σ H s) {p : Addr} {xs : List V} (h : H p = some (.tup xs)) : ∃ its : List Value, Vals xs its ∧ s.heap.IsTuple p its.toArray := by
  obtain ⟨its, r, t, _⟩ := I.tuple (SqT.of (K := X.K) h)
  exact ⟨its, r, t⟩
theorem lstAt (I : Inv X pins σ H s) {p : Addr} {xs : List V} (h : H p = some (.lst xs)) : ∃ its : List Value, Vals xs its ∧ s.heap.IsList p its.toArray := by
  obtain ⟨its, r, t, _⟩ := I.list (SqL.of (K := X.K) h)
  exact ⟨its, r, t.isList⟩
def e2f (x y : Int × Int) : Nat → Bool
  | 0 => x.1 == y.1
  | _ => x.2 == y.2
theorem pair_rc (I : Inv X pins σ H s) {A : Around} {p p' : Addr} {x y : Int × Int} (h : PairAt H (.ref p) x) (h' : PairAt H (.ref p') y) (hu : A.units < cLine) :
    SeqAt.RcAt A s (.ref p) (.ref p') (decide (x = y)) ∧ SeqAt.RcNeAt A s (.ref p) (.ref p') (!decide (x = y)) ∧ SeqAt.EqAt A s (.ref p) (.ref p') (decide (x = y)) := by
  obtain ⟨q, e, h⟩ := h
  cases e
  obtain ⟨q', e', h'⟩ := h'
  cases e'
  obtain ⟨its, r, z⟩ := tupAt I h
  obtain ⟨its', r', z'⟩ := tupAt I h'
  obtain ⟨u0, u1, rfl, r0, r1⟩ := vals2 r
  obtain ⟨w0, w1, rfl, q0, q1⟩ := vals2 r'
  obtain ⟨t0, rfl⟩ := r0; obtain ⟨t1, rfl⟩ := r1; obtain ⟨v0, rfl⟩ := q0; obtain ⟨v1, rfl⟩ := q1
  have he : ∀ j (h1 : j < (#[Value.int x.1 t0, .int x.2 t1] : Array Value).size) (h2 : j < (#[Value.int y.1 v0, .int y.2 v1] : Array Value).size),
      SeqAt.EqAt A.in1 s (#[Value.int x.1 t0, .int x.2 t1] : Array Value)[j] (#[Value.int y.1 v0, .int y.2 v1] : Array Value)[j] (e2f x y j) := fun j h1 h2 => by
    match j, h1, h2 with
    | 0, _, _ => exact SeqAt.EqAt.int_int x.1 t0 y.1 v0
    | 1, _, _ => exact SeqAt.EqAt.int_int x.2 t1 y.2 v1
    | n + 2, h1, _ => exact absurd h1 (by simp)
  have c1 := SeqAt.RcAt.tuples z z' hu he
  have c2 := SeqAt.RcNeAt.tuples z z' hu he
  have ee : ((List.range (min 2 2)).all (e2f x y) && (2 == 2 : Bool)) = decide (x = y) := by
    rw [Bool.eq_iff_iff, decide_eq_true_iff]
    obtain ⟨a, b⟩ := x; obtain ⟨c, d⟩ := y
    simp [List.range, List.range.loop, e2f]
  have d1 : SeqAt.RcAt A s (.ref p) (.ref p') (decide (x = y)) := by rw [← ee]; exact c1
  refine ⟨d1, by rw [← ee]; exact c2, ?_⟩
  by_cases hp : p = p'
  · subst hp
    rw [h] at h'
    injection h' with h1
    injection h1 with h2
    injection h2 with h3 h4
    injection h4 with h5 _
    injection h3 with h6
    injection h5 with h7
    rw [decide_eq_true (show x = y from Prod.ext h6 h7)]
    exact SeqAt.EqAt.same _
  · exact SeqAt.EqAt.of_refs hp d1
theorem empty_rc (I : Inv X pins σ H s) {A : Around} {p p' : Addr} {vs : List V} (h : H p = some (.lst vs)) (h' : H p' = some (.lst [])) (hu : A.units < cLine) :
    SeqAt.RcAt A s (.ref p) (.ref p') vs.isEmpty ∧ SeqAt.RcNeAt A s (.ref p) (.ref p') (!vs.isEmpty) := by
  obtain ⟨its, r, z⟩ := lstAt I h
  obtain ⟨its', r', z'⟩ := lstAt I h'
  obtain _ | _ := r'
  cases r with
  | nil => exact ⟨SeqAt.RcAt.lists (e := fun _ => true) z z' rfl hu (fun j h1 _ => by simp at h1), SeqAt.RcNeAt.lists (e := fun _ => true) z z' rfl hu (fun j h1 _ => by simp at h1)⟩
  | cons r t => exact ⟨SeqAt.RcAt.lists_lengths z z' (by simp) hu, SeqAt.RcNeAt.lists_lengths z z' (by simp) hu⟩
end
section
variable {X : Cx}
inductive IrPair (f : Bool → Bool) (x : V) (y : V) (H : Hp) (Q : VK) : Prop
  | mk : ∀ t t', (PairAt H x t) → (PairAt H y t') → (Q (.bl (f (decide (t = t')))) H) → IrPair f x y H Q
def rPair (f : Bool → Bool) : R2 := fun x y H Q => IrPair f x y H Q
inductive IrEmp (f : Bool → Bool) (x : V) (y : V) (H : Hp) (Q : VK) : Prop
  | mk : ∀ p p' vs, (x = .ref p) → (y = .ref p') → (H p = some (.lst vs)) → (H p' = some (.lst [])) → (Q (.bl (f vs.isEmpty)) H) → IrEmp f x y H Q
def rEmp (f : Bool → Bool) : R2 := fun x y H Q => IrEmp f x y H Q
theorem op_nePair (hu : X.A.units + 110 < cLine) : OpR X (compareOp .NotEq) (rPair not) := by
  intro pins s σ H x y v u Q I rx ry ⟨t, t', h, h', q⟩
  have g := h; have g' := h'
  obtain ⟨p, rfl, _⟩ := h
  obtain ⟨p', rfl, _⟩ := h'
  cases rx; cases ry
  exact (pair_rc I g g' (by omega)).2.1 _ _ _ _ ⟨.bl _, H, I, rfl, q⟩
theorem op_eqEmp (hu : X.A.units + 110 < cLine) : OpR X (compareOp .Eq) (rEmp id) := by
  rintro pins s σ H x y v u Q I rx ry ⟨p, p', vs, rfl, rfl, h, h', q⟩
  cases rx; cases ry
  exact (empty_rc I h h' (by omega)).1 _ _ _ _ ⟨.bl _, H, I, rfl, q⟩
theorem hu110 {k : Nat} {A : Around} (r : Room k A) : A.units + 110 < cLine := by have := r.un; omega
def rIsi (K : PySem.W.Frag) : List V → Hp → VK → Prop := fun xs H Q => ∃ x c t b, xs = [x, .ty c] ∧ TyOf K H x t ∧ PySem.W.kitOne K t (.type c) = some b ∧ Q (.bl b) H
theorem call_isi : CallR X (.builtin "isinstance") (rIsi X.K) := by
  rintro pins s σ H xs us Q I r ⟨x, c, t, b, rfl, ty, e, q⟩
  obtain ⟨u, w', rfl, rx, ry⟩ := vals2 r
  cases (show w' = Value.type c from ry)
  exact isinst_ok I rx ty e fun tk => ⟨.bl b, H, I.tok tk, rfl, q⟩
def Itv (K : PySem.W.Frag) (a : Addr) (n : Nat) : It :=
  ⟨fun i H => ∃ xs x, SqL K H a xs ∧ xs.length = n ∧ i < n ∧ xs[n - 1 - i]? = some x, fun i H x H' => H' = H ∧ ∀ xs, SqL K H a xs → xs[n - 1 - i]? = some x, fun i H => i = n⟩
theorem turn_rev {P : Program} {w : World} {K : PySem.W.Frag} {tg : Expr} (a it : Addr) (n : Nat) : Turn P w K tg (Itv K a n) [it] it (fun i h => h.IsRevIter it a ((n : Int) - 1 - (i : Int))) where
  mem := by simp
  obj := fun i h st b hb => by
    have e : b = it := by simpa using hb
    subst e
    obtain ⟨o, e, c, d⟩ := st
    exact ⟨o, e, fun v z => by rw [d] at z; cases z⟩
  keep := fun i h h' st k => st.at fun o e => k it (by simp) o e
  item := by
    intro X hP hw hK hc i pins s σ H E I hf st hg
    subst hP hw hK
    obtain ⟨xs, x, hq, hn, hi, hx⟩ := hg
    obtain ⟨its, rv, p, hz⟩ := I.list hq
    obtain ⟨u, hu, ru⟩ := rv.get hx
    obtain ⟨f0, f1, f2, f3, f4, f5⟩ := hf it (by simp)
    have e : (n : Int) - 1 - (i : Int) = ((n - 1 - i : Nat) : Int) := by omega
    rw [e] at st
    refine wpAny_pyNext_rev_item st p.isList (x := u) (by simpa using hu) fun h' st' sb => ?_
    have e2 : ((n - 1 - i : Nat) : Int) - 1 = (n : Int) - 1 - ((i + 1 : Nat) : Int) := by omega
    rw [e2] at st'
    have I1 : Inv X pins σ H { s with heap := h' } := I.turned (t' := s.toks) (fun b o hb e => (sb.2 b hb).trans e) f0 f1 f3 f4 f5
    obtain ⟨o, e, c, d⟩ := id st'
    exact ⟨u, rfl, go_of (s := { s with heap := h' }) e c d (by decide) ⟨x, H, I1, ru, ⟨rfl, fun ys hy => by rw [I.list_inj hy hq]; exact hx⟩, st', fun b hb => (hf b hb).1⟩⟩
  done := by
    intro X hP hw hK hc i pins s σ H E I hf st hg
    subst hP hw hK
    have hg' : i = n := hg
    subst hg'
    obtain ⟨f0, f1, f2, f3, f4, f5⟩ := hf it (by simp)
    have e : (i : Int) - 1 - (i : Int) = -1 := by omega
    rw [e] at st
    exact wpAny_pyNext_rev_end (I.ok.hd hc) st fun h' eb => ⟨rfl, I.turned (t' := s.toks) (fun b o hb e => eb b o hb e) f0 f1 f3 f4 f5⟩
  self := fun _ _ _ _ _ st h => wpAny_pyIter_revIter st h
def iRev (K : PySem.W.Frag) (ta : TA) : TI := fun σ H R => ta σ H fun vs H1 => ∃ a xs, vs = [.ref a] ∧ SqL K H1 a xs ∧ R (Itv K a xs.length) H1
theorem pi_rev {tg a : Expr} {ta : TA} {p pos : Pos} (hg : Gl X "reversed") (hm : X.mg "reversed" = none) (ha : PA X [a] ta) (hs : starEach [a] X.env = [(false, eval a X.env)] := by rfl) :
    PI X tg (.Call (.Name "reversed" p) [a] [] pos) (iRev X.K ta) := by
  intro pins s σ H R I h
  refine Call_ (ld_blt I hg hm (show bootBuiltins "reversed" = some (.type "reversed") by decide +kernel) (PyProof.Rows.callWith_type1 (thn (ha pos pins s σ H _ I h) fun us s1 ⟨vs, H1, I1, r1, q1⟩ => ?_) hs rfl))
  obtain ⟨l, xs, e, hq, q⟩ := q1
  subst e
  obtain ⟨u, rfl, ru⟩ := vals1 r1
  cases (show u = Value.ref l from ru)
  obtain ⟨its, rv, pl, hz⟩ := I1.list hq
  have hlen := rv.length
  refine call_reversed_list pl.isList ?_
  have st : (s1.heap.push (revObj l ((its.toArray.size : Int) - 1))).IsRevIter s1.heap.objs.size l ((xs.length : Int) - 1 - ((0 : Nat) : Int)) := by
    refine ⟨_, Heap.get?_push_size _ rfl, rfl, ?_⟩
    have e : (xs.length : Int) - 1 - ((0 : Nat) : Int) = (its.toArray.size : Int) - 1 := by rw [List.size_toArray]; omega
    rw [e]; rfl
  refine wpAny_pyIter_revIter st ?_
  refine ⟨s1.heap.objs.size, [s1.heap.objs.size], _, _, H1, rfl, I1.kept (t' := s1.toks) fun b o e => Heap.get?_push_of_some _ e, turn_rev l _ xs.length, st, fun b hb => ?_, q⟩
  have e : b = s1.heap.objs.size := by simpa using hb
  subst e
  exact I1.fpOk (Nat.le_refl _) (I1.hok.fresh (Nat.le_refl _))
theorem for_rev {K : PySem.W.Frag} {a : Addr} {xs : List V} {g : TG} {tb : TS} {D : Ends} {σ : St} {H : Hp} (Pv : Nat → St → Hp → Prop) (h0 : Pv 0 σ H)
    (hl : ∀ i σ H, i ≤ xs.length → Pv i σ H → SqL K H a xs) (hs : ∀ i x σ H, i < xs.length → xs[xs.length - 1 - i]? = some x → Pv i σ H → g x σ H fun σ2 H2 => tb { D with nx := Pv (i + 1), ct := Pv (i + 1), bk := D.nx } σ2 H2)
    (hd : ∀ σ H, Pv xs.length σ H → D.nx σ H) :
    ∃ W : Nat → Nat → St → Hp → Prop, (∃ m, W 0 m σ H) ∧ ∀ i m σ H, W i m σ H →
      ((Itv K a xs.length).stop i H ∧ D.nx σ H) ∨ ((Itv K a xs.length).go i H ∧ ∃ N : St → Hp → Prop, (∀ σ' H', N σ' H' → ∃ m', m' < m ∧ W (i + 1) m' σ' H') ∧ ∀ x H', (Itv K a xs.length).yld i H x H' → g x σ H' fun σ2 H2 => tb { D with nx := N, ct := N, bk := D.nx } σ2 H2) := by
  refine ⟨fun i m σ H => i + m = xs.length ∧ Pv i σ H, ⟨xs.length, by omega, h0⟩, fun i m σ H ⟨e, p⟩ => ?_⟩
  by_cases hi : i = xs.length
  · subst hi
    exact .inl ⟨rfl, hd σ H p⟩
  · have hlt : i < xs.length := by omega
    have hx : xs[xs.length - 1 - i]? = some (xs[xs.length - 1 - i]'(by omega)) := List.getElem?_eq_getElem _
    refine .inr ⟨⟨xs, _, hl i σ H (by omega) p, rfl, hlt, hx⟩, Pv (i + 1), fun σ' H' q => ⟨m - 1, by omega, by omega, q⟩, fun x H' y => ?_⟩
    obtain ⟨rfl, y⟩ := y
    exact hs i x σ H' hlt (y xs (hl i σ H' (by omega) p)) p
end
end Ph
set_option Elab.async false
set_option linter.all false
set_option maxRecDepth 100000
namespace Ph
open PySem PySem.Spec L2
open PyProof.Rows hiding St
abbrev inComp (X : Cx) (sc : Scope) (cl : List (Str × Addr)) (N' : List Str) (C : Addr) (s3 : Shared) (H3 : Hp) (fp : List Addr) : Cx :=
  { X with N := N', s₀ := s3, H₀ := H3, env := compEnvC sc cl C X.env, outer := X.stack, ex := fp, fn := fun _ => false, pn := [], xe := fun _ _ => False }
def CapsOk (X : Cx) (sc : Scope) : List (Nat × Str) → Prop
  | [] => True
  | q :: r => (X.N[q.1]? = some q.2 ∧ X.env.kindOf q.2 = some .cell ∧ sc.names.lookup q.2 = some .free) ∧ CapsOk X sc r
theorem CapsOk.all {X : Cx} {sc : Scope} : ∀ {caps : List (Nat × Str)}, CapsOk X sc caps → ∀ q ∈ caps, X.N[q.1]? = some q.2 ∧ X.env.kindOf q.2 = some .cell ∧ sc.names.lookup q.2 = some .free
  | _ :: _, h, q, hq => by
    rcases List.mem_cons.mp hq with e | e
    · subst e; exact h.1
    · exact CapsOk.all h.2 q e
theorem lookup_mem {β : Type} : ∀ {l : List (Str × β)} {x : Str} {k : β}, l.lookup x = some k → (x, k) ∈ l
  | [], _, _, h => by simp at h
  | (n, b) :: r, x, k, h => by
    rw [List.lookup_cons] at h
    split at h
    · rename_i e
      cases h
      rw [eq_of_beq e]
      exact List.mem_cons_self
    · exact List.mem_cons_of_mem _ (lookup_mem h)
theorem relabel_free {env : Env} (hk : env.scope.kind = .function) {x : Str} (hx : env.kindOf x = some .cell) : ∀ {names : List (Str × NameKind)}, names.lookup x = some .free →
    (names.map fun (n, k) => if (k == NameKind.free && env.scope.kind == .function && env.kindOf n == some .cell) then (n, NameKind.cell) else (n, k)).lookup x = some .cell
  | [], h => by simp at h
  | (n, k) :: r, h => by
    have ih := @relabel_free env hk x hx r
    show List.lookup x ((if (k == NameKind.free && env.scope.kind == .function && env.kindOf n == some .cell) = true then (n, NameKind.cell) else (n, k)) :: _) = _
    cases hxn : x == n with
    | true =>
      have e := eq_of_beq hxn
      subst e
      simp only [List.lookup_cons, hxn] at h
      cases h
      rw [if_pos (by rw [hk, hx]; rfl)]
      simp [List.lookup_cons]
    | false =>
      simp only [List.lookup_cons, hxn] at h
      split
      · simp only [List.lookup_cons, hxn]; exact ih h
      · simp only [List.lookup_cons, hxn]; exact ih h
theorem relabel_was {env : Env} {x : Str} {q : NameKind} (hq : q = .cell ∨ q = .free) : ∀ {names : List (Str × NameKind)}, (∀ y ∈ names, y.2 ≠ .cell) →
    (names.map fun (n, k) => if (k == NameKind.free && env.scope.kind == .function && env.kindOf n == some .cell) then (n, NameKind.cell) else (n, k)).lookup x = some q → (x, NameKind.free) ∈ names
  | [], _, h => by simp at h
  | (n, k) :: r, hc, h => by
    have ih := @relabel_was env x q hq r (fun y hy => hc y (List.mem_cons_of_mem _ hy))
    have h' : List.lookup x ((if (k == NameKind.free && env.scope.kind == .function && env.kindOf n == some .cell) = true then (n, NameKind.cell) else (n, k)) :: (r.map fun (n, k) => if (k == NameKind.free && env.scope.kind == .function && env.kindOf n == some .cell) then (n, NameKind.cell) else (n, k))) = some q := h
    have hk : k ≠ .cell := hc (n, k) List.mem_cons_self
    split at h'
    · rename_i hcond
      rw [List.lookup_cons] at h'
      split at h'
      · rename_i e
        have ek : k = .free := by
          simp only [Bool.and_eq_true] at hcond
          exact eq_of_beq hcond.1.1
        rw [eq_of_beq e, ek]
        exact List.mem_cons_self
      · exact List.mem_cons_of_mem _ (ih h')
    · rw [List.lookup_cons] at h'
      split at h'
      · rename_i e
        cases h'
        rcases hq with z | z
        · exact absurd z hk
        · rw [eq_of_beq e, z]
          exact List.mem_cons_self
      · exact List.mem_cons_of_mem _ (ih h')
theorem closure_go {env : Env} : ∀ (names : List (Str × NameKind)) (acc : List (Str × Addr)), (∀ p ∈ names, p.2 = .free → ∃ c, env.cells.lookup p.1 = some c) → (∀ x c, acc.lookup x = some c → env.cells.lookup x = some c) →
    ∃ cl : List (Str × Addr), (forIn names acc fun (x : Str × NameKind) (r : List (Str × Addr)) => (match x with
      | (name, kind) => if (kind == NameKind.free) = true then do
          let a ← cellOf env name
          pure (ForInStep.yield ((name, a) :: r))
        else pure (ForInStep.yield r) : Sem (ForInStep (List (Str × Addr))))) = pure cl ∧ (∀ x c, cl.lookup x = some c → env.cells.lookup x = some c) ∧
      (∀ p ∈ names, p.2 = .free → ∃ c, cl.lookup p.1 = some c) ∧ ∀ x c, acc.lookup x = some c → ∃ c', cl.lookup x = some c'
  | [], acc, _, ha => ⟨acc, by simp, ha, by simp, fun x c h => ⟨c, h⟩⟩
  | (n, k) :: r, acc, hn, ha => by
    by_cases hk : k = .free
    · subst hk
      obtain ⟨c, hc⟩ := hn (n, .free) List.mem_cons_self rfl
      obtain ⟨cl, h1, h2, h3, h4⟩ := closure_go r ((n, c) :: acc) (fun p hp => hn p (List.mem_cons_of_mem _ hp)) (fun x d hd => by
        rw [List.lookup_cons] at hd
        split at hd
        · rename_i e
          cases hd
          rw [eq_of_beq e]; exact hc
        · exact ha x d hd)
      refine ⟨cl, ?_, h2, fun p hp hf => ?_, fun x d hd => ?_⟩
      · rw [List.forIn_cons]
        have e : cellOf env n = pure c := by unfold cellOf; rw [hc]
        simp only [beq_self_eq_true, if_true, e, pure_bind]
        exact h1
      · rcases List.mem_cons.mp hp with e | e
        · subst e
          exact h4 n c (by rw [List.lookup_cons]; simp)
        · exact h3 p e hf
      · by_cases hx : (x == n) = true
        · exact h4 x c (by rw [List.lookup_cons, hx])
        · exact h4 x d (by rw [List.lookup_cons]; simp only [hx]; exact hd)
    · obtain ⟨cl, h1, h2, h3, h4⟩ := closure_go r acc (fun p hp => hn p (List.mem_cons_of_mem _ hp)) ha
      refine ⟨cl, ?_, h2, fun p hp hf => ?_, h4⟩
      · rw [List.forIn_cons]
        have e : (k == NameKind.free) = false := by simpa using hk
        simp only [e, Bool.false_eq_true, if_false, pure_bind]
        exact h1
      · rcases List.mem_cons.mp hp with e | e
        · subst e; exact absurd hf hk
        · exact h3 p e hf
theorem closure_ok {env : Env} {sc : Scope} (h : ∀ p ∈ sc.names, p.2 = .free → ∃ c, env.cells.lookup p.1 = some c) :
    ∃ cl : List (Str × Addr), closureFor sc env = pure cl ∧ (∀ x c, cl.lookup x = some c → env.cells.lookup x = some c) ∧ (∀ p ∈ sc.names, p.2 = .free → ∃ c, cl.lookup p.1 = some c) := by
  obtain ⟨cl, h1, h2, h3, _⟩ := closure_go sc.names [] h (fun x c e => by simp at e)
  refine ⟨cl, ?_, h2, h3⟩
  unfold closureFor
  simp only [bind_pure]
  exact h1
def Keeps (σ σ' : St) : Prop := σ'.length = σ.length ∧ ∀ (i : Nat) v, σ[i]? = some (some v) → σ'[i]? = some (some v)
theorem Keeps.one (v : V) (r : St) : Keeps (none :: r) (some v :: r) := ⟨rfl, fun i w h => by
  cases i with
  | zero => simp at h
  | succ n => exact h⟩
def compSt (nv : Nat) (caps : List (Nat × Str)) (σ : St) : St := List.replicate nv none ++ caps.map fun q => (σ[q.1]?).join
abbrev PutIn (D : Addr) (W : Nat → Nat → Hp → Prop) (i m : Nat) : Option V → Hp → Prop
  | some y, H => ∃ acc, H D = some (.lst acc) ∧ acc.length < sizeLine ∧ ∃ m', m' < m ∧ W (i + 1) m' (upd H D (.lst (acc ++ [y])))
  | none, H => ∃ m', m' < m ∧ W (i + 1) m' H
def tCompG (nv : Nat) (caps : List (Nat × Str)) (wi : TI) (g : TG) (tb : St → Hp → (Option V → Hp → Prop) → Prop) : TE := fun σ H Q => wi σ H fun J H1 => ∀ D, H1 D = none → ∃ W : Nat → Nat → Hp → Prop, (∃ m, W 0 m (upd H1 D (.lst []))) ∧
  ∀ i m H2, W i m H2 → (J.stop i H2 ∧ Q (.ref D) H2) ∨ (J.go i H2 ∧ ∀ x H3, J.yld i H2 x H3 → g x (compSt nv caps σ) H3 fun σ4 H4 => Keeps (compSt nv caps σ) σ4 ∧ tb σ4 H4 (PutIn D W i m))
def tComp (nv : Nat) (caps : List (Nat × Str)) (wi : TI) (g : TG) (te : TE) : TE := fun σ H Q => wi σ H fun J H1 => ∀ D, H1 D = none → ∃ W : Nat → Nat → Hp → Prop, (∃ m, W 0 m (upd H1 D (.lst []))) ∧
  ∀ i m H2, W i m H2 → (J.stop i H2 ∧ Q (.ref D) H2) ∨ (J.go i H2 ∧ ∀ x H3, J.yld i H2 x H3 → g x (compSt nv caps σ) H3 fun σ4 H4 => Keeps (compSt nv caps σ) σ4 ∧ te σ4 H4 fun y H5 =>
    ∃ acc, H5 D = some (.lst acc) ∧ acc.length < sizeLine ∧ ∃ m', m' < m ∧ W (i + 1) m' (upd H5 D (.lst (acc ++ [y]))))
def tCompT (nv : Nat) (caps : List (Nat × Str)) (wi : TI) (g : TG) (tt : TT) (te : TE) : TE := fun σ H Q => wi σ H fun J H1 => ∀ D, H1 D = none → ∃ W : Nat → Nat → Hp → Prop, (∃ m, W 0 m (upd H1 D (.lst []))) ∧
  ∀ i m H2, W i m H2 → (J.stop i H2 ∧ Q (.ref D) H2) ∨ (J.go i H2 ∧ ∀ x H3, J.yld i H2 x H3 → g x (compSt nv caps σ) H3 fun σ4 H4 => Keeps (compSt nv caps σ) σ4 ∧ tt σ4 H4 fun b H5 =>
    (b = true → te σ4 H5 fun y H6 => ∃ acc, H6 D = some (.lst acc) ∧ acc.length < sizeLine ∧ ∃ m', m' < m ∧ W (i + 1) m' (upd H6 D (.lst (acc ++ [y])))) ∧ (b = false → ∃ m', m' < m ∧ W (i + 1) m' H5))
def PB (X : Cx) (ifs : List Expr) (elt : Expr) (tb : St → Hp → (Option V → Hp → Prop) → Prop) : Prop :=
  ∀ (pins : List (Addr × Obj)) (s : Shared) (σ : St) (H : Hp) (Q : Option V → Hp → Prop), Inv X pins σ H s → tb σ H Q →
    wpAny (model X.prog X.w) X.A (forIn ifs true fun c r => if r = true then do let ok ← isTrue c X.env (eval c X.env); pure (ForInStep.yield ok) else pure (ForInStep.yield r))
      (fun ok s1 => (ok = true → wpAny (model X.prog X.w) X.A (eval elt X.env) (fun v s2 => ∃ y H2, Inv X pins σ H2 s2 ∧ RelV y v ∧ Q (some y) H2) X.xe s1) ∧ (ok = false → ∃ H1, Inv X pins σ H1 s1 ∧ Q none H1)) X.xe s
theorem pb_nil {X : Cx} {elt : Expr} {te : TE} (he : PE X elt te) : PB X [] elt (fun σ H Q => te σ H fun y H2 => Q (some y) H2) := fun pins s σ H Q I h =>
  wpAny_tests_nil ⟨fun _ => he pins s σ H _ I h, fun z => nomatch z⟩
theorem pb_one {X : Cx} {elt c : Expr} {te : TE} {tt : TT} (ht : PT X c tt) (he : PE X elt te) : PB X [c] elt (fun σ H Q => tt σ H fun b H1 => (b = true → te σ H1 fun y H2 => Q (some y) H2) ∧ (b = false → Q none H1)) := fun pins s σ H Q I h =>
  wpAny_tests_one (thn (ht pins s σ H _ I h) fun b s1 ⟨H1, I1, q⟩ => ⟨fun e => he pins s1 σ H1 _ I1 (q.1 e), fun e => ⟨H1, I1, q.2 e⟩⟩)
section
variable {X : Cx}
theorem comp_start {pins : List (Addr × Obj)} {σ : St} {H3 : Hp} {s3 : Shared} {sc : Scope} {cl : List (Str × Addr)} {vars : List Str} {caps : List (Nat × Str)} {fp : List Addr} {h4 : Heap} {m : Str → Option Value} {tk : Nat}
    (I : Inv X pins σ H3 s3) (hcell : ∀ y ∈ sc.names, y.2 ≠ .cell) (hkind : sc.kind = .function) (hcaps : CapsOk X sc caps) (hfree : ∀ p ∈ sc.names, p.2 = .free → ∃ c, cl.lookup p.1 = some c)
    (hcl : ∀ x c, cl.lookup x = some c → X.env.cells.lookup x = some c) (hfp : ∀ b ∈ fp, FpOk X pins H3 b) (hlt : ∀ b ∈ fp, b < s3.heap.objs.size)
    (hns : h4.Ns s3.heap.objs.size m) (hk : ∀ b o, s3.heap.get? b = some o → h4.get? b = some o) (hg : AllBare s3.gens) :
    Inv (inComp X sc cl (vars ++ caps.map (·.2)) s3.heap.objs.size s3 H3 fp) [] (compSt vars.length caps σ) H3 { s3 with heap := h4, toks := tk } := by
  have hfs : ∀ b ∈ frs X.stack, b ∈ X.env.locals :: X.fs := I.stkSub
  have ok : (inComp X sc cl (vars ++ caps.map (·.2)) s3.heap.objs.size s3 H3 fp).Ok := by
    refine ⟨I.ok.mod, hkind, I.ok.glob, I.ok.blt, Nat.le_refl _, fun x y c e1 e2 => I.ok.inj x y c (hcl x c e1) (hcl y c e2), fun x hx => ?_, fun x c hf => (by cases hf), I.ok.hd, I.ok.frames, .inl rfl,
      fun b hb => ⟨Nat.ne_of_lt (hlt b hb), fun x c e => (hfp b hb).2.2.2.2.1 x c (hcl x c e)⟩, I.bs, Nat.le_trans I.ok.bsz I.sz, fun b o e hb => ?_, fun b hb hz => ?_, I.stack, I.stkFree⟩
    · have hm : ∃ q, (q = NameKind.cell ∨ q = NameKind.free) ∧ (relabel sc X.env).names.lookup x = some q := by
        rcases hx with z | z
        · exact ⟨_, .inl rfl, z⟩
        · exact ⟨_, .inr rfl, z⟩
      obtain ⟨q, hq, hl⟩ := hm
      exact hfree (x, .free) (relabel_was hq hcell hl) rfl
    · rcases (hfp b hb).2.2.2.1 with z | z
      · exact I.ok.noex b o e z
      · exact absurd (Nat.lt_of_lt_of_le (Heap.lt_size e) (Nat.le_trans I.ok.bsz z)) (Nat.lt_irrefl _)
    · rcases List.mem_cons.mp (hfs b hz) with z | z
      · exact (hfp b hb).2.1 z
      · exact (hfp b hb).2.2.1 z
  refine ⟨ok, rfl, hg, Un.kept hk, ⟨m, hns, fun i x v e1 e2 e3 => ?_⟩, fun x c e => ?_, I.hok.fresh (Nat.le_refl _), fun x c e => I.freeC x c (hcl x c e), fun p hp => (by cases hp), I.hok.kept hk, ?_⟩
  · -- a captured name
    have hi : vars.length ≤ i := by
      refine Nat.le_of_not_lt fun hlt' => ?_
      unfold compSt at e2
      rw [List.getElem?_append_left (by simpa using hlt'), List.getElem?_replicate] at e2
      split at e2 <;> simp at e2
    have e1' : (caps.map (·.2))[i - vars.length]? = some x := by
      have := e1
      rw [List.getElem?_append_right hi] at this
      exact this
    have e2' : (caps.map fun q => (σ[q.1]?).join)[i - vars.length]? = some (some v) := by
      unfold compSt at e2
      rw [List.getElem?_append_right (by simpa using hi)] at e2
      simpa using e2
    rw [List.getElem?_map] at e1' e2'
    cases hq : caps[i - vars.length]? with
    | none => rw [hq] at e1'; cases e1'
    | some q =>
      rw [hq] at e1' e2'
      have ex : q.2 = x := by simpa using e1'
      have ev : (σ[q.1]?).join = some v := by simpa using e2'
      have ev' : σ[q.1]? = some (some v) := by
        cases hz : σ[q.1]? with
        | none => rw [hz] at ev; cases ev
        | some z => rw [hz] at ev; exact congrArg some ev
      obtain ⟨c1, c2, c3⟩ := hcaps.all q (List.mem_of_getElem? hq)
      rw [ex] at c1 c2 c3
      obtain ⟨m0, hn0, hl0⟩ := I.loc
      obtain ⟨u, ru, lu⟩ := hl0 q.1 x v c1 ev' (.inr (.inl c2))
      refine ⟨u, ru, .inr ⟨.inl (relabel_free I.ok.kind c2 c3), ?_⟩⟩
      rcases lu with ⟨z, _⟩ | ⟨_, c, z1, z2⟩
      · rw [c2] at z; cases z
      · obtain ⟨c', hc'⟩ := hfree (x, .free) (lookup_mem c3) rfl
        have := hcl x c' hc'
        rw [z1] at this
        cases this
        obtain ⟨o, ho, hd⟩ := z2
        exact ⟨c, hc', o, hk c o ho, hd⟩
  · obtain ⟨v, o, ho, hd⟩ := I.cell x c (hcl x c e)
    exact ⟨v, o, hk c o ho, hd⟩
  · simp [compSt]
def FreeAt (X : Cx) (pins : List (Addr × Obj)) (H : Hp) (C : Addr) : Prop := H C = none ∧ C ≠ X.env.locals ∧ X.s₀.heap.objs.size ≤ C ∧ (∀ x c, X.env.cells.lookup x = some c → c ≠ C) ∧ ∀ p ∈ X.pn ++ pins, p.1 ≠ C
theorem comp_coreG {elt tg iter : Expr} {ifs : List Expr} {sc : Scope} {pos : Pos} {wi : TI} {g : TG} {tb : St → Hp → (Option V → Hp → Prop) → Prop} {cl : List (Str × Addr)} {pins : List (Addr × Obj)} {σ : St} {H : Hp} {s : Shared} {Q : VK} {R0 : Value → Addr → Result → Shared → Prop} (vars : List Str) (caps : List (Nat × Str)) (hc : X.calm = true) (hi : PI X tg iter wi)
    (hcell : ∀ y ∈ sc.names, y.2 ≠ .cell) (hkind : sc.kind = .function) (hnames : ∀ y ∈ sc.names, y.2 = .local → sc.names.lookup y.1 = some .local) (hcaps : CapsOk X sc caps) (k2 : ∀ x c, cl.lookup x = some c → X.env.cells.lookup x = some c) (k3 : ∀ p ∈ sc.names, p.2 = .free → ∃ c, cl.lookup p.1 = some c)
    (hg : ∀ cl C s3 H3 fp, PG (inComp X sc cl (vars ++ caps.map (·.2)) C s3 H3 fp) tg g) (hb : ∀ cl C s3 H3 fp, PB (inComp X sc cl (vars ++ caps.map (·.2)) C s3 H3 fp) ifs elt tb)
    (I : Inv X pins σ H s) (h : tCompG vars.length caps wi g tb σ H Q) (hfin : ∀ D C Hc s7 m, Inv X pins σ Hc s7 → Q (.ref D) Hc → s7.heap.Ns C m → FreeAt X pins Hc C → R0 (.ref D) C (.ok .next) s7) :
    wpAny (model X.prog X.w) X.A (eval iter X.env) (fun x s₁ => wpAny (model X.prog X.w) X.A (pyIter x) (fun it s₂ => wpAny (model X.prog X.w) X.A (newList []) (fun acc s₃ =>
      wpAny (model X.prog X.w) X.A (newFunctionEnv sc X.env.globals cl [] X.env.qual none .none (some X.env)) (fun cenv s₄ =>
        codeAny (model X.prog X.w) X.A (.compStart (.ListComp elt [⟨tg, iter, ifs, 0⟩] sc pos) 0 it acc { cenv with scope := relabel sc X.env }) (R0 acc cenv.locals) s₄) X.xe s₃) X.xe s₂) X.xe s₁) X.xe s := by
  refine thn (hi pins s σ H _ I h) fun v s1 h1 => thn h1 fun itv s2 h2 => ?_
  obtain ⟨it, fp, tn, J, H2, e, I2, T, st2, f2, R⟩ := h2
  subst e
  refine wpAny_newObj_type ?_
  have hD : H2 s2.heap.objs.size = none := I2.hok.fresh (Nat.le_refl _)
  obtain ⟨W, ⟨m0, w0⟩, turn⟩ := R s2.heap.objs.size hD
  have I3 : Inv X pins σ (upd H2 s2.heap.objs.size (.lst [])) { s2 with heap := s2.heap.push { cls := .type "list", data := .seq ([] : List Value).toArray }, toks := s2.toks } := I2.lnew .nil (Nat.zero_le _)
  refine wpAny_newFunctionEnv hcell (by intro y hy; simp at hy) (fun h₁ hns₁ hsb₁ => ?_) hkind
  dsimp only at hns₁ hsb₁ ⊢
  have I3' : Inv X pins σ (upd H2 s2.heap.objs.size (.lst [])) { s2 with heap := s2.heap.push { cls := .type "list", data := .seq ([] : List Value).toArray } } := I3
  generalize hs3 : ({ s2 with heap := s2.heap.push { cls := .type "list", data := .seq ([] : List Value).toArray } } : Shared) = s3 at I3'
  have hh3 : s3.heap = s2.heap.push { cls := .type "list", data := .seq ([] : List Value).toArray } := by rw [← hs3]
  have hkeep3 : ∀ b o, s3.heap.get? b = some o → h₁.get? b = some o := fun b o e => by
    rw [hh3] at e
    exact hsb₁.extBut b o (Nat.ne_of_lt (Heap.lt_size e)) (Heap.get?_push_of_some _ e)
  have hf3 : ∀ b ∈ fp, FpOk X pins (upd H2 s2.heap.objs.size (.lst [])) b := fun b hb => by
    obtain ⟨o, ho, _⟩ := T.obj _ _ st2 b hb
    refine ⟨?_, (f2 b hb).2⟩
    rw [upd_ne (Nat.ne_of_lt (Heap.lt_size ho))]
    exact (f2 b hb).1
  have hlt3 : ∀ b ∈ fp, b < s3.heap.objs.size := fun b hb => by
    obtain ⟨o, ho, _⟩ := T.obj _ _ st2 b hb
    rw [hh3, Heap.size_push]
    exact Nat.lt_succ_of_lt (Heap.lt_size ho)
  have st4 : tn 0 h₁ := T.keep _ _ _ st2 fun b _ o e => hkeep3 b o (by rw [hh3]; exact Heap.get?_push_of_some _ e)
  have hCsz : (s2.heap.push { cls := .type "list", data := .seq ([] : List Value).toArray } : Heap).objs.size = s3.heap.objs.size := by rw [hh3]
  rw [hCsz] at hns₁ hsb₁ ⊢
  have I4 : ∀ tk, Inv (inComp X sc cl (vars ++ caps.map (·.2)) s3.heap.objs.size s3 (upd H2 s2.heap.objs.size (.lst [])) fp) [] (compSt vars.length caps σ) (upd H2 s2.heap.objs.size (.lst [])) { s3 with heap := h₁, toks := tk } :=
    fun tk => comp_start I3' hcell hkind hcaps k3 k2 hf3 hlt3 hns₁ hkeep3 I3'.bare
  generalize hX' : inComp X sc cl (vars ++ caps.map (·.2)) s3.heap.objs.size s3 (upd H2 s2.heap.objs.size (.lst [])) fp = X' at I4
  have hgX : PG X' tg g := by rw [← hX']; exact hg _ _ _ _ _
  have hbX : PB X' ifs elt tb := by rw [← hX']; exact hb _ _ _ _ _
  have loop : ∀ (s5 : Shared) (n : Nat), (∃ i Hc, Inv X' [] (compSt vars.length caps σ) Hc s5 ∧ tn i s5.heap ∧ (∀ b ∈ fp, Hc b = none) ∧ W i n Hc) →
      codeAny (model X.prog X.w) X.A (.compLoop (.ListComp elt [⟨tg, iter, ifs, 0⟩] sc pos) 0 (.ref it) (.ref s2.heap.objs.size) (compEnvC sc cl s3.heap.objs.size X.env))
        (R0 (.ref s2.heap.objs.size) s3.heap.objs.size) s5 := by
    intro s5 n h5
    refine codeAny_loop rfl (fun n s5 => ∃ i Hc, Inv X' [] (compSt vars.length caps σ) Hc s5 ∧ tn i s5.heap ∧ (∀ b ∈ fp, Hc b = none) ∧ W i n Hc) (fun n s6 hI => ?_) n h5
    show wpAny _ _ ((compTurn (.ListComp elt [⟨tg, iter, ifs, 0⟩] sc pos) 0 (.ref it) (.ref s2.heap.objs.size) (compEnvC sc cl s3.heap.objs.size X.env)).onRaise (fun x => do noteFrame x (compEnvC sc cl s3.heap.objs.size X.env); theTreesLotGoes x)) _ _ s6
    refine wpAny_noted ?_
    rw [compTurn_list]
    obtain ⟨i, Hc, I6, st6, fr6, w6⟩ := hI
    have fOk : ∀ {H' : Hp}, (∀ b ∈ fp, H' b = none) → ∀ b ∈ fp, FpOk X' [] H' b := fun hn b hb => by
      subst hX'
      refine ⟨hn b hb, Nat.ne_of_lt (hlt3 b hb), fun hz => ?_, .inl hb, fun x c e => (hf3 b hb).2.2.2.2.1 x c (k2 x c e), fun p hp => by cases hp⟩
      rcases List.mem_cons.mp (I3'.stkSub b hz) with z | z
      · exact (hf3 b hb).2.1 z
      · exact (hf3 b hb).2.2.1 z
    have hcX : X'.calm = true := by rw [← hX']; exact hc
    have hPX : X'.prog = X.prog := by rw [← hX']
    have hwX : X'.w = X.w := by rw [← hX']
    have hKX : X'.K = X.K := by rw [← hX']
    have hAX : X'.A = X.A := by rw [← hX']
    have hxX : X'.xe = fun _ _ => False := by rw [← hX']
    have heX' : X'.env = compEnvC sc cl s3.heap.objs.size X.env := by rw [← hX']
    refine wpAny_bind (wpAny_standAt (wpAny_bind ?_))
    rcases turn i n Hc w6 with ⟨stop, qn⟩ | ⟨go, step⟩
    · have dn := T.done X' hPX hwX hKX hcX i [] s6 (compSt vars.length caps σ) Hc (notedBy (model X.prog X.w) X.A (compEnvC sc cl s3.heap.objs.size X.env) fun e s' => R0 (.ref s2.heap.objs.size) s3.heap.objs.size (.error e) s') I6 (fOk fr6) st6 stop
      rw [hAX] at dn
      refine thn dn fun r s7 ⟨hr, I7⟩ => ?_
      subst hr
      refine wpAny_pure ?_
      subst hX'
      obtain ⟨m7, hn7, _⟩ := id I7.loc
      refine hfin _ _ Hc s7 m7 (I3'.call' (s' := s7) (ch := fp) I7.os I7.base I7.hok I7.bare (fun b hb => ?_)) qn hn7 ⟨I7.free, fun e => ?_, I3'.sz, fun x c e z => ?_, fun p hp z => ?_⟩
      · obtain ⟨_, z1, _, z3, z4, z5⟩ := hf3 b hb
        exact ⟨z3, z1, z4, z5⟩
      · exact absurd (I3'.lt) (by rw [← e]; exact Nat.lt_irrefl _)
      · obtain ⟨v, o, ho, _⟩ := I3'.cell x c e
        exact absurd (Heap.lt_size ho) (by rw [z]; exact Nat.lt_irrefl _)
      · have ho := (I3'.pin p hp).1
        exact absurd (Heap.lt_size ho) (by rw [z]; exact Nat.lt_irrefl _)
    · have it1 := T.item X' hPX hwX hKX hcX i [] s6 (compSt vars.length caps σ) Hc (notedBy (model X.prog X.w) X.A (compEnvC sc cl s3.heap.objs.size X.env) fun e s' => R0 (.ref s2.heap.objs.size) s3.heap.objs.size (.error e) s') I6 (fOk fr6) st6 go
      rw [hAX] at it1
      refine thn it1 fun r s7 ⟨u, hr, h7⟩ => ?_
      subst hr
      refine wpAny_bind (thn h7 fun _ s8 ⟨x, H8, I8, r8, y8, st8, fr8⟩ => ?_)
      have I8' := I8.pinned (fOk fr8) (T.obj _ _ st8)
      have a1 := hgX _ s8 _ H8 x u _ I8' r8 (step x H8 y8)
      rw [hPX, hwX, hAX, hxX, heX'] at a1
      refine wpAny_bind (wpAny_mono a1 (fun _ s9 ⟨σ9, H9, I9, kp9, q9⟩ => ?_) fun _ _ z => z.elim)
      have a2 := hbX _ s9 σ9 H9 _ I9 q9
      rw [hPX, hwX, hAX, hxX, heX'] at a2
      refine wpAny_bind (wpAny_mono a2 (fun ok s10 h10 => ?_) fun _ _ z => z.elim)
      cases ok with
      | false =>
        obtain ⟨H10, I10, m', hm', w10⟩ := h10.2 rfl
        refine wpAny_pure ⟨rfl, m', hm', i + 1, _, (I10.unpinned).weak kp9.1.symm kp9.2, T.keep _ _ _ st8 fun b hb o e => (I10.pin (b, o) (List.mem_append_right _ (List.mem_append_right _ (mem_pinsAt hb e)))).1, fun b hb => ?_, w10⟩
        obtain ⟨o, e, d⟩ := T.obj _ _ st8 b hb
        exact (I10.pin (b, o) (List.mem_append_right _ (List.mem_append_right _ (mem_pinsAt hb e)))).2.1
      | true =>
        refine wpAny_bind (wpAny_bind (wpAny_mono (h10.1 rfl) (fun yv s11 ⟨y, H11, I11, r11, acc, hacc, hlen, m', hm', w11⟩ => ?_) fun _ _ z => z.elim))
        have a3 := mt_append (X := X') _ s11 σ9 H11 (.ref s2.heap.objs.size) [y] (.ref s2.heap.objs.size) [yv] (fun v H' => H' = upd H11 s2.heap.objs.size (.lst (acc ++ [y]))) I11 rfl (.cons r11 .nil) ⟨_, acc, y, rfl, rfl, hacc, hlen, rfl⟩
        rw [hPX, hwX, hAX, hxX] at a3
        refine wpAny_bind (wpAny_mono a3 (fun _ s12 ⟨v12, H12, I12, _, e12⟩ => wpAny_pure (wpAny_pure ⟨rfl, m', hm', ?_⟩)) fun _ _ z => z.elim)
        subst e12
        refine ⟨i + 1, _, (I12.unpinned).weak kp9.1.symm kp9.2, T.keep _ _ _ st8 fun b hb o e => (I12.pin (b, o) (List.mem_append_right _ (List.mem_append_right _ (mem_pinsAt hb e)))).1, fun b hb => ?_, w11⟩
        obtain ⟨o, e, d⟩ := T.obj _ _ st8 b hb
        exact (I12.pin (b, o) (List.mem_append_right _ (List.mem_append_right _ (mem_pinsAt hb e)))).2.1
  have fin : ∀ s5 : Shared, s5 = { s3 with heap := h₁, toks := s2.toks + ([] : List (Str × Value)).length } → codeAny (model X.prog X.w) X.A (.compLoop (.ListComp elt [⟨tg, iter, ifs, 0⟩] sc pos) 0 (.ref it) (.ref s2.heap.objs.size) (compEnvC sc cl s3.heap.objs.size X.env))
        (R0 (.ref s2.heap.objs.size) s3.heap.objs.size) s5 := by
    rintro s5 rfl
    exact loop _ m0 ⟨0, _, I4 _, st4, fun b hb => (hf3 b hb).1, w0⟩
  have e5 : ({ s2 with heap := h₁, toks := s2.toks + ([] : List (Str × Value)).length } : Shared) = { s3 with heap := h₁, toks := s2.toks + ([] : List (Str × Value)).length } := by rw [← hs3]
  exact codeAny_compStart_list (fin _ e5) (T.self X.A 0 _ _ _ st4 (fin _ e5))
theorem caps_cl {pins : List (Addr × Obj)} {σ : St} {H : Hp} {s : Shared} {sc : Scope} {caps : List (Nat × Str)} (I : Inv X pins σ H s) (hfree : ∀ p ∈ sc.names, p.2 = .free → p.1 ∈ caps.map (·.2)) (hcaps : CapsOk X sc caps) :
    ∃ cl : List (Str × Addr), closureFor sc X.env = pure cl ∧ (∀ x c, cl.lookup x = some c → X.env.cells.lookup x = some c) ∧ (∀ p ∈ sc.names, p.2 = .free → ∃ c, cl.lookup p.1 = some c) :=
  closure_ok (env := X.env) (sc := sc) (fun p hp hf => by
    obtain ⟨q, hq, e⟩ := List.mem_map.mp (hfree p hp hf)
    have := (hcaps.all q hq).2.1
    rw [e] at this
    exact I.ok.has p.1 (.inl this))
theorem pe_comp {elt tg iter : Expr} {sc : Scope} {pos : Pos} {wi : TI} {g : TG} {te : TE} (vars : List Str) (caps : List (Nat × Str)) (hc : X.calm = true) (hi : PI X tg iter wi)
    (hcell : ∀ y ∈ sc.names, y.2 ≠ .cell) (hkind : sc.kind = .function) (hnames : ∀ y ∈ sc.names, y.2 = .local → sc.names.lookup y.1 = some .local) (hfree : ∀ p ∈ sc.names, p.2 = .free → p.1 ∈ caps.map (·.2)) (hcaps : CapsOk X sc caps)
    (hg : ∀ cl C s3 H3 fp, PG (inComp X sc cl (vars ++ caps.map (·.2)) C s3 H3 fp) tg g) (he : ∀ cl C s3 H3 fp, PE (inComp X sc cl (vars ++ caps.map (·.2)) C s3 H3 fp) elt te)
    (hs : ∀ x, foldedSetIterable iter X.env x = pure x := by intro _; rfl) :
    PE X (.ListComp elt [⟨tg, iter, [], 0⟩] sc pos) (tComp vars.length caps wi g te) := by
  intro pins s σ H Q I h
  obtain ⟨cl, k1, k2, k3⟩ := caps_cl I hfree hcaps
  rw [eval_ListComp]
  refine wpAny_comprehension_free (use := none) rfl hs k1 hkind hnames (comp_coreG vars caps hc hi hcell hkind hnames hcaps k2 k3 hg (fun cl C s3 H3 fp => pb_nil (he cl C s3 H3 fp)) I h ?_)
  intro D C Hc s7 m I7 q hn ⟨f0, f1, f2, f3, f4⟩
  exact ⟨m, hn, fun h' sb => ⟨.ref D, Hc, I7.turned (t' := s7.toks) (fun b o hb e => (sb.2 b hb).trans e) f0 f1 (.inr f2) f3 f4, rfl, q⟩⟩
theorem pe_compT {elt tg iter c : Expr} {tt : TT} {sc : Scope} {pos : Pos} {wi : TI} {g : TG} {te : TE} (vars : List Str) (caps : List (Nat × Str)) (hc : X.calm = true) (hi : PI X tg iter wi)
    (hcell : ∀ y ∈ sc.names, y.2 ≠ .cell) (hkind : sc.kind = .function) (hnames : ∀ y ∈ sc.names, y.2 = .local → sc.names.lookup y.1 = some .local) (hfree : ∀ p ∈ sc.names, p.2 = .free → p.1 ∈ caps.map (·.2)) (hcaps : CapsOk X sc caps)
    (hg : ∀ cl C s3 H3 fp, PG (inComp X sc cl (vars ++ caps.map (·.2)) C s3 H3 fp) tg g) (ht : ∀ cl C s3 H3 fp, PT (inComp X sc cl (vars ++ caps.map (·.2)) C s3 H3 fp) c tt) (he : ∀ cl C s3 H3 fp, PE (inComp X sc cl (vars ++ caps.map (·.2)) C s3 H3 fp) elt te)
    (hs : ∀ x, foldedSetIterable iter X.env x = pure x := by intro _; rfl) :
    PE X (.ListComp elt [⟨tg, iter, [c], 0⟩] sc pos) (tCompT vars.length caps wi g tt te) := by
  intro pins s σ H Q I h
  obtain ⟨cl, k1, k2, k3⟩ := caps_cl I hfree hcaps
  rw [eval_ListComp]
  refine wpAny_comprehension_free (use := none) rfl hs k1 hkind hnames (comp_coreG vars caps hc hi hcell hkind hnames hcaps k2 k3 hg (fun cl C s3 H3 fp => pb_one (ht cl C s3 H3 fp) (he cl C s3 H3 fp)) I h ?_)
  intro D C Hc s7 m I7 q hn ⟨f0, f1, f2, f3, f4⟩
  exact ⟨m, hn, fun h' sb => ⟨.ref D, Hc, I7.turned (t' := s7.toks) (fun b o hb e => (sb.2 b hb).trans e) f0 f1 (.inr f2) f3 f4, rfl, q⟩⟩
theorem ps_setC {i : Nat} {y : Str} {py spos : Pos} {elt tg iter : Expr} {sc : Scope} {pos : Pos} {wi : TI} {g : TG} {te : TE} (hN : X.N.Nodup) (hi' : X.N[i]? = some y) (hy : X.env.scope.names.lookup y = some .local) (vars : List Str) (caps : List (Nat × Str)) (hc : X.calm = true) (hi : PI X tg iter wi)
    (hcell : ∀ y ∈ sc.names, y.2 ≠ .cell) (hkind : sc.kind = .function) (hnames : ∀ y ∈ sc.names, y.2 = .local → sc.names.lookup y.1 = some .local) (hfree : ∀ p ∈ sc.names, p.2 = .free → p.1 ∈ caps.map (·.2)) (hcaps : CapsOk X sc caps)
    (hg : ∀ cl C s3 H3 fp, PG (inComp X sc cl (vars ++ caps.map (·.2)) C s3 H3 fp) tg g) (he : ∀ cl C s3 H3 fp, PE (inComp X sc cl (vars ++ caps.map (·.2)) C s3 H3 fp) elt te)
    (hs : ∀ x, foldedSetIterable iter X.env x = pure x := by intro _; rfl)
    (hsw : swapsWith (.ListComp elt [⟨tg, iter, [], 0⟩] sc pos) (some (.Name y py)) spos.line X.env = pure true := by rfl) :
    PS X (.Assign [.Name y py] (.ListComp elt [⟨tg, iter, [], 0⟩] sc pos) spos) (tAsg (tComp vars.length caps wi g te) (gName i)) := by
  intro pins s σ H D0 I h
  obtain ⟨cl, k1, k2, k3⟩ := caps_cl I hfree hcaps
  rw [exec_Assign_Name_used _ _ _ _ hsw]
  refine wpAny_bind (wpAny_standAt (wpAny_bind ?_))
  show wpAny _ X.A (do let _ ← comprehension (.ListComp elt [⟨tg, iter, [], 0⟩] sc pos) sc X.env _ (newList []) false (eval iter X.env) (some (assign (.Name y py) X.env))) _ _ s
  refine wpAny_bind (wpAny_mono (wpAny_comprehension_free (use := some (assign (.Name y py) X.env)) (Q := fun _ s' => SP X pins D0 .next s') rfl hs k1 hkind hnames
    (comp_coreG (Q := fun v H1 => gName i v σ H1 D0.nx) vars caps hc hi hcell hkind hnames hcaps k2 k3 hg (fun cl C s3 H3 fp => pb_nil (he cl C s3 H3 fp)) I h ?_)) (fun _ s' hq => wpAny_pure (wpAny_pure hq)) fun _ _ e => e)
  intro D C Hc s7 m I7 q hn ⟨f0, f1, f2, f3, f4⟩
  show wpAny _ X.A (assign (.Name y py) X.env (.ref D)) _ _ _
  refine wpAny_assign_Name (store_ok2 I7 hN hi' (.inl hy) (v := .ref D) rfl (fun s8 I8 ⟨a, sa, ha⟩ => ?_) (.inr hy))
  have hCa : C ≠ a := by
    rcases ha with e | e
    · rw [e]; exact f1
    · exact Ne.symm (f3 y a e)
  exact ⟨m, hn.sameBut sa hCa, fun h' sb => ⟨_, Hc, I8.turned (t' := s8.toks) (fun b o hb e => (sb.2 b hb).trans e) f0 f1 (.inr f2) f3 f4, q⟩⟩
end
end Ph
set_option Elab.async false
set_option linter.all false
set_option maxRecDepth 100000
namespace Ph
open PySem PySem.Spec L2 PySem.W
open PyProof.Rows hiding St
def AskIn {α : Type} (n : Nat) : KasT α → (α → Prop) → Prop
  | .ret a, P => P a
  | .ask i j k, P => i < n ∧ j < n ∧ ∀ b, AskIn n (k b) P
theorem AskIn.mono {α : Type} {n : Nat} {P P' : α → Prop} (hP : ∀ a, P a → P' a) : ∀ {t : KasT α}, AskIn n t P → AskIn n t P'
  | .ret a, h => hP a h
  | .ask _ _ _, h => ⟨h.1, h.2.1, fun b => AskIn.mono hP (h.2.2 b)⟩
theorem AskIn.bind {α β : Type} {n : Nat} {f : α → KasT β} {P : β → Prop} : ∀ {t : KasT α}, AskIn n t (fun a => AskIn n (f a) P) → AskIn n (t.bind f) P
  | .ret _, h => h
  | .ask _ _ _, h => ⟨h.1, h.2.1, fun b => AskIn.bind (h.2.2 b)⟩
theorem AskIn.ite {α : Type} {n : Nat} {c : Prop} [Decidable c] {t u : KasT α} {P : α → Prop} (h1 : AskIn n t P) (h2 : AskIn n u P) : AskIn n (if c then t else u) P := by
  split
  · exact h1
  · exact h2
theorem AskIn.r {α : Type} {n : Nat} {a : α} {P : α → Prop} (h : P a) : AskIn n (KasT.ret a) P := h
def Bnd (n : Nat) (p : Array Nat) : Prop := p.Perm (List.range n).toArray
theorem Bnd.get {n : Nat} {p : Array Nat} (h1 : 1 ≤ n) (h : Bnd n p) (i : Nat) : p.getD i 0 < n := by
  by_cases hi : i < p.size
  · have e : p.getD i 0 = p[i] := by simp [Array.getD, hi]
    have := (Array.perm_iff_toList_perm.mp h).mem_iff (a := p[i])
    rw [e]
    simpa using this.mp (by simp)
  · have e : p.getD i 0 = 0 := by simp [Array.getD, hi]
    omega
theorem Bnd.perm {n : Nat} {p q : Array Nat} (h : Bnd n p) (hp : q.Perm p) : Bnd n q := hp.trans h
theorem in_asc {n : Nat} (h1 : 1 ≤ n) {p : Array Nat} (hb : Bnd n p) : ∀ f m, AskIn n (kas_asc p f m) (fun _ => True)
  | 0, _ => trivial
  | f + 1, m => ⟨hb.get h1 _, hb.get h1 _, fun b => AskIn.ite (AskIn.r trivial) (in_asc h1 hb f (m + 1))⟩
theorem in_desc {n : Nat} (h1 : 1 ≤ n) : ∀ f (p : Array Nat) m q, Bnd n p → AskIn n (kas_desc f p m q) (fun r => Bnd n r.1)
  | 0, _, _, _, hb => hb
  | f + 1, p, m, q, hb => by
    refine ⟨hb.get h1 _, hb.get h1 _, fun b => AskIn.ite (AskIn.ite (in_desc h1 f _ _ _ (hb.perm (rev_perm _ _ _))) (in_desc h1 f _ _ _ hb)) ?_⟩
    exact ⟨hb.get h1 _, hb.get h1 _, fun d => AskIn.ite (AskIn.r (P := fun r : Array Nat × Nat × Nat => Bnd n r.1) hb) (in_desc h1 f _ _ _ hb)⟩
theorem in_tail3 {n : Nat} (h1 : 1 ≤ n) {p : Array Nat} {m k : Nat} (hb : Bnd n p) : AskIn n (kas_tail3 m k p) (fun r => Bnd n r.2) := by
  unfold kas_tail3
  exact AskIn.bind ((in_asc h1 (hb.perm (rev_perm p 0 m)) _ _).mono fun a _ => hb.perm (rev_perm _ _ _))
theorem in_descPart {n : Nat} (h1 : 1 ≤ n) {p : Array Nat} {m k : Nat} (hb : Bnd n p) : AskIn n (kas_descPart m k p) (fun r => Bnd n r.2) := by
  unfold kas_descPart
  exact AskIn.bind ((in_desc h1 _ _ _ _ hb).mono fun a ha => AskIn.ite (in_tail3 h1 (ha.perm (rev_perm _ _ _))) (in_tail3 h1 ha))
theorem in_count {n : Nat} (h1 : 1 ≤ n) {p : Array Nat} {k : Nat} (hb : Bnd n p) : AskIn n (kas_count k p) (fun r => Bnd n r.2) := by
  unfold kas_count
  refine AskIn.bind ((in_asc h1 hb _ _).mono fun m _ => AskIn.ite (AskIn.r (P := fun r : Nat × Array Nat => Bnd n r.2) hb) (AskIn.ite ?_ (in_descPart h1 hb)))
  exact ⟨hb.get h1 _, hb.get h1 _, fun c => AskIn.ite (AskIn.r (P := fun r : Nat × Array Nat => Bnd n r.2) hb) (in_descPart h1 (hb.perm (rev_perm _ _ _)))⟩
theorem in_place {n : Nat} (h1 : 1 ≤ n) {p : Array Nat} (hb : Bnd n p) {k : Nat} : ∀ f l r, AskIn n (kas_place p k f l r) (fun _ => True)
  | 0, _, _ => trivial
  | f + 1, l, r => AskIn.ite (AskIn.r trivial) ⟨hb.get h1 _, hb.get h1 _, fun c => AskIn.ite (in_place h1 hb f _ _) (in_place h1 hb f _ _)⟩
theorem in_bin {n : Nat} (h1 : 1 ≤ n) : ∀ f (p : Array Nat) k, Bnd n p → AskIn n (kas_bin f p k) (fun r => Bnd n r)
  | 0, _, _, hb => hb
  | f + 1, p, k, hb => AskIn.bind ((in_place h1 hb k 0 k).mono fun l _ => in_bin h1 f _ _ (hb.perm (bubble_perm _ _ _)))
theorem in_sort {n : Nat} (h1 : 1 ≤ n) : AskIn n (kas_sort n) (fun r => Bnd n r) := by
  unfold kas_sort
  have hb : Bnd n (List.range n).toArray := Array.Perm.refl _
  exact AskIn.bind ((in_count h1 hb).mono fun r hr => AskIn.ite (in_bin h1 _ _ _ hr) (AskIn.r (P := fun r => Bnd n r) hr))
theorem krun_wp {α : Type} {n : Nat} {cmp : Nat → Nat → (Bool → Shared → Prop) → Shared → Prop} {c : Nat → Nat → Bool} {s : Shared} (hc : ∀ i j C, i < n → j < n → C (c i j) s → cmp i j C s) {P : α → Prop} {Q : α → Shared → Prop} :
    ∀ (t : KasT α), AskIn n t P → Q (krun c t) s → t.kasWp cmp Q s
  | .ret _, _, h => h
  | .ask i j k, hi, h => hc i j _ hi.1 hi.2.1 (krun_wp hc (k (c i j)) (hi.2.2 _) h)
theorem krun_in {α : Type} {n : Nat} {c : Nat → Nat → Bool} {P : α → Prop} : ∀ {t : KasT α}, AskIn n t P → P (krun c t)
  | .ret _, h => h
  | .ask i j k, h => show P (krun c (k (c i j))) from krun_in (h.2.2 (c i j))
theorem range_getD {α : Type} (xs : List α) (d : α) : (List.range xs.length).map (fun i => xs.getD i d) = xs := by
  apply List.ext_getElem?
  intro i
  rw [List.getElem?_map]
  by_cases h : i < xs.length
  · rw [List.getElem?_range h, List.getElem?_eq_getElem h]
    simp [List.getD, h]
  · rw [List.getElem?_eq_none (by simpa using h), List.getElem?_eq_none (by omega)]
    rfl
theorem paired_pick {α β : Type} {F : α → β → Prop} {xs : List α} {ys : List β} (h : Paired F xs ys) (d : α) (d' : β) : ∀ is : List Nat, (∀ i ∈ is, i < xs.length) → Paired F (is.map fun i => xs.getD i d) (is.map fun i => ys.getD i d')
  | [], _ => .nil
  | i :: r, hi => by
    have hlt := hi i List.mem_cons_self
    obtain ⟨y, e, f⟩ := paired_get h (i := i) (x := xs[i]) (List.getElem?_eq_getElem hlt)
    refine .cons ?_ (paired_pick h d d' r fun j hj => hi j (List.mem_cons_of_mem _ hj))
    have e1 : xs.getD i d = xs[i] := by simp [List.getD, hlt]
    have e2 : ys.getD i d' = y := by simp [List.getD, e]
    show F (xs.getD i d) (ys.getD i d')
    rw [e1, e2]
    exact f
section
variable {prog : Program} {w : World} {A : Around} {E : Value → Shared → Prop} {s : Shared}
theorem sorted_short {l : Addr} {vs : List Value} {Q : Value → Shared → Prop} (hl : s.heap.IsList l vs.toArray) (h2 : vs.length < 2)
    (h : Q (.ref (s.heap.objs.size + 1)) { s with heap := sortedAll s.heap vs vs.toArray }) : wpAny (model prog w) A (call (.builtin "sorted") [.ref l]) Q E s := by
  refine Calls.call_function_entry kind_sorted plain_sorted entry_sorted (args_sorted1 _) ?_
  unfold Builtin.«sorted»
  refine wpAny_bind (m := checkCount "sorted" 1 1 _) (wpAny_pure ?_)
  refine wpAny_bind (collect_list hl ?_ (by rw [sizeLine_eq]; omega))
  refine wpAny_bind (wpAny_newList ?_ (by rw [sizeLine_eq]; omega))
  have hsz : ((s.heap.push (seqObj "list" #[] 0)).update s.heap.objs.size (Obj.mapSeq (· ++ vs.toArray))).objs.size = s.heap.objs.size + 1 := by
    rw [Heap.size_update, size_push']
  have hoL : (((s.heap.push (seqObj "list" #[] 0)).update s.heap.objs.size (Obj.mapSeq (· ++ vs.toArray))).push (seqObj "list" vs.toArray 0)).get? (s.heap.objs.size + 1) = some (seqObj "list" vs.toArray 0) := by
    rw [← hsz]; exact Heap.get?_push_size _ rfl
  show wpAny _ _ _ _ _ { s with heap := ((s.heap.push (seqObj "list" #[] 0)).update s.heap.objs.size (Obj.mapSeq (· ++ vs.toArray))).push (seqObj "list" vs.toArray 0) }
  rw [hsz]
  refine wpAny_bind (wpAny_holding (wpAny_call_entry slot_list_sort ⟨_, hoL, rfl⟩ entry_list_sort ?body (args_list_sort _)))
  case body =>
    generalize hs1 : ({ s with heap := ((s.heap.push (seqObj "list" #[] 0)).update s.heap.objs.size (Obj.mapSeq (· ++ vs.toArray))).push (seqObj "list" vs.toArray 0) } : Shared) = s1
    have ho : s1.heap.get? (s.heap.objs.size + 1) = some (seqObj "list" vs.toArray 0) := by rw [← hs1]; exact hoL
    have ha : s.heap.objs.size + 1 < s1.heap.objs.size := Heap.lt_size ho
    rw [list_sort_plain]
    refine wpAny_bind (listItems_at ho rfl ?_)
    refine wpAny_bind (listUpdate_at ho rfl ?_ (by rw [List.size_toArray, sizeLine_eq]; omega) (Nat.zero_le _))
    obtain ⟨e1, ho1⟩ : ∃ e1, (s1.heap.update (s.heap.objs.size + 1) (Obj.mapSeq fun _ => #[])).get? (s.heap.objs.size + 1) = some (seqObj "list" #[] e1) := ⟨_, get?_update_seq ho (fun _ => #[])⟩
    refine wpAny_bind (seqEpoch_at ho1 rfl ?_)
    refine wpAny_bind (wpAny_newTuple ?_ (by show vs.length ≤ _; rw [sizeLine_eq]; omega))
    refine wpAny_bind (wpAny_newList ?_ (Nat.zero_le _))
    refine wpAny_holding ?_
    have ho6 : (((s1.heap.update (s.heap.objs.size + 1) (Obj.mapSeq fun _ => #[])).push (seqObj "tuple" vs.toArray 0)).push (seqObj "list" #[] 0)).get? (s.heap.objs.size + 1) = some (seqObj "list" #[] e1) := by
      rw [Heap.get?_push_ne _ _ _ (by rw [size_push', Heap.size_update]; exact Nat.ne_of_lt (Nat.lt_succ_of_lt ha)), Heap.get?_push_ne _ _ _ (by rw [Heap.size_update]; exact Nat.ne_of_lt ha)]
      exact ho1
    show wpAny (model prog w) A.in1.in1 _ _ E { s1 with heap := ((s1.heap.update (s.heap.objs.size + 1) (Obj.mapSeq fun _ => #[])).push (seqObj "tuple" vs.toArray 0)).push (seqObj "list" #[] 0) }
    dsimp only
    have h2' : vs.toArray.size < 2 := by rw [List.size_toArray]; exact h2
    rw [if_pos h2', if_pos h2']
    refine wpAny_bind (wpAny_pure ?_)
    rw [StateT.run_pure]
    refine wpAny_bind (wpAny_pure ?_)
    dsimp only
    refine wpAny_bind (seqEpoch_at ho6 rfl ?_)
    refine wpAny_bind (listUpdate_at ho6 rfl ?_ (Nat.zero_le _) (by rw [Array.size_map]; show (pairsOf vs).size ≤ _; rw [pairsOf_size, sizeLine_eq]; omega))
    simp only [bne_self_eq_false, Bool.false_eq_true, if_false]
    have e2 : (vs.toArray.zip vs.toArray).map (·.2) = vs.toArray := by
      apply Array.toList_inj.mp
      simp [List.map_snd_zip]
    refine wpAny_pure ⟨_, rfl, wpAny_pure ⟨_, rfl, ?_⟩⟩
    have e3 : (arrOf (SortSt.mk' general' (vs.toArray.zip vs.toArray) #[] 7 none)).map (·.2) = vs.toArray := e2
    subst hs1
    have goal := h
    unfold sortedAll sortedHeap at goal
    first
      | (rw [e2]; exact goal)
      | (simp only [e2]; exact goal)
      | (rw [e3]; exact goal)
end
theorem objThere {P : Program} {w : World} {H : Hp} {h : Heap} {a : Addr} {o : HO} (x : ObjOk P w H h a o) : ∃ ob, h.get? a = some ob := by
  cases o with
  | lst xs => obtain ⟨_, _, _, _, e⟩ := x; exact ⟨_, e⟩
  | tup xs => obtain ⟨_, _, _, ob, e, _⟩ := x; exact ⟨_, e⟩
  | dK kvs => obtain ⟨_, _, _, _, o, _, _, e, _⟩ := x; exact ⟨_, e⟩
  | dT kvs => obtain ⟨_, _, _, _, o, _, _, e, _⟩ := x; exact ⟨_, e⟩
  | set S n => obtain ⟨o, _, _, _, e, _⟩ := x; exact ⟨_, e⟩
  | ins C dx fs => obtain ⟨_, _, _, e, _⟩ := x; exact ⟨_, e⟩
  | own y => obtain ⟨_, e⟩ := x; exact ⟨_, e⟩
  | xd fs => obtain ⟨_, ⟨_, _, _, e, _⟩, _⟩ := x; exact ⟨_, e⟩
  | rng lo hi => obtain ⟨_, _, _, e⟩ := x; exact ⟨_, e⟩
  | frz ob u => obtain ⟨e, _⟩ := x; exact ⟨_, e⟩
  | tbl ps => exact ⟨_, (show h.get? a = some _ from x)⟩
  | met f y => exact ⟨_, (show h.get? a = some _ from x)⟩
  | ext φ => obtain ⟨_, ⟨_, e⟩, _⟩ := x; exact ⟨_, e⟩
section
variable {X : Cx}
def rSortedP : List V → Hp → VK → Prop := fun xs H Q => ∃ a vs ps, xs = [.ref a] ∧ H a = some (.lst vs) ∧ PairsAt H vs ps ∧ ps.length < 64 ∧
  ∀ D ws qs, H D = none → PairsAt H ws qs → qs.Perm ps → (2 ≤ ps.length → qs = (krun (kc fun i => ps.getD i (0, 0)) (kas_sort ps.length)).toList.map fun i => ps.getD i (0, 0)) → (ps.length < 2 → qs = ps) → Q (.ref D) (upd H D (.lst ws))
theorem call_sortedP : CallR X (.builtin "sorted") rSortedP := by
  rintro pins s σ H xs us Q I r ⟨a, vs, ps, rfl, hl, hp, h64, q⟩
  obtain ⟨u, rfl, ru⟩ := vals1 r
  cases (show u = Value.ref a from ru)
  obtain ⟨its, rv, z⟩ := lstAt I hl
  have l1 := rv.length
  have l2 := paired_len hp
  by_cases h2 : 2 ≤ its.length
  · obtain ⟨m, F⟩ := I.fr
    have free0 : ∀ b, s.heap.get? b = none → H b = none := fun b e => by
      cases hb : H b with
      | none => rfl
      | some o =>
        obtain ⟨x, hx⟩ := objThere (I.hok b o hb)
        rw [e] at hx; cases hx
    refine kat_sorted (news := allNews X.base s.heap X.env.locals) F news_all z h2 (by omega) fun D e1 h' F' N' hD => ?_
    have old : ∀ {h'' : Heap} {o : Obj}, Fr X.base X.env.locals h'' m → News X.base X.env.locals h'' ((D, o) :: allNews X.base s.heap X.env.locals) → ∀ b ob, b ≠ X.env.locals → s.heap.get? b = some ob → h''.get? b = some ob := fun {h'' o} F'' N'' b ob hb e => by
      cases hq : X.base.get? b with
      | some u =>
        have := (I.bs b u hq).1
        rw [e] at this; cases this
        exact F''.keep b _ hq
      | none => exact (N'' (b, ob) (List.mem_cons_of_mem _ (mem_allNews hb hq e))).1
    have hDn : s.heap.get? D = none := by
      cases e : s.heap.get? D with
      | none => rfl
      | some o =>
        have hL := (N' (D, seqObj "list" #[] e1) List.mem_cons_self)
        exact absurd (hD (D, o) (mem_allNews hL.2.1 hL.2.2 e)) (Nat.lt_irrefl _)
    have hHD : H D = none := free0 D hDn
    have hDL : D ≠ X.env.locals := (N' (D, seqObj "list" #[] e1) List.mem_cons_self).2.1
    have pairAt : ∀ {h'' : Heap}, (∀ b ob, b ≠ X.env.locals → s.heap.get? b = some ob → h''.get? b = some ob) → ∀ i, i < its.length → ∃ (b : Addr) (o : Obj) (n : Nat) (t0 t1 : Tok), its.getD i Value.none = .ref b ∧ h''.get? b = some o ∧ o.cls = .type "tuple" ∧ o.data = .seq #[.int (ps.getD i (0, 0)).1 t0, .int (ps.getD i (0, 0)).2 t1] n := fun {h''} hk i hi => by
      obtain ⟨p0, e0, f0⟩ := paired_get hp (i := i) (x := vs[i]'(by omega)) (List.getElem?_eq_getElem _)
      obtain ⟨u0, e2, r2⟩ := rv.get (i := i) (x := vs[i]'(by omega)) (List.getElem?_eq_getElem _)
      obtain ⟨b, e3, hb⟩ := f0
      rw [e3] at r2
      cases (show u0 = Value.ref b from r2)
      obtain ⟨its2, r4, t4⟩ := tupAt I hb
      obtain ⟨w0, w1, rfl, q0, q1⟩ := vals2 r4
      obtain ⟨t0, rfl⟩ := q0
      obtain ⟨t1, rfl⟩ := q1
      obtain ⟨o, ho, hc, n, hd⟩ := t4
      have hbL : b ≠ X.env.locals := fun e => by rw [e, I.free] at hb; cases hb
      have ep : ps.getD i (0, 0) = p0 := by simp [List.getD, e0]
      rw [ep]
      exact ⟨b, o, n, t0, t1, by simp [List.getD, e2], hk b o hbL ho, hc, hd⟩
    have hk' := old F' N'
    have tups : ∀ is : List Nat, (∀ i ∈ is, i < its.length) → ∃ fs : List Value, KatTups h' (is.map fun i => its.getD i Value.none) fs ∧ fs.length = is.length ∧ ∀ v ∈ fs, ∃ n t, v = Value.int n t := by
      intro is
      induction is with
      | nil => exact fun _ => ⟨[], KatTups.nil, rfl, fun v hv => by cases hv⟩
      | cons i r ih =>
        intro hi
        obtain ⟨fs, k1, k2, k3⟩ := ih fun j hj => hi j (List.mem_cons_of_mem _ hj)
        obtain ⟨b, o, n, t0, t1, e1, e2, e3, e4⟩ := pairAt hk' i (hi i List.mem_cons_self)
        refine ⟨.int (ps.getD i (0, 0)).1 t0 :: fs, ?_, by rw [List.length_cons, List.length_cons, k2], fun v hv => ?_⟩
        · show KatTups h' (its.getD i Value.none :: _) _
          rw [e1]
          exact KatTups.cons e2 e3 e4 rfl k1
        · rcases List.mem_cons.mp hv with rfl | hv
          · exact ⟨_, _, rfl⟩
          · exact k3 v hv
    obtain ⟨fs, k1, k2, k3⟩ := tups (List.range its.length) (fun i hi => by simpa using hi)
    rw [range_getD] at k1
    rw [List.length_range] at k2
    refine kat_kind (T := .type "int") k1 (by omega) (fun v hv => ?_) rfl ?_
    · obtain ⟨n, t, rfl⟩ := k3 v hv
      exact .now
    refine krun_wp (n := its.length) (c := kc fun i => ps.getD i (0, 0)) (fun i j C hi hj hC => ?_) _ (in_sort (by omega)) ?_
    · obtain ⟨b, o, n, t0, t1, e1, e2, e3, e4⟩ := pairAt hk' i hi
      obtain ⟨b', o', n', t0', t1', e1', e2', e3', e4'⟩ := pairAt hk' j hj
      show wpAny _ _ (keyLt' _ (its.getD i Value.none) (its.getD j Value.none)) C _ _
      rw [e1, e1']
      refine kat_lt (s := { s with heap := h' }) e2 e4 e2' e4' ?_
      have hC' : C (lt2 (ps.getD i (0, 0)) (ps.getD j (0, 0))) { s with heap := h' } := hC
      clear hC
      generalize ps.getD i (0, 0) = x at *
      generalize ps.getD j (0, 0) = y at *
      unfold lt2 at hC'
      refine kat_cons (SeqAt.EqAt.int_int x.1 t0 y.1 t0' _ _ _ _ ?_)
      refine kat_go (fun e => kat_yes ?_) (fun e => kat_no ?_)
      · have e5 : x.1 = y.1 := eq_of_beq e
        rw [if_pos e5] at hC'
        refine kat_cons (SeqAt.EqAt.int_int x.2 t1 y.2 t1' _ _ _ _ ?_)
        refine kat_go (fun e => kat_yes (kat_nil ?_)) (fun e => kat_no ?_)
        · have e6 : x.2 = y.2 := eq_of_beq e
          rw [e6, decide_eq_false (by omega)] at hC'
          exact hC'
        · exact kat_one _ _ (lt_int hC')
      · have e5 : ¬ x.1 = y.1 := by simpa using e
        rw [if_neg e5] at hC'
        exact oneLt_int hC'
    have hs : (krun (kc fun i => ps.getD i (0, 0)) (kas_sort its.length)).toList.Perm (List.range its.length) := by
      have := Array.perm_iff_toList_perm.mp (show (krun (kc fun i => ps.getD i (0, 0)) (kas_sort its.length)).Perm (List.range its.length).toArray from krun_in (P := fun r => Bnd its.length r) (in_sort (n := its.length) (by omega)))
      simpa using this
    generalize hP : krun (kc fun i => ps.getD i (0, 0)) (kas_sort its.length) = P at hs
    refine KasFin.intro F' N' (.head fun p hp' => Nat.ne_of_lt (hD p hp')) fun h'' c F'' N'' => ?_
    have hk'' := old F'' N''
    have mem : ∀ i ∈ P.toList, i < its.length := fun i hi => by simpa using hs.mem_iff.mp hi
    have hvals : Vals (P.toList.map fun i => vs.getD i .non) (P.toList.map fun i => its.getD i Value.none) := paired_pick rv _ _ _ fun i hi => by have := mem i hi; omega
    have hpair : PairsAt H (P.toList.map fun i => vs.getD i .non) (P.toList.map fun i => ps.getD i (0, 0)) := paired_pick hp _ _ _ fun i hi => by have := mem i hi; omega
    have hperm : (P.toList.map fun i => ps.getD i (0, 0)).Perm ps := by
      have := hs.map fun i => ps.getD i (0, 0)
      rw [show its.length = ps.length by omega, range_getD] at this
      exact this
    have hlen : (P.toList.map fun i => vs.getD i .non).length = its.length := by
      rw [List.length_map, hs.length_eq, List.length_range]
    have hDobj := (N'' (D, listOf (List.toArray (P.toList.map fun i => its.getD i Value.none)) c) List.mem_cons_self).1
    refine ⟨.ref D, upd H D (.lst (P.toList.map fun i => vs.getD i .non)), ?_, rfl, q D _ _ hHD hpair hperm (fun _ => by rw [← hP, show its.length = ps.length by omega]) (fun z => absurd z (by omega))⟩
    have neD : ∀ b o, s.heap.get? b = some o → b ≠ D := fun b o e z => by rw [z, hDn] at e; cases e
    refine Inv.step (s := s) (h' := h'') (g' := s.gens) (d' := s.drawn) (t' := s.toks) (ch := []) I (fun _ z => nomatch z) (fun b o hb _ _ e _ => hk'' b o hb e) (fun b o hb _ _ e _ => ⟨o.slots, hk'' b o hb e⟩) (fun b o _ e n => by rw [upd_ne (neD b o e)]; exact n)
      (fun b o _ e => ?_) (fun b ys e => by rw [upd_ne (ne_of_none e hHD)]; exact e) (fun b o u e => by rw [upd_ne (ne_of_none e hHD)]; exact e) (fun b u e => ⟨#[], by rw [upd_ne (ne_of_none e hHD), e]; simp⟩) (fun m' hm' => ?_) ?_ I.bare
    · by_cases hb : b = X.env.locals
      · obtain ⟨o', _, _, ho', _⟩ := F''.ns
        rw [hb]
        exact ⟨o', ho'⟩
      · exact ⟨o, hk'' b o hb e⟩
    · have em : m' = m := by
        obtain ⟨o1, es1, ep1, g1, d1, _, f1⟩ := hm'
        obtain ⟨o2, es2, ep2, g2, d2, _, f2⟩ := F.ns
        rw [g1] at g2; cases g2
        rw [d1] at d2; cases d2
        funext x
        rw [← f1 x, ← f2 x]
      rw [em]
      exact F''.ns
    · intro b u e
      by_cases hb : b = D
      · subst hb
        rw [upd_same] at e; cases e
        exact ⟨by rw [hlen, sizeLine_eq]; omega, _, c, hvals, hDobj⟩
      · rw [upd_ne hb] at e
        have neL : ∀ c v, H c = some v → c ≠ X.env.locals := fun c v z y => by rw [y, I.free] at z; cases z
        refine (I.hok b u e).stay (fun c v hc q => hk'' c v ?_ q) (fun c q => by rw [upd_ne (ne_of_none q hHD)]; exact q) fun c xs q => by rw [upd_ne (ne_of_none q hHD)]; exact q
        rcases hc with z | z
        · rw [z]; exact neL b u e
        · exact neL c _ z
  · refine sorted_short z (by omega) ?_
    have hD : H (s.heap.objs.size + 1) = none := I.hok.fresh (Nat.le_succ _)
    obtain ⟨c, hc⟩ := sortedAll_at s.heap its its.toArray
    refine ⟨.ref _, upd H (s.heap.objs.size + 1) (.lst vs), I.laid (t' := s.toks) (fun b o e => sortedAll_old e) (Nat.le_succ _) ?_, rfl, q _ vs ps hD hp (List.Perm.refl _) (fun z => absurd z (by omega)) fun _ => rfl⟩
    exact ⟨by rw [sizeLine_eq]; omega, its, c, rv, hc⟩
def rSorted : List V → Hp → VK → Prop := fun xs H Q => ∃ a vs ps, xs = [.ref a] ∧ H a = some (.lst vs) ∧ PairsAt H vs ps ∧ ps.length < 64 ∧
  ∀ D ws qs, H D = none → PairsAt H ws qs → qs.Perm ps → Sorted2 qs → Q (.ref D) (upd H D (.lst ws))
theorem call_sorted : CallR X (.builtin "sorted") rSorted := by
  rintro pins s σ H xs us Q I r ⟨a, vs, ps, e, hl, hp, h64, q⟩
  refine call_sortedP pins s σ H xs us Q I r ⟨a, vs, ps, e, hl, hp, h64, fun D ws qs h1 h2 h3 h4 h5 => q D ws qs h1 h2 h3 ?_⟩
  by_cases h : 2 ≤ ps.length
  · rw [h4 h]
    exact (sort_list (key := fun i => ps.getD i (0, 0)) (n := ps.length) (by omega)).2
  · rw [h5 (by omega)]
    match ps, (show ps.length < 2 by omega) with
    | [], _ => exact List.Pairwise.nil
    | [p], _ => exact List.pairwise_singleton _ _
    | _ :: _ :: _, h => exact absurd h (by simp)
end
end Ph
set_option Elab.async false
set_option linter.all false
set_option maxRecDepth 100000
namespace Ph
open PySem PySem.Spec L2
open PyProof.Rows hiding St
def Has (P : Program) (w : World) (K : PySem.W.Frag) (mg : Str → Option Value) (base : Heap) (k : Nat) (x : Str) (ps : List Str) (sp : Sp) : Prop :=
  ∃ (f : Addr) (fd : FuncData), FnOk P w K mg base CX0 k f fd ps sp ∧ Binds K fd ps [] ∧ PySem.W.keepIn K (.ref f) = true ∧ mg x = some (.ref f)
def Own (K : PySem.W.Frag) (mg : Str → Option Value) (x : Str) (st : Stmt) : Prop := ∃ (f : Addr) (fd : FuncData), Fun K x x st f fd ∧ mg x = some (.ref f)
section
variable {P : Program} {w : World} {K : PySem.W.Frag} {mg : Str → Option Value} {base : Heap}
theorem by1 {F : List Value → Prop} (h : ∀ a, F [a]) : ∀ us : List Value, us.length = 1 → F us := fun us e => by
  cases us with
  | nil => cases e
  | cons a r => rw [List.length_eq_zero_iff.mp (Nat.succ.inj e)]; exact h a
theorem by2 {F : List Value → Prop} (h : ∀ a b, F [a, b]) : ∀ us : List Value, us.length = 2 → F us := fun us e => by
  cases us with
  | nil => cases e
  | cons a r => exact by1 (F := fun r => F (a :: r)) (h a) r (Nat.succ.inj e)
theorem by3 {F : List Value → Prop} (h : ∀ a b c, F [a, b, c]) : ∀ us : List Value, us.length = 3 → F us := fun us e => by
  cases us with
  | nil => cases e
  | cons a r => exact by2 (F := fun r => F (a :: r)) (h a) r (Nat.succ.inj e)
theorem by5 {F : List Value → Prop} (h : ∀ a b c d e, F [a, b, c, d, e]) : ∀ us : List Value, us.length = 5 → F us := fun us e => by
  cases us with
  | nil => cases e
  | cons a r =>
    cases r with
    | nil => cases e
    | cons b r => exact by3 (F := fun r => F (a :: b :: r)) (h a b) r (Nat.succ.inj (Nat.succ.inj e))
theorem Own.has {x : Str} {st : Stmt} {N ps : List Str} {k : Nat} {sp : Sp} (O : Own K mg x st) (S : FnScope N ps (defScope st))
    (hb : ∀ (kV doc pm : Value) (an : Option Addr) (cdv ct : Value) (us : List Value), us.length = ps.length → bindArgs (PySem.W.fnOf x x (defArgs st) (defBody st) (defScope st) .none kV doc pm an cdv ct) ⟨us, []⟩ = pure (ps.zip us))
    (len : ∀ vs H Q E, sp vs H Q E → vs.length = ps.length)
    (body : ∀ (f : Addr) (cdv : Value) (A : Around) (outer : List Env) (s : Shared) (H : Hp) (vs : List V) (Q : VK) (E : XK), Room k (A.deeper (envOfC x (defScope st) s.heap.objs.size f cdv)) → sp vs H Q E →
      ∃ t, PSs (cxOf CX0 P w K mg base N x (defScope st) f cdv A outer s H E).nox (defBody st) t ∧ t { nx := fun _ H' => Q .non H', rt := Q } (start N vs) H) :
    Has P w K mg base (k + 1) x ps sp := by
  obtain ⟨f, fd, F, m⟩ := O
  exact ⟨f, fd, F.ok S len (body f), F.binds hb, F.kp, m⟩
theorem own_mk {h : Heap} {x : Str} {st : Stmt} {f : Addr} {oc : Value} {od an : Option Addr} {osl : Array (Option Value)} {kV doc pm cdv ct : Value} (X : K.In h) (G : h.Ns mainGlobals mg) (a : PySem.W.nsIn K mainGlobals x = some (some (.ref f)))
    (l : K.lookup f = some ⟨oc, od, .func (PySem.W.fnOf x x (defArgs st) (defBody st) (defScope st) .none kV doc pm an cdv ct), osl⟩) (c : PySem.W.codeIn K cdv x = true) (k : PySem.W.keepIn K (.ref f) = true) : Own K mg x st :=
  ⟨f, _, fun_mk l c k, PySem.W.mg_of X G a⟩
def IntAt (mg : Str → Option Value) (x : Str) (i : Int) : Prop := ∃ t, mg x = some (.int i t)
theorem pe_gint {X : Cx} {x : Str} {i : Int} {pos : Pos} (h : IntAt X.mg x i) (hg : Gl X x := by rfl) (hd : (x == ("__debug__" : Str)) = false := by decide) : PE X (.Name x pos) (tC (.int i)) := by
  obtain ⟨t, h⟩ := h
  exact pe_glob hg h ⟨t, rfl⟩ hd
theorem pe_fn {X : Cx} {k j : Nat} {x : Str} {ps : List Str} {sp : Sp} {e : Expr} {es : List Expr} {t : TA} {p pos : Pos} (G : Has X.prog X.w X.K X.mg X.base k x ps sp) (hr : Room j X.A) (ha : PA X (e :: es) t) (hj : k ≤ j := by decide) (hg : Gl X x := by rfl)
    (hdb : (x == ("__debug__" : Str)) = false := by decide) (he : starEach (e :: es) X.env = (false, eval e X.env) :: starEach es X.env := by rfl) (hpl : (backTo pos (starEach es X.env)).any (·.1) = false := by rfl) :
    PE X (.Call (.Name x p) (e :: es) [] pos) (tCall sp [] E0 t) := by
  obtain ⟨f, fd, F, b, kp, m⟩ := G
  exact pe_call F (hr.mono hj) hg m kp b .nil pass0 ha hdb he hpl
theorem boot_isi : bootBuiltins "isinstance" = some (.builtin "isinstance") := by decide +kernel
theorem boot_srt : bootBuiltins "sorted" = some (.builtin "sorted") := by decide +kernel
theorem boot_int' : bootBuiltins "int" = some (.type "int") := by decide +kernel
theorem boot_bool' : bootBuiltins "bool" = some (.type "bool") := by decide +kernel
theorem boot_list' : bootBuiltins "list" = some (.type "list") := by decide +kernel
theorem boot_tuple' : bootBuiltins "tuple" = some (.type "tuple") := by decide +kernel
theorem szl {n : Nat} (h : n ≤ 1000) : n < sizeLine := small1000 h
end
inductive IspThing (vs : List V) (H : Hp) (Q : VK) : Prop
  | mk : ∀ v r a l rt rc hd, (vs = [v]) → (PileAt H (.node r a l rt rc hd) v) → (∀ u H', Same H H' → PairAt H' u (r, a) → Q u H') → IspThing vs H Q
def spThing : Sp := fun vs H Q _ => IspThing vs H Q
inductive IspReach (vs : List V) (H : Hp) (Q : VK) : Prop
  | mk : ∀ v t, (vs = [v]) → (PileAt H t v) → (Q (.int t.reach) H) → IspReach vs H Q
def spReach : Sp := fun vs H Q _ => IspReach vs H Q
inductive IspHeld (vs : List V) (H : Hp) (Q : VK) : Prop
  | mk : ∀ v t, (vs = [v]) → (PileAt H t v) → (Q (.int t.held) H) → IspHeld vs H Q
def spHeld : Sp := fun vs H Q _ => IspHeld vs H Q
inductive IspAhead (vs : List V) (H : Hp) (Q : VK) : Prop
  | mk : ∀ v r a l rt rc hd v' r' a' l' rt' rc' hd', (vs = [v, v']) → (PileAt H (.node r a l rt rc hd) v) → (PileAt H (.node r' a' l' rt' rc' hd') v') → (∀ H', Same H H' → Q (.bl (lt2 (r, a) (r', a'))) H') → IspAhead vs H Q
def spAhead : Sp := fun vs H Q _ => IspAhead vs H Q
inductive IspTopped (vs : List V) (H : Hp) (Q : VK) : Prop
  | mk : ∀ u vl vr p l rt, (vs = [u, vl, vr]) → (PairAt H u p) → (PileAt H l vl) → (PileAt H rt vr) → (∀ v H', Same H H' → PileAt H' (mk p.1 p.2 l rt) v → Q v H') → IspTopped vs H Q
def spTopped : Sp := fun vs H Q _ => IspTopped vs H Q
inductive IspLeaning (vs : List V) (H : Hp) (Q : VK) : Prop
  | mk : ∀ u vl vr p l rt, (vs = [u, vl, vr]) → (PairAt H u p) → (PileAt H l vl) → (PileAt H rt vr) → (∀ v H', Same H H' → PileAt H' (leanT p.1 p.2 l rt) v → Q v H') → IspLeaning vs H Q
def spLeaning : Sp := fun vs H Q _ => IspLeaning vs H Q
inductive IspJoined (vs : List V) (H : Hp) (Q : VK) : Prop
  | mk : ∀ v v' s t, (vs = [v, v']) → (PileAt H s v) → (PileAt H t v') → (s.size + t.size ≤ 100) → (∀ q u H', Same H H' → H' q = some (.tup [u, .int (joinN s t)]) → PileAt H' (join s t) u → Q (.ref q) H') → IspJoined vs H Q
def spJoined : Sp := fun vs H Q _ => IspJoined vs H Q
inductive IspTaken (vs : List V) (H : Hp) (Q : VK) : Prop
  | mk : ∀ v r a l rt rc hd, (vs = [v]) → (PileAt H (.node r a l rt rc hd) v) → (l.size + rt.size ≤ 100) → (∀ q u u' H', Same H H' → H' q = some (.tup [u, u', .int (joinN l rt)]) → PairAt H' u (r, a) → PileAt H' (join l rt) u' → Q (.ref q) H') → IspTaken vs H Q
def spTaken : Sp := fun vs H Q _ => IspTaken vs H Q
inductive IspEmptied (vs : List V) (H : Hp) (Q : VK) : Prop
  | mk : ∀ v t, (vs = [v]) → (PileAt H t v) → (Ho t) → (t.size ≤ 100) → (∀ q ws ps H', Same H H' → H' q = some (.lst ws) → PairsAt H' ws ps → ps.Perm t.toL → Sorted2 ps → Q (.ref q) H') → IspEmptied vs H Q
def spEmptied : Sp := fun vs H Q _ => IspEmptied vs H Q
theorem lexLt2 (p q : Int × Int) : HT.lexLt [p.1, p.2] [q.1, q.2] = lt2 p q := by
  unfold lt2
  rw [HT.lexLt_cons, HT.lexLt_cons, HT.lexLt_nil_nil]
  split
  · split
    · rename_i h; rw [decide_eq_false (by omega)]
    · rfl
  · rfl
theorem nodeAt {H : Hp} {r a rc hd : Int} {l rt : T} {v : V} (h : PileAt H (.node r a l rt rc hd) v) : ∃ p vl vr, v = .ref p ∧ H p = some (.tup [.int r, .int a, vl, vr, .int rc, .int hd]) ∧ PileAt H l vl ∧ PileAt H rt vr := h
theorem pairNew {H : Hp} {q : Addr} {x y : Int} : PairAt (upd H q (.tup [.int x, .int y])) (.ref q) (x, y) := ⟨q, rfl, upd_same⟩
theorem pileTru {K : PySem.W.Frag} {H : Hp} {t : T} {v : V} (h : PileAt H t v) : TruV K v H (decide (t ≠ .nil)) := by
  cases t with
  | nil =>
    obtain ⟨p, rfl, hp⟩ := h
    exact .inr (.inl ⟨[], SqT.of hp, rfl⟩)
  | node r a l rt rc hd =>
    obtain ⟨p, vl, vr, rfl, hp, _⟩ := h
    exact .inr (.inl ⟨_, SqT.of hp, rfl⟩)
end Ph
set_option Elab.async false
set_option linter.all false
set_option maxRecDepth 100000
namespace Ph
open PySem PySem.Spec L2
open PyProof.Rows hiding St
abbrev PilesAt (H : Hp) (vs : List V) (ts : List T) : Prop := Paired (fun v t => PileAt H t v) vs ts
theorem PilesAt.mono {H H' : Hp} (m : Tups H H') {vs : List V} {ts : List T} (h : PilesAt H vs ts) : PilesAt H' vs ts := Paired.imp' (fun _ _ z => PileAt.mono m z) h
def glue : T → T → T
  | .nil, acc => acc
  | .node r a l _ _ _, acc => leanT r a l acc
structure JW (H H2 : Hp) (L : Addr) (s t : T) (one two : V) (a b : T) (vs : List V) (ts : List T) : Prop where
  same : Same H H2
  lst : H2 L = some (.lst vs)
  pa : PileAt H2 a one
  pb : PileAt H2 b two
  ps : PilesAt H2 vs ts
  nn : ∀ x ∈ ts, x ≠ T.nil
  jn : join s t = ts.foldr glue (join a b)
  cn : joinN s t = joinN a b + ts.length
  sz : a.size + b.size + ts.length ≤ s.size + t.size
theorem same_put {H H2 : Hp} {L : Addr} (h : H L = none) (s : Same H H2) (o : HO) : Same H (upd H2 L o) := fun b u e => by
  rw [upd_ne (ne_of_none e h)]; exact s b u e
theorem JW.two {H H2 H3 : Hp} {L : Addr} {s t : T} {one two vl vr : V} {r a rc hd r' a' rc' hd' : Int} {l rt l' rt' : T} {vs : List V} {ts : List T} (hL : H L = none) (s3 : Same H2 H3)
    (j : JW H H2 L s t one two (.node r a l rt rc hd) (.node r' a' l' rt' rc' hd') vs ts) (c : lt2 (r', a') (r, a) = true) (hr : PileAt H3 rt' vr) :
    JW H (upd H3 L (.lst (vs ++ [two]))) L s t one vr (.node r a l rt rc hd) rt' (vs ++ [two]) (ts ++ [.node r' a' l' rt' rc' hd']) := by
  have hL3 : H3 L = some (.lst vs) := s3 _ _ j.lst
  have m : Tups H2 (upd H3 L (.lst (vs ++ [two]))) := (Tups.of s3).trans (Tups.put hL3)
  refine ⟨same_put hL (j.same.trans s3) _, upd_same, j.pa.mono m, hr.mono (Tups.put hL3), paired_app (j.ps.mono m) (.cons (j.pb.mono m) .nil), fun x hx => ?_, ?_, ?_, ?_⟩
  · rcases List.mem_append.mp hx with z | z
    · exact j.nn x z
    · rw [List.mem_singleton.mp z]; intro e; cases e
  · rw [j.jn, List.foldr_append]
    congr 1
    rw [join, if_pos c]; rfl
  · rw [j.cn, List.length_append, joinN, if_pos c]
    simp only [List.length_singleton]; omega
  · have := j.sz
    simp only [T.size, List.length_append, List.length_singleton] at this ⊢
    omega
theorem JW.one {H H2 H3 : Hp} {L : Addr} {s t : T} {one two vl vr : V} {r a rc hd r' a' rc' hd' : Int} {l rt l' rt' : T} {vs : List V} {ts : List T} (hL : H L = none) (s3 : Same H2 H3)
    (j : JW H H2 L s t one two (.node r a l rt rc hd) (.node r' a' l' rt' rc' hd') vs ts) (c : ¬ lt2 (r', a') (r, a) = true) (hr : PileAt H3 rt vr) :
    JW H (upd H3 L (.lst (vs ++ [one]))) L s t vr two rt (.node r' a' l' rt' rc' hd') (vs ++ [one]) (ts ++ [.node r a l rt rc hd]) := by
  have hL3 : H3 L = some (.lst vs) := s3 _ _ j.lst
  have m : Tups H2 (upd H3 L (.lst (vs ++ [one]))) := (Tups.of s3).trans (Tups.put hL3)
  refine ⟨same_put hL (j.same.trans s3) _, upd_same, hr.mono (Tups.put hL3), j.pb.mono m, paired_app (j.ps.mono m) (.cons (j.pa.mono m) .nil), fun x hx => ?_, ?_, ?_, ?_⟩
  · rcases List.mem_append.mp hx with z | z
    · exact j.nn x z
    · rw [List.mem_singleton.mp z]; intro e; cases e
  · rw [j.jn, List.foldr_append]
    congr 1
    rw [join, if_neg c]; rfl
  · rw [j.cn, List.length_append, joinN, if_neg c]
    simp only [List.length_singleton]; omega
  · have := j.sz
    simp only [T.size, List.length_append, List.length_singleton] at this ⊢
    omega
structure Bare (mg : Str → Option Value) : Prop where
  len : mg "len" = none
  range : mg "range" = none
  rev : mg "reversed" = none
  srt : mg "sorted" = none
  isi : mg "isinstance" = none
  int : mg "int" = none
  bool : mg "bool" = none
  list : mg "list" = none
  tuple : mg "tuple" = none
  str : mg "str" = none
  max : mg "max" = none
  any : mg "any" = none
  all : mg "all" = none
  sum : mg "sum" = none
end Ph
namespace Ph
def Nm : T → Prop
  | .nil => True
  | .node _ _ l rt rc hd => rt.reach ≤ l.reach ∧ rc = rt.reach + 1 ∧ hd = l.held + rt.held + 1 ∧ Nm l ∧ Nm rt
theorem nm_lean {r a : Int} {l o : T} (hl : Nm l) (ho : Nm o) : Nm (leanT r a l o) := by
  unfold leanT mk
  split
  · rename_i h
    exact ⟨by omega, rfl, rfl, ho, hl⟩
  · rename_i h
    exact ⟨by omega, rfl, rfl, hl, ho⟩
theorem nm_join (s t : T) (hs : Nm s) (ht : Nm t) : Nm (join s t) := by
  fun_induction join s t with
  | case1 t => exact ht
  | case2 r a l rt rc hd => exact hs
  | case3 r a l rt rc hd r' a' l' rt' rc' hd' h ih => exact nm_lean ht.2.2.2.1 (ih hs ht.2.2.2.2)
  | case4 r a l rt rc hd r' a' l' rt' rc' hd' h ih => exact nm_lean hs.2.2.2.1 (ih hs.2.2.2.2 ht)
end Ph
set_option Elab.async false
set_option linter.all false
set_option maxRecDepth 100000
namespace Ph
open PySem PySem.Spec L2
open PyProof.Rows hiding St
section
variable {X : Cx}
theorem ix_tupK (K : PySem.W.Frag) (h : X.K = K := by rfl) : IxR X (rIxT K) := by subst h; exact ix_tup
theorem ix_listK (K : PySem.W.Frag) (h : X.K = K := by rfl) : IxR X (rIxL K) := by subst h; exact ix_list
theorem pt_and {a b : Expr} {rest : List Expr} {pos : Pos} {tA tB' : TT} (ha : PT X a tA) (hb : PW X (.BoolOp .And (b :: rest) pos) tB') : PT X (.BoolOp .And (a :: b :: rest) pos) (tAnd tA tB') := (pw_and ha hb).pt
theorem pt_or {a b : Expr} {rest : List Expr} {pos : Pos} {tA tB' : TT} (ha : PT X a tA) (hb : PW X (.BoolOp .Or (b :: rest) pos) tB') : PT X (.BoolOp .Or (a :: b :: rest) pos) (tOr tA tB') := (pw_or ha hb).pt
end
inductive IspWhole (vs : List V) (H : Hp) (Q : VK) : Prop
  | mk : ∀ i, (vs = [.int i]) → (Q (.bl true) H) → IspWhole vs H Q
def spWhole : Sp := fun vs H Q _ => IspWhole vs H Q
inductive IspPairsAre (vs : List V) (H : Hp) (Q : VK) : Prop
  | mk : ∀ a b ws ws' ps qs, (vs = [.ref a, .ref b]) → (H a = some (.lst ws)) → (H b = some (.lst ws')) → (PairsAt H ws ps) → (PairsAt H ws' qs) → (ps.length ≤ 100) → (qs.length ≤ 100) → (Q (.bl (decide (ps = qs))) H) → IspPairsAre vs H Q
def spPairsAre : Sp := fun vs H Q _ => IspPairsAre vs H Q
inductive IspLaw (K : PySem.W.Frag) (vs : List V) (H : Hp) (Q : VK) : Prop
  | mk : ∀ (a : Addr) (ns : List Int), (vs = [.ref a]) → (SqL K H a (ns.map V.int)) → (ns.length ≤ 63) → (∀ H', Q (.bl true) H') → IspLaw K vs H Q
def spLaw (K : PySem.W.Frag) : Sp := fun vs H Q _ => IspLaw K vs H Q
theorem kit_ii (K : PySem.W.Frag) : PySem.W.kitOne K (.type "int") (.type "int") = some true := rfl
theorem kit_ib (K : PySem.W.Frag) : PySem.W.kitOne K (.type "int") (.type "bool") = some false := by kernel_rfl
theorem kit_ll (K : PySem.W.Frag) : PySem.W.kitOne K (.type "list") (.type "list") = some true := rfl
theorem kit_tt (K : PySem.W.Frag) : PySem.W.kitOne K (.type "tuple") (.type "tuple") = some true := rfl
theorem atI_some {α : Type} {xs : List α} {i : Int} {v : α} (h0 : 0 ≤ i) (h : xs[i.toNat]? = some v) : atI xs i = some v := by
  have e : i = ((i.toNat : Nat) : Int) := by omega
  rw [e]; exact atI_nat (by simpa using h)
theorem cut_all (xs : List V) (h : xs.length ≤ 500) : cutV xs none (some 500) = xs := by
  unfold cutV
  rw [HT.sIx_none]
  have e : HT.sIx xs.length xs.length (some (500 : Int)) = min 500 xs.length := HT.sIx_nat _ _ 500
  rw [e, List.drop_zero, Nat.sub_zero, List.take_of_length_le (by omega)]
theorem ints_get {ns : List Int} {i : Nat} (h : i < ns.length) : atI (ns.map V.int) ((0 : Int) + (i : Int)) = some (.int (ns.getD i 0)) := by
  refine atI_some (by omega) ?_
  have e : ((0 : Int) + (i : Int)).toNat = i := by omega
  rw [e, List.getElem?_map, List.getElem?_eq_getElem h]
  simp [List.getD, h]
theorem paired_snoc_inv {α β : Type} {F : α → β → Prop} : ∀ {xs : List α} {r : List β} {y : β}, Paired F xs (r ++ [y]) → ∃ xs' x, xs = xs' ++ [x] ∧ Paired F xs' r ∧ F x y
  | _, [], _, .cons h .nil => ⟨[], _, rfl, .nil, h⟩
  | _, _ :: r, _, .cons h t => by
    obtain ⟨xs', x, rfl, h1, h2⟩ := paired_snoc_inv (r := r) t
    exact ⟨_ :: xs', x, rfl, .cons h h1, h2⟩
end Ph
set_option Elab.async false
set_option linter.all false
set_option maxRecDepth 100000
namespace Ph
open PySem PySem.Spec L2
open PyProof.Rows hiding St
end Ph
set_option Elab.async false
set_option linter.all false
set_option maxRecDepth 100000
namespace Ph
open PySem
end Ph
namespace Ph
open PySem PySem.Spec L2
open PyProof.Rows hiding St
open Classical in
noncomputable instance pileDec (H : Hp) (t : T) (v : V) : Decidable (PileAt H t v) := inferInstance
section
variable {X : Cx} {pos : Pos}
end
section
variable {prog : Program} {w : World} {A : Around} {E : Value → Shared → Prop} {s : Shared}
end
section
variable {X : Cx}
end
end Ph
set_option Elab.async false
set_option linter.all false
set_option maxRecDepth 100000
namespace Ph
open PySem PySem.Spec L2
open PyProof.Rows hiding St
theorem boot_str' : bootBuiltins "str" = some (.type "str") := by decide +kernel
section
variable {X : Cx}
end
theorem kit_is (K : PySem.W.Frag) : PySem.W.kitOne K (.type "int") (.type "str") = some false := by kernel_rfl
inductive IspSingle (vs : List V) (H : Hp) (Q : VK) : Prop
  | mk : ∀ r a, (vs = [.int r, .int a]) → (∀ v H', Same H H' → PileAt H' (mk r a .nil .nil) v → Q v H') → IspSingle vs H Q
def spSingle : Sp := fun vs H Q _ => IspSingle vs H Q
inductive IspAt (K : PySem.W.Frag) (vs : List V) (H : Hp) (Q : VK) : Prop
  | mk : ∀ (p : Addr) (ns : List Int) (k : Int), (vs = [.ref p, .int k]) → (SqL K H p (ns.map V.int)) → (0 ≤ k) → (Q (.int (ns.getD k.toNat 0)) H) → IspAt K vs H Q
def spAt (K : PySem.W.Frag) : Sp := fun vs H Q _ => IspAt K vs H Q
inductive IspMixed (K : PySem.W.Frag) (vs : List V) (H : Hp) (Q : VK) : Prop
  | mk : ∀ (p : Addr) (ns : List Int), (vs = [.ref p]) → (SqL K H p (ns.map V.int)) → (ns.length ≤ 63) → (∀ (q : Addr) (ms : List Int) (H' : Hp), Same H H' → ms.length = ns.length → H' q = some (.lst (ms.map V.int)) → Q (.ref q) H') → IspMixed K vs H Q
def spMixed (K : PySem.W.Frag) : Sp := fun vs H Q _ => IspMixed K vs H Q
end Ph
set_option Elab.async false
set_option linter.all false
set_option maxRecDepth 100000
namespace Ph
open PySem PySem.Spec L2
open PyProof.Rows hiding St
section
variable {X : Cx} {tg : Expr}
end
section
variable {X : Cx} {pos : Pos}
end
end Ph
set_option Elab.async false
set_option linter.all false
set_option maxRecDepth 100000
namespace Ph
open PySem PySem.Spec L2
open PyProof.Rows hiding St
section
variable {prog : Program} {w : World} {A : Around} {R : Result → Shared → Prop} {I : Addr} {fp wr : List Addr} {n : Nat} {P : Nat → Value → Prop} {S : Nat → Heap → Prop}
end
section
variable {X : Cx}
theorem boot_all' : bootBuiltins "all" = some (.builtin "all") := by decide +kernel
theorem range_allD (bs : List Bool) : ((List.range bs.length).all fun i => (bs[i]?).getD true) = bs.all id := by
  have e : (List.range bs.length).map (fun i => (bs[i]?).getD true) = bs := by
    apply List.ext_getElem?
    intro i
    rw [List.getElem?_map]
    by_cases h : i < bs.length
    · rw [List.getElem?_range h, List.getElem?_eq_getElem h]; simp [h]
    · rw [List.getElem?_eq_none (by simpa using h), List.getElem?_eq_none (by simpa using h)]; rfl
  conv => rhs; rw [← e]
  rw [List.all_map]; rfl
theorem keptI {s : Shared} {h' : Heap} {o : Obj} (hk : ∀ b x, b ∉ [s.heap.objs.size] → (s.heap.push o).get? b = some x → h'.get? b = some x) : ∀ b x, s.heap.get? b = some x → h'.get? b = some x :=
  fun b x e => hk b x (fun hm => by rw [List.mem_singleton.mp hm] at e; exact Nat.lt_irrefl _ (Heap.lt_size e)) (Heap.get?_push_of_some _ e)
theorem call_allB (hc : X.calm = true) : CallR X (.builtin "all") (fun xs H Q => ∃ (p : Addr) (bs : List Bool), xs = [.ref p] ∧ H p = some (.lst (bs.map V.bl)) ∧ Q (.bl (bs.all id)) H) := by
  rintro pins s σ H xs us Q I r ⟨p, bs, rfl, hp, q⟩
  obtain ⟨u, rfl, ru⟩ := vals1 r
  cases (show u = Value.ref p from ru)
  obtain ⟨its, rv, hl⟩ := lstAt I hp
  have hlt : p < s.heap.objs.size := by obtain ⟨_, e, _⟩ := hl; exact Heap.lt_size e
  have hlen : its.length = bs.length := by rw [← rv.length, List.length_map]
  refine call_all_walk (wpAny_pyIter_list hl ?_)
  refine ⟨s.heap.objs.size, [s.heap.objs.size, p], [s.heap.objs.size], its.toArray.size, _, _, fun i => (bs[i]?).getD true, rfl, Walks.list (A := X.A.in1) (I.ok.hd hc) _ p (Nat.ne_of_lt hlt) its.toArray,
    ⟨⟨_, Heap.get?_push_size _ rfl, rfl, rfl⟩, hl.push _⟩, fun i v s' Q' E' hP hQ => ?_, fun h' tk hk => ?_⟩
  · have hP' : its[i]? = some v := by simpa using hP
    have hi : i < its.length := by
      rcases Nat.lt_or_ge i its.length with h | h
      · exact h
      · rw [List.getElem?_eq_none h] at hP'; cases hP'
    have hb : i < bs.length := by omega
    obtain ⟨u2, e2, r2⟩ := rv.get (i := i) (x := V.bl bs[i]) (by rw [List.getElem?_map, List.getElem?_eq_getElem hb]; rfl)
    rw [hP'] at e2
    cases e2
    cases (show v = Value.bool bs[i] from r2)
    have hQ' : Q' ((bs[i]?).getD true) s' := hQ
    rw [List.getElem?_eq_getElem hb] at hQ'
    exact wpAny_truthy_bool hQ'
  · have e : ((List.range its.toArray.size).all fun i => (bs[i]?).getD true) = bs.all id := by
      rw [List.size_toArray, hlen]; exact range_allD bs
    rw [e]
    exact ⟨.bl _, H, I.kept (keptI hk), rfl, q⟩
end
end Ph
namespace Ph
inductive Up (ab : List (Option Nat)) : Nat → Nat → Nat → Prop
  | here {n : Nat} (h : ab[n]? = some none) : Up ab n n 0
  | step {n m h k : Nat} (e : ab[n]? = some (some m)) (r : Up ab m h k) : Up ab n h (k + 1)
theorem Up.head {ab : List (Option Nat)} {n h k : Nat} (u : Up ab n h k) : ab[h]? = some none := by
  induction u with
  | here e => exact e
  | step e r ih => exact ih
theorem Up.det {ab : List (Option Nat)} {n h k h' k' : Nat} (u : Up ab n h k) (u' : Up ab n h' k') : h = h' ∧ k = k' := by
  induction u generalizing h' k' with
  | here e =>
    cases u' with
    | here e' => exact ⟨rfl, rfl⟩
    | step e' r => rw [e] at e'; cases e'
  | step e r ih =>
    cases u' with
    | here e' => rw [e] at e'; cases e'
    | step e' r' =>
      rw [e] at e'; cases e'
      obtain ⟨a, b⟩ := ih r'
      exact ⟨a, by omega⟩
open Classical in
noncomputable def way (ab : List (Option Nat)) (n : Nat) : Nat × Nat := if h : ∃ p : Nat × Nat, Up ab n p.1 p.2 then Classical.choose h else (0, 0)
theorem Up.way {ab : List (Option Nat)} {n h k : Nat} (u : Up ab n h k) : way ab n = (h, k) := by
  have e : ∃ p : Nat × Nat, Up ab n p.1 p.2 := ⟨(h, k), u⟩
  unfold Ph.way
  rw [dif_pos e]
  obtain ⟨a, b⟩ := (Classical.choose_spec e).det u
  exact Prod.ext a b
structure Sn where
  ab : List (Option Nat)
  sz : List Int
  pl : List T
inductive Wd where
  | put | take | join
  deriving DecidableEq
structure Ch where
  w : Wd
  head : Nat
  old : T
  laid : Option Nat
structure Hs where
  s : Sn
  past : List Ch
  puts : Nat
inductive Deed where
  | opn | put (g r : Int) | take (g : Int) | least (g : Int) | join (a b : Int) | same (a b : Int) | undo
inductive Ans where
  | non | int (i : Int) | pair (p : Int × Int) | bl (b : Bool) | wd (w : Wd)
def Sn.add (s : Sn) : Sn := ⟨s.ab ++ [none], s.sz ++ [1], s.pl ++ [.nil]⟩
def Sn.setP (s : Sn) (h : Nat) (t : T) : Sn := { s with pl := s.pl.set h t }
def Sn.pile (s : Sn) (h : Nat) : T := s.pl.getD h .nil
def Sn.lower (s : Sn) (f g : Nat) : Nat := if s.sz.getD f 0 < s.sz.getD g 0 then f else g
def Sn.upper (s : Sn) (f g : Nat) : Nat := if s.lower f g = f then g else f
def Sn.lay (s : Sn) (f g : Nat) : Sn := { s with ab := s.ab.set (s.lower f g) (some (s.upper f g)), sz := s.sz.set (s.upper f g) (s.sz.getD (s.upper f g) 0 + s.sz.getD (s.lower f g) 0) }
def Sn.part (s : Sn) (u hd : Nat) : Sn := { s with ab := s.ab.set u none, sz := s.sz.set hd (s.sz.getD hd 0 - s.sz.getD u 0) }
def Sn.undo (s : Sn) (c : Ch) : Sn := (match c.laid with | some u => s.part u c.head | none => s).setP c.head c.old
def Hs.change (h : Hs) (w : Wd) (hd : Nat) (t : T) (l : Option Nat) : Hs := { h with s := h.s.setP hd t, past := ⟨w, hd, h.s.pile hd, l⟩ :: h.past }
def isG (n : Nat) (g : Int) : Prop := 0 ≤ g ∧ g < n
instance (n : Nat) (g : Int) : Decidable (isG n g) := by unfold isG; infer_instance
def Hs.isG (h : Hs) (g : Int) : Prop := Ph.isG h.s.ab.length g
instance (h : Hs) (g : Int) : Decidable (h.isG g) := by unfold Hs.isG; infer_instance
noncomputable def Hs.way (h : Hs) (g : Int) : Nat × Nat := Ph.way h.s.ab g.toNat
def top2 : T → Ans
  | .nil => .non
  | .node r a _ _ _ _ => .pair (r, a)
def one (r a : Int) : T := mk r a .nil .nil
noncomputable def Hs.doPut (h : Hs) (g r : Int) : Hs × Ans × (Nat × Nat) :=
  ({ h.change .put (h.way g).1 (Ph.join (h.s.pile (h.way g).1) (one r h.puts)) none with puts := h.puts + 1 }, .int h.puts, ((h.way g).2, joinN (h.s.pile (h.way g).1) (one r h.puts)))
noncomputable def Hs.doTake (h : Hs) (g : Int) : Hs × Ans × (Nat × Nat) :=
  match h.s.pile (h.way g).1 with
  | .nil => (h, .non, ((h.way g).2, 0))
  | .node r a l rt _ _ => (h.change .take (h.way g).1 (Ph.join l rt) none, .pair (r, a), ((h.way g).2, joinN l rt))
noncomputable def Hs.doLeast (h : Hs) (g : Int) : Hs × Ans × (Nat × Nat) := (h, top2 (h.s.pile (h.way g).1), ((h.way g).2, 0))
noncomputable def Hs.doJoin (h : Hs) (a b : Int) : Hs × Ans × (Nat × Nat) :=
  if (h.way a).1 = (h.way b).1 then (h, .bl false, ((h.way a).2 + (h.way b).2, 0))
  else (({ h with s := h.s.lay (h.way a).1 (h.way b).1 } : Hs).change .join (h.s.upper (h.way a).1 (h.way b).1) (Ph.join (h.s.pile (h.way a).1) (h.s.pile (h.way b).1)) (some (h.s.lower (h.way a).1 (h.way b).1)),
    .bl true, ((h.way a).2 + (h.way b).2, joinN (h.s.pile (h.way a).1) (h.s.pile (h.way b).1)))
noncomputable def Hs.doSame (h : Hs) (a b : Int) : Hs × Ans × (Nat × Nat) := (h, .bl (decide ((h.way a).1 = (h.way b).1)), ((h.way a).2 + (h.way b).2, 0))
def Hs.doUndo (h : Hs) : Hs × Ans × (Nat × Nat) :=
  match h.past with
  | [] => (h, .non, (0, 0))
  | c :: r => ({ h with s := h.s.undo c, past := r }, .wd c.w, (0, 0))
def Hs.doOpen (h : Hs) : Hs × Ans × (Nat × Nat) := ({ h with s := h.s.add }, .int h.s.ab.length, (0, 0))
def Hs.no (h : Hs) : Hs × Ans × (Nat × Nat) := (h, .non, (0, 0))
noncomputable def step (h : Hs) : Deed → Hs × Ans × (Nat × Nat)
  | .opn => h.doOpen
  | .put g r => if h.isG g then h.doPut g r else h.no
  | .take g => if h.isG g then h.doTake g else h.no
  | .least g => if h.isG g then h.doLeast g else h.no
  | .join a b => if h.isG a ∧ h.isG b then h.doJoin a b else h.no
  | .same a b => if h.isG a ∧ h.isG b then h.doSame a b else h.no
  | .undo => h.doUndo
theorem step_put {h : Hs} {g r : Int} (e : h.isG g) : step h (.put g r) = h.doPut g r := if_pos e
theorem step_put' {h : Hs} {g r : Int} (e : ¬ h.isG g) : step h (.put g r) = h.no := if_neg e
theorem step_take {h : Hs} {g : Int} (e : h.isG g) : step h (.take g) = h.doTake g := if_pos e
theorem step_take' {h : Hs} {g : Int} (e : ¬ h.isG g) : step h (.take g) = h.no := if_neg e
theorem step_least {h : Hs} {g : Int} (e : h.isG g) : step h (.least g) = h.doLeast g := if_pos e
theorem step_least' {h : Hs} {g : Int} (e : ¬ h.isG g) : step h (.least g) = h.no := if_neg e
theorem step_join {h : Hs} {a b : Int} (e : h.isG a ∧ h.isG b) : step h (.join a b) = h.doJoin a b := if_pos e
theorem step_join' {h : Hs} {a b : Int} (e : ¬ (h.isG a ∧ h.isG b)) : step h (.join a b) = h.no := if_neg e
theorem step_same {h : Hs} {a b : Int} (e : h.isG a ∧ h.isG b) : step h (.same a b) = h.doSame a b := if_pos e
theorem step_same' {h : Hs} {a b : Int} (e : ¬ (h.isG a ∧ h.isG b)) : step h (.same a b) = h.no := if_neg e
def Hs.zero : Hs := ⟨⟨[], [], []⟩, [], 0⟩
noncomputable def stepsOf (h : Hs) : List Deed → Hs
  | [] => h
  | d :: r => stepsOf (step h d).1 r
noncomputable def outsOf (h : Hs) : List Deed → List (Ans × (Nat × Nat))
  | [] => []
  | d :: r => (step h d).2 :: outsOf (step h d).1 r
theorem stepsOf_app (h : Hs) (a b : List Deed) : stepsOf h (a ++ b) = stepsOf (stepsOf h a) b := by
  induction a generalizing h with
  | nil => rfl
  | cons d r ih => exact ih _
theorem outsOf_app (h : Hs) (a b : List Deed) : outsOf h (a ++ b) = outsOf h a ++ outsOf (stepsOf h a) b := by
  induction a generalizing h with
  | nil => rfl
  | cons d r ih =>
    show (step h d).2 :: outsOf (step h d).1 (r ++ b) = ((step h d).2 :: outsOf (step h d).1 r) ++ outsOf (stepsOf h (d :: r)) b
    rw [ih]; rfl
theorem outsOf_len (h : Hs) (a : List Deed) : (outsOf h a).length = a.length := by
  induction a generalizing h with
  | nil => rfl
  | cons d r ih => show _ + 1 = _ + 1; rw [ih]
def hsum : List (Option Nat) → List T → Nat
  | none :: r, t :: ts => t.size + hsum r ts
  | some _ :: r, _ :: ts => hsum r ts
  | [], _ => 0
  | _, [] => 0
theorem hsum_setP : ∀ (ab : List (Option Nat)) (pl : List T) (h : Nat) (t : T), ab[h]? = some none → h < pl.length → hsum ab (pl.set h t) + (pl.getD h .nil).size = hsum ab pl + t.size
  | [], _, h, _, e, _ => by simp at e
  | _ :: _, [], h, _, _, l => by simp at l
  | none :: r, u :: ts, 0, t, _, _ => by simp [hsum]; omega
  | some x :: r, u :: ts, 0, t, e, _ => by simp at e
  | none :: r, u :: ts, h + 1, t, e, l => by
    have := hsum_setP r ts h t (by simpa using e) (by simpa using l)
    simp only [List.set_cons_succ, hsum, List.getD_cons_succ]; omega
  | some x :: r, u :: ts, h + 1, t, e, l => by
    have := hsum_setP r ts h t (by simpa using e) (by simpa using l)
    simp only [List.set_cons_succ, hsum, List.getD_cons_succ]; omega
theorem hsum_setA : ∀ (ab : List (Option Nat)) (pl : List T) (u x : Nat), ab[u]? = some none → u < pl.length → hsum (ab.set u (some x)) pl + (pl.getD u .nil).size = hsum ab pl
  | [], _, h, _, e, _ => by simp at e
  | _ :: _, [], h, _, _, l => by simp at l
  | none :: r, v :: ts, 0, x, _, _ => by simp [hsum]; omega
  | some y :: r, v :: ts, 0, x, e, _ => by simp at e
  | none :: r, v :: ts, h + 1, x, e, l => by
    have := hsum_setA r ts h x (by simpa using e) (by simpa using l)
    simp only [List.set_cons_succ, hsum, List.getD_cons_succ]; omega
  | some y :: r, v :: ts, h + 1, x, e, l => by
    have := hsum_setA r ts h x (by simpa using e) (by simpa using l)
    simp only [List.set_cons_succ, hsum, List.getD_cons_succ]; omega
theorem hsum_add : ∀ (ab : List (Option Nat)) (pl : List T), pl.length = ab.length → hsum (ab ++ [none]) (pl ++ [.nil]) = hsum ab pl
  | [], [], _ => rfl
  | [], _ :: _, e => by simp at e
  | _ :: _, [], e => by simp at e
  | none :: r, t :: ts, e => by
    have := hsum_add r ts (by simpa using e)
    simp only [List.cons_append, hsum]; omega
  | some x :: r, t :: ts, e => by
    have := hsum_add r ts (by simpa using e)
    simp only [List.cons_append, hsum]; omega
theorem hsum_one {ab : List (Option Nat)} {pl : List T} {h : Nat} (e : ab[h]? = some none) (l : h < pl.length) : (pl.getD h .nil).size ≤ hsum ab pl := by
  have := hsum_setA ab pl h 0 e l; omega
theorem hsum_two {ab : List (Option Nat)} {pl : List T} {h g : Nat} (e : ab[h]? = some none) (e' : ab[g]? = some none) (n : h ≠ g) (l : h < pl.length) (l' : g < pl.length) : (pl.getD h .nil).size + (pl.getD g .nil).size ≤ hsum ab pl := by
  have := hsum_setA ab pl h 0 e l
  have e2 : (ab.set h (some 0))[g]? = some none := by rw [List.getElem?_set_ne n]; exact e'
  have := hsum_one e2 l'
  omega
structure Good (B : Nat) (s : Sn) : Prop where
  lz : s.sz.length = s.ab.length
  lp : s.pl.length = s.ab.length
  up : ∀ n, n < s.ab.length → ∃ h k, Up s.ab n h k
  sum : hsum s.ab s.pl ≤ B
  ho : ∀ t ∈ s.pl, Ho t
  nm : ∀ t ∈ s.pl, Nm t
structure Fits (s : Sn) (c : Ch) : Prop where
  hd : s.ab[c.head]? = some none
  ld : ∀ u, c.laid = some u → s.ab[u]? = some (some c.head)
  wd : c.w = .join ↔ c.laid.isSome = true
def Ok (B : Nat) : Sn → List Ch → Prop
  | s, [] => Good B s
  | s, c :: r => Good B s ∧ Fits s c ∧ Ok B (s.undo c) r
theorem Ok.good {B : Nat} : ∀ {s : Sn} {r : List Ch}, Ok B s r → Good B s
  | _, [], h => h
  | _, _ :: _, h => h.1
theorem Good.mono {B B' : Nat} {s : Sn} (h : Good B s) (l : B ≤ B') : Good B' s := ⟨h.lz, h.lp, h.up, Nat.le_trans h.sum l, h.ho, h.nm⟩
theorem Ok.mono {B B' : Nat} (l : B ≤ B') : ∀ {s : Sn} {r : List Ch}, Ok B s r → Ok B' s r
  | _, [], h => Good.mono h l
  | _, _ :: _, ⟨a, b, c⟩ => ⟨a.mono l, b, Ok.mono l c⟩
theorem get_lt {α : Type} {l : List α} {i : Nat} {x : α} (h : l[i]? = some x) : i < l.length := (List.getElem?_eq_some_iff.mp h).1
theorem Up.add {ab : List (Option Nat)} {n h k : Nat} (u : Up ab n h k) : Up (ab ++ [none]) n h k := by
  induction u with
  | here e => exact .here (by rw [List.getElem?_append_left (get_lt e)]; exact e)
  | step e r ih => exact .step (by rw [List.getElem?_append_left (get_lt e)]; exact e) ih
theorem Good.add {B : Nat} {s : Sn} (g : Good B s) : Good B s.add where
  lz := by show (s.sz ++ [1]).length = (s.ab ++ [none]).length; simp [g.lz]
  lp := by show (s.pl ++ [T.nil]).length = (s.ab ++ [none]).length; simp [g.lp]
  up := fun n hn => by
    have hn' : n < s.ab.length + 1 := by simpa [Sn.add] using hn
    by_cases e : n < s.ab.length
    · obtain ⟨h, k, u⟩ := g.up n e
      exact ⟨h, k, u.add⟩
    · have e2 : n = s.ab.length := by omega
      subst e2
      exact ⟨_, 0, .here (by show (s.ab ++ [none])[s.ab.length]? = some none; simp)⟩
  sum := by show hsum (s.ab ++ [none]) (s.pl ++ [.nil]) ≤ B; rw [hsum_add _ _ g.lp]; exact g.sum
  ho := fun t ht => by
    rcases List.mem_append.mp (show t ∈ s.pl ++ [.nil] from ht) with e | e
    · exact g.ho t e
    · rw [List.mem_singleton.mp e]; trivial
  nm := fun t ht => by
    rcases List.mem_append.mp (show t ∈ s.pl ++ [.nil] from ht) with e | e
    · exact g.nm t e
    · rw [List.mem_singleton.mp e]; trivial
theorem set_app {α : Type} {l : List α} {i : Nat} {x : α} (y : α) (h : i < l.length) : (l ++ [y]).set i x = l.set i x ++ [y] := by
  rw [List.set_append, if_pos h]
theorem getD_app {α : Type} {l : List α} {i : Nat} {d : α} (y : α) (h : i < l.length) : (l ++ [y]).getD i d = l.getD i d := by
  simp [List.getD, List.getElem?_append_left h]
theorem undo_add {B : Nat} {s : Sn} {c : Ch} (g : Good B s) (f : Fits s c) : s.add.undo c = (s.undo c).add := by
  have h1 : c.head < s.ab.length := get_lt f.hd
  obtain ⟨w, hd, old, laid⟩ := c
  cases laid with
  | none =>
    show Sn.mk (s.ab ++ [none]) (s.sz ++ [1]) ((s.pl ++ [T.nil]).set hd old) = ⟨s.ab ++ [none], s.sz ++ [1], s.pl.set hd old ++ [T.nil]⟩
    rw [set_app _ (by rw [g.lp]; exact h1)]
  | some u =>
    have h2 : u < s.ab.length := get_lt (f.ld u rfl)
    show Sn.mk ((s.ab ++ [none]).set u none) ((s.sz ++ [1]).set hd ((s.sz ++ [1]).getD hd 0 - (s.sz ++ [1]).getD u 0)) ((s.pl ++ [T.nil]).set hd old) = ⟨s.ab.set u none ++ [none], s.sz.set hd (s.sz.getD hd 0 - s.sz.getD u 0) ++ [1], s.pl.set hd old ++ [.nil]⟩
    rw [set_app (l := s.pl) _ (by rw [g.lp]; exact h1), set_app (l := s.ab) _ h2, getD_app _ (by rw [g.lz]; exact h1), getD_app _ (by rw [g.lz]; exact h2), set_app (l := s.sz) _ (by rw [g.lz]; exact h1)]
theorem Fits.add {s : Sn} {c : Ch} (f : Fits s c) : Fits s.add c :=
  ⟨by show (s.ab ++ [none])[c.head]? = some none; rw [List.getElem?_append_left (get_lt f.hd)]; exact f.hd, fun u e => by show (s.ab ++ [none])[u]? = _; rw [List.getElem?_append_left (get_lt (f.ld u e))]; exact f.ld u e, f.wd⟩
theorem Ok.add {B : Nat} : ∀ {r : List Ch} {s : Sn}, Ok B s r → Ok B s.add r
  | [], _, h => Good.add h
  | c :: r, s, ⟨g, f, k⟩ => ⟨g.add, f.add, by rw [undo_add g f]; exact Ok.add k⟩
theorem Good.setP {B B' : Nat} {s : Sn} {h : Nat} {t : T} (g : Good B s) (e : s.ab[h]? = some none) (o : Ho t) (m : Nm t) (l : hsum s.ab (s.pl.set h t) ≤ B') : Good B' (s.setP h t) where
  lz := g.lz
  lp := by show (s.pl.set h t).length = _; rw [List.length_set]; exact g.lp
  up := g.up
  sum := l
  ho := fun u hu => by
    rcases List.mem_or_eq_of_mem_set (show u ∈ s.pl.set h t from hu) with z | z
    · exact g.ho u z
    · rw [z]; exact o
  nm := fun u hu => by
    rcases List.mem_or_eq_of_mem_set (show u ∈ s.pl.set h t from hu) with z | z
    · exact g.nm u z
    · rw [z]; exact m
theorem set_back {α : Type} {l : List α} {h : Nat} {d t : α} (e : h < l.length) : (l.set h t).set h (l.getD h d) = l := by
  rw [List.set_set]
  have : l.getD h d = l[h] := by simp [List.getD, e]
  rw [this, List.set_getElem_self]
theorem pile_mem {s : Sn} {h : Nat} (e : h < s.pl.length) : s.pile h ∈ s.pl := by
  have : s.pile h = s.pl[h] := by unfold Sn.pile; simp [List.getD, e]
  rw [this]; exact List.getElem_mem _
theorem Ok.change {B B' : Nat} {s : Sn} {r : List Ch} {w : Wd} {hd : Nat} {t : T} (k : Ok B s r) (e : s.ab[hd]? = some none) (o : Ho t) (m : Nm t) (hw : w ≠ .join) (l : hsum s.ab (s.pl.set hd t) ≤ B') (lB : B ≤ B') :
    Ok B' (s.setP hd t) (⟨w, hd, s.pile hd, none⟩ :: r) := by
  have g := k.good
  refine ⟨g.setP e o m l, ⟨e, fun u z => (nomatch z), ⟨fun z => absurd z hw, fun z => (nomatch z)⟩⟩, ?_⟩
  have : (s.setP hd t).undo ⟨w, hd, s.pile hd, none⟩ = s := by
    show Sn.mk s.ab s.sz ((s.pl.set hd t).set hd (s.pl.getD hd .nil)) = s
    rw [set_back (by rw [g.lp]; exact get_lt e)]
  rw [this]
  exact k.mono lB
theorem Up.lay {ab : List (Option Nat)} {n h k lo up : Nat} (u : Up ab n h k) (hl : ab[lo]? = some none) (hu : ab[up]? = some none) (ne : lo ≠ up) :
    (h ≠ lo → Up (ab.set lo (some up)) n h k) ∧ (h = lo → Up (ab.set lo (some up)) n up (k + 1)) := by
  have hup : Up (ab.set lo (some up)) up up 0 := .here (by rw [List.getElem?_set_ne ne]; exact hu)
  induction u with
  | @here n e =>
    refine ⟨fun z => .here (by rw [List.getElem?_set_ne (Ne.symm z)]; exact e), fun z => ?_⟩
    subst z
    exact .step (by rw [List.getElem?_set_self (get_lt e)]) hup
  | @step n m h k e r ih =>
    have hn : n ≠ lo := fun z => by subst z; rw [hl] at e; cases e
    have e' : (ab.set lo (some up))[n]? = some (some m) := by rw [List.getElem?_set_ne (Ne.symm hn)]; exact e
    exact ⟨fun z => .step e' (ih.1 z), fun z => .step e' (ih.2 z)⟩
theorem lower_or (s : Sn) (f g : Nat) : (s.lower f g = f ∧ s.upper f g = g) ∨ (s.lower f g = g ∧ s.upper f g = f ∧ f ≠ g) ∨ f = g := by
  by_cases e : f = g
  · exact .inr (.inr e)
  · unfold Sn.upper Sn.lower
    by_cases h : s.sz.getD f 0 < s.sz.getD g 0
    · rw [if_pos h, if_pos rfl]; exact .inl ⟨rfl, rfl⟩
    · rw [if_neg h, if_neg (fun z => e z.symm)]; exact .inr (.inl ⟨rfl, rfl, e⟩)
theorem lay_two {s : Sn} {f g : Nat} (hf : s.ab[f]? = some none) (hg : s.ab[g]? = some none) (ne : f ≠ g) :
    s.ab[s.lower f g]? = some none ∧ s.ab[s.upper f g]? = some none ∧ s.lower f g ≠ s.upper f g ∧ (s.pile (s.lower f g)).size + (s.pile (s.upper f g)).size = (s.pile f).size + (s.pile g).size := by
  rcases lower_or s f g with ⟨a, b⟩ | ⟨a, b, _⟩ | z
  · rw [a, b]; exact ⟨hf, hg, ne, rfl⟩
  · rw [a, b]; exact ⟨hg, hf, Ne.symm ne, by omega⟩
  · exact absurd z ne
theorem Good.layJoin {B : Nat} {s : Sn} {f g : Nat} (k : Good B s) (hf : s.ab[f]? = some none) (hg : s.ab[g]? = some none) (ne : f ≠ g) : Good B ((s.lay f g).setP (s.upper f g) (join (s.pile f) (s.pile g))) := by
  obtain ⟨h1, h2, h3, h4⟩ := lay_two (s := s) hf hg ne
  have hfl := get_lt hf
  have hgl := get_lt hg
  have hul := get_lt h2
  have hll := get_lt h1
  have sz := k.sum
  refine ⟨?_, ?_, fun n hn => ?_, ?_, fun t ht => ?_, fun t ht => ?_⟩
  · show (s.sz.set _ _).length = (s.ab.set _ _).length
    rw [List.length_set, List.length_set]; exact k.lz
  · show (s.pl.set _ _).length = (s.ab.set _ _).length
    rw [List.length_set, List.length_set]; exact k.lp
  · have hn' : n < s.ab.length := by
      have : n < (s.ab.set (s.lower f g) (some (s.upper f g))).length := hn
      rwa [List.length_set] at this
    obtain ⟨h, m, u⟩ := k.up n hn'
    have L := u.lay h1 h2 h3
    by_cases e : h = s.lower f g
    · exact ⟨_, _, L.2 e⟩
    · exact ⟨_, _, L.1 e⟩
  · show hsum (s.ab.set _ _) (s.pl.set _ _) ≤ B
    have e1 : (s.ab.set (s.lower f g) (some (s.upper f g)))[s.upper f g]? = some none := by rw [List.getElem?_set_ne h3]; exact h2
    have a1 := hsum_setP (s.ab.set (s.lower f g) (some (s.upper f g))) s.pl (s.upper f g) (join (s.pile f) (s.pile g)) e1 (by rw [k.lp]; exact hul)
    have a2 := hsum_setA s.ab s.pl (s.lower f g) (s.upper f g) h1 (by rw [k.lp]; exact hll)
    rw [join_size] at a1
    unfold Sn.pile at h4 a1
    have : hsum (s.ab.set (s.lower f g) (some (s.upper f g))) (s.pl.set (s.upper f g) (join (s.pl.getD f .nil) (s.pl.getD g .nil))) ≤ hsum s.ab s.pl := by omega
    exact Nat.le_trans this sz
  · rcases List.mem_or_eq_of_mem_set (show t ∈ s.pl.set _ _ from ht) with z | z
    · exact k.ho t z
    · rw [z]; exact ho_join _ _ (k.ho _ (pile_mem (by rw [k.lp]; exact hfl))) (k.ho _ (pile_mem (by rw [k.lp]; exact hgl)))
  · rcases List.mem_or_eq_of_mem_set (show t ∈ s.pl.set _ _ from ht) with z | z
    · exact k.nm t z
    · rw [z]; exact nm_join _ _ (k.nm _ (pile_mem (by rw [k.lp]; exact hfl))) (k.nm _ (pile_mem (by rw [k.lp]; exact hgl)))
theorem getD_set_self {α : Type} {l : List α} {i : Nat} {x d : α} (h : i < l.length) : (l.set i x).getD i d = x := by simp [List.getD, h]
theorem getD_set_ne {α : Type} {l : List α} {i j : Nat} {x d : α} (h : i ≠ j) : (l.set i x).getD j d = l.getD j d := by simp [List.getD, List.getElem?_set_ne h]
theorem set_id {α : Type} {l : List α} {h : Nat} {x : α} (e : l[h]? = some x) : l.set h x = l := by
  have := get_lt e
  rw [List.getElem?_eq_getElem this] at e
  have e2 : l[h] = x := Option.some.inj e
  rw [← e2, List.set_getElem_self]
theorem Ok.join {B : Nat} {s : Sn} {r : List Ch} {f g : Nat} (k : Ok B s r) (hf : s.ab[f]? = some none) (hg : s.ab[g]? = some none) (ne : f ≠ g) :
    Ok B ((s.lay f g).setP (s.upper f g) (Ph.join (s.pile f) (s.pile g))) (⟨.join, s.upper f g, (s.lay f g).pile (s.upper f g), some (s.lower f g)⟩ :: r) := by
  have g0 := k.good
  obtain ⟨h1, h2, h3, h4⟩ := lay_two (s := s) hf hg ne
  have hul := get_lt h2
  have hll := get_lt h1
  refine ⟨g0.layJoin hf hg ne, ⟨?_, fun u z => ?_, ⟨fun _ => rfl, fun _ => rfl⟩⟩, ?_⟩
  · show (s.ab.set _ _)[_]? = some none
    rw [List.getElem?_set_ne h3]; exact h2
  · cases z
    show (s.ab.set _ _)[_]? = _
    rw [List.getElem?_set_self hll]
  · have : ((s.lay f g).setP (s.upper f g) (Ph.join (s.pile f) (s.pile g))).undo ⟨.join, s.upper f g, (s.lay f g).pile (s.upper f g), some (s.lower f g)⟩ = s := by
      show Sn.mk ((s.ab.set (s.lower f g) (some (s.upper f g))).set (s.lower f g) none)
        ((s.sz.set (s.upper f g) (s.sz.getD (s.upper f g) 0 + s.sz.getD (s.lower f g) 0)).set (s.upper f g) ((s.sz.set (s.upper f g) (s.sz.getD (s.upper f g) 0 + s.sz.getD (s.lower f g) 0)).getD (s.upper f g) 0 - (s.sz.set (s.upper f g) (s.sz.getD (s.upper f g) 0 + s.sz.getD (s.lower f g) 0)).getD (s.lower f g) 0))
        ((s.pl.set (s.upper f g) (Ph.join (s.pile f) (s.pile g))).set (s.upper f g) (s.pl.getD (s.upper f g) .nil)) = s
      rw [set_back (by rw [g0.lp]; exact hul), List.set_set, set_id h1, getD_set_self (by rw [g0.lz]; exact hul), getD_set_ne (Ne.symm h3), List.set_set]
      have e : s.sz.getD (s.upper f g) 0 + s.sz.getD (s.lower f g) 0 - s.sz.getD (s.lower f g) 0 = s.sz.getD (s.upper f g) 0 := by omega
      rw [e]
      have hz : s.upper f g < s.sz.length := by rw [g0.lz]; exact hul
      have e2 : s.sz.getD (s.upper f g) 0 = s.sz[s.upper f g] := by simp [List.getD, hz]
      rw [e2, List.set_getElem_self]
    rw [this]; exact k
def Hs.Ok (h : Hs) : Prop := Ph.Ok h.puts h.s h.past
structure Hs.Bd (h : Hs) (i : Nat) : Prop where
  n : h.s.ab.length ≤ i
  p : h.puts ≤ i
  c : h.past.length ≤ i
theorem Hs.Ok.good {h : Hs} (k : h.Ok) : Good h.puts h.s := Ph.Ok.good k
theorem Hs.Ok.zero : Hs.zero.Ok := ⟨rfl, rfl, fun n hn => by simp [Hs.zero] at hn, Nat.le_refl _, fun t ht => by simp [Hs.zero] at ht, fun t ht => by simp [Hs.zero] at ht⟩
theorem Hs.Ok.up {h : Hs} (k : h.Ok) {g : Int} (hg : h.isG g) : Up h.s.ab g.toNat (h.way g).1 (h.way g).2 := by
  have hg' : 0 ≤ g ∧ g < (h.s.ab.length : Int) := hg
  obtain ⟨a, b, u⟩ := k.good.up g.toNat (by omega)
  have e : h.way g = (a, b) := u.way
  rw [e]; exact u
theorem Hs.Ok.hd {h : Hs} (k : h.Ok) {g : Int} (hg : h.isG g) : h.s.ab[(h.way g).1]? = some none := (k.up hg).head
theorem Hs.Ok.plt {h : Hs} (k : h.Ok) {g : Int} (hg : h.isG g) : (h.way g).1 < h.s.pl.length := by rw [k.good.lp]; exact get_lt (k.hd hg)
theorem Hs.Ok.hoP {h : Hs} (k : h.Ok) {g : Int} (hg : h.isG g) : Ho (h.s.pile (h.way g).1) := k.good.ho _ (pile_mem (k.plt hg))
theorem Hs.Ok.nmP {h : Hs} (k : h.Ok) {g : Int} (hg : h.isG g) : Nm (h.s.pile (h.way g).1) := k.good.nm _ (pile_mem (k.plt hg))
theorem Hs.Ok.szP {h : Hs} (k : h.Ok) {g : Int} (hg : h.isG g) : (h.s.pile (h.way g).1).size ≤ h.puts := Nat.le_trans (hsum_one (k.hd hg) (k.plt hg)) k.good.sum
theorem Hs.Ok.sz2 {h : Hs} (k : h.Ok) {a b : Int} (ha : h.isG a) (hb : h.isG b) (ne : (h.way a).1 ≠ (h.way b).1) : (h.s.pile (h.way a).1).size + (h.s.pile (h.way b).1).size ≤ h.puts :=
  Nat.le_trans (hsum_two (k.hd ha) (k.hd hb) ne (k.plt ha) (k.plt hb)) k.good.sum
theorem one_ho (r a : Int) : Ho (one r a) := ⟨fun q h => by simp [T.toL] at h, trivial, trivial⟩
theorem one_nm (r a : Int) : Nm (one r a) := ⟨Int.le_refl _, rfl, rfl, trivial, trivial⟩
theorem one_size (r a : Int) : (one r a).size = 1 := rfl
theorem step_ok {h : Hs} (k : h.Ok) (d : Deed) : (step h d).1.Ok := by
  cases d with
  | opn => exact Ph.Ok.add k
  | put g r =>
    by_cases e : h.isG g
    · rw [step_put e]
      refine Ph.Ok.change (w := .put) k (k.hd e) (ho_join _ _ (k.hoP e) (one_ho _ _)) (nm_join _ _ (k.nmP e) (one_nm _ _)) (by decide) ?_ (Nat.le_succ _)
      have := hsum_setP h.s.ab h.s.pl (h.way g).1 (Ph.join (h.s.pile (h.way g).1) (one r h.puts)) (k.hd e) (k.plt e)
      rw [join_size, one_size] at this
      have hs := k.good.sum
      unfold Sn.pile at this ⊢
      show _ ≤ h.puts + 1
      omega
    · rw [step_put' e]; exact k
  | take g =>
    by_cases e : h.isG g
    · rw [step_take e]
      unfold Hs.doTake
      cases z : h.s.pile (h.way g).1 with
      | nil => exact k
      | node r a l rt rc hd =>
        have ho := k.hoP e
        have nm := k.nmP e
        rw [z] at ho nm
        refine Ph.Ok.change (w := .take) k (k.hd e) (ho_join _ _ ho.2.1 ho.2.2) (nm_join _ _ nm.2.2.2.1 nm.2.2.2.2) (by decide) ?_ (Nat.le_refl _)
        have := hsum_setP h.s.ab h.s.pl (h.way g).1 (Ph.join l rt) (k.hd e) (k.plt e)
        rw [join_size] at this
        have hs := k.good.sum
        have z' : h.s.pl.getD (h.way g).1 .nil = .node r a l rt rc hd := z
        rw [z'] at this
        simp only [T.size] at this
        show _ ≤ h.puts
        omega
    · rw [step_take' e]; exact k
  | least g =>
    by_cases e : h.isG g
    · rw [step_least e]; exact k
    · rw [step_least' e]; exact k
  | join a b =>
    by_cases e : h.isG a ∧ h.isG b
    · rw [step_join e]
      unfold Hs.doJoin
      by_cases z : (h.way a).1 = (h.way b).1
      · rw [if_pos z]; exact k
      · rw [if_neg z]
        exact Ph.Ok.join k (k.hd e.1) (k.hd e.2) z
    · rw [step_join' e]; exact k
  | same a b =>
    by_cases e : h.isG a ∧ h.isG b
    · rw [step_same e]; exact k
    · rw [step_same' e]; exact k
  | undo =>
    obtain ⟨s, past, puts⟩ := h
    cases past with
    | nil => exact k
    | cons c r => exact k.2.2
theorem len_undo (s : Sn) (c : Ch) : (s.undo c).ab.length = s.ab.length := by
  obtain ⟨w, hd, old, laid⟩ := c
  cases laid with
  | none => rfl
  | some u => show (s.ab.set _ _).length = _; rw [List.length_set]
theorem step_bd {h : Hs} {i : Nat} (b : h.Bd i) (d : Deed) : (step h d).1.Bd (i + 1) := by
  have b0 : h.Bd (i + 1) := ⟨Nat.le_succ_of_le b.n, Nat.le_succ_of_le b.p, Nat.le_succ_of_le b.c⟩
  cases d with
  | opn => exact ⟨by show (h.s.ab ++ [none]).length ≤ _; rw [List.length_append]; have := b.n; simpa using this, b0.p, b0.c⟩
  | put g r =>
    by_cases e : h.isG g
    · rw [step_put e]; exact ⟨b0.n, Nat.succ_le_succ b.p, Nat.succ_le_succ b.c⟩
    · rw [step_put' e]; exact b0
  | take g =>
    by_cases e : h.isG g
    · rw [step_take e]
      unfold Hs.doTake
      cases h.s.pile (h.way g).1 with
      | nil => exact b0
      | node r a l rt rc hd => exact ⟨b0.n, b0.p, Nat.succ_le_succ b.c⟩
    · rw [step_take' e]; exact b0
  | least g =>
    by_cases e : h.isG g
    · rw [step_least e]; exact b0
    · rw [step_least' e]; exact b0
  | join a c =>
    by_cases e : h.isG a ∧ h.isG c
    · rw [step_join e]
      unfold Hs.doJoin; split
      · exact b0
      · exact ⟨by show (h.s.ab.set _ _).length ≤ _; rw [List.length_set]; exact b0.n, b0.p, Nat.succ_le_succ b.c⟩
    · rw [step_join' e]; exact b0
  | same a c =>
    by_cases e : h.isG a ∧ h.isG c
    · rw [step_same e]; exact b0
    · rw [step_same' e]; exact b0
  | undo =>
    obtain ⟨s, past, puts⟩ := h
    cases past with
    | nil => exact b0
    | cons c r =>
      refine ⟨?_, b0.p, ?_⟩
      · show (s.undo c).ab.length ≤ _
        rw [len_undo]; exact b0.n
      · have : (c :: r).length ≤ i + 1 := b0.c
        show r.length ≤ _
        rw [List.length_cons] at this; omega
theorem steps_ok {h : Hs} (k : h.Ok) : ∀ ds : List Deed, (stepsOf h ds).Ok := fun ds => by
  induction ds generalizing h with
  | nil => exact k
  | cons d r ih => exact ih (step_ok k d)
theorem steps_bd {h : Hs} {i : Nat} (b : h.Bd i) (ds : List Deed) : (stepsOf h ds).Bd (i + ds.length) := by
  induction ds generalizing h i with
  | nil => exact b
  | cons d r ih =>
    have := ih (step_bd b d)
    rw [List.length_cons, show i + (r.length + 1) = i + 1 + r.length by omega]; exact this
theorem Bd.zero : Hs.zero.Bd 0 := ⟨Nat.le_refl _, Nat.le_refl _, Nat.le_refl _⟩
end Ph
set_option Elab.async false
set_option linter.all false
set_option maxRecDepth 100000
namespace Ph
open PySem PySem.Spec L2
open PyProof.Rows hiding St
def oV : Option Nat → V
  | none => .non
  | some n => .int (n : Int)
def wdS : Wd → Str
  | .put => "put"
  | .take => "take"
  | .join => "join"
abbrev fG (aA aS : Addr) : List (Str × V) := [("above", .ref aA), ("sizes", .ref aS)]
abbrev fH (g aP : Addr) (n : Int) (aC : Addr) : List (Str × V) := [("groups", .ref g), ("piles", .ref aP), ("put_count", .int n), ("changes", .ref aC)]
structure TxG (K : PySem.W.Frag) (C : Addr) : Prop where
  cl : Cls K C
  nA : NoAttr K C "above"
  nS : NoAttr K C "sizes"
structure TxH (K : PySem.W.Frag) (C : Addr) : Prop where
  cl : Cls K C
  nG : NoAttr K C "groups"
  nP : NoAttr K C "piles"
  nN : NoAttr K C "put_count"
  nC : NoAttr K C "changes"
def KTup (K : PySem.W.Frag) (a : Addr) (xs : List V) : Prop := ∃ (o : Obj) (its : Array Value) (n : Nat), K.lookup a = some o ∧ o.cls = .type "tuple" ∧ o.data = .seq its n ∧ its.size ≤ sizeLine ∧ Vals xs its.toList
def NoWork (K : PySem.W.Frag) (mg : Str → Option Value) (x : Str) (a : Addr) : Prop := mg x = some (.ref a) ∧ KTup K a [.int 0, .int 0]
structure NumsH (K : PySem.W.Frag) (mg : Str → Option Value) (nw : Addr) : Prop where
  head : IntAt mg "HEAD" 0
  steps : IntAt mg "STEPS" 1
  word : IntAt mg "WORD" 0
  whose : IntAt mg "WHOSE" 1
  old : IntAt mg "OLD_PILE" 2
  laid : IntAt mg "LAID" 3
  nowork : NoWork K mg "NO_WORK" nw
theorem pe_gref {X : Cx} {K : PySem.W.Frag} {x : Str} {a : Addr} {pos : Pos} (h : NoWork K X.mg x a) (hg : Gl X x := by rfl) (hd : (x == ("__debug__" : Str)) = false := by decide) : PE X (.Name x pos) (tC (.ref a)) :=
  pe_glob hg h.1 rfl hd
def HasM (P : Program) (w : World) (K : PySem.W.Frag) (mg : Str → Option Value) (base : Heap) (k : Nat) (C : Addr) (m : Str) (ps : List Str) (sp : Sp) : Prop :=
  ∃ (f : Addr) (fd : FuncData), FnOk P w K mg base CX0 k f fd ps sp ∧ Binds K fd ps [] ∧ Meth K C m f ∧ Cls K C
def OwnM (K : PySem.W.Frag) (C : Addr) (m qual : Str) (st : Stmt) : Prop := ∃ (f : Addr) (fd : FuncData), Fun K m qual st f fd ∧ Meth K C m f
def HasI (P : Program) (w : World) (K : PySem.W.Frag) (mg : Str → Option Value) (base : Heap) (k : Nat) (x : Str) (C : Addr) (sp : Sp) : Prop :=
  ∃ (f : Addr) (fd : FuncData), FnOk P w K mg base CX0 k f fd ["self"] sp ∧ Binds K fd ["self"] [] ∧ Mk K C f ∧ mg x = some (.ref C)
def OwnI (K : PySem.W.Frag) (mg : Str → Option Value) (x : Str) (C : Addr) (qual : Str) (st : Stmt) : Prop := ∃ (f : Addr) (fd : FuncData), Fun K "__init__" qual st f fd ∧ Mk K C f ∧ mg x = some (.ref C)
section
variable {P : Program} {w : World} {K : PySem.W.Frag} {mg : Str → Option Value} {base : Heap}
theorem OwnM.has {C : Addr} {m qual : Str} {st : Stmt} {N ps : List Str} {k : Nat} {sp : Sp} (O : OwnM K C m qual st) (cl : Cls K C) (S : FnScope N ps (defScope st))
    (hb : ∀ (kV doc pm : Value) (an : Option Addr) (cdv ct : Value) (us : List Value), us.length = ps.length → bindArgs (PySem.W.fnOf m qual (defArgs st) (defBody st) (defScope st) .none kV doc pm an cdv ct) ⟨us, []⟩ = pure (ps.zip us))
    (len : ∀ vs H Q E, sp vs H Q E → vs.length = ps.length)
    (body : ∀ (f : Addr) (cdv : Value) (A : Around) (outer : List Env) (s : Shared) (H : Hp) (vs : List V) (Q : VK) (E : XK), Room k (A.deeper (envOfC qual (defScope st) s.heap.objs.size f cdv)) → sp vs H Q E →
      ∃ t, PSs (cxOf CX0 P w K mg base N qual (defScope st) f cdv A outer s H E).nox (defBody st) t ∧ t { nx := fun _ H' => Q .non H', rt := Q } (start N vs) H) :
    HasM P w K mg base (k + 1) C m ps sp := by
  obtain ⟨f, fd, F, M⟩ := O
  exact ⟨f, fd, F.ok S len (body f), F.binds hb, M, cl⟩
theorem OwnI.has {C : Addr} {x qual : Str} {st : Stmt} {N : List Str} {k : Nat} {sp : Sp} (O : OwnI K mg x C qual st) (S : FnScope N ["self"] (defScope st))
    (hb : ∀ (kV doc pm : Value) (an : Option Addr) (cdv ct : Value) (us : List Value), us.length = ["self"].length → bindArgs (PySem.W.fnOf "__init__" qual (defArgs st) (defBody st) (defScope st) .none kV doc pm an cdv ct) ⟨us, []⟩ = pure ((["self"] : List Str).zip us))
    (len : ∀ vs H Q E, sp vs H Q E → vs.length = (["self"] : List Str).length)
    (body : ∀ (f : Addr) (cdv : Value) (A : Around) (outer : List Env) (s : Shared) (H : Hp) (vs : List V) (Q : VK) (E : XK), Room k (A.deeper (envOfC qual (defScope st) s.heap.objs.size f cdv)) → sp vs H Q E →
      ∃ t, PSs (cxOf CX0 P w K mg base N qual (defScope st) f cdv A outer s H E).nox (defBody st) t ∧ t { nx := fun _ H' => Q .non H', rt := Q } (start N vs) H) :
    HasI P w K mg base (k + 1) x C sp := by
  obtain ⟨f, fd, F, M, e⟩ := O
  exact ⟨f, fd, F.ok S len (body f), F.binds hb, M, e⟩
end
section
variable {X : Cx} {k j : Nat} {C : Addr} {m x : Str} {ps : List Str} {sp : Sp} {o e : Expr} {es : List Expr} {ta : TE} {t : TA} {p pos apos : Pos}
theorem pe_mt (G : HasM X.prog X.w X.K X.mg X.base k C m ps sp) (he : PE X o ta) (hr : Room j X.A) (ha : PA X (e :: es) t) {pl : Sem Bool} (hj : k ≤ j := by decide)
    (hst : starEach (e :: es) X.env = (false, eval e X.env) :: starEach es X.env := by rfl) (hpl : (backTo pos (starEach es X.env)).any (·.1) = false := by rfl)
    (ht : eval (.Call (.Attribute o m apos) (e :: es) [] pos) X.env = (do
      let ov ← eval o X.env
      standAt apos.atName
      let (f, first) ← holding [ov] (getMethod ov m pl)
      callWith pos f first (backTo pos (starEach (e :: es) X.env)) (backToKw pos (keywordEach [] X.env))) := by rfl) :
    PE X (.Call (.Attribute o m apos) (e :: es) [] pos) (tMeth C m sp [] E0 ta t) := by
  obtain ⟨f, fd, F, b, M, cl⟩ := G
  exact pe_meth he cl M F (hr.mono hj) b .nil pass0 ha hst hpl ht
theorem pe_mt0 (G : HasM X.prog X.w X.K X.mg X.base k C m ps sp) (he : PE X o ta) (hr : Room j X.A) {pl : Sem Bool} (hj : k ≤ j := by decide)
    (ht : eval (.Call (.Attribute o m apos) [] [] pos) X.env = (do
      let ov ← eval o X.env
      standAt apos.atName
      let (f, first) ← holding [ov] (getMethod ov m pl)
      callWith pos f first (backTo pos (starEach [] X.env)) (backToKw pos (keywordEach [] X.env))) := by rfl) :
    PE X (.Call (.Attribute o m apos) [] [] pos) (tMeth C m sp [] E0 ta tNil) := by
  obtain ⟨f, fd, F, b, M, cl⟩ := G
  exact pe_meth0 he cl M F (hr.mono hj) b .nil pass0 ht
theorem pe_mk0 (G : HasI X.prog X.w X.K X.mg X.base k x C sp) (hr : Room j X.A) (hj : k + 1 ≤ j := by decide) (hg : Gl X x := by rfl) (hdb : (x == ("__debug__" : Str)) = false := by decide) : PE X (.Call (.Name x p) [] [] pos) (tMake C sp [] E0 tNil) := by
  obtain ⟨f, fd, F, b, M, e⟩ := G
  exact pe_make0 M F (hr.mono hj) hg e b .nil pass0 hdb
theorem pe_fn0 (G : Has X.prog X.w X.K X.mg X.base k x [] sp) (hr : Room j X.A) (hj : k ≤ j := by decide) (hg : Gl X x := by rfl) (hdb : (x == ("__debug__" : Str)) = false := by decide) : PE X (.Call (.Name x p) [] [] pos) (tCall sp [] E0 tNil) := by
  obtain ⟨f, fd, F, b, kp, e⟩ := G
  exact pe_call0 F (hr.mono hj) hg e kp b .nil pass0 hdb
def rGetL : V → V → Hp → VK → Prop := fun x y H Q => ∃ p xs k j v, x = .ref p ∧ y = .int k ∧ H p = some (.lst xs) ∧ 0 ≤ k ∧ k.toNat = j ∧ xs[j]? = some v ∧ Q v H
theorem get_list : PGet X rGetL := by
  intro pins s σ H o i ov iv Q I ro ri h
  obtain ⟨p, xs, k, j, v, rfl, rfl, hp, h0, rfl, hv, q⟩ := h
  cases ro
  obtain ⟨t, rfl⟩ := ri
  obtain ⟨its, r, pl, hz⟩ := I.list (SqL.of (K := X.K) hp)
  obtain ⟨w, ew, rw'⟩ := r.get hv
  have hl := (List.getElem?_eq_some_iff.mp hv).1
  have hn := line63
  exact wpAny_getItem_list pl.isList h0 (by omega) (by simpa using ew) ⟨v, H, I, rw', q⟩
end
theorem lkA {aA aS : Addr} : (fG aA aS).lookup ("above" : Str) = some (.ref aA) := by kernel_rfl
theorem lkS {aA aS : Addr} : (fG aA aS).lookup ("sizes" : Str) = some (.ref aS) := by kernel_rfl
theorem lkG {g aP aC : Addr} {n : Int} : (fH g aP n aC).lookup ("groups" : Str) = some (.ref g) := by kernel_rfl
theorem lkP {g aP aC : Addr} {n : Int} : (fH g aP n aC).lookup ("piles" : Str) = some (.ref aP) := by kernel_rfl
theorem lkN {g aP aC : Addr} {n : Int} : (fH g aP n aC).lookup ("put_count" : Str) = some (.int n) := by kernel_rfl
theorem lkC {g aP aC : Addr} {n : Int} : (fH g aP n aC).lookup ("changes" : Str) = some (.ref aC) := by kernel_rfl
structure GrpAt (C : Addr) (H : Hp) (g aA aS : Addr) (ab : List (Option Nat)) (sz : List Int) : Prop where
  ob : ∃ dx, H g = some (.ins C dx (fG aA aS))
  la : H aA = some (.lst (ab.map oV))
  ls : H aS = some (.lst (sz.map V.int))
  ne : aA ≠ aS
def FrG (aA aS : Addr) (H H' : Hp) : Prop := ∀ b o, H b = some o → b ≠ aA → b ≠ aS → H' b = some o
inductive IspGInit (C : Addr) (vs : List V) (H : Hp) (Q : VK) : Prop
  | mk : ∀ p dx, (vs = [.ref p]) → (H p = some (.ins C dx [])) → (∀ aA aS H', GrpAt C H' p aA aS [] [] → H aA = none → H aS = none → (∀ b o, H b = some o → b ≠ p → H' b = some o) → Q .non H') → IspGInit C vs H Q
def spGInit (C : Addr) : Sp := fun vs H Q _ => IspGInit C vs H Q
inductive IspGAdd (C : Addr) (vs : List V) (H : Hp) (Q : VK) : Prop
  | mk : ∀ g aA aS ab sz, (vs = [.ref g]) → (GrpAt C H g aA aS ab sz) → (ab.length ≤ 900) → (sz.length ≤ 900) → (∀ H', GrpAt C H' g aA aS (ab ++ [none]) (sz ++ [1]) → FrG aA aS H H' → Q (.int ab.length) H') → IspGAdd C vs H Q
def spGAdd (C : Addr) : Sp := fun vs H Q _ => IspGAdd C vs H Q
inductive IspGHas (C : Addr) (vs : List V) (H : Hp) (Q : VK) : Prop
  | mk : ∀ g aA aS ab sz i, (vs = [.ref g, .int i]) → (GrpAt C H g aA aS ab sz) → (Q (.bl (decide (isG ab.length i))) H) → IspGHas C vs H Q
def spGHas (C : Addr) : Sp := fun vs H Q _ => IspGHas C vs H Q
inductive IspGWay (C : Addr) (vs : List V) (H : Hp) (Q : VK) : Prop
  | mk : ∀ g aA aS ab sz, ∀ n h k : Nat, (vs = [.ref g, .int n]) → (GrpAt C H g aA aS ab sz) → (Up ab n h k) → (∀ q H', Same H H' → H' q = some (.tup [.int h, .int k]) → Q (.ref q) H') → IspGWay C vs H Q
def spGWay (C : Addr) : Sp := fun vs H Q _ => IspGWay C vs H Q
inductive IspGLay (C : Addr) (vs : List V) (H : Hp) (Q : VK) : Prop
  | mk : ∀ g aA aS, ∀ s : Sn, ∀ f f' : Nat, (vs = [.ref g, .int f, .int f']) → (GrpAt C H g aA aS s.ab s.sz) → (f < s.ab.length) → (f' < s.ab.length) → (s.sz.length = s.ab.length) → (∀ H', GrpAt C H' g aA aS (s.lay f f').ab (s.lay f f').sz → FrG aA aS H H' → Q (.int (s.lower f f')) H') → IspGLay C vs H Q
def spGLay (C : Addr) : Sp := fun vs H Q _ => IspGLay C vs H Q
inductive IspGPart (C : Addr) (vs : List V) (H : Hp) (Q : VK) : Prop
  | mk : ∀ g aA aS, ∀ s : Sn, ∀ u hd : Nat, (vs = [.ref g, .int u]) → (GrpAt C H g aA aS s.ab s.sz) → (s.ab[u]? = some (some hd)) → (hd < s.ab.length) → (s.sz.length = s.ab.length) → (∀ H', GrpAt C H' g aA aS (s.part u hd).ab (s.part u hd).sz → FrG aA aS H H' → Q .non H') → IspGPart C vs H Q
def spGPart (C : Addr) : Sp := fun vs H Q _ => IspGPart C vs H Q
theorem get_oV {ab : List (Option Nat)} {n : Nat} {o : Option Nat} (h : ab[n]? = some o) : atI (ab.map oV) (n : Int) = some (oV o) := atI_nat (by rw [List.getElem?_map, h]; rfl)
theorem get_sz {sz : List Int} {n : Nat} (h : n < sz.length) : (sz.map V.int)[n]? = some (.int (sz.getD n 0)) := by
  rw [List.getElem?_map, List.getElem?_eq_getElem h]; simp [List.getD, h]
theorem at_sz {sz : List Int} {n : Nat} (h : n < sz.length) : atI (sz.map V.int) (n : Int) = some (.int (sz.getD n 0)) := atI_nat (get_sz h)
theorem at0 {α : Type} (x : α) (xs : List α) : atI (x :: xs) (0 : Int) = some x := atI_nat (j := 0) rfl
theorem at1 {α : Type} (x y : α) (xs : List α) : atI (x :: y :: xs) (1 : Int) = some y := atI_nat (j := 1) rfl
theorem ix_nat {n k : Nat} (h : k < n) : ixN n (k : Int) = some k := by
  unfold ixN; rw [if_pos (by omega), if_pos (by omega)]; simp
theorem eqI_nat (a b : Nat) : decide (V.int (a : Int) = V.int (b : Int)) = decide (a = b) := by
  by_cases h : a = b
  · subst h; rw [decide_eq_true rfl, decide_eq_true rfl]
  · rw [decide_eq_false h, decide_eq_false (fun z => h (by injection z with z; omega))]
structure HA where
  p : Addr
  g : Addr
  aA : Addr
  aS : Addr
  aP : Addr
  aC : Addr
def ChAt (H : Hp) (v : V) (c : Ch) : Prop := ∃ q u, v = .ref q ∧ H q = some (.tup [.str (wdS c.w), .int (c.head : Int), u, oV c.laid]) ∧ PileAt H c.old u
theorem ChAt.mono {H H' : Hp} (m : Tups H H') {v : V} {c : Ch} (h : ChAt H v c) : ChAt H' v c := by
  obtain ⟨q, u, e, h1, h2⟩ := h
  exact ⟨q, u, e, m _ _ h1, h2.mono m⟩
theorem chs_mono {H H' : Hp} (m : Tups H H') {vs : List V} {cs : List Ch} (h : Paired (ChAt H) vs cs) : Paired (ChAt H') vs cs := Paired.imp' (fun _ _ z => z.mono m) h
structure HallAt (CH CG : Addr) (H : Hp) (a : HA) (h : Hs) : Prop where
  ob : ∃ dx, H a.p = some (.ins CH dx (fH a.g a.aP (h.puts : Int) a.aC))
  gr : GrpAt CG H a.g a.aA a.aS h.s.ab h.s.sz
  lp : ∃ vs, H a.aP = some (.lst vs) ∧ PilesAt H vs h.s.pl
  lc : ∃ cs, H a.aC = some (.lst cs) ∧ Paired (ChAt H) cs h.past.reverse
  pg : a.p ≠ a.g
  n1 : a.aA ≠ a.aP
  n2 : a.aS ≠ a.aP
  n3 : a.aA ≠ a.aC
  n4 : a.aS ≠ a.aC
  n5 : a.aP ≠ a.aC
def Frm (a : HA) (H H' : Hp) : Prop := ∀ b o, H b = some o → b ≠ a.p → b ≠ a.aA → b ≠ a.aS → b ≠ a.aP → b ≠ a.aC → H' b = some o
theorem Frm.of {a : HA} {H H' : Hp} (s : Same H H') : Frm a H H' := fun b o e _ _ _ _ _ => s b o e
theorem Frm.trans {a : HA} {H H1 H2 : Hp} (x : Frm a H H1) (y : Frm a H1 H2) : Frm a H H2 := fun b o e h1 h2 h3 h4 h5 => y b o (x b o e h1 h2 h3 h4 h5) h1 h2 h3 h4 h5
section
variable {CH CG : Addr} {H H' : Hp} {a : HA} {h : Hs}
theorem HallAt.ne_tup (A : HallAt CH CG H a h) {b : Addr} {xs : List V} (e : H b = some (.tup xs)) : b ≠ a.p ∧ b ≠ a.aA ∧ b ≠ a.aS ∧ b ≠ a.aP ∧ b ≠ a.aC := by
  obtain ⟨⟨dx, ob⟩, gr, ⟨vs, lp, _⟩, ⟨cs, lc, _⟩, _⟩ := A
  refine ⟨ne_of e ob (by intro z; cases z), ne_of e gr.la (by intro z; cases z), ne_of e gr.ls (by intro z; cases z), ne_of e lp (by intro z; cases z), ne_of e lc (by intro z; cases z)⟩
theorem HallAt.tups (A : HallAt CH CG H a h) (f : Frm a H H') : Tups H H' := fun b xs e => by
  obtain ⟨h1, h2, h3, h4, h5⟩ := A.ne_tup e
  exact f b _ e h1 h2 h3 h4 h5
theorem GrpAt.same {C g aA aS : Addr} {ab : List (Option Nat)} {sz : List Int} (s : Same H H') (G : GrpAt C H g aA aS ab sz) : GrpAt C H' g aA aS ab sz := by
  obtain ⟨⟨dx, ob⟩, la, ls, ne⟩ := G
  exact ⟨⟨dx, s _ _ ob⟩, s _ _ la, s _ _ ls, ne⟩
theorem HallAt.same (s : Same H H') (A : HallAt CH CG H a h) : HallAt CH CG H' a h := by
  obtain ⟨⟨dx, ob⟩, gr, ⟨vs, lp, hp⟩, ⟨cs, lc, hc⟩, pg, n1, n2, n3, n4, n5⟩ := A
  exact ⟨⟨dx, s _ _ ob⟩, gr.same s, ⟨vs, s _ _ lp, hp.mono (.of s)⟩, ⟨cs, s _ _ lc, chs_mono (.of s) hc⟩, pg, n1, n2, n3, n4, n5⟩
theorem HallAt.grp (A : HallAt CH CG H a h) {ab : List (Option Nat)} {sz : List Int} (G : GrpAt CG H' a.g a.aA a.aS ab sz) (f : FrG a.aA a.aS H H') : HallAt CH CG H' a { h with s := { h.s with ab := ab, sz := sz } } ∧ Frm a H H' := by
  have fr : Frm a H H' := fun b o e _ h2 h3 _ _ => f b o e h2 h3
  have tp := A.tups fr
  obtain ⟨⟨dx, ob⟩, gr, ⟨vs, lp, hp⟩, ⟨cs, lc, hc⟩, pg, n1, n2, n3, n4, n5⟩ := A
  exact ⟨⟨⟨dx, f _ _ ob (ne_of ob gr.la (by intro z; cases z)) (ne_of ob gr.ls (by intro z; cases z))⟩, G, ⟨vs, f _ _ lp n1.symm n2.symm, hp.mono tp⟩, ⟨cs, f _ _ lc n3.symm n4.symm, chs_mono tp hc⟩, pg, n1, n2, n3, n4, n5⟩, fr⟩
theorem HallAt.count (A : HallAt CH CG H a h) {dx : Addr} {n : Nat} (e : H a.p = some (.ins CH dx (fH a.g a.aP (h.puts : Int) a.aC))) : HallAt CH CG (upd H a.p (.ins CH dx (fH a.g a.aP (n : Int) a.aC))) a { h with puts := n } := by
  have tp : Tups H (upd H a.p (.ins CH dx (fH a.g a.aP (n : Int) a.aC))) := fun b xs q => by rw [upd_ne (A.ne_tup q).1]; exact q
  obtain ⟨_, ⟨⟨dg, gob⟩, la, ls, ne⟩, ⟨vs, lp, hp⟩, ⟨cs, lc, hc⟩, pg, n1, n2, n3, n4, n5⟩ := A
  have z : ∀ {b : Addr} {xs : List V}, H b = some (.lst xs) → b ≠ a.p := fun q => ne_of q e (by intro z; cases z)
  exact ⟨⟨dx, upd_same⟩, ⟨⟨dg, by rw [upd_ne pg.symm]; exact gob⟩, by rw [upd_ne (z la)]; exact la, by rw [upd_ne (z ls)]; exact ls, ne⟩, ⟨vs, by rw [upd_ne (z lp)]; exact lp, hp.mono tp⟩, ⟨cs, by rw [upd_ne (z lc)]; exact lc, chs_mono tp hc⟩, pg, n1, n2, n3, n4, n5⟩
theorem frm_count {o : HO} : Frm a H (upd H a.p o) := fun b o e h1 _ _ _ _ => by rw [upd_ne h1]; exact e
end
theorem piles_at {H : Hp} {vs : List V} {pl : List T} (hp : PilesAt H vs pl) {i : Nat} (h : i < pl.length) : ∃ x, vs[i]? = some x ∧ PileAt H (pl.getD i .nil) x := by
  obtain ⟨x, e, f⟩ := paired_get' hp (i := i) (y := pl[i]) (List.getElem?_eq_getElem h)
  refine ⟨x, e, ?_⟩
  have : pl.getD i .nil = pl[i] := by simp [List.getD, h]
  rw [this]; exact f
theorem paired_set {α β : Type} {F : α → β → Prop} {x : α} {y : β} (r : F x y) : ∀ {xs : List α} {ys : List β} (i : Nat), Paired F xs ys → Paired F (xs.set i x) (ys.set i y)
  | _, _, _, .nil => .nil
  | _, _, 0, .cons _ t => .cons r t
  | _, _, i + 1, .cons q t => .cons q (paired_set r i t)
theorem piles_set {H : Hp} {vs : List V} {pl : List T} {u : V} {t : T} (hu : PileAt H t u) (i : Nat) (h : PilesAt H vs pl) : PilesAt H (vs.set i u) (pl.set i t) := paired_set (F := fun v t => PileAt H t v) hu i h
def AnsAt (H : Hp) (v : V) : Ans → Prop
  | .non => v = .non
  | .int i => v = .int i
  | .pair p => PairAt H v p
  | .bl b => v = .bl b
  | .wd w => v = .str (wdS w)
theorem AnsAt.mono {H H' : Hp} (m : Tups H H') {v : V} : ∀ {a : Ans}, AnsAt H v a → AnsAt H' v a
  | .non, h => h
  | .int _, h => h
  | .pair _, h => PairAt.mono m h
  | .bl _, h => h
  | .wd _, h => h
def WrkAt (K : PySem.W.Frag) (H : Hp) (v : V) (w : Nat × Nat) : Prop := ∃ q, v = .ref q ∧ (H q = some (.tup [.int (w.1 : Int), .int (w.2 : Int)]) ∨ KTup K q [.int (w.1 : Int), .int (w.2 : Int)])
theorem WrkAt.mono {K : PySem.W.Frag} {H H' : Hp} (m : Tups H H') {v : V} {w : Nat × Nat} (h : WrkAt K H v w) : WrkAt K H' v w := by
  obtain ⟨q, e, h | h⟩ := h
  · exact ⟨q, e, .inl (m _ _ h)⟩
  · exact ⟨q, e, .inr h⟩
def OutAt (K : PySem.W.Frag) (H : Hp) (v : V) (o : Ans × (Nat × Nat)) : Prop := ∃ q va vw, v = .ref q ∧ H q = some (.tup [va, vw]) ∧ AnsAt H va o.1 ∧ WrkAt K H vw o.2
theorem OutAt.mono {K : PySem.W.Frag} {H H' : Hp} (m : Tups H H') {v : V} {o : Ans × (Nat × Nat)} (h : OutAt K H v o) : OutAt K H' v o := by
  obtain ⟨q, va, vw, e, h1, h2, h3⟩ := h
  exact ⟨q, va, vw, e, m _ _ h1, h2.mono m, h3.mono m⟩
structure Hs.Fine (h : Hs) : Prop where
  ok : h.Ok
  bd : h.Bd 64
theorem Hs.Ok.upN {h : Hs} (k : h.Ok) {n : Nat} (hg : h.isG (n : Int)) : Up h.s.ab n (h.way (n : Int)).1 (h.way (n : Int)).2 := by
  have := k.up hg
  rwa [Int.toNat_natCast] at this
theorem isG_nat {h : Hs} {g : Int} (hg : h.isG g) : ∃ n : Nat, g = (n : Int) := ⟨g.toNat, by have : 0 ≤ g := hg.1; omega⟩
def Kd (K : PySem.W.Frag) (CH CG : Addr) (a : HA) (H : Hp) (r : Hs × Ans × (Nat × Nat)) (Q : VK) : Prop := ∀ v H', HallAt CH CG H' a r.1 → Frm a H H' → OutAt K H' v r.2 → Q v H'
inductive IspHInit (CH : Addr) (CG : Addr) (vs : List V) (H : Hp) (Q : VK) : Prop
  | mk : ∀ p dx, (vs = [.ref p]) → (H p = some (.ins CH dx [])) → (∀ (a : HA) (H' : Hp), a.p = p → HallAt CH CG H' a Hs.zero → H a.aA = none → H a.aS = none → H a.aP = none → H a.aC = none → (∀ b o, H b = some o → b ≠ p → H' b = some o) → Q .non H') → IspHInit CH CG vs H Q
def spHInit (CH CG : Addr) : Sp := fun vs H Q _ => IspHInit CH CG vs H Q
inductive IspHHas (CH : Addr) (CG : Addr) (vs : List V) (H : Hp) (Q : VK) : Prop
  | mk : ∀ a h i, (vs = [.ref a.p, .int i]) → (HallAt CH CG H a h) → (Q (.bl (decide (h.isG i))) H) → IspHHas CH CG vs H Q
def spHHas (CH CG : Addr) : Sp := fun vs H Q _ => IspHHas CH CG vs H Q
inductive IspHOpen (K : PySem.W.Frag) (CH : Addr) (CG : Addr) (vs : List V) (H : Hp) (Q : VK) : Prop
  | mk : ∀ a h, (vs = [.ref a.p]) → (HallAt CH CG H a h) → (h.Fine) → (Kd K CH CG a H h.doOpen Q) → IspHOpen K CH CG vs H Q
def spHOpen (K : PySem.W.Frag) (CH CG : Addr) : Sp := fun vs H Q _ => IspHOpen K CH CG vs H Q
inductive IspHPut (K : PySem.W.Frag) (CH : Addr) (CG : Addr) (vs : List V) (H : Hp) (Q : VK) : Prop
  | mk : ∀ a h g r, (vs = [.ref a.p, .int g, .int r]) → (HallAt CH CG H a h) → (h.Fine) → (h.isG g) → (Kd K CH CG a H (h.doPut g r) Q) → IspHPut K CH CG vs H Q
def spHPut (K : PySem.W.Frag) (CH CG : Addr) : Sp := fun vs H Q _ => IspHPut K CH CG vs H Q
inductive IspHTake (K : PySem.W.Frag) (CH : Addr) (CG : Addr) (vs : List V) (H : Hp) (Q : VK) : Prop
  | mk : ∀ a h g, (vs = [.ref a.p, .int g]) → (HallAt CH CG H a h) → (h.Fine) → (h.isG g) → (Kd K CH CG a H (h.doTake g) Q) → IspHTake K CH CG vs H Q
def spHTake (K : PySem.W.Frag) (CH CG : Addr) : Sp := fun vs H Q _ => IspHTake K CH CG vs H Q
inductive IspHLeast (K : PySem.W.Frag) (CH : Addr) (CG : Addr) (vs : List V) (H : Hp) (Q : VK) : Prop
  | mk : ∀ a h g, (vs = [.ref a.p, .int g]) → (HallAt CH CG H a h) → (h.Fine) → (h.isG g) → (Kd K CH CG a H (h.doLeast g) Q) → IspHLeast K CH CG vs H Q
def spHLeast (K : PySem.W.Frag) (CH CG : Addr) : Sp := fun vs H Q _ => IspHLeast K CH CG vs H Q
inductive IspHJoin (K : PySem.W.Frag) (CH : Addr) (CG : Addr) (vs : List V) (H : Hp) (Q : VK) : Prop
  | mk : ∀ a h g g', (vs = [.ref a.p, .int g, .int g']) → (HallAt CH CG H a h) → (h.Fine) → (h.isG g) → (h.isG g') → (Kd K CH CG a H (h.doJoin g g') Q) → IspHJoin K CH CG vs H Q
def spHJoin (K : PySem.W.Frag) (CH CG : Addr) : Sp := fun vs H Q _ => IspHJoin K CH CG vs H Q
inductive IspHSame (K : PySem.W.Frag) (CH : Addr) (CG : Addr) (vs : List V) (H : Hp) (Q : VK) : Prop
  | mk : ∀ a h g g', (vs = [.ref a.p, .int g, .int g']) → (HallAt CH CG H a h) → (h.Fine) → (h.isG g) → (h.isG g') → (Kd K CH CG a H (h.doSame g g') Q) → IspHSame K CH CG vs H Q
def spHSame (K : PySem.W.Frag) (CH CG : Addr) : Sp := fun vs H Q _ => IspHSame K CH CG vs H Q
inductive IspHUndo (K : PySem.W.Frag) (CH : Addr) (CG : Addr) (vs : List V) (H : Hp) (Q : VK) : Prop
  | mk : ∀ a h, (vs = [.ref a.p]) → (HallAt CH CG H a h) → (h.Fine) → (Kd K CH CG a H h.doUndo Q) → IspHUndo K CH CG vs H Q
def spHUndo (K : PySem.W.Frag) (CH CG : Addr) : Sp := fun vs H Q _ => IspHUndo K CH CG vs H Q
inductive IspHChange (CH : Addr) (CG : Addr) (vs : List V) (H : Hp) (Q : VK) : Prop
  | mk : ∀ a h w, ∀ hd : Nat, ∀ u t l, (vs = [.ref a.p, .str (wdS w), .int hd, u, oV l]) → (HallAt CH CG H a h) → (PileAt H t u) → (hd < h.s.pl.length) → (h.past.length ≤ 900) → (∀ H', HallAt CH CG H' a (h.change w hd t l) → Frm a H H' → Q .non H') → IspHChange CH CG vs H Q
def spHChange (CH CG : Addr) : Sp := fun vs H Q _ => IspHChange CH CG vs H Q
def DeedAt (H : Hp) (v : V) : Deed → Prop
  | .opn => ∃ q, v = .ref q ∧ H q = some (.tup [.str "open"])
  | .put g r => ∃ q, v = .ref q ∧ H q = some (.tup [.str "put", .int g, .int r])
  | .take g => ∃ q, v = .ref q ∧ H q = some (.tup [.str "take", .int g])
  | .least g => ∃ q, v = .ref q ∧ H q = some (.tup [.str "least", .int g])
  | .join a b => ∃ q, v = .ref q ∧ H q = some (.tup [.str "join", .int a, .int b])
  | .same a b => ∃ q, v = .ref q ∧ H q = some (.tup [.str "same", .int a, .int b])
  | .undo => ∃ q, v = .ref q ∧ H q = some (.tup [.str "undo"])
theorem DeedAt.mono {H H' : Hp} (m : Tups H H') {v : V} : ∀ {d : Deed}, DeedAt H v d → DeedAt H' v d
  | .opn, ⟨q, e, h⟩ => ⟨q, e, m _ _ h⟩
  | .put _ _, ⟨q, e, h⟩ => ⟨q, e, m _ _ h⟩
  | .take _, ⟨q, e, h⟩ => ⟨q, e, m _ _ h⟩
  | .least _, ⟨q, e, h⟩ => ⟨q, e, m _ _ h⟩
  | .join _ _, ⟨q, e, h⟩ => ⟨q, e, m _ _ h⟩
  | .same _ _, ⟨q, e, h⟩ => ⟨q, e, m _ _ h⟩
  | .undo, ⟨q, e, h⟩ => ⟨q, e, m _ _ h⟩
abbrev DeedsAt (H : Hp) (vs : List V) (ds : List Deed) : Prop := Paired (DeedAt H) vs ds
theorem DeedsAt.mono {H H' : Hp} (m : Tups H H') {vs : List V} {ds : List Deed} (h : DeedsAt H vs ds) : DeedsAt H' vs ds := Paired.imp' (fun _ _ z => z.mono m) h
def Deed.named : Deed → List Int
  | .opn => []
  | .put g _ => [g]
  | .take g => [g]
  | .least g => [g]
  | .join a b => [a, b]
  | .same a b => [a, b]
  | .undo => []
inductive IspNamed (vs : List V) (H : Hp) (Q : VK) : Prop
  | mk : ∀ v d, (vs = [v]) → (DeedAt H v d) → (∀ q H', Same H H' → H' q = some (.tup (d.named.map V.int)) → Q (.ref q) H') → IspNamed vs H Q
def spNamed : Sp := fun vs H Q _ => IspNamed vs H Q
inductive IspDone (K : PySem.W.Frag) (CH : Addr) (CG : Addr) (vs : List V) (H : Hp) (Q : VK) : Prop
  | mk : ∀ a h v d, (vs = [.ref a.p, v]) → (HallAt CH CG H a h) → (h.Fine) → (DeedAt H v d) → (Kd K CH CG a H (step h d) Q) → IspDone K CH CG vs H Q
def spDone (K : PySem.W.Frag) (CH CG : Addr) : Sp := fun vs H Q _ => IspDone K CH CG vs H Q
noncomputable def headsOf (ab : List (Option Nat)) : List Nat := (List.range ab.length).map fun n => (way ab n).1
theorem headsOf_get {ab : List (Option Nat)} {i hd st : Nat} (up : Up ab i hd st) (h : i < ab.length) : (headsOf ab)[i]? = some hd := by
  unfold headsOf
  rw [List.getElem?_map, List.getElem?_range h, Option.map_some, up.way]
inductive IspGHeads (C : Addr) (vs : List V) (H : Hp) (Q : VK) : Prop
  | mk : ∀ g aA aS ab sz, (vs = [.ref g]) → (GrpAt C H g aA aS ab sz) → (ab.length ≤ 900) → ((∀ n, n < ab.length → ∃ h k, Up ab n h k)) → (∀ q H', Same H H' → H' q = some (.lst ((headsOf ab).map fun n : Nat => V.int n)) → Q (.ref q) H') → IspGHeads C vs H Q
def spGHeads (C : Addr) : Sp := fun vs H Q _ => IspGHeads C vs H Q
noncomputable def pilesOf (h : Hs) : List T := (headsOf h.s.ab).map fun n => h.s.pile n
theorem Kd.from {K : PySem.W.Frag} {CH CG : Addr} {a : HA} {H H2 : Hp} {r r' : Hs × Ans × (Nat × Nat)} {Q : VK} (s : Same H H2) (e : r = r') (k : Kd K CH CG a H r Q) : Kd K CH CG a H2 r' Q := by
  subst e
  exact fun v H' A f o => k v H' A ((Frm.of s).trans f) o
theorem HallAt.off {CH CG : Addr} {H : Hp} {a : HA} {h : Hs} (A : HallAt CH CG H a h) {D : Addr} {xs ys : List V} (hD : H D = some (.lst xs)) (h1 : D ≠ a.aA) (h2 : D ≠ a.aS) (h3 : D ≠ a.aP) (h4 : D ≠ a.aC) : HallAt CH CG (upd H D (.lst ys)) a h := by
  have tp : Tups H (upd H D (.lst ys)) := Tups.put hD
  obtain ⟨⟨dx, ob⟩, ⟨⟨dg, gob⟩, la, ls, ne⟩, ⟨vs, lp, hp⟩, ⟨cs, lc, hc⟩, pg, n1, n2, n3, n4, n5⟩ := A
  exact ⟨⟨dx, by rw [upd_ne (ne_of ob hD (by intro z; cases z))]; exact ob⟩, ⟨⟨dg, by rw [upd_ne (ne_of gob hD (by intro z; cases z))]; exact gob⟩, by rw [upd_ne h1.symm]; exact la, by rw [upd_ne h2.symm]; exact ls, ne⟩,
    ⟨vs, by rw [upd_ne h3.symm]; exact lp, hp.mono tp⟩, ⟨cs, by rw [upd_ne h4.symm]; exact lc, chs_mono tp hc⟩, pg, n1, n2, n3, n4, n5⟩
theorem HallAt.ne_new {CH CG : Addr} {H : Hp} {a : HA} {h : Hs} (A : HallAt CH CG H a h) {D : Addr} (hD : H D = none) : D ≠ a.p ∧ D ≠ a.aA ∧ D ≠ a.aS ∧ D ≠ a.aP ∧ D ≠ a.aC := by
  obtain ⟨⟨dx, ob⟩, ⟨⟨dg, gob⟩, la, ls, ne⟩, ⟨vs, lp, hp⟩, ⟨cs, lc, hc⟩, _⟩ := A
  exact ⟨(ne_of_none ob hD).symm, (ne_of_none la hD).symm, (ne_of_none ls hD).symm, (ne_of_none lp hD).symm, (ne_of_none lc hD).symm⟩
theorem outs_mono {K : PySem.W.Frag} {H H' : Hp} (m : Tups H H') {vs : List V} {cs : List (Ans × (Nat × Nat))} (h : Paired (OutAt K H) vs cs) : Paired (OutAt K H') vs cs := Paired.imp' (fun _ _ z => z.mono m) h
theorem ans_mono {H H' : Hp} (m : Tups H H') {vs : List V} {cs : List Ans} (h : Paired (AnsAt H) vs cs) : Paired (AnsAt H') vs cs := Paired.imp' (fun _ _ z => z.mono m) h
theorem steps_snoc (h : Hs) (ds : List Deed) (d : Deed) : stepsOf h (ds ++ [d]) = (step (stepsOf h ds) d).1 := by rw [stepsOf_app]; rfl
theorem outs_snoc (h : Hs) (ds : List Deed) (d : Deed) : outsOf h (ds ++ [d]) = outsOf h ds ++ [(step (stepsOf h ds) d).2] := by rw [outsOf_app]; rfl
theorem fine_at {ds : List Deed} (h : ds.length ≤ 63) (i : Nat) : (stepsOf Hs.zero (ds.take i)).Fine := by
  refine ⟨steps_ok Hs.Ok.zero _, ?_⟩
  have b := steps_bd Bd.zero (ds.take i)
  have hl : (ds.take i).length ≤ 63 := by rw [List.length_take]; omega
  exact ⟨Nat.le_trans b.n (by omega), Nat.le_trans b.p (by omega), Nat.le_trans b.c (by omega)⟩
theorem noT {c A B : Prop} [Decidable c] (h : ¬ c) (b : B) : if decide c = true then A else B := by rw [decide_eq_false h]; exact iteF b
theorem yeT {α : Type} {x : α} [Decidable (x = x)] {A B : Prop} (a : A) : if decide (x = x) = true then A else B := by rw [decide_eq_true rfl]; exact iteT a
end Ph
set_option Elab.async false
set_option linter.all false
set_option maxRecDepth 100000
namespace Ph
open PySem PySem.Spec L2
open PyProof.Rows hiding St
theorem tIfS_cut {t : TT} {a b : TS} {D : Ends} {σ : L2.St} {H : Hp} (Pv : L2.St → Hp → Prop) (tail : ∀ σ' H', Pv σ' H' → D.nx σ' H') (h : (∀ σ' H', Pv σ' H' → D.nx σ' H') → tIfS t a b D σ H) : tIfS t a b D σ H := h tail
theorem tIfS_cut2 {t : TT} {a b : TS} {D : Ends} {σ : L2.St} {H : Hp} (R : Hp → Prop) (ya : ∀ H', R H' → a D σ H') (yb : ∀ H', R H' → b D σ H')
    (h : (∀ (c : Bool) H', R H' → if c = true then a D σ H' else b D σ H') → tIfS t a b D σ H) : tIfS t a b D σ H :=
  h fun c H' r => by
    cases c with
    | true => exact iteT (ya H' r)
    | false => exact iteF (yb H' r)
section
variable {X : Cx}
end
structure PEB (X : Cx) (e : Expr) (te : TE) : Prop where
  h : PE X e te
structure PPsB (X : Cx) (pos : Pos) (keys : List (Option Expr)) (values : List Expr) (trs : List (TE × TE)) : Prop where
  h : PPs X pos keys values trs
structure PSB (X : Cx) (st : Stmt) (t : TS) : Prop where
  h : PS X st t
structure PSsB (X : Cx) (ss : List Stmt) (t : TS) : Prop where
  h : PSs X ss t
section
variable {X : Cx}
theorem ppsB_nil {pos : Pos} : PPsB X pos [] [] [] := ⟨pps_nil⟩
theorem ppsB_cons {pos : Pos} {k v : Expr} {ks : List (Option Expr)} {vs : List Expr} {tk tv : TE} {trs : List (TE × TE)} (hk : PE X k tk) (hv : PE X v tv) (hr : PPsB X pos ks vs trs) : PPsB X pos (some k :: ks) (v :: vs) ((tk, tv) :: trs) := ⟨pps_cons hk hv hr.h⟩
theorem pe_dispB {pos : Pos} {keys : List (Option Expr)} {values : List Expr} {trs : List (TE × TE)} (h : PPsB X pos keys values trs) (hall : keys.all (·.isSome) = true) (hl : keys.length = values.length) (h0 : keys ≠ []) (h15 : keys.length ≤ 15) : PEB X (.Dict keys values pos) (tDisp trs) := ⟨pe_disp h.h hall hl h0 h15⟩
end
inductive IspDeeds (K : PySem.W.Frag) (vs : List V) (H : Hp) (Q : VK) : Prop
  | mk : ∀ (p : Addr) (ns : List Int), (vs = [.ref p]) → (SqL K H p (ns.map V.int)) → (ns.length ≤ 63) → (∀ q ws ds H', Same H H' → ds.length = ns.length → H' q = some (.lst ws) → DeedsAt H' ws ds → Q (.ref q) H') → IspDeeds K vs H Q
def spDeeds (K : PySem.W.Frag) : Sp := fun vs H Q _ => IspDeeds K vs H Q
theorem at3 {x y z : Int} {c : Int} (h : c = 0 ∨ c = 1 ∨ c = 2) : ∃ g : Int, atI ([.int x, .int y, .int z] : List V) c = some (.int g) := by
  rcases h with e | e | e <;> rw [e] <;> exact ⟨_, rfl⟩
theorem at2 {x y : Int} {c : Int} (h : c = 0 ∨ c = 1) : ∃ g : Int, atI ([.int x, .int y] : List V) c = some (.int g) := by
  rcases h with e | e <;> rw [e] <;> exact ⟨_, rfl⟩
section
variable {H H' : Hp} {a : LA} {h : Hs}
end
theorem deed_kinds {H : Hp} {v : V} {d : Deed} (h : DeedAt H v d) : (d = .opn ∧ ∃ q, v = .ref q ∧ H q = some (.tup [.str "open"])) ∨ (d = .undo ∧ ∃ q, v = .ref q ∧ H q = some (.tup [.str "undo"])) ∨
    (∃ (q : Addr) (w : Str) (g : Int) (xs : List V), v = .ref q ∧ H q = some (.tup (.str w :: .int g :: xs)) ∧ d.named = [g] ∧ (¬ V.str w = V.str "open") ∧ (¬ V.str w = V.str "undo") ∧ (¬ V.str w = V.str "join") ∧ (¬ V.str w = V.str "same")) ∨
    ∃ (q : Addr) (w : Str) (g g' : Int), v = .ref q ∧ H q = some (.tup [.str w, .int g, .int g']) ∧ d.named = [g, g'] ∧ ((d = .join g g' ∧ w = "join") ∨ (d = .same g g' ∧ w = "same")) := by
  cases d with
  | opn => exact .inl ⟨rfl, h⟩
  | undo => exact .inr (.inl ⟨rfl, h⟩)
  | put g r => obtain ⟨q, e, hq⟩ := h; exact .inr (.inr (.inl ⟨q, "put", g, _, e, hq, rfl, by decide +kernel, by decide +kernel, by decide +kernel, by decide +kernel⟩))
  | take g => obtain ⟨q, e, hq⟩ := h; exact .inr (.inr (.inl ⟨q, "take", g, _, e, hq, rfl, by decide +kernel, by decide +kernel, by decide +kernel, by decide +kernel⟩))
  | least g => obtain ⟨q, e, hq⟩ := h; exact .inr (.inr (.inl ⟨q, "least", g, _, e, hq, rfl, by decide +kernel, by decide +kernel, by decide +kernel, by decide +kernel⟩))
  | join a b => obtain ⟨q, e, hq⟩ := h; exact .inr (.inr (.inr ⟨q, "join", a, b, e, hq, rfl, .inl ⟨rfl, rfl⟩⟩))
  | same a b => obtain ⟨q, e, hq⟩ := h; exact .inr (.inr (.inr ⟨q, "same", a, b, e, hq, rfl, .inr ⟨rfl, rfl⟩⟩))
theorem inS2 {w y z : Str} (h1 : ¬ V.str w = V.str y) (h2 : ¬ V.str w = V.str z) : inV (.str w) [.str y, .str z] = false := by
  have e1 : (y == w) = false := beq_eq_false_iff_ne.mpr fun e => h1 (by rw [e])
  have e2 : (z == w) = false := beq_eq_false_iff_ne.mpr fun e => h2 (by rw [e])
  show ((y == w) || ((z == w) || false)) = false
  rw [e1, e2]; rfl
theorem step_no {h : Hs} {d : Deed} {g : Int} (hg : g ∈ d.named) (n : ¬ h.isG g) : step h d = h.no := by
  cases d with
  | opn => cases hg
  | undo => cases hg
  | put x r => exact step_put' fun z => n (by rw [List.mem_singleton.mp hg]; exact z)
  | take x => exact step_take' fun z => n (by rw [List.mem_singleton.mp hg]; exact z)
  | least x => exact step_least' fun z => n (by rw [List.mem_singleton.mp hg]; exact z)
  | join a b => exact step_join' fun z => n (by
      have hx : g = a ∨ g = b := by simpa [Deed.named] using hg
      rcases hx with e | e <;> rw [e]
      · exact z.1
      · exact z.2)
  | same a b => exact step_same' fun z => n (by
      have hx : g = a ∨ g = b := by simpa [Deed.named] using hg
      rcases hx with e | e <;> rw [e]
      · exact z.1
      · exact z.2)
end Ph
set_option linter.all false
namespace Ph
structure Pn where
  lb : List Nat
  bg : List (List (Int × Int))
def Pn.add (p : Pn) : Pn := ⟨p.lb ++ [p.lb.length], p.bg ++ [[]]⟩
def Pn.pad (p : Pn) : Nat → Pn
  | 0 => p
  | k + 1 => (p.pad k).add
def Pn.lab (p : Pn) (i : Nat) : Nat := p.lb.getD i 0
def Pn.bag (p : Pn) (l : Nat) : List (Int × Int) := p.bg.getD l []
theorem Pn.pad_len (p : Pn) (k : Nat) : (p.pad k).lb.length = p.lb.length + k := by
  induction k with
  | zero => rfl
  | succ k ih => show ((p.pad k).lb ++ [_]).length = _; rw [List.length_append, ih]; rfl
def hth : List (Option Nat) → List T → List (Int × Int)
  | none :: r, t :: ts => t.toL ++ hth r ts
  | some _ :: r, _ :: ts => hth r ts
  | [], _ => []
  | _, [] => []
theorem hth_setP : ∀ (ab : List (Option Nat)) (pl : List T) (h : Nat) (t : T), ab[h]? = some none → h < pl.length → (hth ab (pl.set h t) ++ (pl.getD h .nil).toL).Perm (hth ab pl ++ t.toL)
  | [], _, h, _, e, _ => by simp at e
  | _ :: _, [], h, _, _, l => by simp at l
  | none :: r, u :: ts, 0, t, _, _ => by
    simp only [List.set_cons_zero, hth, List.getD_cons_zero]
    refine List.perm_append_comm.trans ?_
    rw [List.append_assoc]
    exact List.perm_append_comm.append_left _
  | some x :: r, u :: ts, 0, t, e, _ => by simp at e
  | none :: r, u :: ts, h + 1, t, e, l => by
    have := hth_setP r ts h t (by simpa using e) (by simpa using l)
    simp only [List.set_cons_succ, hth, List.getD_cons_succ, List.append_assoc]
    exact this.append_left _
  | some x :: r, u :: ts, h + 1, t, e, l => by
    have := hth_setP r ts h t (by simpa using e) (by simpa using l)
    simp only [List.set_cons_succ, hth, List.getD_cons_succ]
    exact this
theorem hth_setA : ∀ (ab : List (Option Nat)) (pl : List T) (u x : Nat), ab[u]? = some none → u < pl.length → (hth (ab.set u (some x)) pl ++ (pl.getD u .nil).toL).Perm (hth ab pl)
  | [], _, h, _, e, _ => by simp at e
  | _ :: _, [], h, _, _, l => by simp at l
  | none :: r, v :: ts, 0, x, _, _ => by
    simp only [List.set_cons_zero, hth, List.getD_cons_zero]
    exact List.perm_append_comm
  | some y :: r, v :: ts, 0, x, e, _ => by simp at e
  | none :: r, v :: ts, h + 1, x, e, l => by
    have := hth_setA r ts h x (by simpa using e) (by simpa using l)
    simp only [List.set_cons_succ, hth, List.getD_cons_succ, List.append_assoc]
    exact this.append_left _
  | some y :: r, v :: ts, h + 1, x, e, l => by
    have := hth_setA r ts h x (by simpa using e) (by simpa using l)
    simp only [List.set_cons_succ, hth, List.getD_cons_succ]
    exact this
theorem hth_add : ∀ (ab : List (Option Nat)) (pl : List T), pl.length = ab.length → hth (ab ++ [none]) (pl ++ [.nil]) = hth ab pl
  | [], [], _ => rfl
  | [], _ :: _, e => by simp at e
  | _ :: _, [], e => by simp at e
  | none :: r, t :: ts, e => by
    have := hth_add r ts (by simpa using e)
    simp only [List.cons_append, hth]; rw [this]
  | some x :: r, t :: ts, e => by
    have := hth_add r ts (by simpa using e)
    simp only [List.cons_append, hth]; exact this
theorem hth_mem {ab : List (Option Nat)} {pl : List T} {h : Nat} (e : ab[h]? = some none) (l : h < pl.length) : ∃ rest, ((pl.getD h .nil).toL ++ rest).Perm (hth ab pl) :=
  ⟨_, (List.perm_append_comm).trans (hth_setA ab pl h 0 e l)⟩
structure R0 (B : Nat) (s : Sn) (p : Pn) : Prop where
  ln : p.lb.length = s.ab.length
  lg : p.bg.length = s.ab.length
  lt : ∀ i, i < s.ab.length → p.lab i < s.ab.length
  eqv : ∀ {i j h k h' k' : Nat}, Up s.ab i h k → Up s.ab j h' k' → (h = h' ↔ p.lab i = p.lab j)
  bag : ∀ {i h k : Nat}, Up s.ab i h k → (p.bag (p.lab i)).Perm (s.pile h).toL
  nd : ((hth s.ab s.pl).map (·.2)).Nodup
  ag : ∀ q ∈ hth s.ab s.pl, q.2 < (B : Int)
theorem R0.mono {B B' : Nat} {s : Sn} {p : Pn} (r : R0 B s p) (h : B ≤ B') : R0 B' s p := ⟨r.ln, r.lg, r.lt, r.eqv, r.bag, r.nd, fun q hq => by have := r.ag q hq; omega⟩
theorem R0.zero : R0 0 ⟨[], [], []⟩ ⟨[], []⟩ := by
  refine ⟨rfl, rfl, fun i h => by simp at h, fun u => ?_, fun u => ?_, List.nodup_nil, fun q hq => by cases hq⟩
  · cases u with
    | here e => simp at e
    | step e _ => simp at e
  · cases u with
    | here e => simp at e
    | step e _ => simp at e
theorem Up.lt {ab : List (Option Nat)} {n h k : Nat} (u : Up ab n h k) : n < ab.length := by
  cases u with
  | here e => exact get_lt e
  | step e _ => exact get_lt e
theorem Up.ofAdd {ab : List (Option Nat)} (g : ∀ n, n < ab.length → ∃ h k, Up ab n h k) {n h k : Nat} (u : Up (ab ++ [none]) n h k) : Up ab n h k ∨ (n = ab.length ∧ h = ab.length ∧ k = 0) := by
  by_cases e : n < ab.length
  · obtain ⟨h', k', u'⟩ := g n e
    obtain ⟨a, b⟩ := u'.add.det u
    subst a; subst b
    exact .inl u'
  · have := u.lt
    have e2 : n = ab.length := by simp at this; omega
    subst e2
    have u' : Up (ab ++ [none]) ab.length ab.length 0 := .here (by simp)
    obtain ⟨a, b⟩ := u'.det u
    exact .inr ⟨rfl, a.symm, b.symm⟩
theorem getD_snoc {α : Type} (l : List α) (x d : α) : (l ++ [x]).getD l.length d = x := by simp [List.getD]
theorem R0.add {B : Nat} {s : Sn} {p : Pn} (g : Good B s) (r : R0 B s p) : R0 B s.add p.add := by
  have lab1 : ∀ i, i < s.ab.length → p.add.lab i = p.lab i := fun i hi => getD_app _ (by rw [r.ln]; exact hi)
  have lab2 : p.add.lab s.ab.length = s.ab.length := by
    show (p.lb ++ [p.lb.length]).getD s.ab.length 0 = _
    rw [← r.ln, getD_snoc]
  have bag1 : ∀ l, l < s.ab.length → p.add.bag l = p.bag l := fun l hl => getD_app _ (by rw [r.lg]; exact hl)
  have pile1 : ∀ h, h < s.ab.length → s.add.pile h = s.pile h := fun h hh => getD_app _ (by rw [g.lp]; exact hh)
  refine ⟨by show (p.lb ++ [_]).length = (s.ab ++ [none]).length; simp [r.ln], by show (p.bg ++ [_]).length = (s.ab ++ [none]).length; simp [r.lg], fun i hi => ?_, fun {i j h k h' k'} u u' => ?_, fun {i h k} u => ?_, ?_, ?_⟩
  · have hi' : i < s.ab.length + 1 := by simpa [Sn.add] using hi
    show _ < (s.ab ++ [none]).length
    rw [List.length_append]
    by_cases e : i < s.ab.length
    · rw [lab1 i e]; have := r.lt i e; simp; omega
    · have e2 : i = s.ab.length := by omega
      rw [e2, lab2]; simp
  · rcases Up.ofAdd g.up u with v | ⟨a1, a2, _⟩ <;> rcases Up.ofAdd g.up u' with v' | ⟨b1, b2, _⟩
    · rw [lab1 i v.lt, lab1 j v'.lt]; exact r.eqv v v'
    · rw [lab1 i v.lt, b1, lab2, b2]
      have := get_lt v.head
      have := r.lt i v.lt
      omega
    · rw [lab1 j v'.lt, a1, lab2, a2]
      have := get_lt v'.head
      have := r.lt j v'.lt
      omega
    · rw [a1, b1, a2, b2]; simp
  · rcases Up.ofAdd g.up u with v | ⟨a1, a2, _⟩
    · rw [lab1 i v.lt, bag1 _ (r.lt i v.lt), pile1 h (get_lt v.head)]; exact r.bag v
    · rw [a1, a2, lab2]
      have e1 : p.add.bag s.ab.length = [] := by
        show (p.bg ++ [[]]).getD s.ab.length [] = _
        rw [← r.lg, getD_snoc]
      have e2 : s.add.pile s.ab.length = .nil := by
        show (s.pl ++ [T.nil]).getD s.ab.length .nil = _
        rw [← g.lp, getD_snoc]
      rw [e1, e2]; exact List.Perm.refl _
  · show ((hth (s.ab ++ [none]) (s.pl ++ [.nil])).map (·.2)).Nodup
    rw [hth_add _ _ g.lp]; exact r.nd
  · show ∀ q ∈ hth (s.ab ++ [none]) (s.pl ++ [.nil]), _
    rw [hth_add _ _ g.lp]; exact r.ag
theorem R0.chg {B B' : Nat} {s : Sn} {p : Pn} {i hd k : Nat} {t : T} {b : List (Int × Int)} (g : Good B s) (r : R0 B s p) (u : Up s.ab i hd k) (hb : b.Perm t.toL) (nd : ((hth s.ab (s.pl.set hd t)).map (·.2)).Nodup) (ag : ∀ q ∈ hth s.ab (s.pl.set hd t), q.2 < (B' : Int)) :
    R0 B' (s.setP hd t) { p with bg := p.bg.set (p.lab i) b } := by
  have hl : p.lab i < p.bg.length := by rw [r.lg]; exact r.lt i u.lt
  have hh : hd < s.pl.length := by rw [g.lp]; exact get_lt u.head
  refine ⟨r.ln, by show (p.bg.set _ _).length = _; rw [List.length_set]; exact r.lg, r.lt, r.eqv, fun {j h k'} v => ?_, nd, ag⟩
  have e := r.eqv u v
  show ((p.bg.set (p.lab i) b).getD (p.lab j) []).Perm ((s.pl.set hd t).getD h .nil).toL
  by_cases c : hd = h
  · rw [← e.mp c, ← c, getD_set_self hl, getD_set_self hh]; exact hb
  · rw [getD_set_ne (fun z => c (e.mpr z)), getD_set_ne c]; exact r.bag v
theorem R0.sub_nd {B : Nat} {s : Sn} {p : Pn} {i hd k : Nat} (g : Good B s) (r : R0 B s p) (u : Up s.ab i hd k) : ((s.pile hd).toL.map (·.2)).Nodup := by
  obtain ⟨rest, pm⟩ := hth_mem (pl := s.pl) u.head (by rw [g.lp]; exact get_lt u.head)
  have := (pm.map (·.2)).nodup_iff.mpr r.nd
  rw [List.map_append] at this
  exact (List.nodup_append.mp this).1
theorem nodup_of_map {α β : Type} (f : α → β) : ∀ {l : List α}, (l.map f).Nodup → l.Nodup
  | [], _ => List.nodup_nil
  | x :: r, h => by
    rw [List.map_cons, List.nodup_cons] at h
    rw [List.nodup_cons]
    exact ⟨fun hx => h.1 (List.mem_map_of_mem hx), nodup_of_map f h.2⟩
theorem R0.put {B : Nat} {s : Sn} {p : Pn} {i hd k : Nat} {rk : Int} {b : List (Int × Int)} (g : Good B s) (r : R0 B s p) (u : Up s.ab i hd k) (hb : b.Perm (p.bag (p.lab i) ++ [(rk, (B : Int))])) :
    R0 (B + 1) (s.setP hd (Ph.join (s.pile hd) (one rk B))) { p with bg := p.bg.set (p.lab i) b } := by
  have hh : hd < s.pl.length := by rw [g.lp]; exact get_lt u.head
  have pm := hth_setP s.ab s.pl hd (Ph.join (s.pile hd) (one rk B)) u.head hh
  have pj := join_perm (s.pile hd) (one rk B)
  have pm2 : (hth s.ab (s.pl.set hd (Ph.join (s.pile hd) (one rk B)))).Perm (hth s.ab s.pl ++ [(rk, (B : Int))]) := by
    have h1 : (hth s.ab (s.pl.set hd (Ph.join (s.pile hd) (one rk B))) ++ (s.pile hd).toL).Perm ((hth s.ab s.pl ++ [(rk, (B : Int))]) ++ (s.pile hd).toL) := by
      refine pm.trans ((pj.append_left _).trans ?_)
      rw [List.append_assoc]
      exact (List.perm_append_comm).append_left _
    exact (List.perm_append_right_iff _).mp h1
  refine r.chg g u (hb.trans (((r.bag u).append_right _).trans pj.symm)) ?_ fun q hq => ?_
  · refine ((pm2.map (·.2)).nodup_iff).mpr ?_
    rw [List.map_append, List.nodup_append]
    refine ⟨r.nd, by simp, fun x hx y hy => ?_⟩
    obtain ⟨q, hq, e⟩ := List.mem_map.mp hx
    have := r.ag q hq
    have ey : y = (B : Int) := by simpa using hy
    rw [ey, ← e]; show q.2 ≠ (B : Int); omega
  · rcases List.mem_append.mp (pm2.mem_iff.mp hq) with z | z
    · have := r.ag q z; omega
    · rw [List.mem_singleton.mp z]; show (B : Int) < _; omega
theorem R0.take {B : Nat} {s : Sn} {p : Pn} {i hd k : Nat} {rk a rc hn : Int} {l rt : T} {b : List (Int × Int)} (g : Good B s) (r : R0 B s p) (u : Up s.ab i hd k) (e : s.pile hd = .node rk a l rt rc hn) (hb : ((rk, a) :: b).Perm (p.bag (p.lab i))) :
    R0 B (s.setP hd (Ph.join l rt)) { p with bg := p.bg.set (p.lab i) b } := by
  have hh : hd < s.pl.length := by rw [g.lp]; exact get_lt u.head
  have pm := hth_setP s.ab s.pl hd (Ph.join l rt) u.head hh
  have pj := join_perm l rt
  have e' : (s.pl.getD hd .nil).toL = (rk, a) :: (l.toL ++ rt.toL) := by
    have : s.pl.getD hd .nil = .node rk a l rt rc hn := e
    rw [this]; rfl
  rw [e'] at pm
  have pm2 : ((rk, a) :: hth s.ab (s.pl.set hd (Ph.join l rt))).Perm (hth s.ab s.pl) := by
    have h1 : (((rk, a) :: hth s.ab (s.pl.set hd (Ph.join l rt))) ++ (l.toL ++ rt.toL)).Perm (hth s.ab s.pl ++ (l.toL ++ rt.toL)) := by
      refine List.Perm.trans ?_ (pm.trans (pj.append_left _))
      exact (List.perm_middle).symm
    exact (List.perm_append_right_iff _).mp h1
  have nd2 := (pm2.map (·.2)).nodup_iff.mpr r.nd
  rw [List.map_cons, List.nodup_cons] at nd2
  refine r.chg g u ?_ nd2.2 fun q hq => r.ag q (pm2.mem_iff.mp (List.mem_cons_of_mem _ hq))
  have hb2 : ((rk, a) :: b).Perm ((rk, a) :: (l.toL ++ rt.toL)) := by
    refine hb.trans ((r.bag u).trans ?_)
    rw [e]; exact List.Perm.refl _
  exact hb2.cons_inv.trans pj.symm
theorem R0.join {B : Nat} {s : Sn} {p : Pn} {i j f f' k k' : Nat} {b : List (Int × Int)} (g : Good B s) (r : R0 B s p) (u : Up s.ab i f k) (u' : Up s.ab j f' k') (ne : f ≠ f') (hb : b.Perm (p.bag (p.lab i) ++ p.bag (p.lab j))) :
    R0 B ((s.lay f f').setP (s.upper f f') (Ph.join (s.pile f) (s.pile f'))) ⟨p.lb.map fun l => if l = p.lab j then p.lab i else l, (p.bg.set (p.lab i) b).set (p.lab j) []⟩ := by
  obtain ⟨h1, h2, h3, h4⟩ := lay_two (s := s) u.head u'.head ne
  have hul := get_lt h2
  have hll := get_lt h1
  have nel : p.lab i ≠ p.lab j := fun z => ne ((r.eqv u u').mpr z)
  have gj := g.layJoin u.head u'.head ne
  have labN : ∀ m, m < s.ab.length → (p.lb.map fun l => if l = p.lab j then p.lab i else l).getD m 0 = if p.lab m = p.lab j then p.lab i else p.lab m := by
    intro m hm
    have hm' : m < p.lb.length := by rw [r.ln]; exact hm
    simp only [Pn.lab, List.getD, List.getElem?_map, List.getElem?_eq_getElem hm', Option.map_some, Option.getD_some]
    rfl
  have upN : ∀ {m h q : Nat}, Up ((s.lay f f').setP (s.upper f f') (Ph.join (s.pile f) (s.pile f'))).ab m h q → ∃ h0 q0, Up s.ab m h0 q0 ∧ h = if h0 = f ∨ h0 = f' then s.upper f f' else h0 := by
    intro m h q v
    have v' : Up (s.ab.set (s.lower f f') (some (s.upper f f'))) m h q := v
    have hm : m < s.ab.length := by have := v'.lt; rwa [List.length_set] at this
    obtain ⟨h0, q0, w⟩ := g.up m hm
    refine ⟨h0, q0, w, ?_⟩
    have L := w.lay h1 h2 h3
    have two : s.lower f f' = f ∧ s.upper f f' = f' ∨ s.lower f f' = f' ∧ s.upper f f' = f := by
      rcases lower_or s f f' with z | ⟨a, b, _⟩ | z
      · exact .inl z
      · exact .inr ⟨a, b⟩
      · exact absurd z ne
    by_cases c : h0 = s.lower f f'
    · have := ((L.2 c).det v').1
      rw [if_pos (by rcases two with ⟨a, b⟩ | ⟨a, b⟩ <;> rw [a] at c <;> simp [c])]
      exact this.symm
    · have e := ((L.1 c).det v').1
      by_cases c2 : h0 = s.upper f f'
      · rw [if_pos (by rcases two with ⟨a, b⟩ | ⟨a, b⟩ <;> rw [b] at c2 <;> simp [c2]), ← e, c2]
      · rw [if_neg (by rcases two with ⟨a, b⟩ | ⟨a, b⟩ <;> rw [a] at c <;> rw [b] at c2 <;> omega)]; exact e.symm
  have lb1 : ∀ {m h q : Nat}, Up s.ab m h q → (h = f ↔ p.lab m = p.lab i) := fun v => r.eqv v u
  have lb2 : ∀ {m h q : Nat}, Up s.ab m h q → (h = f' ↔ p.lab m = p.lab j) := fun v => r.eqv v u'
  have hup : s.upper f f' = f ∨ s.upper f f' = f' := by
    rcases lower_or s f f' with ⟨a, b⟩ | ⟨a, b, _⟩ | z
    · exact .inr b
    · exact .inl b
    · exact absurd z ne
  have pmJ : (hth (s.ab.set (s.lower f f') (some (s.upper f f'))) (s.pl.set (s.upper f f') (Ph.join (s.pile f) (s.pile f')))).Perm (hth s.ab s.pl) := by
    have e1 : (s.ab.set (s.lower f f') (some (s.upper f f')))[s.upper f f']? = some none := by rw [List.getElem?_set_ne h3]; exact h2
    have a1 := hth_setP (s.ab.set (s.lower f f') (some (s.upper f f'))) s.pl (s.upper f f') (Ph.join (s.pile f) (s.pile f')) e1 (by rw [g.lp]; exact hul)
    have a2 := hth_setA s.ab s.pl (s.lower f f') (s.upper f f') h1 (by rw [g.lp]; exact hll)
    have pj : (Ph.join (s.pile f) (s.pile f')).toL.Perm ((s.pl.getD (s.lower f f') .nil).toL ++ (s.pl.getD (s.upper f f') .nil).toL) := by
      rcases lower_or s f f' with ⟨a, b⟩ | ⟨a, b, _⟩ | z
      · rw [a, b]; exact join_perm _ _
      · rw [a, b]; exact (join_perm _ _).trans List.perm_append_comm
      · exact absurd z ne
    refine (List.perm_append_right_iff (s.pl.getD (s.upper f f') .nil).toL).mp (a1.trans ((pj.append_left _).trans ?_))
    rw [← List.append_assoc]
    exact a2.append_right _
  refine ⟨?_, ?_, fun m hm => ?_, fun {m m' h q h' q'} v v' => ?_, fun {m h q} v => ?_, ?_, ?_⟩
  · show (p.lb.map _).length = (s.ab.set _ _).length
    rw [List.length_map, List.length_set]; exact r.ln
  · show ((p.bg.set _ _).set _ _).length = (s.ab.set _ _).length
    rw [List.length_set, List.length_set, List.length_set]; exact r.lg
  · have hm' : m < s.ab.length := by have : m < (s.ab.set _ _).length := hm; rwa [List.length_set] at this
    show (p.lb.map _).getD m 0 < (s.ab.set _ _).length
    rw [labN m hm', List.length_set]
    split
    · exact r.lt i u.lt
    · exact r.lt m hm'
  · obtain ⟨a0, b0, w, e⟩ := upN v
    obtain ⟨a1, b1, w', e'⟩ := upN v'
    show h = h' ↔ (p.lb.map _).getD m 0 = (p.lb.map _).getD m' 0
    rw [labN m w.lt, labN m' w'.lt, e, e']
    have new : ∀ {m h q : Nat}, Up s.ab m h q → (h = f ∨ h = f' → (if p.lab m = p.lab j then p.lab i else p.lab m) = p.lab i) ∧ (¬ (h = f ∨ h = f') → (if p.lab m = p.lab j then p.lab i else p.lab m) = p.lab m ∧ p.lab m ≠ p.lab i) := fun v => by
      refine ⟨fun c => ?_, fun c => ?_⟩
      · rcases c with c | c
        · have := (lb1 v).mp c
          rw [if_neg (by rw [this]; exact nel)]; exact this
        · rw [if_pos ((lb2 v).mp c)]
      · exact ⟨if_neg fun z => c (.inr ((lb2 v).mpr z)), fun z => c (.inl ((lb1 v).mpr z))⟩
    by_cases c : a0 = f ∨ a0 = f' <;> by_cases d : a1 = f ∨ a1 = f'
    · rw [if_pos c, if_pos d, (new w).1 c, (new w').1 d]
      exact ⟨fun _ => rfl, fun _ => rfl⟩
    · rw [if_pos c, if_neg d, (new w).1 c, ((new w').2 d).1]
      refine ⟨fun z => absurd ?_ d, fun z => absurd z.symm ((new w').2 d).2⟩
      rw [← z]; exact hup
    · rw [if_neg c, if_pos d, ((new w).2 c).1, (new w').1 d]
      refine ⟨fun z => absurd ?_ c, fun z => absurd z ((new w).2 c).2⟩
      rw [z]; exact hup
    · rw [if_neg c, if_neg d, ((new w).2 c).1, ((new w').2 d).1]
      exact r.eqv w w'
  · obtain ⟨a0, b0, w, e⟩ := upN v
    show (((p.bg.set (p.lab i) b).set (p.lab j) []).getD ((p.lb.map _).getD m 0) []).Perm ((s.pl.set (s.upper f f') _).getD h .nil).toL
    rw [labN m w.lt, e]
    have li : p.lab i < p.bg.length := by rw [r.lg]; exact r.lt i u.lt
    have hpu : s.upper f f' < s.pl.length := by rw [g.lp]; exact hul
    by_cases c : a0 = f ∨ a0 = f'
    · rw [if_pos c, getD_set_self hpu]
      have e2 : (if p.lab m = p.lab j then p.lab i else p.lab m) = p.lab i := by
        rcases c with c | c
        · have := (lb1 w).mp c
          rw [if_neg (by rw [this]; exact nel)]; exact this
        · rw [if_pos ((lb2 w).mp c)]
      rw [e2, getD_set_ne (Ne.symm nel), getD_set_self li]
      exact hb.trans (((r.bag u).append (r.bag u')).trans (join_perm _ _).symm)
    · have c1 : ¬ p.lab m = p.lab i := fun z => c (.inl ((lb1 w).mpr z))
      have c2 : ¬ p.lab m = p.lab j := fun z => c (.inr ((lb2 w).mpr z))
      rw [if_neg c, if_neg c2, getD_set_ne (fun z => c2 z.symm), getD_set_ne (fun z => c1 z.symm), getD_set_ne (fun z => c (by rcases hup with z2 | z2 <;> rw [z2] at z <;> simp [← z]))]
      exact r.bag w
  · exact ((pmJ.map (·.2)).nodup_iff).mpr r.nd
  · exact fun q hq => r.ag q (pmJ.mem_iff.mp hq)
def RelC (B : Nat) : Sn → List Ch → Pn → List (Wd × Pn) → Prop
  | s, [], p, [] => R0 B s p
  | s, c :: r, p, (w, p') :: r' => R0 B s p ∧ c.w = w ∧ p'.lb.length ≤ s.ab.length ∧ RelC B (s.undo c) r (p'.pad (s.ab.length - p'.lb.length)) r'
  | _, _, _, _ => False
theorem RelC.r0 {B : Nat} : ∀ {s : Sn} {r : List Ch} {p : Pn} {r' : List (Wd × Pn)}, RelC B s r p r' → R0 B s p
  | _, [], _, [], h => h
  | _, _ :: _, _, (_, _) :: _, h => h.1
theorem RelC.mono {B B' : Nat} (l : B ≤ B') : ∀ {r : List Ch} {s : Sn} {p : Pn} {r' : List (Wd × Pn)}, RelC B s r p r' → RelC B' s r p r'
  | [], _, _, [], h => R0.mono h l
  | _ :: _, _, _, (_, _) :: _, ⟨a, b, c, d⟩ => ⟨a.mono l, b, c, RelC.mono l d⟩
theorem RelC.len {B : Nat} : ∀ {r : List Ch} {s : Sn} {p : Pn} {r' : List (Wd × Pn)}, RelC B s r p r' → r.length = r'.length
  | [], _, _, [], _ => rfl
  | _ :: _, _, _, (_, _) :: _, ⟨_, _, _, d⟩ => by rw [List.length_cons, List.length_cons, RelC.len d]
theorem RelC.add {B : Nat} : ∀ {r : List Ch} {s : Sn} {p : Pn} {r' : List (Wd × Pn)}, Ok B s r → RelC B s r p r' → RelC B s.add r p.add r'
  | [], _, _, [], k, h => R0.add k h
  | c :: r, s, p, (w, p') :: r', ⟨g, f, k⟩, ⟨a, b, l, d⟩ => by
    have e1 : s.add.ab.length = s.ab.length + 1 := by show (s.ab ++ [none]).length = _; simp
    refine ⟨R0.add g a, b, by omega, ?_⟩
    rw [undo_add g f, e1, show s.ab.length + 1 - p'.lb.length = (s.ab.length - p'.lb.length) + 1 by omega]
    exact RelC.add k d
end Ph
set_option linter.all false
namespace Ph
theorem RelC.chg {B B' : Nat} {s s' : Sn} {r : List Ch} {p p' : Pn} {ws : List (Wd × Pn)} {c : Ch} (h : RelC B s r p ws) (lB : B ≤ B') (un : s'.undo c = s) (ln : s'.ab.length = s.ab.length) (r0 : R0 B' s' p') : RelC B' s' (c :: r) p' ((c.w, p) :: ws) := by
  have l := h.r0.ln
  refine ⟨r0, rfl, by omega, ?_⟩
  rw [un, show s'.ab.length - p.lb.length = 0 by omega]
  exact h.mono lB
theorem undo_setP {B : Nat} {s : Sn} (g : Good B s) {hd : Nat} {w : Wd} {t : T} (e : s.ab[hd]? = some none) : (s.setP hd t).undo ⟨w, hd, s.pile hd, none⟩ = s := by
  have h1 : hd < s.pl.length := by rw [g.lp]; exact get_lt e
  show Sn.mk s.ab s.sz ((s.pl.set hd t).set hd (s.pl.getD hd .nil)) = s
  rw [set_back h1]
theorem plain_put {h : Hs} {p : Pn} {ws : List (Wd × Pn)} {n : Nat} {rk : Int} {b : List (Int × Int)} (k : h.Ok) (rc : RelC h.puts h.s h.past p ws) (up : Up h.s.ab n (h.way (n : Int)).1 (h.way (n : Int)).2) (hb : b.Perm (p.bag (p.lab n) ++ [(rk, (h.puts : Int))])) :
    RelC (h.doPut (n : Int) rk).1.puts (h.doPut (n : Int) rk).1.s (h.doPut (n : Int) rk).1.past { p with bg := p.bg.set (p.lab n) b } ((.put, p) :: ws) :=
  RelC.chg rc (Nat.le_succ _) (undo_setP k.good up.head) rfl (R0.put k.good rc.r0 up hb)
theorem top_min {t : T} {rk a rc hn : Int} {l rt : T} {q : Int × Int} (e : t = .node rk a l rt rc hn) (ho : Ho t) (nd : (t.toL.map (·.2)).Nodup) (hm : q ∈ t.toL) (mn : ∀ r ∈ t.toL, lt2 r q = false) : q = (rk, a) := by
  subst e
  have h1 : lt2 (rk, a) q = false := mn _ (by simp [T.toL])
  rcases List.mem_cons.mp (show q ∈ (rk, a) :: (l.toL ++ rt.toL) from hm) with z | z
  · exact z
  · have h2 : le2 (rk, a) q := ho.1 q z
    have h3 := le2_iff.mp h2
    have h4 : ¬ (rk < q.1 ∨ (rk = q.1 ∧ a < q.2)) := fun y => by
      have := lt2_iff (p := (rk, a)) (q := q) |>.mpr y
      rw [h1] at this; cases this
    have h5 : q.2 = a := by
      have : rk < q.1 ∨ (rk = q.1 ∧ a ≤ q.2) := h3
      omega
    have nd' : (((rk, a) :: (l.toL ++ rt.toL)).map (·.2)).Nodup := nd
    rw [List.map_cons, List.nodup_cons] at nd'
    exact absurd (List.mem_map.mpr ⟨q, z, h5⟩) nd'.1
theorem filter_perm {α : Type} [DecidableEq α] {q : α} : ∀ {l : List α}, l.Nodup → q ∈ l → (q :: l.filter (fun x => decide (x ≠ q))).Perm l
  | [], _, h => by cases h
  | x :: r, nd, h => by
    rw [List.nodup_cons] at nd
    by_cases e : x = q
    · subst e
      have e2 : r.filter (fun y => decide (y ≠ x)) = r := List.filter_eq_self.mpr fun y hy => decide_eq_true fun z => nd.1 (by rw [← z]; exact hy)
      rw [List.filter_cons, if_neg (by simp), e2]
    · have hq : q ∈ r := by
        rcases List.mem_cons.mp h with z | z
        · exact absurd z.symm e
        · exact z
      rw [List.filter_cons, if_pos (decide_eq_true e)]
      exact (List.Perm.swap _ _ _).trans ((filter_perm nd.2 hq).cons _)
section
variable {h : Hs} {p : Pn} {ws : List (Wd × Pn)} {n : Nat}
theorem plain_bag (k : h.Ok) (rc : RelC h.puts h.s h.past p ws) (hg : h.isG (n : Int)) : (p.bag (p.lab n)).Perm (h.s.pile (h.way (n : Int)).1).toL := by
  have := k.up hg
  rw [Int.toNat_natCast] at this
  exact rc.r0.bag this
theorem plain_nil (k : h.Ok) (rc : RelC h.puts h.s h.past p ws) (hg : h.isG (n : Int)) (e : p.bag (p.lab n) = []) : h.s.pile (h.way (n : Int)).1 = .nil := by
  have pb := plain_bag k rc hg
  rw [e] at pb
  cases hp : h.s.pile (h.way (n : Int)).1 with
  | nil => rfl
  | node r a l rt x y => rw [hp] at pb; exact absurd pb.length_eq (by simp [T.toL])
theorem plain_top (k : h.Ok) (rc : RelC h.puts h.s h.past p ws) (hg : h.isG (n : Int)) {q : Int × Int} (hm : q ∈ p.bag (p.lab n)) (mn : ∀ r ∈ p.bag (p.lab n), lt2 r q = false) : ∃ l rt x y, h.s.pile (h.way (n : Int)).1 = .node q.1 q.2 l rt x y := by
  have pb := plain_bag k rc hg
  have up := k.up hg
  rw [Int.toNat_natCast] at up
  cases hp : h.s.pile (h.way (n : Int)).1 with
  | nil => rw [hp] at pb; exact absurd (pb.mem_iff.mp hm) (by simp [T.toL])
  | node r a l rt x y =>
    have nd := rc.r0.sub_nd k.good up
    have := top_min hp (k.hoP hg) nd (pb.mem_iff.mp hm) fun z hz => mn z (pb.mem_iff.mpr hz)
    exact ⟨l, rt, x, y, by rw [this]⟩
theorem plain_take (k : h.Ok) (rc : RelC h.puts h.s h.past p ws) (hg : h.isG (n : Int)) {q : Int × Int} (hm : q ∈ p.bag (p.lab n)) (mn : ∀ r ∈ p.bag (p.lab n), lt2 r q = false) :
    RelC (h.doTake (n : Int)).1.puts (h.doTake (n : Int)).1.s (h.doTake (n : Int)).1.past { p with bg := p.bg.set (p.lab n) ((p.bag (p.lab n)).filter fun x => decide (x ≠ q)) } ((.take, p) :: ws) ∧ (h.doTake (n : Int)).2.1 = .pair q := by
  obtain ⟨l, rt, x, y, e⟩ := plain_top k rc hg hm mn
  have up := k.up hg
  rw [Int.toNat_natCast] at up
  have nd := rc.r0.sub_nd k.good up
  have ndb : (p.bag (p.lab n)).Nodup := (plain_bag k rc hg).nodup_iff.mpr (nodup_of_map _ nd)
  have hd : h.doTake (n : Int) = (h.change .take (h.way (n : Int)).1 (Ph.join l rt) none, .pair (q.1, q.2), ((h.way (n : Int)).2, joinN l rt)) := by
    unfold Hs.doTake; rw [e]
  rw [hd]
  exact ⟨RelC.chg rc (Nat.le_refl _) (undo_setP k.good up.head) rfl (R0.take k.good rc.r0 up e (filter_perm ndb hm)), rfl⟩
theorem plain_least (k : h.Ok) (rc : RelC h.puts h.s h.past p ws) (hg : h.isG (n : Int)) {q : Int × Int} (hm : q ∈ p.bag (p.lab n)) (mn : ∀ r ∈ p.bag (p.lab n), lt2 r q = false) : (h.doLeast (n : Int)).2.1 = .pair q := by
  obtain ⟨l, rt, x, y, e⟩ := plain_top k rc hg hm mn
  unfold Hs.doLeast; rw [e]; rfl
theorem plain_one (k : h.Ok) (rc : RelC h.puts h.s h.past p ws) {m : Nat} (hg : h.isG (n : Int)) (hm : h.isG (m : Int)) : (h.way (n : Int)).1 = (h.way (m : Int)).1 ↔ p.lab n = p.lab m := by
  have u1 := k.up hg
  have u2 := k.up hm
  rw [Int.toNat_natCast] at u1 u2
  exact rc.r0.eqv u1 u2
theorem undo_lay {B : Nat} {s : Sn} (g : Good B s) {f f' : Nat} {t : T} (hf : s.ab[f]? = some none) (hg : s.ab[f']? = some none) (ne : f ≠ f') : ((s.lay f f').setP (s.upper f f') t).undo ⟨.join, s.upper f f', s.pile (s.upper f f'), some (s.lower f f')⟩ = s := by
  obtain ⟨h1, h2, h3, h4⟩ := lay_two (s := s) hf hg ne
  have l1 : s.lower f f' < s.ab.length := get_lt h1
  have l2 : s.upper f f' < s.ab.length := get_lt h2
  have lz := g.lz
  have lp := g.lp
  show Sn.mk ((s.ab.set (s.lower f f') (some (s.upper f f'))).set (s.lower f f') none) ((s.sz.set (s.upper f f') (s.sz.getD (s.upper f f') 0 + s.sz.getD (s.lower f f') 0)).set (s.upper f f') ((s.sz.set (s.upper f f') (s.sz.getD (s.upper f f') 0 + s.sz.getD (s.lower f f') 0)).getD (s.upper f f') 0 - (s.sz.set (s.upper f f') (s.sz.getD (s.upper f f') 0 + s.sz.getD (s.lower f f') 0)).getD (s.lower f f') 0)) ((s.pl.set (s.upper f f') t).set (s.upper f f') (s.pl.getD (s.upper f f') .nil)) = s
  rw [set_back (by omega), List.set_set, set_id h1, getD_set_self (by omega), getD_set_ne (Ne.symm h3), show s.sz.getD (s.upper f f') 0 + s.sz.getD (s.lower f f') 0 - s.sz.getD (s.lower f f') 0 = s.sz.getD (s.upper f f') 0 by omega, set_back (by omega)]
theorem plain_join (k : h.Ok) (rc : RelC h.puts h.s h.past p ws) {m : Nat} (hg : h.isG (n : Int)) (hm : h.isG (m : Int)) (ne : p.lab n ≠ p.lab m) :
    RelC (h.doJoin (n : Int) (m : Int)).1.puts (h.doJoin (n : Int) (m : Int)).1.s (h.doJoin (n : Int) (m : Int)).1.past ⟨p.lb.map fun l => if l = p.lab m then p.lab n else l, (p.bg.set (p.lab n) (p.bag (p.lab n) ++ p.bag (p.lab m))).set (p.lab m) []⟩ ((.join, p) :: ws) ∧ (h.doJoin (n : Int) (m : Int)).2.1 = .bl true := by
  have u1 := k.up hg
  have u2 := k.up hm
  rw [Int.toNat_natCast] at u1 u2
  have nh : ¬ (h.way (n : Int)).1 = (h.way (m : Int)).1 := fun z => ne ((plain_one k rc hg hm).mp z)
  unfold Hs.doJoin
  rw [if_neg nh]
  refine ⟨RelC.chg rc (Nat.le_refl _) (undo_lay k.good u1.head u2.head nh) ?_ (R0.join k.good rc.r0 u1 u2 nh (List.Perm.refl _)), rfl⟩
  show (h.s.ab.set _ _).length = _
  rw [List.length_set]
theorem plain_stay (k : h.Ok) (rc : RelC h.puts h.s h.past p ws) {m : Nat} (hg : h.isG (n : Int)) (hm : h.isG (m : Int)) (e : p.lab n = p.lab m) : h.doJoin (n : Int) (m : Int) = (h, .bl false, ((h.way (n : Int)).2 + (h.way (m : Int)).2, 0)) := by
  unfold Hs.doJoin
  rw [if_pos ((plain_one k rc hg hm).mpr e)]
end
end Ph
set_option Elab.async false
set_option linter.all false
set_option maxRecDepth 100000
namespace Ph
open PySem PySem.Spec L2
open PyProof.Rows hiding St
def CmpK (prog : Program) (w : World) (A : Around) (h0 : Heap) (P : Nat → Value → Prop) (bt : Nat → Nat → Bool) : Prop :=
  ∀ i j vi vj (s : Shared) (Q : Value → Shared → Prop) (E : Value → Shared → Prop), P i vi → P j vj → (∀ b o, h0.get? b = some o → s.heap.get? b = some o) → Q (.bool (bt i j)) s → wpAny (model prog w) A (richCompare .Lt vi vj) Q E s
section
variable {prog : Program} {w : World} {A : Around} {R : Result → Shared → Prop} {I : Addr} {fp wr : List Addr} {n : Nat} {P : Nat → Value → Prop} {St : Nat → Heap → Prop}
theorem minK_loop (h0 : Heap) (hwr : ∀ b ∈ wr, h0.get? b = none) (W : Walks prog w A.in1 I fp wr n P St) (bt : Nat → Nat → Bool) (hcmp : CmpK prog w A.in1 h0 P bt) (S : Addr) (hSf : S ∉ fp) (hS0 : h0.get? S = none) :
    ∀ (k j : Nat) (s : Shared) (vb : Value) (c : Nat), n - (j + 1) = k → j + 1 ≤ n → St (j + 1) s.heap → P (argBest bt j) vb → (∀ b o, h0.get? b = some o → s.heap.get? b = some o) →
    s.heap.get? S = some { cls := .type "list", dict := none, data := .seq #[vb, vb] c, slots := #[] } →
    (∀ v h' tk, P (argBest bt (n - 1)) v → (∀ b o, b ∉ wr → b ≠ S → s.heap.get? b = some o → h'.get? b = some o) → R (.ok (.ret v)) { s with heap := h', toks := tk }) →
    codeAny (model prog w) A (.builtin "min.loop" ⟨[.ref I, .none, .ref S], []⟩) R s := by
  have hSw : S ∉ wr := fun h => hSf (W.sub _ h)
  have nm : (toString "min" ++ toString ".loop" : String) = "min.loop" := by decide
  intro k
  induction k with
  | zero =>
    intro j s vb c hk hj hst hPb h0s hS fin
    have hin : j + 1 = n := by omega
    refine codeAny_builtin PySem.F.entry_min_loop ?_
    rw [Around.under_plainId PySem.F.plain_min_loop _]
    show wpAny _ A.in1 (seqItems? (.ref S) >>= _) _ _ s
    refine wpAny_bind (wpAny_seqItems hS rfl ?_)
    show wpAny _ A.in1 (tryCatch (pyNext (.ref I)) _ >>= _) _ _ s
    refine wpAny_bind (wpAny_tryCatch (W.done s _ _ (hin ▸ hst) fun h' tk kp => ?_))
    have hS2 := kp S _ hSw hS
    show wpAny _ A.in1 (updateSeq S (fun _ => #[]) >>= _) _ _ _
    refine wpAny_bind ?_
    refine wpAny_updateSeq hS2 rfl (wpAny_bind (wpAny_letGo (wpAny_pure ?_)))
    exact fin vb _ tk (by rw [← hin]; exact hPb) fun b o hbw hbS e => (Heap.get?_update_other _ _ (Ne.symm hbS)).trans (kp b o hbw e)
  | succ k ih =>
    intro j s vb c hk hj hst hPb h0s hS fin
    have hlt : j + 1 < n := by omega
    refine codeAny_builtin PySem.F.entry_min_loop ?_
    rw [Around.under_plainId PySem.F.plain_min_loop _]
    show wpAny _ A.in1 (seqItems? (.ref S) >>= _) _ _ s
    refine wpAny_bind (wpAny_seqItems hS rfl ?_)
    show wpAny _ A.in1 (tryCatch (pyNext (.ref I)) _ >>= _) _ _ s
    refine wpAny_bind (wpAny_tryCatch (W.item (j + 1) s _ _ hlt hst fun v h' tk hP st2 kp => ?_))
    have hS2 := kp S _ hSw hS
    have h02 : ∀ b o, h0.get? b = some o → h'.get? b = some o := fun b o e => kp b o (fun hb => by rw [hwr b hb] at e; cases e) (h0s b o e)
    show wpAny _ A.in1 (tryCatch (holding [v, v] (richCompare .Lt v vb >>= _)) _ >>= _) _ _ _
    refine wpAny_bind (wpAny_tryCatch (wpAny_holding (wpAny_bind (hcmp (j + 1) (argBest bt j) v vb _ _ _ hP hPb h02 ?_))))
    refine wpAny_bind (wpAny_holding (wpAny_truthy_bool ?_))
    refine wpAny_bind (wpAny_letGo (wpAny_pure ?_))
    cases hb : bt (j + 1) (argBest bt j) with
    | true =>
      simp only [if_true]
      refine wpAny_bind ?_
      refine wpAny_updateSeq hS2 rfl (wpAny_bind (wpAny_letGo ?_))
      rw [nm]
      refine wpAny_pure ⟨plainId_quiet PySem.F.plain_min_loop _, ih (j + 1) _ v _ (by omega) hlt (W.frame _ _ _ st2 fun b hbf o e => ?_) (by simp only [argBest, hb, if_true]; exact hP) (fun b o e => ?_) (Heap.get?_update_self _ hS2 rfl)
        fun u h2 tk2 hP2 kp2 => ?_⟩
      · exact (Heap.get?_update_other _ _ (fun h : S = b => hSf (by rw [h]; exact hbf))).trans e
      · exact (Heap.get?_update_other _ _ (fun h : S = b => by rw [← h, hS0] at e; cases e)).trans (h02 b o e)
      · exact fin u h2 tk2 hP2 fun b o hbw hbS e => kp2 b o hbw hbS ((Heap.get?_update_other _ _ (Ne.symm hbS)).trans (kp b o hbw e))
    | false =>
      simp only [Bool.false_eq_true, if_false]
      refine wpAny_bind (wpAny_letGo ?_)
      rw [nm]
      refine wpAny_pure ⟨plainId_quiet PySem.F.plain_min_loop _, ih (j + 1) _ vb c (by omega) hlt st2 (by simp only [argBest, hb, Bool.false_eq_true, if_false]; exact hPb) h02 hS2 fun u h2 tk2 hP2 kp2 => ?_⟩
      exact fin u h2 tk2 hP2 fun b o hbw hbS e => kp2 b o hbw hbS (kp b o hbw e)
theorem minK_first (h0 : Heap) (hwr : ∀ b ∈ wr, h0.get? b = none) (W : Walks prog w A.in1 I fp wr n P St) (bt : Nat → Nat → Bool) (hcmp : CmpK prog w A.in1 h0 P bt) (S : Addr) (hSf : S ∉ fp) (hS0 : h0.get? S = none) (hn : 0 < n) {s : Shared} {c : Nat} (hst : St 0 s.heap)
    (h0s : ∀ b o, h0.get? b = some o → s.heap.get? b = some o) (hS : s.heap.get? S = some { cls := .type "list", dict := none, data := .seq #[] c, slots := #[] })
    (fin : ∀ v h' tk, P (argBest bt (n - 1)) v → (∀ b o, b ∉ wr → b ≠ S → s.heap.get? b = some o → h'.get? b = some o) → R (.ok (.ret v)) { s with heap := h', toks := tk }) :
    codeAny (model prog w) A (.builtin "min.loop" ⟨[.ref I, .none, .ref S], []⟩) R s := by
  have hSw : S ∉ wr := fun h => hSf (W.sub _ h)
  have nm : (toString "min" ++ toString ".loop" : String) = "min.loop" := by decide
  refine codeAny_builtin PySem.F.entry_min_loop ?_
  rw [Around.under_plainId PySem.F.plain_min_loop _]
  show wpAny _ A.in1 (seqItems? (.ref S) >>= _) _ _ s
  refine wpAny_bind (wpAny_seqItems hS rfl ?_)
  show wpAny _ A.in1 (tryCatch (pyNext (.ref I)) _ >>= _) _ _ s
  refine wpAny_bind (wpAny_tryCatch (W.item 0 s _ _ hn hst fun v h' tk hP st2 kp => ?_))
  have hS2 := kp S _ hSw hS
  show wpAny _ A.in1 (updateSeq S (fun _ => #[v, v]) >>= _) _ _ _
  refine wpAny_bind ?_
  refine wpAny_updateSeq hS2 rfl ?_
  rw [nm]
  refine wpAny_pure ⟨plainId_quiet PySem.F.plain_min_loop _, minK_loop h0 hwr W bt hcmp S hSf hS0 _ 0 _ v _ rfl hn (W.frame _ _ _ st2 fun b hbf o e => ?_) hP (fun b o e => ?_) (Heap.get?_update_self _ hS2 rfl) fun u h2 tk2 hP2 kp2 => ?_⟩
  · exact (Heap.get?_update_other _ _ (fun h : S = b => hSf (by rw [h]; exact hbf))).trans e
  · exact (Heap.get?_update_other _ _ (fun h : S = b => by rw [← h, hS0] at e; cases e)).trans (kp b o (fun hb => by rw [hwr b hb] at e; cases e) (h0s b o e))
  · exact fin u h2 tk2 hP2 fun b o hbw hbS e => kp2 b o hbw hbS ((Heap.get?_update_other _ _ (Ne.symm hbS)).trans (kp b o hbw e))
end
section
variable {prog : Program} {w : World} {A : Around} {E : Value → Shared → Prop} {s : Shared}
theorem call_minK {x : Value} {Q : Value → Shared → Prop}
    (h : wpAny (model prog w) A.in1 (pyIter x) (fun it s₂ => ∃ I fp wr n P St bt, it = .ref I ∧ Walks prog w A.in1 I fp wr n P St ∧ St 0 s₂.heap ∧ (∀ b ∈ fp, b < s₂.heap.objs.size) ∧ 0 < n ∧ (∀ b ∈ wr, s.heap.get? b = none) ∧ (∀ b o, s.heap.get? b = some o → s₂.heap.get? b = some o) ∧ s.heap.objs.size ≤ s₂.heap.objs.size ∧ CmpK prog w A.in1 s.heap P bt ∧
      ∀ v h' tk, P (argBest bt (n - 1)) v → (∀ b o, b ∉ wr → s₂.heap.get? b = some o → h'.get? b = some o) → Q v { s₂ with heap := h', toks := tk }) E s) :
    wpAny (model prog w) A (call (.builtin "min") [x]) Q E s := by
  have nm : (toString "min" ++ toString ".loop" : String) = "min.loop" := by decide
  refine call_function_tree PySem.F.kind_min PySem.F.plain_min PySem.F.entry_min (PySem.F.args_min1 _) ?_
  show wpAny _ A.in1 (Builtin.Builtins.bindParams "min" ["key", "default"] 0 ⟨[], []⟩ >>= _) _ _ s
  refine wpAny_bind (wpAny_of_eq (show Builtin.Builtins.bindParams "min" ["key", "default"] 0 ⟨[], []⟩ = pure [none, none] from rfl) ?_)
  refine wpAny_bind (wpAny_pure ?_)
  refine wpAny_bind (wpAny_mono h (fun it s₂ h₂ => ?_) fun _ _ e => e)
  obtain ⟨I, fp, wr, n, P, St, bt, rfl, W, hst, hfp, hn, hwr, h0s, hsz, hcmp, fin⟩ := h₂
  refine wpAny_bind (wpAny_newObj_type ?_)
  have hSf : s₂.heap.objs.size ∉ fp := fun hm => Nat.lt_irrefl _ (hfp _ hm)
  rw [nm]
  refine wpAny_pure ⟨plainId_quiet PySem.F.plain_min_loop _, minK_first s.heap hwr W bt hcmp s₂.heap.objs.size hSf ?_ hn (W.frame _ _ _ hst fun b _ o e => Heap.get?_push_of_some _ e) (fun b o e => Heap.get?_push_of_some _ (h0s b o e)) (Heap.get?_push_size _ rfl) fun v h' tk hP hk => ?_⟩
  · cases e : s.heap.get? s₂.heap.objs.size with
    | none => rfl
    | some o => exact absurd (Heap.lt_size e) (Nat.not_lt.mpr hsz)
  · exact fin v h' tk hP fun b o hbw e => hk b o hbw (Nat.ne_of_lt (Heap.lt_size e)) (Heap.get?_push_of_some _ e)
end
theorem argBest_le (bt : Nat → Nat → Bool) : ∀ k, argBest bt k ≤ k
  | 0 => Nat.le_refl _
  | k + 1 => by
    have := argBest_le bt k
    show (if bt (k + 1) (argBest bt k) = true then k + 1 else argBest bt k) ≤ k + 1
    split <;> omega
theorem argBest_min (f : Nat → Int × Int) : ∀ k i, i ≤ k → lt2 (f i) (f (argBest (fun i j => lt2 (f i) (f j)) k)) = false
  | 0, i, h => by
    have : i = 0 := by omega
    subst this
    show lt2 (f 0) (f 0) = false
    unfold lt2; rw [if_pos rfl]; exact decide_eq_false (by omega)
  | k + 1, i, h => by
    have ih := argBest_min f k
    have e : argBest (fun i j => lt2 (f i) (f j)) (k + 1) = if lt2 (f (k + 1)) (f (argBest (fun i j => lt2 (f i) (f j)) k)) = true then k + 1 else argBest (fun i j => lt2 (f i) (f j)) k := rfl
    rw [e]
    have key : ∀ {p q r : Int × Int}, lt2 p q = true → lt2 r q = false → lt2 r p = false := by
      intro p q r h1 h2
      have a := lt2_iff.mp h1
      have b : ¬ (r.1 < q.1 ∨ (r.1 = q.1 ∧ r.2 < q.2)) := fun z => by rw [lt2_iff.mpr z] at h2; cases h2
      cases c : lt2 r p with
      | false => rfl
      | true => have := lt2_iff.mp c; omega
    by_cases c : lt2 (f (k + 1)) (f (argBest (fun i j => lt2 (f i) (f j)) k)) = true
    · rw [if_pos c]
      by_cases hi : i = k + 1
      · rw [hi]; unfold lt2; rw [if_pos rfl]; exact decide_eq_false (by omega)
      · exact key c (ih i (by omega))
    · rw [if_neg c]
      by_cases hi : i = k + 1
      · rw [hi]; simpa using c
      · exact ih i (by omega)
theorem kV_of_is {P : Program} {w : World} {k : Key} {v : Value} (h : (mixKind P w).is k v = true) : RelV (kV k) v := by
  rcases keyIs_shape (show keyIs k v = true from h) with ⟨i, t, rfl, rfl⟩ | ⟨x, t, rfl, rfl⟩
  · exact ⟨t, rfl⟩
  · exact ⟨t, rfl⟩
theorem vals_of_get : ∀ {xs : List V} {us : List Value}, xs.length = us.length → (∀ (i : Nat) x v, xs[i]? = some x → us[i]? = some v → RelV x v) → Vals xs us
  | [], [], _, _ => .nil
  | [], _ :: _, h, _ => by simp at h
  | _ :: _, [], h, _ => by simp at h
  | x :: xs, u :: us, h, f => .cons (f 0 x u rfl rfl) (vals_of_get (by simpa using h) fun i y v e1 e2 => f (i + 1) y v e1 e2)
section
variable {X : Cx}
theorem boot_min' : bootBuiltins "min" = some (.builtin "min") := by decide +kernel
def rMinP : List V → Hp → VK → Prop := fun xs H Q => ∃ p vs ps, xs = [.ref p] ∧ H p = some (.lst vs) ∧ PairsAt H vs ps ∧ ps ≠ [] ∧ ∀ v q, PairAt H v q → q ∈ ps → (∀ r ∈ ps, lt2 r q = false) → Q v H
theorem call_minP (hc : X.calm = true) (hu : X.A.units + 1 < cLine) : CallR X (.builtin "min") rMinP := by
  rintro pins s σ H xs us Q I r ⟨p, vs, ps, rfl, hp, hb, hne, q⟩
  obtain ⟨u, rfl, ru⟩ := vals1 r
  cases (show u = Value.ref p from ru)
  obtain ⟨its, rv, hl⟩ := lstAt I hp
  have hlt : p < s.heap.objs.size := by obtain ⟨_, e, _⟩ := hl; exact Heap.lt_size e
  have hlen : its.length = ps.length := by rw [← rv.length]; exact paired_len hb
  have hpos : 0 < ps.length := List.length_pos_iff.mpr hne
  have item : ∀ i v, its[i]? = some v → ∃ x, vs[i]? = some x ∧ RelV x v ∧ PairAt H x (ps.getD i (0, 0)) ∧ ps.getD i (0, 0) ∈ ps := by
    intro i v hv
    have hi : i < its.length := by
      rcases Nat.lt_or_ge i its.length with h | h
      · exact h
      · rw [List.getElem?_eq_none h] at hv; cases hv
    have hvs : i < vs.length := by rw [rv.length]; exact hi
    obtain ⟨u2, e2, r2⟩ := rv.get (i := i) (x := vs[i]) (List.getElem?_eq_getElem hvs)
    rw [hv] at e2; cases e2
    obtain ⟨b, eb, fb⟩ := paired_get hb (i := i) (x := vs[i]) (List.getElem?_eq_getElem hvs)
    have ep : ps.getD i (0, 0) = b := by simp [List.getD, eb]
    rw [ep]
    exact ⟨vs[i], List.getElem?_eq_getElem hvs, r2, fb, List.mem_of_getElem? eb⟩
  refine call_minK (wpAny_pyIter_list hl ?_)
  refine ⟨s.heap.objs.size, [s.heap.objs.size, p], [s.heap.objs.size], its.toArray.size, _, _, fun i j => lt2 (ps.getD i (0, 0)) (ps.getD j (0, 0)), rfl, Walks.list (A := X.A.in1) (I.ok.hd hc) _ p (Nat.ne_of_lt hlt) its.toArray,
    ⟨⟨_, Heap.get?_push_size _ rfl, rfl, rfl⟩, hl.push _⟩, ?_, by rw [List.size_toArray]; omega, ?_, fun b o e => Heap.get?_push_of_some _ e, by rw [Heap.size_push]; omega, ?_, fun v h' tk hP hk => ?_⟩
  · intro b hbm
    rw [Heap.size_push]
    rcases List.mem_cons.mp hbm with e | e
    · rw [e]; exact Nat.lt_succ_self _
    · rw [List.mem_singleton.mp e]; exact Nat.lt_succ_of_lt hlt
  · intro b hbm
    rw [List.mem_singleton.mp hbm]
    cases e : s.heap.get? s.heap.objs.size with
    | none => rfl
    | some o => exact absurd (Heap.lt_size e) (Nat.lt_irrefl _)
  · intro i j vi vj s' Q' E' hPi hPj hk hQ
    obtain ⟨x, ex, rx, ⟨a, ea, ha⟩, _⟩ := item i vi (by simpa using hPi)
    obtain ⟨y, ey, ry, ⟨b, eb, hb'⟩, _⟩ := item j vj (by simpa using hPj)
    rw [ea] at rx
    rw [eb] at ry
    cases (show vi = Value.ref a from rx)
    cases (show vj = Value.ref b from ry)
    obtain ⟨i1, r1, p1⟩ := tupAt I ha
    obtain ⟨i2, r2, p2⟩ := tupAt I hb'
    have up : ∀ {c : Addr} {ar : Array Value}, IsTup s.heap c ar → IsTup s'.heap c ar := fun ⟨o, ho, hx⟩ => ⟨o, hk _ _ ho, hx⟩
    have n1 : IntsAre i1.toArray.toList [(ps.getD i (0, 0)).1, (ps.getD i (0, 0)).2] := intsAre_of (ns := [(ps.getD i (0, 0)).1, (ps.getD i (0, 0)).2]) r1
    have n2 : IntsAre i2.toArray.toList [(ps.getD j (0, 0)).1, (ps.getD j (0, 0)).2] := intsAre_of (ns := [(ps.getD j (0, 0)).1, (ps.getD j (0, 0)).2]) r2
    exact HT.lt_tupInts (up p1) (up p2) n1 n2 hu (by rw [lexLt2]; exact hQ)
  · have hbest := argBest_le (fun i j => lt2 (ps.getD i (0, 0)) (ps.getD j (0, 0))) (its.toArray.size - 1)
    obtain ⟨x, ex, rx, hx, hm⟩ := item _ v (by simpa using hP)
    refine ⟨x, H, I.kept (keptI hk), rx, q x _ hx hm fun r hr => ?_⟩
    obtain ⟨i, hi, e⟩ := List.mem_iff_getElem.mp hr
    have e' : ps.getD i (0, 0) = r := by simp [List.getD, hi, e]
    rw [← e']
    exact argBest_min (fun i => ps.getD i (0, 0)) _ i (by first | omega | (rw [List.size_toArray]; omega))
theorem call_listD (hc : X.calm = true) : CallR X (.type "list") (fun xs H Q => ∃ p kvs, xs = [.ref p] ∧ H p = some (.dK kvs) ∧ ∀ l, H l = none → Q (.ref l) (upd H l (.lst (kvs.map fun kv => kV kv.1)))) := by
  rintro pins s σ H xs us Q I r ⟨p, kvs, rfl, hp, q⟩
  obtain ⟨u, rfl, ru⟩ := vals1 r
  cases (show u = Value.ref p from ru)
  obtain ⟨hz, hs, vs, kv, dd⟩ := dk_of I.hok hp
  obtain ⟨ep, da⟩ := dd.dictAt
  have hkl := kv.length
  refine PySem.W.kdl_call (PySem.W.kdl_dict hs) (I.ok.hd hc) da (by omega) fun h' tk acc' c' hk hD hacc => ?_
  refine ⟨.ref s.heap.objs.size, _, I.laid (t' := tk) hk (Nat.le_refl _) (show ObjOk X.prog X.w _ h' _ (.lst (kvs.map fun kv => kV kv.1)) from ⟨by rw [List.length_map]; exact hz, acc'.toList, c', ?_, by simpa using hD⟩), rfl, q _ (I.hok.fresh (Nat.le_refl _))⟩
  refine vals_of_get (by rw [List.length_map, hkl, Array.length_toList]; exact hacc.1.symm) fun i x v e1 e2 => ?_
  obtain ⟨k, y, e3, e4⟩ := hacc.2 i v (by rw [← Array.getElem?_toList]; exact e2)
  rw [List.getElem?_map] at e1
  have ek := congrArg (fun l => l[i]?) kv.keys
  simp only [List.getElem?_map, e3] at ek
  cases ek2 : kvs[i]? with
  | none => rw [ek2] at e1; cases e1
  | some kk =>
    rw [ek2] at e1 ek
    cases e1
    have ek' : kk.1 = k := by simpa using ek
    show RelV (kV kk.1) v
    rw [ek']
    exact kV_of_is e4
end
end Ph
set_option Elab.async false
set_option linter.all false
set_option maxRecDepth 100000
namespace Ph
open PySem PySem.Spec L2
open PyProof.Rows hiding St
abbrev pK (aL aB aP : Addr) (n : Int) : List (Key × V) := [(Sum.inr "labels", .ref aL), (Sum.inr "bags", .ref aB), (Sum.inr "past", .ref aP), (Sum.inr "ages", .int n)]
def bagK : Nat → List V → List (Key × V)
  | _, [] => []
  | i, u :: r => (Sum.inl (i : Int), u) :: bagK (i + 1) r
theorem bagK_len : ∀ (us : List V) (i : Nat), (bagK i us).length = us.length
  | [], _ => rfl
  | _ :: r, i => by rw [bagK, List.length_cons, List.length_cons, bagK_len r]
theorem key_ne {i j : Nat} (h : i ≠ j) : ¬ (Sum.inl (i : Int) : Key) = Sum.inl (j : Int) := fun z => h (by have := Sum.inl.inj z; omega)
theorem bagK_get : ∀ (us : List V) (i j : Nat), i ≤ j → valV (bagK i us) (Sum.inl (j : Int)) = us[j - i]?
  | [], i, j, _ => by simp [bagK, valV]
  | u :: r, i, j, h => by
    rw [bagK]
    by_cases e : i = j
    · subst e; rw [valV_pos rfl]; simp
    · rw [valV_neg (key_ne e), bagK_get r (i + 1) j (by omega), show j - i = (j - (i + 1)) + 1 by omega]; rfl
theorem bagK_mapN : ∀ (us : List V) (i j : Nat) (v : V), j < i → ((bagK i us).map fun kv => if kv.1 = Sum.inl (j : Int) then (kv.1, v) else kv) = bagK i us
  | [], _, _, _, _ => rfl
  | u :: r, i, j, v, h => by
    rw [bagK, List.map_cons, if_neg (key_ne (by omega)), bagK_mapN r (i + 1) j v (by omega)]
theorem bagK_mapS : ∀ (us : List V) (i j : Nat) (v : V), i ≤ j → ((bagK i us).map fun kv => if kv.1 = Sum.inl (j : Int) then (kv.1, v) else kv) = bagK i (us.set (j - i) v)
  | [], _, _, _, _ => rfl
  | u :: r, i, j, v, h => by
    rw [bagK, List.map_cons]
    by_cases e : i = j
    · subst e; rw [if_pos rfl, bagK_mapN r (i + 1) i v (by omega), Nat.sub_self]; rfl
    · rw [if_neg (key_ne e), bagK_mapS r (i + 1) j v (by omega), show j - i = (j - (i + 1)) + 1 by omega]; rfl
theorem bagK_set {us : List V} {j : Nat} {v : V} (h : j < us.length) : putK (bagK 0 us) (Sum.inl (j : Int)) v = bagK 0 (us.set j v) := by
  unfold putK
  rw [valV_any, bagK_get us 0 j (Nat.zero_le _), Nat.sub_zero, List.getElem?_eq_getElem h, if_pos (show (some us[j]).isSome = true from rfl), bagK_mapS us 0 j v (Nat.zero_le _), Nat.sub_zero]
theorem bagK_snoc : ∀ (us : List V) (i : Nat) (v : V), bagK i us ++ [(Sum.inl ((i + us.length : Nat) : Int), v)] = bagK i (us ++ [v])
  | [], i, v => rfl
  | u :: r, i, v => by
    have := bagK_snoc r (i + 1) v
    rw [bagK, List.cons_append, List.cons_append, bagK, ← this, List.length_cons, show i + (r.length + 1) = i + 1 + r.length by omega]
theorem bagK_new {us : List V} {v : V} : putK (bagK 0 us) (Sum.inl (us.length : Int)) v = bagK 0 (us ++ [v]) := by
  rw [putK_new v (by rw [bagK_get us 0 us.length (Nat.zero_le _)]; simp), ← bagK_snoc us 0 v, Nat.zero_add]
theorem bagK_keys : ∀ (us : List V) (i : Nat), (bagK i us).map (fun kv => kV kv.1) = (List.range' i us.length).map fun k : Nat => V.int k
  | [], _ => rfl
  | u :: r, i => by rw [bagK, List.map_cons, bagK_keys r (i + 1), List.length_cons, List.range'_succ]; rfl
structure Sp1 where
  l : Addr
  b : Addr
  w : Wd
  p : Pn
def adS : List Sp1 → List Addr
  | [] => []
  | s :: r => s.l :: s.b :: adS r
theorem adS_mem {b : Addr} : ∀ {ss : List Sp1}, b ∈ adS ss → ∃ s ∈ ss, b = s.l ∨ b = s.b
  | s :: r, h => by
    rcases List.mem_cons.mp h with e | h
    · exact ⟨s, List.mem_cons_self, .inl e⟩
    · rcases List.mem_cons.mp h with e | h
      · exact ⟨s, List.mem_cons_self, .inr e⟩
      · obtain ⟨t, ht, z⟩ := adS_mem h
        exact ⟨t, List.mem_cons_of_mem _ ht, z⟩
theorem mem_adS {s : Sp1} : ∀ {ss : List Sp1}, s ∈ ss → s.l ∈ adS ss ∧ s.b ∈ adS ss
  | t :: r, h => by
    rcases List.mem_cons.mp h with e | h
    · subst e; exact ⟨List.mem_cons_self, List.mem_cons_of_mem _ List.mem_cons_self⟩
    · exact ⟨List.mem_cons_of_mem _ (List.mem_cons_of_mem _ (mem_adS h).1), List.mem_cons_of_mem _ (List.mem_cons_of_mem _ (mem_adS h).2)⟩
structure PA where
  d : Addr
  aL : Addr
  aB : Addr
  aP : Addr
  ss : List Sp1
def PA.mu (a : PA) (x : List Sp1) : List Addr := a.d :: a.aP :: a.aB :: adS (x ++ a.ss)
def PA.ws (a : PA) : List (Wd × Pn) := a.ss.map fun s => (s.w, s.p)
def labV (lb : List Nat) : List V := lb.map fun n : Nat => V.int n
def BagAt (H : Hp) (M : List Addr) (u : V) (b : List (Int × Int)) : Prop := ∃ y xs, u = .ref y ∧ y ∉ M ∧ H y = some (.lst xs) ∧ PairsAt H xs b
def SnAt (H : Hp) (M : List Addr) (l b : Addr) (p : Pn) : Prop := H l = some (.lst (labV p.lb)) ∧ ∃ us, H b = some (.dK (bagK 0 us)) ∧ Paired (BagAt H M) us p.bg
def TpAt (H : Hp) (v : V) (s : Sp1) : Prop := ∃ q, v = .ref q ∧ H q = some (.tup [.str (wdS s.w), .ref s.l, .ref s.b])
structure PLAt (H0 H : Hp) (a : PA) (x : List Sp1) (n : Nat) (p : Pn) : Prop where
  od : H a.d = some (.dK (pK a.aL a.aB a.aP (n : Int)))
  sn : SnAt H (a.mu x) a.aL a.aB p
  nl : a.aL ∉ a.mu x
  pa : ∃ vs, H a.aP = some (.lst vs) ∧ Paired (TpAt H) vs a.ss.reverse
  sp : ∀ s ∈ x ++ a.ss, SnAt H (a.mu x) s.l s.b s.p
  nd : (a.mu x).Nodup
  fr : ∀ b ∈ a.mu x, H0 b = none
  sm : Same H0 H
section
variable {H0 H H' : Hp} {a : PA} {x : List Sp1} {n : Nat} {p : Pn} {M M' : List Addr} {y l b : Addr} {o : HO}
theorem bag_to (hk : ∀ y xs, y ∉ M → H y = some (.lst xs) → y ∉ M' ∧ H' y = some (.lst xs)) (tp : Tups H H') {u : V} {c : List (Int × Int)} (h : BagAt H M u c) : BagAt H' M' u c := by
  obtain ⟨z, xs, e, h1, h2, h3⟩ := h
  exact ⟨z, xs, e, (hk z xs h1 h2).1, (hk z xs h1 h2).2, h3.mono tp⟩
theorem SnAt.to (h : SnAt H M l b p) (hl : H' l = H l) (hb : H' b = H b) (hk : ∀ y xs, y ∉ M → H y = some (.lst xs) → y ∉ M' ∧ H' y = some (.lst xs)) (tp : Tups H H') : SnAt H' M' l b p := by
  obtain ⟨h1, us, h2, h3⟩ := h
  exact ⟨by rw [hl]; exact h1, us, by rw [hb]; exact h2, Paired.imp' (fun _ _ z => bag_to hk tp z) h3⟩
theorem SnAt.same (s : Same H H') (h : SnAt H M l b p) : SnAt H' M l b p := by
  obtain ⟨h1, us, h2, h3⟩ := h
  exact ⟨s _ _ h1, us, s _ _ h2, Paired.imp' (fun _ _ z => bag_to (fun y xs m e => ⟨m, s _ _ e⟩) (.of s) z) h3⟩
theorem tps_mono (m : Tups H H') {vs : List V} {ss : List Sp1} (h : Paired (TpAt H) vs ss) : Paired (TpAt H') vs ss := Paired.imp' (fun _ _ ⟨q, e, z⟩ => ⟨q, e, m _ _ z⟩) h
theorem PLAt.same (s : Same H H') (A : PLAt H0 H a x n p) : PLAt H0 H' a x n p := by
  obtain ⟨od, sn, nl, ⟨vs, pa, pt⟩, sp, nd, fr, sm⟩ := A
  exact ⟨s _ _ od, sn.same s, nl, ⟨vs, s _ _ pa, tps_mono (.of s) pt⟩, fun t ht => (sp t ht).same s, nd, fr, sm.trans s⟩
theorem PLAt.there (A : PLAt H0 H a x n p) (hy : y ∈ a.mu x) : ∃ o, H y = some o ∧ ∀ xs, o ≠ .tup xs := by
  rcases List.mem_cons.mp hy with e | hy
  · rw [e]; exact ⟨_, A.od, fun _ z => by cases z⟩
  rcases List.mem_cons.mp hy with e | hy
  · obtain ⟨vs, pa, _⟩ := A.pa
    rw [e]; exact ⟨_, pa, fun _ z => by cases z⟩
  rcases List.mem_cons.mp hy with e | hy
  · obtain ⟨_, us, h2, _⟩ := A.sn
    rw [e]; exact ⟨_, h2, fun _ z => by cases z⟩
  obtain ⟨s, hs, e | e⟩ := adS_mem hy
  · rw [e]; exact ⟨_, (A.sp s hs).1, fun _ z => by cases z⟩
  · obtain ⟨_, us, h2, _⟩ := A.sp s hs
    rw [e]; exact ⟨_, h2, fun _ z => by cases z⟩
theorem PLAt.out (A : PLAt H0 H a x n p) (h : H y = none) : y ∉ a.mu x := fun z => by
  obtain ⟨o, e, _⟩ := A.there z
  rw [h] at e; cases e
theorem PLAt.tupsU (A : PLAt H0 H a x n p) (hy : y ∈ a.mu x) : Tups H (upd H y o) := fun b xs e => by
  obtain ⟨o', e', n'⟩ := A.there hy
  rw [upd_ne (fun z => by rw [z, e'] at e; exact n' xs (by injection e))]; exact e
theorem PLAt.smU (A : PLAt H0 H a x n p) (hy : y ∈ a.mu x) : Same H0 (upd H y o) := fun b u e => by
  rw [upd_ne (fun z => by rw [z, A.fr y hy] at e; cases e)]; exact A.sm b u e
theorem PLAt.snU (A : PLAt H0 H a x n p) (hy : y ∈ a.mu x) {q : Pn} (h : SnAt H (a.mu x) l b q) (hl : l ≠ y) (hb : b ≠ y) : SnAt (upd H y o) (a.mu x) l b q :=
  h.to (upd_ne hl) (upd_ne hb) (fun z xs m e => ⟨m, by rw [upd_ne (fun w => m (by rw [w]; exact hy))]; exact e⟩) (A.tupsU hy)
theorem PLAt.ne3 (A : PLAt H0 H a x n p) : a.d ≠ a.aP ∧ a.d ≠ a.aB ∧ a.aP ≠ a.aB := by
  have h := A.nd
  unfold PA.mu at h
  simp only [List.nodup_cons, List.mem_cons, not_or] at h
  exact ⟨h.1.1, h.1.2.1, h.2.1.1⟩
theorem PLAt.neS (A : PLAt H0 H a x n p) {s : Sp1} (hs : s ∈ x ++ a.ss) : (s.l ≠ a.d ∧ s.b ≠ a.d) ∧ (s.l ≠ a.aP ∧ s.b ≠ a.aP) ∧ s.l ≠ a.aB ∧ s.b ≠ a.aB := by
  have h := A.nd
  unfold PA.mu at h
  simp only [List.nodup_cons, List.mem_cons, not_or] at h
  obtain ⟨m1, m2⟩ := mem_adS hs
  exact ⟨⟨fun e => h.1.2.2 (e ▸ m1), fun e => h.1.2.2 (e ▸ m2)⟩, ⟨fun e => h.2.1.2 (e ▸ m1), fun e => h.2.1.2 (e ▸ m2)⟩, fun e => h.2.2.1 (e ▸ m1), fun e => h.2.2.1 (e ▸ m2)⟩
theorem PLAt.mD (_ : PLAt H0 H a x n p) : a.d ∈ a.mu x := List.mem_cons_self
theorem PLAt.mP (_ : PLAt H0 H a x n p) : a.aP ∈ a.mu x := List.mem_cons_of_mem _ List.mem_cons_self
theorem PLAt.mB (_ : PLAt H0 H a x n p) : a.aB ∈ a.mu x := List.mem_cons_of_mem _ (List.mem_cons_of_mem _ List.mem_cons_self)
theorem PLAt.mS (_ : PLAt H0 H a x n p) {s : Sp1} (hs : s ∈ x ++ a.ss) : s.l ∈ a.mu x ∧ s.b ∈ a.mu x :=
  ⟨List.mem_cons_of_mem _ (List.mem_cons_of_mem _ (List.mem_cons_of_mem _ (mem_adS hs).1)), List.mem_cons_of_mem _ (List.mem_cons_of_mem _ (List.mem_cons_of_mem _ (mem_adS hs).2))⟩
theorem PLAt.nL (A : PLAt H0 H a x n p) (hy : y ∈ a.mu x) : a.aL ≠ y := fun e => A.nl (e ▸ hy)
theorem PLAt.setL (A : PLAt H0 H a x n p) {l' : Addr} {lb : List Nat} (hl : H l' = some (.lst (labV lb))) (hn : l' ∉ a.mu x) : PLAt H0 (upd H a.d (.dK (pK l' a.aB a.aP (n : Int)))) { a with aL := l' } x n { p with lb := lb } := by
  obtain ⟨n1, n2, n3⟩ := A.ne3
  obtain ⟨vs, pa, pt⟩ := A.pa
  have h2 := A.snU (o := .dK (pK l' a.aB a.aP (n : Int))) A.mD A.sn (A.nL A.mD) (Ne.symm n2)
  exact ⟨upd_same, ⟨(upd_ne (fun e : l' = a.d => hn (by rw [e]; exact A.mD))).trans hl, h2.2⟩, hn, ⟨vs, by rw [upd_ne (Ne.symm n1)]; exact pa, tps_mono (A.tupsU A.mD) pt⟩, fun s hs => A.snU A.mD (A.sp s hs) (A.neS hs).1.1 (A.neS hs).1.2, A.nd, A.fr, A.smU A.mD⟩
theorem PLAt.setN (A : PLAt H0 H a x n p) (m : Nat) : PLAt H0 (upd H a.d (.dK (pK a.aL a.aB a.aP (m : Int)))) a x m p := by
  obtain ⟨n1, n2, n3⟩ := A.ne3
  obtain ⟨vs, pa, pt⟩ := A.pa
  exact ⟨upd_same, A.snU A.mD A.sn (A.nL A.mD) (Ne.symm n2), A.nl, ⟨vs, by rw [upd_ne (Ne.symm n1)]; exact pa, tps_mono (A.tupsU A.mD) pt⟩, fun s hs => A.snU A.mD (A.sp s hs) (A.neS hs).1.1 (A.neS hs).1.2, A.nd, A.fr, A.smU A.mD⟩
theorem bags_upd (A : PLAt H0 H a x n p) (hy : y ∈ a.mu x) {us : List V} {bg : List (List (Int × Int))} (h : Paired (BagAt H (a.mu x)) us bg) : Paired (BagAt (upd H y o) (a.mu x)) us bg :=
  Paired.imp' (fun _ _ z => bag_to (fun w xs m e => ⟨m, by rw [upd_ne (fun q => m (by rw [q]; exact hy))]; exact e⟩) (A.tupsU hy) z) h
theorem PLAt.setB (A : PLAt H0 H a x n p) {us : List V} {bg : List (List (Int × Int))} (h : Paired (BagAt H (a.mu x)) us bg) : PLAt H0 (upd H a.aB (.dK (bagK 0 us))) a x n { p with bg := bg } := by
  obtain ⟨n1, n2, n3⟩ := A.ne3
  obtain ⟨vs, pa, pt⟩ := A.pa
  exact ⟨by rw [upd_ne n2]; exact A.od, ⟨by rw [upd_ne (A.nL A.mB)]; exact A.sn.1, us, upd_same, bags_upd A A.mB h⟩, A.nl, ⟨vs, by rw [upd_ne n3]; exact pa, tps_mono (A.tupsU A.mB) pt⟩, fun s hs => A.snU A.mB (A.sp s hs) (A.neS hs).2.2.1 (A.neS hs).2.2.2, A.nd, A.fr, A.smU A.mB⟩
theorem PLAt.loose (A : PLAt H0 H a [] n p) {nb l' : Addr} {w : Wd} {us : List V} (hl : H l' = none) (hb : H nb = some (.dK (bagK 0 us))) (hu : Paired (BagAt H (a.mu [])) us p.bg) (hn : nb ∉ a.mu []) (h0 : H0 nb = none) (h0l : H0 l' = none) :
    PLAt H0 (upd H l' (.lst (labV p.lb))) a [⟨l', nb, w, p⟩] n p := by
  have sm : Same H (upd H l' (.lst (labV p.lb))) := same_new hl _
  have ml : l' ∉ a.mu [] := A.out hl
  have nlb : l' ≠ nb := fun e => by rw [e, hb] at hl; cases hl
  have hk : ∀ y xs, y ∉ a.mu [] → H y = some (.lst xs) → y ∉ a.mu [⟨l', nb, w, p⟩] ∧ (upd H l' (.lst (labV p.lb))) y = some (.lst xs) := fun y xs m e => by
    refine ⟨fun z => ?_, sm _ _ e⟩
    have z' : y ∈ a.d :: a.aP :: a.aB :: l' :: nb :: adS a.ss := z
    have m' : y ∉ a.d :: a.aP :: a.aB :: adS a.ss := m
    simp only [List.mem_cons, not_or] at z' m'
    have h1 : y ≠ l' := fun q => by rw [q, hl] at e; cases e
    have h2 : y ≠ nb := fun q => by rw [q, hb] at e; cases e
    rcases z' with z | z | z | z | z | z
    · exact m'.1 z
    · exact m'.2.1 z
    · exact m'.2.2.1 z
    · exact h1 z
    · exact h2 z
    · exact m'.2.2.2 z
  have st : ∀ {l b : Addr} {q : Pn}, SnAt H (a.mu []) l b q → SnAt (upd H l' (.lst (labV p.lb))) (a.mu [⟨l', nb, w, p⟩]) l b q := fun {l b q} h => by
    obtain ⟨h1, us', h2, h3⟩ := h
    exact ⟨sm _ _ h1, us', sm _ _ h2, Paired.imp' (fun _ _ z => bag_to hk (.of sm) z) h3⟩
  obtain ⟨vs, pa, pt⟩ := A.pa
  refine ⟨sm _ _ A.od, st A.sn, (hk _ _ A.nl A.sn.1).1, ⟨vs, sm _ _ pa, tps_mono (.of sm) pt⟩, fun s hs => ?_, ?_, fun b hb' => ?_, A.sm.trans sm⟩
  · rcases List.mem_cons.mp (show s ∈ (⟨l', nb, w, p⟩ : Sp1) :: a.ss from hs) with e | e
    · subst e
      exact ⟨upd_same, us, sm _ _ hb, Paired.imp' (fun _ _ z => bag_to hk (.of sm) z) hu⟩
    · exact st (A.sp s e)
  · have nd : (a.d :: a.aP :: a.aB :: adS a.ss).Nodup := A.nd
    show (a.d :: a.aP :: a.aB :: l' :: nb :: adS a.ss).Nodup
    have ml' : l' ∉ a.d :: a.aP :: a.aB :: adS a.ss := ml
    have hn' : nb ∉ a.d :: a.aP :: a.aB :: adS a.ss := hn
    simp only [List.nodup_cons, List.mem_cons, not_or] at nd ml' hn' ⊢
    exact ⟨⟨nd.1.1, nd.1.2.1, fun e => ml'.1 e.symm, fun e => hn'.1 e.symm, nd.1.2.2⟩, ⟨nd.2.1.1, fun e => ml'.2.1 e.symm, fun e => hn'.2.1 e.symm, nd.2.1.2⟩, ⟨fun e => ml'.2.2.1 e.symm, fun e => hn'.2.2.1 e.symm, nd.2.2.1⟩, ⟨nlb, ml'.2.2.2⟩, hn'.2.2.2, nd.2.2.2⟩
  · have z : b ∈ a.d :: a.aP :: a.aB :: l' :: nb :: adS a.ss := hb'
    have f : ∀ b ∈ a.d :: a.aP :: a.aB :: adS a.ss, H0 b = none := A.fr
    simp only [List.mem_cons] at z f
    rcases z with z | z | z | z | z | z
    · exact f b (.inl z)
    · exact f b (.inr (.inl z))
    · exact f b (.inr (.inr (.inl z)))
    · rw [z]; exact h0l
    · rw [z]; exact h0
    · exact f b (.inr (.inr (.inr z)))
theorem PLAt.push {s : Sp1} (A : PLAt H0 H a [s] n p) {vs : List V} {v : V} (hv : H a.aP = some (.lst vs)) (ht : TpAt H v s) : PLAt H0 (upd H a.aP (.lst (vs ++ [v]))) { a with ss := s :: a.ss } [] n p := by
  obtain ⟨n1, n2, n3⟩ := A.ne3
  obtain ⟨vs', pa, pt⟩ := A.pa
  rw [hv] at pa
  cases pa
  refine ⟨by rw [upd_ne n1]; exact A.od, A.snU A.mP A.sn (A.nL A.mP) (Ne.symm n3), A.nl, ⟨_, upd_same, ?_⟩, fun t hs => A.snU A.mP (A.sp t hs) (A.neS hs).2.1.1 (A.neS hs).2.1.2, A.nd, A.fr, A.smU A.mP⟩
  show Paired _ (vs ++ [v]) (s :: a.ss).reverse
  rw [List.reverse_cons]
  exact paired_app (tps_mono (A.tupsU A.mP) pt) (.cons (by obtain ⟨q, e, z⟩ := ht; exact ⟨q, e, A.tupsU A.mP _ _ z⟩) .nil)
theorem PLAt.pop {s : Sp1} {r : List Sp1} (A : PLAt H0 H a [] n p) (hs : a.ss = s :: r) {vs : List V} {v : V} (hv : H a.aP = some (.lst (vs ++ [v]))) : PLAt H0 (upd H a.aP (.lst vs)) { a with ss := r } [s] n p ∧ TpAt H v s := by
  obtain ⟨d, aL, aB, aP, ss⟩ := a
  cases (show ss = s :: r from hs)
  obtain ⟨n1, n2, n3⟩ := A.ne3
  obtain ⟨vs', pa, pt⟩ := A.pa
  rw [hv] at pa
  cases pa
  obtain ⟨cs', y, e, hc', hx⟩ := paired_snoc_inv (show Paired (TpAt H) (vs ++ [v]) (r.reverse ++ [s]) from by rw [← List.reverse_cons]; exact pt)
  obtain ⟨e1, e2⟩ := List.append_inj' e rfl
  cases e1
  cases e2
  exact ⟨⟨by rw [upd_ne n1]; exact A.od, A.snU A.mP A.sn (A.nL A.mP) (Ne.symm n3), A.nl, ⟨_, upd_same, tps_mono (A.tupsU A.mP) hc'⟩, fun t hs => A.snU A.mP (A.sp t hs) (A.neS hs).2.1.1 (A.neS hs).2.1.2, A.nd, A.fr, A.smU A.mP⟩, hx⟩
theorem PLAt.neX {s : Sp1} (A : PLAt H0 H a [s] n p) : s.l ≠ s.b ∧ ∀ t ∈ a.ss, (t.l ≠ s.l ∧ t.b ≠ s.l) ∧ t.l ≠ s.b ∧ t.b ≠ s.b := by
  have h : (a.d :: a.aP :: a.aB :: s.l :: s.b :: adS a.ss).Nodup := A.nd
  simp only [List.nodup_cons, List.mem_cons, not_or] at h
  refine ⟨h.2.2.2.1.1, fun t ht => ?_⟩
  obtain ⟨m1, m2⟩ := mem_adS ht
  exact ⟨⟨fun e => h.2.2.2.1.2 (e ▸ m1), fun e => h.2.2.2.1.2 (e ▸ m2)⟩, fun e => h.2.2.2.2.1 (e ▸ m1), fun e => h.2.2.2.2.1 (e ▸ m2)⟩
theorem PLAt.looL {s : Sp1} (A : PLAt H0 H a [s] n p) (lb : List Nat) : PLAt H0 (upd H s.l (.lst (labV lb))) a [⟨s.l, s.b, s.w, { s.p with lb := lb }⟩] n p := by
  have hs : s ∈ [s] ++ a.ss := List.mem_cons_self
  obtain ⟨vs, pa, pt⟩ := A.pa
  obtain ⟨⟨d1, _⟩, ⟨d2, _⟩, d3, _⟩ := A.neS hs
  have my := (A.mS hs).1
  obtain ⟨x1, x2⟩ := A.neX
  refine ⟨by rw [upd_ne (Ne.symm d1)]; exact A.od, A.snU my A.sn (A.nL my) (Ne.symm d3), A.nl, ⟨vs, by rw [upd_ne (Ne.symm d2)]; exact pa, tps_mono (A.tupsU my) pt⟩, fun t ht => ?_, A.nd, A.fr, A.smU my⟩
  rcases List.mem_cons.mp (show t ∈ (⟨s.l, s.b, s.w, { s.p with lb := lb }⟩ : Sp1) :: a.ss from ht) with e | e
  · subst e
    obtain ⟨_, us, h2, h3⟩ := A.sp s hs
    exact ⟨upd_same, us, by rw [upd_ne (Ne.symm x1)]; exact h2, bags_upd A my h3⟩
  · exact A.snU my (A.sp t (List.mem_cons_of_mem _ e)) (x2 t e).1.1 (x2 t e).1.2
theorem PLAt.looB {s : Sp1} (A : PLAt H0 H a [s] n p) {us : List V} {bg : List (List (Int × Int))} (h : Paired (BagAt H (a.mu [s])) us bg) : PLAt H0 (upd H s.b (.dK (bagK 0 us))) a [⟨s.l, s.b, s.w, { s.p with bg := bg }⟩] n p := by
  have hs : s ∈ [s] ++ a.ss := List.mem_cons_self
  obtain ⟨vs, pa, pt⟩ := A.pa
  obtain ⟨⟨_, d1⟩, ⟨_, d2⟩, _, d3⟩ := A.neS hs
  have my := (A.mS hs).2
  obtain ⟨x1, x2⟩ := A.neX
  refine ⟨by rw [upd_ne (Ne.symm d1)]; exact A.od, A.snU my A.sn (A.nL my) (Ne.symm d3), A.nl, ⟨vs, by rw [upd_ne (Ne.symm d2)]; exact pa, tps_mono (A.tupsU my) pt⟩, fun t ht => ?_, A.nd, A.fr, A.smU my⟩
  rcases List.mem_cons.mp (show t ∈ (⟨s.l, s.b, s.w, { s.p with bg := bg }⟩ : Sp1) :: a.ss from ht) with e | e
  · subst e
    exact ⟨by rw [upd_ne x1]; exact (A.sp s hs).1, us, upd_same, bags_upd A my h⟩
  · exact A.snU my (A.sp t (List.mem_cons_of_mem _ e)) (x2 t e).2.1 (x2 t e).2.2
theorem PLAt.back {s : Sp1} (A : PLAt H0 H a [s] n p) {o : HO} : PLAt H0 (upd (upd H a.d o) a.d (.dK (pK s.l s.b a.aP (n : Int)))) ⟨a.d, s.l, s.b, a.aP, a.ss⟩ [] n s.p := by
  have hs : s ∈ [s] ++ a.ss := List.mem_cons_self
  obtain ⟨n1, n2, n3⟩ := A.ne3
  obtain ⟨vs, pa, pt⟩ := A.pa
  have h : (a.d :: a.aP :: a.aB :: s.l :: s.b :: adS a.ss).Nodup := A.nd
  simp only [List.nodup_cons, List.mem_cons, not_or] at h
  have sub : ∀ y, y ∈ (⟨a.d, s.l, s.b, a.aP, a.ss⟩ : PA).mu [] → y ∈ a.mu [s] := fun y hy => by
    have hy' : y ∈ a.d :: a.aP :: s.b :: adS a.ss := hy
    show y ∈ a.d :: a.aP :: a.aB :: s.l :: s.b :: adS a.ss
    simp only [List.mem_cons] at hy' ⊢
    rcases hy' with z | z | z | z
    · exact .inl z
    · exact .inr (.inl z)
    · exact .inr (.inr (.inr (.inr (.inl z))))
    · exact .inr (.inr (.inr (.inr (.inr z))))
  have un : ∀ {b : Addr}, b ≠ a.d → (upd (upd H a.d o) a.d (.dK (pK s.l s.b a.aP (n : Int)))) b = H b := fun e => by rw [upd_ne e, upd_ne e]
  have tp : Tups H (upd (upd H a.d o) a.d (.dK (pK s.l s.b a.aP (n : Int)))) := fun b xs e => by
    have hb : b ≠ a.d := fun z => by rw [z, A.od] at e; cases e
    rw [un hb]; exact e
  have st : ∀ {l b : Addr} {q : Pn}, SnAt H (a.mu [s]) l b q → l ≠ a.d → b ≠ a.d → SnAt (upd (upd H a.d o) a.d (.dK (pK s.l s.b a.aP (n : Int)))) ((⟨a.d, s.l, s.b, a.aP, a.ss⟩ : PA).mu []) l b q := fun {l b q} z hl hb =>
    z.to (un hl) (un hb) (fun y xs m e => ⟨fun w => m (sub y w), by rw [un (fun w => m (by rw [w]; exact A.mD))]; exact e⟩) tp
  refine ⟨upd_same, st (A.sp s hs) (A.neS hs).1.1 (A.neS hs).1.2, fun z => ?_, ⟨vs, (un (Ne.symm n1)).trans pa, tps_mono tp pt⟩, fun t ht => st (A.sp t (List.mem_cons_of_mem _ ht)) (A.neS (List.mem_cons_of_mem _ ht)).1.1 (A.neS (List.mem_cons_of_mem _ ht)).1.2, ?_, fun b hb => A.fr b (sub b hb), fun b u e => ?_⟩
  · have z' : s.l ∈ a.d :: a.aP :: s.b :: adS a.ss := z
    simp only [List.mem_cons] at z'
    rcases z' with z | z | z | z
    · exact (A.neS hs).1.1 z
    · exact (A.neS hs).2.1.1 z
    · exact h.2.2.2.1.1 z
    · exact h.2.2.2.1.2 z
  · show (a.d :: a.aP :: s.b :: adS a.ss).Nodup
    simp only [List.nodup_cons, List.mem_cons, not_or]
    exact ⟨⟨h.1.1, h.1.2.2.2.1, h.1.2.2.2.2⟩, ⟨h.2.1.2.2.1, h.2.1.2.2.2⟩, h.2.2.2.2.1, h.2.2.2.2.2⟩
  · have hb : b ≠ a.d := fun z => by rw [z, A.fr a.d A.mD] at e; cases e
    rw [un hb]; exact A.sm b u e
theorem PLAt.gL (A : PLAt H0 H a x n p) : DGet H a.d (.str "labels") (some (.ref a.aL)) := DGet.k (k := Sum.inr "labels") A.od
theorem PLAt.gB (A : PLAt H0 H a x n p) : DGet H a.d (.str "bags") (some (.ref a.aB)) := DGet.k (k := Sum.inr "bags") A.od
theorem PLAt.gP (A : PLAt H0 H a x n p) : DGet H a.d (.str "past") (some (.ref a.aP)) := DGet.k (k := Sum.inr "past") A.od
theorem PLAt.gN (A : PLAt H0 H a x n p) : DGet H a.d (.str "ages") (some (.int n)) := DGet.k (k := Sum.inr "ages") A.od
theorem putL {aL aB aP v : Addr} {m : Int} : putK (pK aL aB aP m) (Sum.inr "labels") (.ref v) = pK v aB aP m := by kernel_rfl
theorem putB {aL aB aP v : Addr} {m : Int} : putK (pK aL aB aP m) (Sum.inr "bags") (.ref v) = pK aL v aP m := by kernel_rfl
theorem putN {aL aB aP : Addr} {m j : Int} : putK (pK aL aB aP m) (Sum.inr "ages") (.int j) = pK aL aB aP j := by kernel_rfl
theorem dputL {d aL aB aP : Addr} {m : Int} (e : H d = some (.dK (pK aL aB aP m))) (v : Addr) : DPut H d (.str "labels") (.ref v) (upd H d (.dK (pK v aB aP m))) := by
  have := DPut.k (k := Sum.inr "labels") (v := .ref v) e (by show 4 < sizeLine; decide)
  rw [putL] at this; exact this
theorem dputB {d aL aB aP : Addr} {m : Int} (e : H d = some (.dK (pK aL aB aP m))) (v : Addr) : DPut H d (.str "bags") (.ref v) (upd H d (.dK (pK aL v aP m))) := by
  have := DPut.k (k := Sum.inr "bags") (v := .ref v) e (by show 4 < sizeLine; decide)
  rw [putB] at this; exact this
theorem dputN {d aL aB aP : Addr} {m : Int} (e : H d = some (.dK (pK aL aB aP m))) (j : Int) : DPut H d (.str "ages") (.int j) (upd H d (.dK (pK aL aB aP j))) := by
  have := DPut.k (k := Sum.inr "ages") (v := .int j) e (by show 4 < sizeLine; decide)
  rw [putN] at this; exact this
theorem PLAt.pL (A : PLAt H0 H a x n p) (v : Addr) : DPut H a.d (.str "labels") (.ref v) (upd H a.d (.dK (pK v a.aB a.aP (n : Int)))) := dputL A.od v
theorem PLAt.pN (A : PLAt H0 H a x n p) (m : Int) : DPut H a.d (.str "ages") (.int m) (upd H a.d (.dK (pK a.aL a.aB a.aP m))) := dputN A.od m
theorem pK_new {aL aB aP : Addr} : mergeK [] (pK aL aB aP 0) = pK aL aB aP ((0 : Nat) : Int) := by kernel_rfl
end
theorem bag_get {H : Hp} {b : Addr} {us : List V} {k : Nat} (h : H b = some (.dK (bagK 0 us))) : DGet H b (.int k) us[k]? := by
  have := DGet.k (k := Sum.inl (k : Int)) h
  rw [bagK_get us 0 k (Nat.zero_le _), Nat.sub_zero] at this
  exact this
theorem bag_set {H : Hp} {b : Addr} {us : List V} {k : Nat} {v : V} (h : H b = some (.dK (bagK 0 us))) (hk : k < us.length) (hl : us.length ≤ 900) : DPut H b (.int k) v (upd H b (.dK (bagK 0 (us.set k v)))) := by
  have := DPut.k (k := Sum.inl (k : Int)) (v := v) h (by rw [bagK_len]; exact szl (by omega))
  rw [bagK_set hk] at this
  exact this
theorem bag_new {H : Hp} {b : Addr} {us : List V} {v : V} (h : H b = some (.dK (bagK 0 us))) (hl : us.length ≤ 900) : DPut H b (.int us.length) v (upd H b (.dK (bagK 0 (us ++ [v])))) := by
  have := DPut.k (k := Sum.inl (us.length : Int)) (v := v) h (by rw [bagK_len]; exact szl (by omega))
  rw [bagK_new] at this
  exact this
end Ph
set_option Elab.async false
set_option linter.all false
set_option maxRecDepth 100000
namespace Ph
open PySem PySem.Spec L2
open PyProof.Rows hiding St
structure Bare2 (mg : Str → Option Value) : Prop where
  min : mg "min" = none
theorem at_lab {lb : List Nat} {i : Nat} (h : i < lb.length) : atI (labV lb) (i : Int) = some (.int (lb.getD i 0 : Nat)) := atI_nat (by
  unfold labV
  rw [List.getElem?_map, List.getElem?_eq_getElem h]; simp [List.getD, h])
theorem labV_snoc (lb : List Nat) (k : Nat) : labV (lb ++ [k]) = labV lb ++ [.int (k : Int)] := by unfold labV; rw [List.map_append]; rfl
theorem labV_len (lb : List Nat) : (labV lb).length = lb.length := List.length_map _
theorem Pn.pad_lenB (p : Pn) (k : Nat) : (p.pad k).bg.length = p.bg.length + k := by
  induction k with
  | zero => rfl
  | succ k ih => show ((p.pad k).bg ++ [_]).length = _; rw [List.length_append, ih]; rfl
def spStart : Sp := fun vs H Q _ => vs = [] ∧ ∀ a H', PLAt H H' a [] 0 ⟨[], []⟩ → a.ss = [] → Q (.ref a.d) H'
inductive IspChange (vs : List V) (H : Hp) (Q : VK) : Prop
  | mk : ∀ H0 a n p w, (vs = [.ref a.d, .str (wdS w)]) → (PLAt H0 H a [] n p) → (p.bg.length ≤ 64) → (p.lb.length ≤ 64) → (a.ss.length ≤ 64) → (∀ s H', s.w = w → s.p = p → PLAt H0 H' { a with ss := s :: a.ss } [] n p → (∀ b o, H b = some o → b ≠ a.aP → H' b = some o) → Q .non H') → IspChange vs H Q
def spChange : Sp := fun vs H Q _ => IspChange vs H Q
inductive IspBack (vs : List V) (H : Hp) (Q : VK) : Prop
  | mk : ∀ H0 a n p, (vs = [.ref a.d]) → (PLAt H0 H a [] n p) → (p.lb.length ≤ 64) → (a.ss.length ≤ 64) → ((∀ s r, a.ss = s :: r → s.p.lb.length ≤ p.lb.length ∧ s.p.bg.length = s.p.lb.length)) → ((a.ss = [] → ∀ H', PLAt H0 H' a [] n p → Q .non H')) → ((∀ s r a' H', a.ss = s :: r → a'.d = a.d → a'.ss = r → PLAt H0 H' a' [] n (s.p.pad (p.lb.length - s.p.lb.length)) → Q (.str (wdS s.w)) H')) → IspBack vs H Q
def spBack : Sp := fun vs H Q _ => IspBack vs H Q
inductive IspJoining (vs : List V) (H : Hp) (Q : VK) : Prop
  | mk : ∀ H0 a n p, ∀ i j : Nat, (vs = [.ref a.d, .int i, .int j]) → (PLAt H0 H a [] n p) → (i < p.lb.length) → (j < p.lb.length) → (p.lab i < p.bg.length) → (p.lab j < p.bg.length) → (p.bg.length ≤ 64) → (p.lb.length ≤ 64) → (a.ss.length ≤ 64) → ((p.bag (p.lab i)).length ≤ 64) → ((p.bag (p.lab j)).length ≤ 64) → ((p.lab i = p.lab j → ∀ H', PLAt H0 H' a [] n p → Q (.bl false) H')) → ((p.lab i ≠ p.lab j → ∀ s a' H', s.w = .join → s.p = p → a'.d = a.d → a'.ss = s :: a.ss → PLAt H0 H' a' [] n ⟨p.lb.map fun l => if l = p.lab j then p.lab i else l, (p.bg.set (p.lab i) (p.bag (p.lab i) ++ p.bag (p.lab j))).set (p.lab j) []⟩ → Q (.bl true) H')) → IspJoining vs H Q
def spJoining : Sp := fun vs H Q _ => IspJoining vs H Q
inductive IspOnPile (vs : List V) (H : Hp) (Q : VK) : Prop
  | mk : ∀ H0 a n p v d, ∀ i : Nat, (vs = [.ref a.d, v]) → (DeedAt H v d) → (d.named = [(i : Int)]) → (PLAt H0 H a [] n p) → (i < p.lb.length) → (p.lab i < p.bg.length) → (p.bg.length ≤ 64) → (p.lb.length ≤ 64) → (a.ss.length ≤ 64) → ((p.bag (p.lab i)).length ≤ 62) → ((∀ r, d = .put i r → ∀ s a' b H', s.w = .put → s.p = p → a'.d = a.d → a'.ss = s :: a.ss → b.Perm (p.bag (p.lab i) ++ [(r, (n : Int))]) → PLAt H0 H' a' [] (n + 1) { p with bg := p.bg.set (p.lab i) b } → Q (.int n) H')) → (((∀ r, d ≠ .put i r) → p.bag (p.lab i) = [] → ∀ H', PLAt H0 H' a [] n p → Q .non H')) → ((d = .take i → ∀ q v s a' H', q ∈ p.bag (p.lab i) → (∀ r ∈ p.bag (p.lab i), lt2 r q = false) → s.w = .take → s.p = p → a'.d = a.d → a'.ss = s :: a.ss → PLAt H0 H' a' [] n { p with bg := p.bg.set (p.lab i) ((p.bag (p.lab i)).filter fun x => decide (x ≠ q)) } → PairAt H' v q → Q v H')) → ((d = .least i → ∀ q v H', q ∈ p.bag (p.lab i) → (∀ r ∈ p.bag (p.lab i), lt2 r q = false) → PLAt H0 H' a [] n p → PairAt H' v q → Q v H')) → IspOnPile vs H Q
def spOnPile : Sp := fun vs H Q _ => IspOnPile vs H Q
inductive IspPlainly (vs : List V) (H : Hp) (Q : VK) : Prop
  | mk : ∀ H0 a h v d p, (vs = [.ref a.d, v]) → (DeedAt H v d) → (PLAt H0 H a [] h.puts p) → (h.Fine) → (h.puts ≤ 62) → (RelC h.puts h.s h.past p a.ws) → (∀ v' a' p' H', a'.d = a.d → PLAt H0 H' a' [] (step h d).1.puts p' → RelC (step h d).1.puts (step h d).1.s (step h d).1.past p' a'.ws → AnsAt H' v' (step h d).2.1 → Q v' H') → IspPlainly vs H Q
def spPlainly : Sp := fun vs H Q _ => IspPlainly vs H Q
theorem bag_at {H : Hp} {M : List Addr} {us : List V} {bg : List (List (Int × Int))} (h : Paired (BagAt H M) us bg) {i : Nat} (hi : i < bg.length) : ∃ y xs, us[i]? = some (.ref y) ∧ y ∉ M ∧ H y = some (.lst xs) ∧ PairsAt H xs (bg.getD i []) := by
  obtain ⟨u, e, y, xs, rfl, h1, h2, h3⟩ := paired_get' h (i := i) (y := bg[i]) (List.getElem?_eq_getElem hi)
  refine ⟨y, xs, e, h1, h2, ?_⟩
  have : bg.getD i [] = bg[i] := by simp [List.getD, hi]
  rw [this]; exact h3
section
variable {X : Cx}
theorem ps_retB {e : Expr} {te : TE} {pos : Pos} (he : PEB X e te) : PSB X (.Return (some e) pos) (tRet te) := ⟨ps_ret he.h⟩
theorem pssB_one {st : Stmt} {t : TS} (h : PSB X st t) : PSsB X [st] t := ⟨pss_one h.h⟩
end
theorem Own.hasB {P : Program} {w : World} {K : PySem.W.Frag} {mg : Str → Option Value} {base : Heap} {x : Str} {st : Stmt} {N ps : List Str} {k : Nat} {sp : Sp} (O : Own K mg x st) (S : FnScope N ps (defScope st))
    (hb : ∀ (kV doc pm : Value) (an : Option Addr) (cdv ct : Value) (us : List Value), us.length = ps.length → bindArgs (PySem.W.fnOf x x (defArgs st) (defBody st) (defScope st) .none kV doc pm an cdv ct) ⟨us, []⟩ = pure (ps.zip us))
    (len : ∀ vs H Q E, sp vs H Q E → vs.length = ps.length)
    (body : ∀ (f : Addr) (cdv : Value) (A : Around) (outer : List Env) (s : Shared) (H : Hp) (vs : List V) (Q : VK) (E : XK), Room k (A.deeper (envOfC x (defScope st) s.heap.objs.size f cdv)) → sp vs H Q E →
      ∃ t, PSsB (cxOf CX0 P w K mg base N x (defScope st) f cdv A outer s H E).nox (defBody st) t ∧ t { nx := fun _ H' => Q .non H', rt := Q } (start N vs) H) :
    Has P w K mg base (k + 1) x ps sp :=
  O.has S hb len fun f cdv A outer s H vs Q E hr h => let ⟨t, a, b⟩ := body f cdv A outer s H vs Q E hr h; ⟨t, a.h, b⟩
end Ph
set_option Elab.async false
set_option linter.all false
set_option maxRecDepth 100000
namespace Ph
open PySem PySem.Spec L2
open PyProof.Rows hiding St
theorem kit_bb (K : PySem.W.Frag) : PySem.W.kitOne K (.type "bool") (.type "bool") = some true := rfl
theorem kit_sb (K : PySem.W.Frag) : PySem.W.kitOne K (.type "str") (.type "bool") = some false := by kernel_rfl
theorem kit_ss (K : PySem.W.Frag) : PySem.W.kitOne K (.type "str") (.type "str") = some true := rfl
theorem kit_tb (K : PySem.W.Frag) : PySem.W.kitOne K (.type "tuple") (.type "bool") = some false := by kernel_rfl
theorem kit_ts (K : PySem.W.Frag) : PySem.W.kitOne K (.type "tuple") (.type "str") = some false := by kernel_rfl
theorem kit_it (K : PySem.W.Frag) : PySem.W.kitOne K (.type "int") (.type "tuple") = some false := by kernel_rfl
inductive IspTold (vs : List V) (H : Hp) (Q : VK) : Prop
  | mk : ∀ v v' an, (vs = [v, v']) → (AnsAt H v an) → (AnsAt H v' an) → (∀ H', Same H H' → Q (.bl true) H') → IspTold vs H Q
def spTold : Sp := fun vs H Q _ => IspTold vs H Q
end Ph
set_option Elab.async false
set_option linter.all false
namespace Ph
open PySem
def Rise (xs : Array Nat) : Prop := xs.toList.Pairwise (· < ·)
theorem Rise.lt {xs : Array Nat} (h : Rise xs) {i k : Nat} (hik : i < k) (hk : k < xs.size) : xs[i]'(Nat.lt_trans hik hk) < xs[k] := by
  have := List.pairwise_iff_getElem.mp h i k (by rw [Array.length_toList]; exact Nat.lt_trans hik hk) (by rw [Array.length_toList]; exact hk) hik
  simpa using this
theorem below_go {xs : Array Nat} {j : Nat} (R : Rise xs) : ∀ (fuel lo hi : Nat), lo ≤ hi → hi ≤ xs.size → hi - lo ≤ fuel → (∀ i (h : i < xs.size), i < lo → xs[i] < j) → (∀ i (h : i < xs.size), hi ≤ i → j ≤ xs[i]) →
    SetTable.below.go xs j fuel lo hi ≤ xs.size ∧ (∀ i (h : i < xs.size), i < SetTable.below.go xs j fuel lo hi → xs[i] < j) ∧ (∀ i (h : i < xs.size), SetTable.below.go xs j fuel lo hi ≤ i → j ≤ xs[i])
  | 0, lo, hi, h1, h2, h3, a, b => by
    have e : lo = hi := by omega
    unfold SetTable.below.go
    exact ⟨by omega, a, fun i h z => b i h (by omega)⟩
  | fuel + 1, lo, hi, h1, h2, h3, a, b => by
    unfold SetTable.below.go
    by_cases c : lo < hi
    · rw [if_pos c]
      have hm : (lo + hi) / 2 < xs.size := by omega
      have eg : xs.getD ((lo + hi) / 2) j = xs[(lo + hi) / 2] := by simp [Array.getD, hm]
      dsimp only
      rw [eg]
      by_cases d : xs[(lo + hi) / 2] < j
      · rw [if_pos d]
        refine below_go R fuel _ _ (by omega) h2 (by omega) (fun i h z => ?_) b
        by_cases e : i = (lo + hi) / 2
        · subst e; exact d
        · exact Nat.lt_trans (R.lt (show i < (lo + hi) / 2 by omega) hm) d
      · rw [if_neg d]
        refine below_go R fuel _ _ (by omega) (by omega) (by omega) a (fun i h z => ?_)
        by_cases e : i = (lo + hi) / 2
        · subst e; omega
        · have := R.lt (show (lo + hi) / 2 < i by omega) h
          omega
    · rw [if_neg c]
      exact ⟨by omega, a, fun i h z => b i h (by omega)⟩
theorem below_ok {xs : Array Nat} (R : Rise xs) (j : Nat) : SetTable.below xs j ≤ xs.size ∧ (∀ i (h : i < xs.size), i < SetTable.below xs j → xs[i] < j) ∧ (∀ i (h : i < xs.size), SetTable.below xs j ≤ i → j ≤ xs[i]) := by
  unfold SetTable.below
  exact below_go R _ _ _ (Nat.zero_le _) (Nat.le_refl _) (by omega) (fun i _ z => absurd z (Nat.not_lt_zero _)) (fun i h z => absurd h (by omega))
theorem below_eq {xs : Array Nat} (R : Rise xs) {j k : Nat} (hk : k ≤ xs.size) (a : ∀ i (h : i < xs.size), i < k → xs[i] < j) (b : ∀ i (h : i < xs.size), k ≤ i → j ≤ xs[i]) : SetTable.below xs j = k := by
  obtain ⟨h1, h2, h3⟩ := below_ok R j
  by_cases c : SetTable.below xs j < k
  · have l : SetTable.below xs j < xs.size := by omega
    have := a _ l c
    have := h3 _ l (Nat.le_refl _)
    omega
  · by_cases d : k < SetTable.below xs j
    · have l : k < xs.size := by omega
      have := b _ l (Nat.le_refl _)
      have := h2 _ l d
      omega
    · omega
theorem below_zero {xs : Array Nat} (R : Rise xs) : SetTable.below xs 0 = 0 := below_eq R (Nat.zero_le _) (fun i _ z => absurd z (Nat.not_lt_zero _)) (fun i h _ => Nat.zero_le _)
theorem below_next {xs : Array Nat} (R : Rise xs) {i : Nat} (h : i < xs.size) : SetTable.below xs (xs[i] + 1) = i + 1 := by
  refine below_eq R (by omega) (fun k hk z => ?_) (fun k hk z => ?_)
  · by_cases e : k = i
    · subst e; omega
    · have := R.lt (show k < i by omega) h; omega
  · have := R.lt (show i < k by omega) hk; omega
theorem Rise.insert {xs : Array Nat} (R : Rise xs) {j : Nat} (hn : xs[SetTable.below xs j]? ≠ some j) : Rise (SetTable.insertAt xs (SetTable.below xs j) j) := by
  obtain ⟨h1, h2, h3⟩ := below_ok R j
  unfold Rise
  rw [SetTable.toList_insertAt]
  have R' : xs.toList.Pairwise (· < ·) := R
  refine List.pairwise_append.mpr ⟨R'.sublist (List.take_sublist _ _), List.pairwise_cons.mpr ⟨fun y hy => ?_, R'.sublist (List.drop_sublist _ _)⟩, fun x hx y hy => ?_⟩
  · obtain ⟨i, hi, e⟩ := List.getElem_of_mem hy
    rw [List.getElem_drop] at e
    have hi' : SetTable.below xs j + i < xs.size := by rw [List.length_drop, Array.length_toList] at hi; omega
    have e' : xs[SetTable.below xs j + i] = y := by rw [← e, Array.getElem_toList]
    have le := h3 _ hi' (by omega)
    rw [e'] at le
    by_cases z : y = j
    · exfalso
      by_cases i0 : i = 0
      · subst i0
        refine hn ?_
        rw [Array.getElem?_eq_getElem (by omega)]
        exact congrArg some (e'.trans z)
      · have l0 : SetTable.below xs j < xs.size := by omega
        have := R.lt (show SetTable.below xs j < SetTable.below xs j + i by omega) hi'
        have := h3 _ l0 (Nat.le_refl _)
        omega
    · omega
  · obtain ⟨i, hi, e⟩ := List.getElem_of_mem hx
    rw [List.getElem_take] at e
    have hi' : i < xs.size ∧ i < SetTable.below xs j := by rw [List.length_take, Array.length_toList] at hi; omega
    have lx : x < j := by rw [← e, Array.getElem_toList]; exact h2 _ hi'.1 hi'.2
    rcases List.mem_cons.mp hy with z | z
    · rw [z]; exact lx
    · obtain ⟨k, hk, e2⟩ := List.getElem_of_mem z
      rw [List.getElem_drop] at e2
      have hk' : SetTable.below xs j + k < xs.size := by rw [List.length_drop, Array.length_toList] at hk; omega
      have : j ≤ y := by rw [← e2, Array.getElem_toList]; exact h3 _ hk' (by omega)
      omega
theorem probe_empty {t : SetTable} {f : Nat → Int} {h : Int} : ∀ (fuel : Nat) (p : SetTable.Probe) {j : Nat} {d : Option Nat}, SetTable.probe.go t f h fuel p = some (.empty j d) → t.slot j = .empty
  | 0, p, j, d, e => by unfold SetTable.probe.go at e; cases e
  | fuel + 1, p, j, d, e => by
    unfold SetTable.probe.go at e
    cases c : t.slot p.j with
    | empty => rw [c] at e; dsimp only at e; injection e with e; injection e with e1 e2; rw [← e1]; exact c
    | dummy => rw [c] at e; exact probe_empty fuel _ e
    | live i =>
      rw [c] at e
      dsimp only at e
      split at e
      · injection e with e; cases e
      · exact probe_empty fuel _ e
theorem probe_nodummy {t : SetTable} {f : Nat → Int} {h : Int} (hd : t.dummies = #[]) : ∀ (fuel : Nat) (p : SetTable.Probe) {j : Nat} {d : Option Nat}, p.dummy = none → SetTable.probe.go t f h fuel p = some (.empty j d) → d = none
  | 0, p, j, d, _, e => by unfold SetTable.probe.go at e; cases e
  | fuel + 1, p, j, d, hp, e => by
    unfold SetTable.probe.go at e
    cases c : t.slot p.j with
    | empty => rw [c] at e; dsimp only at e; injection e with e; injection e with e1 e2; rw [← e2]; exact hp
    | dummy =>
      exfalso
      unfold SetTable.slot at c
      rw [hd] at c
      dsimp only at c
      split at c
      · cases c
      · simp [SetTable.has] at c
    | live i =>
      rw [c] at e
      dsimp only at e
      split at e
      · injection e with e; cases e
      · refine probe_nodummy hd fuel _ ?_ e
        unfold SetTable.advance
        split
        · exact hp
        · exact hp
theorem slot_free {t : SetTable} {j : Nat} (h : t.slot j = .empty) : t.place[SetTable.below t.place j]? ≠ some j := fun e => by
  unfold SetTable.slot at h
  dsimp only at h
  rw [e] at h
  simp at h
structure TabOk (led : Bool) (t : SetTable) : Prop where
  led : t.led = led
  dum : t.dummies = #[]
  ris : t.plain = true → Rise t.place
theorem TabOk.fresh (led : Bool) : TabOk led (.fresh 0 0 led) := ⟨rfl, rfl, fun _ => List.Pairwise.nil⟩
theorem TabOk.standIn {led : Bool} {t : SetTable} (h : TabOk led t) (n : Nat) : TabOk led (t.standIn n) := ⟨h.led, rfl, fun e => by cases (show false = true from e)⟩
theorem TabOk.noplain {led : Bool} {t : SetTable} (h : TabOk led t) : TabOk led { t with plain := false } := ⟨h.led, h.dum, fun e => by cases (show false = true from e)⟩
theorem TabOk.lay {led : Bool} {t : SetTable} (T : TabOk led t) (es : Array (Int × Value)) (h : Int) (x : Value) : TabOk led (layNew t es h x).2.1 := by
  unfold layNew
  cases c : t.freeSlot h with
  | none => exact T.standIn _
  | some r =>
    obtain ⟨slot, was⟩ := r
    dsimp only
    unfold SetTable.freeSlot at c
    split at c
    · rename_i j d e
      unfold SetTable.probe at e
      have z1 := probe_empty _ _ e
      have z2 := probe_nodummy T.dum _ _ rfl e
      subst z2
      injection c with c
      have es' : slot = j := by injection c with c1 c2; exact c1.symm
      subst es'
      have T' : TabOk led (t.put slot).1 := by
        unfold SetTable.put
        dsimp only
        refine ⟨T.led, ?_, fun hp => (T.ris hp).insert (slot_free z1)⟩
        show (if SetTable.has t.dummies slot = true then _ else t.dummies) = _
        rw [T.dum]
        simp [SetTable.has]
      unfold SetTable.orStandIn
      split
      · exact T'
      · exact T'.standIn _
    · cases c
theorem TabOk.relay {led : Bool} {t : SetTable} (T : TabOk led t) (es : Array (Int × Value)) (wanted : Nat) : TabOk led (relayAll t es wanted).2.1 := by
  unfold relayAll
  cases c : t.relaid (es.map (·.1)) wanted with
  | none => exact T.standIn _
  | some r =>
    obtain ⟨t', order⟩ := r
    dsimp only
    split
    · unfold SetTable.relaid SetTable.laid at c
      cases c2 : SetTable.layClean (SetTable.sizeAbove wanted - 1) (es.map (·.1)) with
      | none => rw [c2] at c; cases c
      | some owner =>
        rw [c2] at c
        have c3 := Option.some.inj c
        injection c3 with c4 c5
        subst c4
        refine ⟨T.led, rfl, fun _ => ?_⟩
        show List.Pairwise (· < ·) (List.map _ _)
        rw [List.pairwise_map]
        refine List.Pairwise.filterMap _ (fun a a' hlt b hb b' hb' => ?_) List.pairwise_lt_range
        simp only [Option.map_eq_some_iff] at hb hb'
        obtain ⟨_, _, rfl⟩ := hb
        obtain ⟨_, _, rfl⟩ := hb'
        exact hlt
    · exact T.standIn _
theorem erase_consP {α : Type} : ∀ {l : List α} {i : Nat} (h : i < l.length), (l[i] :: l.eraseIdx i).Perm l
  | a :: r, 0, _ => List.Perm.refl _
  | a :: r, i + 1, h => by
    have := erase_consP (l := r) (i := i) (by simpa using h)
    show (r[i]'(by simpa using h) :: a :: r.eraseIdx i).Perm (a :: r)
    exact (List.Perm.swap _ _ _).trans (List.Perm.cons _ this)
theorem pick_go {α : Type} (next : Nat → Nat) : ∀ (fuel k : Nat) (left : List α) (out : Array α), left.length ≤ fuel → (pickOrder.go next fuel k left out).toList.Perm (out.toList ++ left)
  | 0, k, left, out, h => by
    have : left = [] := List.length_eq_zero_iff.mp (by omega)
    subst this
    unfold pickOrder.go; simp
  | fuel + 1, k, left, out, h => by
    unfold pickOrder.go
    cases left with
    | nil => simp
    | cons a r =>
      have hl : next k % (a :: r).length < (a :: r).length := Nat.mod_lt _ (by simp)
      rw [List.getElem?_eq_getElem hl]
      dsimp only
      refine (pick_go next fuel (k + 1) _ _ ?_).trans ?_
      · rw [List.length_eraseIdx_of_lt hl]; simp at h ⊢; omega
      · rw [Array.toList_push, List.append_assoc]
        refine List.Perm.append_left _ ?_
        exact erase_consP hl
theorem pick_perm {α : Type} (next : Nat → Nat) (xs : Array α) : (pickOrder next xs).toList.Perm xs.toList := by
  unfold pickOrder
  refine (pick_go next _ _ _ _ (by simp)).trans ?_
  simp
end Ph
set_option Elab.async false
set_option linter.all false
set_option maxRecDepth 100000
namespace Ph
open PySem
def TabAt (h : Heap) (a : Addr) (led : Bool) : Prop := ∃ o es ep t, h.get? a = some o ∧ o.data = .set es ep t ∧ TabOk led t
section
variable {prog : Program} {w : World} {K : Type} [DecidableEq K] {knd : KeyKind prog w K} {A : Around} {E : Value → Shared → Prop} {s : Shared} {led : Bool}
theorem tab_tail {g : Bool → Sem Unit} (hg : ∀ (b : Bool) (s₁ : Shared) (Q' : Unit → Shared → Prop), Q' () s₁ → wpAny (model prog w) A (g b) Q' E s₁) {a : Addr} {o : Obj} {es : Array (Int × Value)} {ep : Nat} {t : SetTable} (ho : s.heap.get? a = some o) (hx : o.ExactSet) (hd : o.data = .set es ep t)
    {fs : Array (Int × Value)} {u : SetTable} {S' : K → Bool} (he : ElemsOf knd fs.toList) (hm : ∀ k', S' k' = true ↔ ∃ e ∈ fs.toList, knd.is k' e.2 = true) (hb : fs.size < scanBound) (hf : u.fits fs.size = true) (hu : TabOk led u) {was : Bool} {R : Option Bool → Shared → Prop}
    (k : ∀ h', Heap.SameBut a s.heap h' → h'.SetOf knd a S' fs.size → TabAt h' a led → R (some true) { s with heap := h' }) :
    wpAny (model prog w) A (storeSet a fs u >>= fun _ => if (!was && u.tooFull) = true then (g (relayAll u fs (SetTable.grown fs.size)).2.2 >>= fun _ => storeSet a (relayAll u fs (SetTable.grown fs.size)).1 (relayAll u fs (SetTable.grown fs.size)).2.1 >>= fun _ => pure (some true)) else pure (some true)) R E s := by
  obtain ⟨g1, S1⟩ := SetOf_store (knd := knd) ho hx hd he hm hb hf
  have b1 : Heap.SameBut a s.heap (s.heap.update a (Obj.putSet fs u)) := .update ..
  refine wpAny_bind (wpAny_storeSet_of ho hd ?_ (fits_of_scanBound hb))
  by_cases c : (!was && u.tooFull) = true
  · rw [if_pos c]
    have p := relayAll_perm u fs (SetTable.grown fs.size)
    have z := relayAll_fits u fs (SetTable.grown fs.size)
    have T2 := hu.relay fs (SetTable.grown fs.size)
    generalize relayAll u fs (SetTable.grown fs.size) = r at p z T2 ⊢
    obtain ⟨gs, v, gave⟩ := r
    have l : gs.size = fs.size := by have := p.length_eq; simpa using this
    have b2 : gs.size < scanBound := by rw [l]; exact hb
    have m2 : ∀ k', S' k' = true ↔ ∃ e ∈ gs.toList, knd.is k' e.2 = true := fun k' => (hm k').trans ⟨fun ⟨e, x, y⟩ => ⟨e, p.mem_iff.mpr x, y⟩, fun ⟨e, x, y⟩ => ⟨e, p.mem_iff.mp x, y⟩⟩
    obtain ⟨g2, S2⟩ := SetOf_store (knd := knd) g1 hx rfl (he.perm p) m2 b2 z
    refine wpAny_bind (hg _ _ _ (wpAny_bind (wpAny_storeSet_of g1 rfl ?_ (fits_of_scanBound b2))))
    rw [l] at S2
    exact wpAny_pure (k _ (b1.trans (.update ..)) S2 ⟨_, _, _, _, g2, rfl, T2⟩)
  · rw [if_neg c]
    exact wpAny_pure (k _ b1 S1 ⟨_, _, _, _, g1, rfl, hu⟩)
theorem add_tab {a : Addr} {S : K → Bool} {n : Nat} {k : K} {x : Value} {Q : Bool → Shared → Prop} (hk : knd.is k x = true) (hx : x.scannable = true) (hS : s.heap.SetOf knd a S n) (hT : TabAt s.heap a led) (hr : n + 1 < scanBound)
    (h : ∀ h', Heap.SameBut a s.heap h' → h'.SetOf knd a (fun k' => S k' || decide (k' = k)) (if S k then n else n + 1) → TabAt h' a led → Q (!S k) { s with heap := h' }) :
    wpAny (model prog w) A (setAddHashed a x (knd.hash k)) Q E s := by
  have hS0 := hS
  obtain ⟨o, es, ep, t, g0, ex, d0, el, hm, hb, hf, rfl⟩ := hS
  have T0 : TabOk led t := by
    obtain ⟨o', es', ep', t', g', d', T'⟩ := hT
    rw [g0] at g'; cases g'; rw [d0] at d'; cases d'; exact T'
  unfold setAddHashed setAddHashedIn
  refine wpAny_holding (wpAny_bind (wpAny_setState_of g0 d0 hf ?_))
  dsimp only
  rw [byScan_of hx hb el, if_pos rfl]
  unfold setAddByScan
  refine wpAny_bind (wpAny_bind (wpAny_rule (wpAny_bind (wpAny_setScan_of hk g0 d0 hf el ?_))))
  cases q : List.findIdx? (fun e => knd.is k e.2) es.toList with
  | some j =>
    obtain ⟨hj, pj, _⟩ := List.findIdx?_eq_some_iff_getElem.mp q
    have Sk : S k = true := (hm k).mpr ⟨_, List.getElem_mem hj, pj⟩
    have r := h s.heap (.refl a s.heap)
    rw [Sk] at r
    refine wpAny_pure (wpAny_pure (r ⟨o, es, ep, t, g0, ex, d0, el, fun k' => ?_, hb, hf, rfl⟩ hT))
    rw [← hm k', Bool.or_eq_true, decide_eq_true_eq]
    exact ⟨fun z => z.elim id (fun e => by rw [e]; exact Sk), .inl⟩
  | none =>
    have Sk : S k = false := by
      cases c : S k with
      | false => rfl
      | true =>
        obtain ⟨e, he, hp⟩ := (hm k).mp c
        have z := List.findIdx?_eq_none_iff.mp q e he
        rw [hp] at z; cases z
    have p := layNew_perm t es (knd.hash k) x
    have z := layNew_fits t es (knd.hash k) x
    have T1 := T0.lay es (knd.hash k) x
    dsimp only
    generalize layNew t es (knd.hash k) x = L at p z T1 ⊢
    obtain ⟨fs, u, was, gave⟩ := L
    dsimp only at p z T1 ⊢
    rw [Array.toList_push] at p
    have l : fs.size = es.size + 1 := by have := p.length_eq; simpa using this
    have e1 := (el.push hk hx).perm p
    have m1 := mem_push_iff hk hm p
    have b1 : fs.size < scanBound := by rw [l]; exact hr
    have fin : ∀ h', Heap.SameBut a s.heap h' → h'.SetOf knd a (fun k' => S k' || decide (k' = k)) fs.size → TabAt h' a led → Q true { s with heap := h' } := fun h' y y1 y2 => by
      have r := h h' y
      rw [Sk] at r; rw [l] at y1
      exact r y1 y2
    have gw : ∀ (b : Bool) (s₁ : Shared) (Q' : Unit → Shared → Prop), Q' () s₁ → wpAny (model prog w) A (match b with | true => rule "set.scan.the-table-gave-way" | false => pure ()) Q' E s₁ := fun b s₁ Q' hq => by
      cases b
      · exact wpAny_pure hq
      · exact wpAny_rule hq
    refine wpAny_bind (gw _ _ _ ?_)
    by_cases c : u.plain = true
    · rw [if_pos c]
      refine wpAny_bind ?_
      rw [hashByValue_scannable 8 hx]
      refine wpAny_pure (tab_tail gw g0 ex d0 e1 m1 b1 (u := if _ then u else { u with plain := false }) ?_ ?_ fun h' y1 y2 y3 => wpAny_pure (fin h' y1 y2 y3))
      · split
        · exact z
        · exact SetTable.fits_plain_off z
      · split
        · exact T1
        · exact T1.noplain
    · rw [if_neg c]
      refine wpAny_bind (wpAny_pure ?_)
      rw [if_pos rfl]
      exact tab_tail gw g0 ex d0 e1 m1 b1 z T1 fun h' y1 y2 y3 => wpAny_pure (fin h' y1 y2 y3)
end
end Ph
set_option Elab.async false
set_option linter.all false
set_option maxRecDepth 100000
namespace Ph
open PySem
theorem entry_setIter : entryFor table "set.__iter__" = some Builtin.«frozenset.__iter__» := entryFor_alias (id' := "frozenset.__iter__") (by kernel_rfl) rfl (by decide +kernel) (by kernel_rfl)
theorem slot_setNext : Slot "set_iterator" "__next__" "set_iterator.__next__" := .of (owner := "set_iterator") (n := "__next__") (by rw [typeLookup_type, builtinLookup_eq_fast]; kernel_rfl) (by decide +kernel) (by decide +kernel) (by decide +kernel) (.inl (by decide +kernel)) (by rw [isSubtype_type]; kernel_rfl)
theorem entry_setNext : entryFor table "set_iterator.__next__" = some Builtin.«set_iterator.__next__» := entryFor_of_tree (by kernel_rfl)
theorem owner_setIt : Manifest.owners.lookup (String.ofList ['r', 'o', 't', 'a', 'r', 'e', 't', 'i', '_', 't', 'e', 's'].reverse) = some Manifest.sig_set_iterator := by kernel_rfl
theorem args_setNext (a : Value) : argsOk "set_iterator.__next__" ⟨[a], []⟩ := by unfold argsOk; rw [signature?_of (id := "set_iterator.__next__") (n := ['_', '_', 't', 'x', 'e', 'n', '_', '_']) (o := ['r', 'o', 't', 'a', 'r', 'e', 't', 'i', '_', 't', 'e', 's']) (by kernel_rfl) owner_setIt]; kernel_rfl
theorem slot_itIter : Slot "set_iterator" "__iter__" "set_iterator.__iter__" := .of (owner := "set_iterator") (n := "__iter__") (by rw [typeLookup_type, builtinLookup_eq_fast]; kernel_rfl) (by decide +kernel) (by decide +kernel) (by decide +kernel) (.inl (by decide +kernel)) (by rw [isSubtype_type]; kernel_rfl)
theorem entry_itIter : entryFor table "set_iterator.__iter__" = some Builtin.«dict_keyiterator.__iter__» := entryFor_alias (id' := "dict_keyiterator.__iter__") (by kernel_rfl) rfl (by decide +kernel) (by kernel_rfl)
theorem args_itIter (a : Value) : argsOk "set_iterator.__iter__" ⟨[a], []⟩ := by unfold argsOk; rw [signature?_of (id := "set_iterator.__iter__") (n := ['_', '_', 'r', 'e', 't', 'i', '_', '_']) (o := ['r', 'o', 't', 'a', 'r', 'e', 't', 'i', '_', 't', 'e', 's']) (by kernel_rfl) owner_setIt]; kernel_rfl
def SIt (h : Heap) (I : Addr) (f : Value) (i : Nat) (a : Addr) (n ep : Nat) : Prop := ∃ o, h.get? I = some o ∧ o.cls = .type "set_iterator" ∧ o.data = .fields #[f, .int i 0, .ref a, .int n 0, .int ep 0]
structure SObj (h : Heap) (a : Addr) (es : Array (Int × Value)) (ep : Nat) (t : SetTable) : Prop where
  ob : ∃ o, h.get? a = some o ∧ o.data = .set es ep t
  fit : t.fits es.size = true
def ByText (w : World) : Bool := w.params.followText "set-order"
section
variable {prog : Program} {w : World} {A : Around} {E : Value → Shared → Prop} {s : Shared} {I a q : Addr} {es : Array (Int × Value)} {ep i slot : Nat} {t : SetTable}
theorem SIt.ty {f : Value} {n : Nat} (h : SIt s.heap I f i a n ep) : s.TypeIs (.ref I) "set_iterator" := let ⟨o, ho, hc, _⟩ := h; ⟨o, ho, hc⟩
theorem pick_at {x : Int × Value} {nx : Nat} {Q : Option (Value × Nat) → Shared → Prop} (S : SObj s.heap a es ep t)
    (h : (ByText w = true ∧ (pickOrder (w.params.setOrder a ep) es)[i]? = some x ∧ nx = slot) ∨ (ByText w = false ∧ (!t.plain && decide (es.size > 1)) = false ∧ t.led = true ∧ es[SetTable.below t.place slot]? = some x ∧ t.place[SetTable.below t.place slot]?.map (· + 1) = some nx))
    (q : Q (some (x.2, nx)) s) : wpAny (model prog w) A (setNext a slot i ep) Q E s := by
  obtain ⟨⟨o, ho, hd⟩, hf⟩ := S
  unfold setNext
  refine wpAny_bind (wpAny_setState_of ho hd hf ?_)
  dsimp only
  refine wpAny_bind (m := setsByText) (wpAny_bind (wpAny_askSetting (wpAny_pure ?_)))
  rcases h with ⟨hb, hx, rfl⟩ | ⟨hb, hp, hl, hx, hn⟩
  · rw [if_pos (show (model prog w).w.params.followText "set-order" = true from hb), if_neg (by simp)]
    refine wpAny_bind ?_
    unfold setWalk
    refine wpAny_bind (wpAny_setState_of ho hd hf ?_)
    dsimp only
    refine wpAny_bind (m := setsByText) (wpAny_bind (wpAny_askSetting (wpAny_pure ?_)))
    rw [if_pos (show (model prog w).w.params.followText "set-order" = true from hb)]
    refine wpAny_bind (wpAny_askSetting (wpAny_pure (wpAny_pure ?_)))
    show Q (((pickOrder (w.params.setOrder a ep) es)[i]?).map fun e => (e.2, nx)) s
    rw [hx]; exact q
  · rw [if_neg (show ¬ ((model prog w).w.params.followText "set-order" = true) from fun z => by rw [show (model prog w).w.params.followText "set-order" = false from hb] at z; cases z)]
    refine wpAny_ite_split (fun z => absurd (show (!t.plain && decide (es.size > 1)) = true from z) (by rw [hp]; exact Bool.false_ne_true)) (fun _ => ?_)
    refine wpAny_bind (wpAny_ite_split (c := (!t.led && !es.isEmpty) = true) (fun z => absurd z (by rw [hl]; exact Bool.false_ne_true)) (fun _ => wpAny_pure ?_))
    rw [hx]
    cases c : t.place[SetTable.below t.place slot]? with
    | none => rw [c] at hn; cases hn
    | some j =>
      rw [c] at hn
      have : j + 1 = nx := Option.some.inj hn
      subst this
      exact wpAny_pure q
theorem pick_end {Q : Option (Value × Nat) → Shared → Prop} (S : SObj s.heap a es ep t)
    (h : (ByText w = true ∧ es.size ≤ i) ∨ (ByText w = false ∧ (!t.plain && decide (es.size > 1)) = false ∧ t.led = true ∧ es.size ≤ SetTable.below t.place slot))
    (q : Q none s) : wpAny (model prog w) A (setNext a slot i ep) Q E s := by
  obtain ⟨⟨o, ho, hd⟩, hf⟩ := S
  unfold setNext
  refine wpAny_bind (wpAny_setState_of ho hd hf ?_)
  dsimp only
  refine wpAny_bind (m := setsByText) (wpAny_bind (wpAny_askSetting (wpAny_pure ?_)))
  rcases h with ⟨hb, hx⟩ | ⟨hb, hp, hl, hx⟩
  · rw [if_pos (show (model prog w).w.params.followText "set-order" = true from hb), if_neg (by simp)]
    refine wpAny_bind ?_
    unfold setWalk
    refine wpAny_bind (wpAny_setState_of ho hd hf ?_)
    dsimp only
    refine wpAny_bind (m := setsByText) (wpAny_bind (wpAny_askSetting (wpAny_pure ?_)))
    rw [if_pos (show (model prog w).w.params.followText "set-order" = true from hb)]
    refine wpAny_bind (wpAny_askSetting (wpAny_pure (wpAny_pure ?_)))
    show Q (((pickOrder (w.params.setOrder a ep) es)[i]?).map fun e => (e.2, slot)) s
    have l : (pickOrder (w.params.setOrder a ep) es).size = es.size := by have := (pick_perm (w.params.setOrder a ep) es).length_eq; simpa using this
    rw [Array.getElem?_eq_none (by omega)]; exact q
  · rw [if_neg (show ¬ ((model prog w).w.params.followText "set-order" = true) from fun z => by rw [show (model prog w).w.params.followText "set-order" = false from hb] at z; cases z)]
    refine wpAny_ite_split (fun z => absurd (show (!t.plain && decide (es.size > 1)) = true from z) (by rw [hp]; exact Bool.false_ne_true)) (fun _ => ?_)
    refine wpAny_bind (wpAny_ite_split (c := (!t.led && !es.isEmpty) = true) (fun z => absurd z (by rw [hl]; exact Bool.false_ne_true)) (fun _ => wpAny_pure ?_))
    rw [Array.getElem?_eq_none (xs := es) hx]
    exact wpAny_pure q
inductive SAt (w : World) (h : Heap) (I a q : Addr) (es : Array (Int × Value)) (ep : Nat) (t : SetTable) (ord : List Value) (i : Nat) : Prop
  | text (it : SIt h I (.int 0 0) i a es.size ep) (b : ByText w = true) (o : ord = (pickOrder (w.params.setOrder a ep) es).toList.map (·.2))
  | place (slot : Nat) (it : SIt h I (.int slot 0) i a es.size ep) (b : ByText w = false) (p : (!t.plain && decide (es.size > 1)) = false) (l : t.led = true) (r : Rise t.place) (e : SetTable.below t.place slot = i) (o : ord = es.toList.map (·.2))
  | drawn (ps : List Nat) (it : SIt h I (.ref q) i a es.size ep) (ne : q ≠ I) (tq : ∃ o n, h.get? q = some o ∧ o.data = .seq (ps.map fun k : Nat => Value.int k 0).toArray n) (k : ∀ k ∈ ps, k < es.size) (l : ps.length = es.size) (o : ord = ps.map fun k => ((es[k]?).map (·.2)).getD .none)
theorem nxI {slot : Nat} {Q : Option Value → Shared → Prop} (it : SIt s.heap I (.int slot 0) i a es.size ep) (S : SObj s.heap a es ep t)
    (k : wpAny (model prog w) A.in1 (do
        match ← setNext a (slot : Int).toNat (i : Int).toNat (ep : Int).toNat with
        | some (x, next) => do
          setField (.ref I) 0 (rawInt next)
          setField (.ref I) 1 (rawInt ((i : Int) + 1))
          ret x
        | none => do setField (.ref I) 2 .none; raiseNew (← newExc (.type "StopIteration") []))
      (fun fin s' => ∃ v, fin = .done (.ret v) ∧ Q (some v) s') (fun e s' => wpAny (model prog w) A (do if ← isInstance e (.type "StopIteration") then pure none else throw e) Q E s') s) :
    wpAny (model prog w) A (pyNext (.ref I)) Q E s := by
  have ty := it.ty
  obtain ⟨o, ho, hc, hd⟩ := it
  obtain ⟨⟨oa, ha, da⟩, hf⟩ := S
  unfold pyNext
  refine wpAny_bind (wpAny_attempt (wpAny_callSpecial?_slot (name := Str.ofString "__next__") ty slot_setNext (wpAny_call_entry slot_setNext ty entry_setNext ?_ (args_setNext _))))
  unfold Builtin.«set_iterator.__next__»
  refine wpAny_bind (m := slotArgs _ _ _) (wpAny_pure (wpAny_bind (wpAny_fieldsOf ho hd ?_)))
  dsimp only
  refine wpAny_bind (wpAny_setEntries_of ha da hf ?_)
  rw [if_neg (by simp)]
  exact wpAny_mono k (fun fin s' ⟨v, e, q⟩ => ⟨v, e, wpAny_pure q⟩) (fun e s' z => z)
theorem nxR {Q : Option Value → Shared → Prop} (it : SIt s.heap I (.ref q) i a es.size ep) (S : SObj s.heap a es ep t)
    (k : wpAny (model prog w) A.in1 (do
        let some places ← seqItems? (.ref q) | unsupported "internal:set_iterator"
        match places[(i : Int).toNat]? with
        | some (.int place _) => do
          let x ← setNextDrawn a place.toNat (ep : Int).toNat
          setField (.ref I) 1 (rawInt ((i : Int) + 1))
          ret x
        | some _ => unsupported "internal:set_iterator"
        | none => do setField (.ref I) 0 (rawInt 0); setField (.ref I) 2 .none; raiseNew (← newExc (.type "StopIteration") []))
      (fun fin s' => ∃ v, fin = .done (.ret v) ∧ Q (some v) s') (fun e s' => wpAny (model prog w) A (do if ← isInstance e (.type "StopIteration") then pure none else throw e) Q E s') s) :
    wpAny (model prog w) A (pyNext (.ref I)) Q E s := by
  have ty := it.ty
  obtain ⟨o, ho, hc, hd⟩ := it
  obtain ⟨⟨oa, ha, da⟩, hf⟩ := S
  unfold pyNext
  refine wpAny_bind (wpAny_attempt (wpAny_callSpecial?_slot (name := Str.ofString "__next__") ty slot_setNext (wpAny_call_entry slot_setNext ty entry_setNext ?_ (args_setNext _))))
  unfold Builtin.«set_iterator.__next__»
  refine wpAny_bind (m := slotArgs _ _ _) (wpAny_pure (wpAny_bind (wpAny_fieldsOf ho hd ?_)))
  dsimp only
  refine wpAny_bind (wpAny_setEntries_of ha da hf ?_)
  rw [if_neg (by simp)]
  exact wpAny_mono k (fun fin s' ⟨v, e, q⟩ => ⟨v, e, wpAny_pure q⟩) (fun e s' z => z)
theorem stop_set (hh : A.handled = none) {Q : Option Value → Shared → Prop} (k : ∀ h', (∀ b o, s.heap.get? b = some o → h'.get? b = some o) → Q none { s with heap := h' }) :
    wpAny (model prog w) A.in1 (do raiseNew (← newExc (.type "StopIteration") [])) (fun fin s' => ∃ v, fin = PySem.Fin.done (.ret v) ∧ Q (some v) s') (fun e s' => wpAny (model prog w) A (do if ← isInstance e (.type "StopIteration") then pure none else throw e) Q E s') s := by
  refine wpAny_bind ?_
  simp only [newExc, newTuple]
  refine wpAny_bind (wpAny_newObj_type (wpAny_bind (m := firstArgMember _ _) (wpAny_of_eq (a := Value.none) (by first | rfl | (simp only [firstArgMember]; rfl)) (wpAny_newObj_type ?_ (by size_fits)))) (by size_fits))
  simp only [raiseNew]
  refine wpAny_bind (wpAny_handled ?_)
  rw [show A.in1.handled = none from hh]
  refine wpAny_bind (wpAny_pure (wpAny_throw ?_))
  refine wpAny_bind (wpAny_isInstance (b := true) (T := "StopIteration") ⟨_, Heap.get?_push_size _ rfl, rfl⟩ isSubtype_stop ?_)
  exact wpAny_pure (k _ fun b o e => Heap.get?_push_of_some _ (Heap.get?_push_of_some _ e))
theorem SIt.put {h : Heap} {f : Value} {n : Nat} (it : SIt h I f i a n ep) (g : Value) (j : Nat) : SIt ((h.update I (Obj.mapFields (·.setIfInBounds 0 g))).update I (Obj.mapFields (·.setIfInBounds 1 (rawInt (j : Int))))) I g j a n ep := by
  obtain ⟨o, ho, hc, hd⟩ := it
  have h1 := Heap.get?_update_self (Obj.mapFields (·.setIfInBounds 0 g)) ho (Obj.isFreed_of_fields (Obj.data_mapFields hd _))
  have d1 := Obj.data_mapFields hd (·.setIfInBounds 0 g)
  have h2 := Heap.get?_update_self (Obj.mapFields (·.setIfInBounds 1 (rawInt (j : Int)))) h1 (Obj.isFreed_of_fields (Obj.data_mapFields d1 _))
  exact ⟨_, h2, (Obj.cls_mapFields ..).trans ((Obj.cls_mapFields ..).trans hc), by rw [Obj.data_mapFields d1]; simp [rawInt]⟩
theorem SIt.put1 {h : Heap} {f : Value} {n : Nat} (it : SIt h I f i a n ep) (j : Nat) : SIt (h.update I (Obj.mapFields (·.setIfInBounds 1 (rawInt (j : Int))))) I f j a n ep := by
  obtain ⟨o, ho, hc, hd⟩ := it
  exact ⟨_, Heap.get?_update_self _ ho (Obj.isFreed_of_fields (Obj.data_mapFields hd _)), (Obj.cls_mapFields ..).trans hc, by rw [Obj.data_mapFields hd]; simp [rawInt]⟩
theorem set_item {v : Value} {ord : List Value} {Q : Option Value → Shared → Prop} (T : SAt w s.heap I a q es ep t ord i) (S : SObj s.heap a es ep t) (hv : ord[i]? = some v)
    (k : ∀ h', SAt w h' I a q es ep t ord (i + 1) → (∀ b o, b ≠ I → s.heap.get? b = some o → h'.get? b = some o) → Q (some v) { s with heap := h' }) : wpAny (model prog w) A (pyNext (.ref I)) Q E s := by
  cases T with
  | text it hb ho =>
    have it' := it.put (.int 0 0) (i + 1)
    refine nxI (slot := 0) it S ?_
    subst ho
    rw [List.getElem?_map] at hv
    obtain ⟨x, hx, rfl⟩ := Option.map_eq_some_iff.mp hv
    refine wpAny_bind (pick_at (x := x) (nx := 0) S (.inl ⟨hb, by rw [← Array.getElem?_toList]; exact hx, rfl⟩) ?_)
    obtain ⟨o, h0, hc, hd⟩ := it
    refine wpAny_bind (wpAny_setField h0 hd (by simp) (wpAny_bind (wpAny_setField (Heap.get?_update_self _ h0 (Obj.isFreed_of_fields (Obj.data_mapFields hd _))) (Obj.data_mapFields hd _) (by simp) ?_)))
    exact wpAny_pure ⟨_, rfl, k _ (.text it' hb rfl) fun b o hb e => (Heap.get?_update_other _ _ (Ne.symm hb)).trans ((Heap.get?_update_other _ _ (Ne.symm hb)).trans e)⟩
  | place slot it hb hp hl r he ho =>
    subst ho
    rw [List.getElem?_map] at hv
    obtain ⟨x, hx, rfl⟩ := Option.map_eq_some_iff.mp hv
    have hi : i < es.size := by
      have := (List.getElem?_eq_some_iff.mp hx).1
      simpa using this
    have pl : t.place.size = es.size := by
      have := S.fit
      simp only [SetTable.fits, Bool.and_eq_true, beq_iff_eq] at this
      exact this.1
    have hip : i < t.place.size := by omega
    have it' := it.put (.int (t.place[i] + 1 : Nat) 0) (i + 1)
    refine nxI (slot := slot) it S ?_
    refine wpAny_bind (pick_at (x := x) (nx := t.place[i] + 1) S (.inr ⟨hb, hp, hl, by rw [Int.toNat_natCast, he, ← Array.getElem?_toList]; exact hx, by rw [Int.toNat_natCast, he, Array.getElem?_eq_getElem hip]; rfl⟩) ?_)
    obtain ⟨o, h0, hc, hd⟩ := it
    refine wpAny_bind (wpAny_setField h0 hd (by simp) (wpAny_bind (wpAny_setField (Heap.get?_update_self _ h0 (Obj.isFreed_of_fields (Obj.data_mapFields hd _))) (Obj.data_mapFields hd _) (by simp) ?_)))
    exact wpAny_pure ⟨_, rfl, k _ (.place _ it' hb hp hl r (below_next r hip) rfl) fun b o hb e => (Heap.get?_update_other _ _ (Ne.symm hb)).trans ((Heap.get?_update_other _ _ (Ne.symm hb)).trans e)⟩
  | drawn ps it ne tq kk hl ho =>
    have it' := it.put1 (i + 1)
    refine nxR it S ?_
    subst ho
    rw [List.getElem?_map] at hv
    obtain ⟨x, hx, hxv⟩ := Option.map_eq_some_iff.mp hv
    have hxs := kk x (List.mem_of_getElem? hx)
    obtain ⟨oq, nq, hq, dq⟩ := tq
    refine wpAny_bind (wpAny_seqItems hq dq ?_)
    have e1 : (ps.map fun k : Nat => Value.int k 0).toArray[(i : Int).toNat]? = some (Value.int x 0) := by
      rw [Int.toNat_natCast, List.getElem?_toArray, List.getElem?_map, hx]; rfl
    dsimp only
    rw [e1]
    dsimp only
    obtain ⟨⟨oa, ha, da⟩, hf⟩ := S
    refine wpAny_bind ?_
    unfold setNextDrawn
    refine wpAny_bind (wpAny_setState_of ha da hf ?_)
    dsimp only
    rw [if_neg (by simp), Int.toNat_natCast, Array.getElem?_eq_getElem hxs]
    refine wpAny_pure ?_
    have ev : es[x].2 = v := by rw [← hxv, Array.getElem?_eq_getElem hxs]; rfl
    obtain ⟨o, h0, hc, hd⟩ := it
    refine wpAny_bind (wpAny_setField h0 hd (by simp) ?_)
    rw [show (es.toList.get ⟨x, hxs⟩).snd = v from ev]
    refine wpAny_pure ⟨_, rfl, k _ (.drawn ps it' ne ⟨oq, nq, (Heap.get?_update_other _ _ (Ne.symm ne)).trans hq, dq⟩ kk hl rfl) fun b o hb e => (Heap.get?_update_other _ _ (Ne.symm hb)).trans e⟩
theorem set_end {ord : List Value} {Q : Option Value → Shared → Prop} (hh : A.handled = none) (T : SAt w s.heap I a q es ep t ord es.size) (S : SObj s.heap a es ep t)
    (k : ∀ h', (∀ b o, b ≠ I → s.heap.get? b = some o → h'.get? b = some o) → Q none { s with heap := h' }) : wpAny (model prog w) A (pyNext (.ref I)) Q E s := by
  cases T with
  | text it hb ho =>
    refine nxI (slot := 0) it S (wpAny_bind (pick_end S (.inl ⟨hb, by simp⟩) ?_))
    obtain ⟨o, h0, hc, hd⟩ := it
    refine wpAny_bind (wpAny_setField h0 hd (by simp) (stop_set hh fun h' hk => k h' fun b o hb e => hk b o ((Heap.get?_update_other _ _ (Ne.symm hb)).trans e)))
  | place slot it hb hp hl r he ho =>
    refine nxI (slot := slot) it S (wpAny_bind (pick_end S (.inr ⟨hb, hp, hl, by rw [Int.toNat_natCast, he]; exact Nat.le_refl _⟩) ?_))
    obtain ⟨o, h0, hc, hd⟩ := it
    refine wpAny_bind (wpAny_setField h0 hd (by simp) (stop_set hh fun h' hk => k h' fun b o hb e => hk b o ((Heap.get?_update_other _ _ (Ne.symm hb)).trans e)))
  | drawn ps it ne tq kk hl ho =>
    refine nxR it S ?_
    obtain ⟨oq, nq, hq, dq⟩ := tq
    refine wpAny_bind (wpAny_seqItems hq dq ?_)
    have e1 : (ps.map fun k : Nat => Value.int k 0).toArray[(es.size : Int).toNat]? = none := by
      rw [Int.toNat_natCast, List.getElem?_toArray, List.getElem?_eq_none (by rw [List.length_map]; omega)]
    dsimp only
    rw [e1]
    dsimp only
    obtain ⟨o, h0, hc, hd⟩ := it
    refine wpAny_bind (wpAny_setField h0 hd (by simp) (wpAny_bind (wpAny_setField (Heap.get?_update_self _ h0 (Obj.isFreed_of_fields (Obj.data_mapFields hd _))) (Obj.data_mapFields hd _) (by simp) ?_)))
    exact stop_set hh fun h' hk => k h' fun b o hb e => hk b o ((Heap.get?_update_other _ _ (Ne.symm hb)).trans ((Heap.get?_update_other _ _ (Ne.symm hb)).trans e))
theorem walks_set (hh : A.handled = none) (hne : a ≠ I) {ord : List Value} (hl : ord.length = es.size) :
    Walks prog w A I [I, a, q] [I] es.size (fun i v => ord[i]? = some v) (fun i h => SAt w h I a q es ep t ord i ∧ SObj h a es ep t) where
  sub := fun b hb => by rw [List.mem_singleton.mp hb]; exact List.mem_cons_self
  frame := fun i h h' st hk => by
    obtain ⟨T, ⟨⟨o, ho, hd⟩, hf⟩⟩ := st
    refine ⟨?_, ⟨⟨o, hk a (by simp) o ho, hd⟩, hf⟩⟩
    have mv : ∀ {f : Value} {n : Nat}, SIt h I f i a n ep → SIt h' I f i a n ep := fun ⟨o, ho, r⟩ => ⟨o, hk I (by simp) o ho, r⟩
    cases T with
    | text it b o => exact .text (mv it) b o
    | place slot it b p l r e o => exact .place slot (mv it) b p l r e o
    | drawn ps it ne tq k l o =>
      obtain ⟨oq, nq, hq, dq⟩ := tq
      exact .drawn ps (mv it) ne ⟨oq, nq, hk q (by simp) oq hq, dq⟩ k l o
  item := fun i s Q E hi st hQ => by
    refine set_item st.1 st.2 (List.getElem?_eq_getElem (by omega)) fun h' T' hk => hQ _ h' s.toks (List.getElem?_eq_getElem (by omega)) ⟨T', ?_⟩ fun b o hb e => hk b o (fun z => hb (by simp [z])) e
    obtain ⟨_, ⟨⟨o, ho, hd⟩, hf⟩⟩ := st
    exact ⟨⟨o, hk a o hne ho, hd⟩, hf⟩
  done := fun s Q E st hQ => set_end hh st.1 st.2 fun h' hk => hQ h' s.toks fun b o hb e => hk b o (fun z => hb (by simp [z])) e
  self := fun i s Q E st hQ => by
    have ty : s.TypeIs (.ref I) "set_iterator" := by
      cases st.1 with
      | text it _ _ => exact it.ty
      | place _ it _ _ _ _ _ _ => exact it.ty
      | drawn _ it _ _ _ _ _ => exact it.ty
    refine wpAny_pyIter_slot ty slot_itIter (wpAny_call_entry slot_itIter ty entry_itIter ?_ (args_itIter _))
    exact wpAny_bind (wpAny_pure (wpAny_pure ⟨_, rfl, "set_iterator", _, ty, slot_setNext.lookup, hQ⟩))
theorem draw_order {α : Type} : ∀ (n : Nat) (xs : List α) (s : Shared) {Q : List α → Shared → Prop}, xs.length = n → (∀ ys d, ys.Perm xs → Q ys { s with drawn := d }) → wpAny (model prog w) A (drawOrder n xs) Q E s
  | 0, xs, s, Q, hl, k => by
    cases List.length_eq_zero_iff.mp hl
    unfold drawOrder
    exact wpAny_pure (k [] s.drawn (List.Perm.refl _))
  | n + 1, [], s, Q, hl, k => by cases hl
  | n + 1, x :: r, s, Q, hl, k => by
    unfold drawOrder
    refine wpAny_bind ?_
    intro Γ p hΓ
    refine ⟨by simp, ?_⟩
    have lt : (model prog w).w.draws .order (s.drawn.get .order) % (x :: r).length < (x :: r).length := Nat.mod_lt _ (by simp)
    generalize (model prog w).w.draws .order (s.drawn.get .order) % (x :: r).length = j at lt
    have key : wpAny (model prog w) A (match (x :: r)[j]? with | some y => (do return y :: (← drawOrder n ((x :: r).eraseIdx j))) | none => unsupported "internal:drawOrder") Q E { s with drawn := s.drawn.bump .order } := by
      rw [List.getElem?_eq_getElem lt]
      dsimp only
      refine wpAny_bind (draw_order n _ _ (by rw [List.length_eraseIdx_of_lt lt]; omega) fun ys d hp => wpAny_pure (k _ d ?_))
      exact (List.Perm.cons _ hp).trans (erase_consP lt)
    exact key
theorem perm_range {es : Array (Int × Value)} {ps : List Nat} (h : ps.Perm (List.range es.size)) : (ps.map fun k => ((es[k]?).map (·.2)).getD Value.none).Perm (es.toList.map (·.2)) := by
  refine (h.map _).trans ?_
  have : (List.range es.size).map (fun k => ((es[k]?).map (·.2)).getD Value.none) = es.toList.map (·.2) := by
    refine List.ext_getElem (by simp) fun i h1 h2 => ?_
    have hi : i < es.size := by simpa using h1
    simp [hi]
  rw [this]
theorem set_iter {Q : Value → Shared → Prop} (ty : s.TypeIs (.ref a) "set") (S : SObj s.heap a es ep t) (T : TabOk (!ByText w) t) (hb : es.size < scanBound)
    (k : ∀ (I q : Addr) (ord : List Value) (h' : Heap) (d : Drawn), ord.Perm (es.toList.map (·.2)) → s.heap.objs.size ≤ I → s.heap.objs.size ≤ q → I < h'.objs.size → q < h'.objs.size → (∀ b o, s.heap.get? b = some o → h'.get? b = some o) → SAt w h' I a q es ep t ord 0 → Q (.ref I) { s with heap := h', drawn := d }) :
    wpAny (model prog w) A (pyIter (.ref a)) Q E s := by
  have S0 := S
  obtain ⟨⟨o, ho, hd⟩, hf⟩ := S
  refine wpAny_pyIter_slot ty PySem.F.slot_set_iter (wpAny_call_entry PySem.F.slot_set_iter ty entry_setIter ?_ (PySem.F.args_set_iter_1 _))
  unfold Builtin.«frozenset.__iter__»
  refine wpAny_bind (m := Builtin.Frozenset.slot0 _ _) (wpAny_pure (wpAny_bind ?_))
  unfold Builtin.Frozenset.sizeOf
  refine wpAny_bind (wpAny_setEntries_of ho hd hf (wpAny_pure (wpAny_bind ?_)))
  unfold setDrawn
  refine wpAny_bind (wpAny_setState_of ho hd hf (wpAny_bind (m := setsByText) (wpAny_bind (wpAny_askSetting (wpAny_pure (wpAny_pure ?_))))))
  refine wpAny_ite_split (fun c => ?_) (fun c => ?_)
  · have c' : (!ByText w && (!t.plain && decide (es.size > 1))) = true := c
    refine wpAny_bind (draw_order es.size _ _ (List.length_range) fun ys d hp => wpAny_bind (wpAny_newTuple ?_ (by rw [List.length_map, hp.length_eq, List.length_range]; exact fits_of_scanBound hb)))
    refine wpAny_bind (m := setEpoch a) (wpAny_setEpoch_of (Heap.get?_push_of_some _ ho) hd hf (wpAny_bind (wpAny_newObj_type (wpAny_pure ⟨_, rfl, "set_iterator", _, ⟨_, Heap.get?_push_size _ rfl, rfl⟩, slot_setNext.lookup, ?_⟩))))
    refine k _ s.heap.objs.size _ _ d (perm_range hp) ?_ (Nat.le_refl _) ?_ ?_ (fun b o e => Heap.get?_push_of_some _ (Heap.get?_push_of_some _ e)) (.drawn ys ⟨_, Heap.get?_push_size _ rfl, rfl, rfl⟩ ?_ ⟨_, 0, Heap.get?_push_of_some _ (Heap.get?_push_size _ rfl), rfl⟩ (fun j hj => List.mem_range.mp (hp.mem_iff.mp hj)) (by rw [hp.length_eq, List.length_range]) rfl)
    · simp only [Heap.size_push]; exact Nat.le_succ _
    · simp only [Heap.size_push]; exact Nat.lt_succ_self _
    · simp only [Heap.size_push]; exact Nat.lt_succ_of_lt (Nat.lt_succ_self _)
    · simp only [Heap.size_push]; exact Nat.ne_of_lt (Nat.lt_succ_self _)
  · have c' : ¬ (!ByText w && (!t.plain && decide (es.size > 1))) = true := c
    refine wpAny_bind (wpAny_pure (wpAny_bind (m := setEpoch a) (wpAny_setEpoch_of ho hd hf (wpAny_bind (wpAny_newObj_type (wpAny_pure ⟨_, rfl, "set_iterator", _, ⟨_, Heap.get?_push_size _ rfl, rfl⟩, slot_setNext.lookup, ?_⟩))))))
    have it : SIt (s.heap.push { cls := .type "set_iterator", data := .fields #[.int 0 0, .int 0 0, .ref a, .int es.size 0, .int ep 0] }) s.heap.objs.size (.int 0 0) 0 a es.size ep := ⟨_, Heap.get?_push_size _ rfl, rfl, rfl⟩
    have lt : s.heap.objs.size < (s.heap.push { cls := .type "set_iterator", data := .fields #[.int 0 0, .int 0 0, .ref a, .int es.size 0, .int ep 0] }).objs.size := by simp only [Heap.size_push]; omega
    cases b : ByText w with
    | true => exact k s.heap.objs.size s.heap.objs.size _ _ s.drawn ((pick_perm _ es).map (·.2)) (Nat.le_refl _) (Nat.le_refl _) lt lt (fun b o e => Heap.get?_push_of_some _ e) (.text it b rfl)
    | false =>
      rw [b] at c' T
      have p : (!t.plain && decide (es.size > 1)) = false := by
        cases z : (!t.plain && decide (es.size > 1)) with
        | false => rfl
        | true => rw [z] at c'; exact absurd rfl c'
      have r : Rise t.place := by
        cases z : t.plain with
        | true => exact T.ris z
        | false =>
          have l : ¬ es.size > 1 := by rw [z] at p; simpa using p
          have pl : t.place.size = es.size := by
            simp only [SetTable.fits, Bool.and_eq_true, beq_iff_eq] at hf
            exact hf.1
          unfold Rise
          match hx : t.place.toList with
          | [] => exact List.Pairwise.nil
          | [_] => exact List.pairwise_singleton _ _
          | _ :: _ :: _ =>
            have : t.place.toList.length = t.place.size := Array.length_toList
            rw [hx] at this
            simp at this
            omega
      exact k s.heap.objs.size s.heap.objs.size _ _ s.drawn (List.Perm.refl _) (Nat.le_refl _) (Nat.le_refl _) lt lt (fun b o e => Heap.get?_push_of_some _ e) (.place 0 it b p T.led r (below_zero r) rfl)
end
end Ph
set_option Elab.async false
set_option linter.all false
set_option maxRecDepth 100000
namespace Ph
open PySem
section
variable {prog : Program} {w : World} {A : Around} {E : Value → Shared → Prop} {s : Shared}
theorem new_tab (x : Value) {Q : Value → Shared → Prop} (h : Q (.ref s.heap.objs.size) { s with heap := s.heap.push { cls := .type "set", dict := none, data := .set #[] 0 (.fresh 0 0 (!ByText w)) } }) :
    codeAny (model prog w) A (.call (.builtin "set.__new__") ⟨[.type "set", x], []⟩) (wants Q E) s := by
  refine codeAny_of_tree (show wpAny _ A.in1 (checkBuiltinCall "set.__new__" ⟨[.type "set", x], []⟩ >>= fun _ => again (.builtin "set.__new__" ⟨[.type "set", x], []⟩)) _ _ s from ?_)
  refine wpAny_bind (wpAny_of_eq (F.newCall_set_1 x) (wpAny_pure (And.intro (plainId_quiet F.plain_set_new _) (codeAny_builtin F.entry_set_new ?_))))
  rw [Around.under_plainId F.plain_set_new]
  unfold Builtin.«set.__new__» Builtin.Frozenset.newClass
  have hs := sub_set_self
  obtain ⟨hp, g, d, tk, os⟩ := s
  dsimp only
  wp_walk
  refine wpAny_askSetting (wpAny_pure ?_)
  simp only [newObj]
  exact wpAny_bind (wpAny_alloc (wpAny_pure (wpAny_pure h)))
variable {I : Addr} {fp wr : List Addr} {n : Nat} {P : Nat → Value → Prop} {St : Nat → Heap → Prop} {R : Result → Shared → Prop} {led : Bool}
theorem loop_tab (W : Walks prog w A.in1 I fp wr n P St) (S : Addr) (hS : S ∉ fp) (val : Nat → Int) (hv : ∀ i v, P i v → ∃ t, v = .int (val i) t) (hb : n + 1 < scanBound) :
    ∀ (k i : Nat) (s : Shared), n - i = k → i ≤ n → St i s.heap → s.heap.SetOf (intKind prog w) S (fun k' => (PyProof.Rows.firstMet val i).any (· == k')) (PyProof.Rows.firstMet val i).length → TabAt s.heap S led →
      (∀ h' tk, (∀ b o, b ∉ S :: wr → s.heap.get? b = some o → h'.get? b = some o) → h'.SetOf (intKind prog w) S (fun k' => (PyProof.Rows.firstMet val n).any (· == k')) (PyProof.Rows.firstMet val n).length → TabAt h' S led → R (.ok (.ret .none)) { s with heap := h', toks := tk }) →
      codeAny (model prog w) A (.builtin "set.update.loop" ⟨[.ref S, .ref I], []⟩) R s := by
  have hw : S ∉ wr := fun z => hS (W.sub _ z)
  have mv : ∀ {h h' : Heap} {m : List Int}, (∀ b o, b ∉ wr → h.get? b = some o → h'.get? b = some o) → h.SetOf (intKind prog w) S (fun k' => m.any (· == k')) m.length → h'.SetOf (intKind prog w) S (fun k' => m.any (· == k')) m.length := fun hm ⟨o, es, ep, t, ho, r⟩ => ⟨o, es, ep, t, hm S o hw ho, r⟩
  have mt : ∀ {h h' : Heap}, (∀ b o, b ∉ wr → h.get? b = some o → h'.get? b = some o) → TabAt h S led → TabAt h' S led := fun hm ⟨o, es, ep, t, ho, r⟩ => ⟨o, es, ep, t, hm S o hw ho, r⟩
  intro k
  induction k with
  | zero =>
    intro i s hk hi st h1 h2 fin
    obtain rfl : i = n := by omega
    refine codeAny_builtin PyProof.Rows.F.entry_set_update_loop ?_
    rw [Around.under_plainId PyProof.Rows.F.plain_set_update_loop]
    refine wpAny_bind (m := pyNext (.ref I)) (W.done s _ _ st fun h' tk hm => ?_)
    exact wpAny_pure (fin h' tk (fun b o hb e => hm b o (fun z => hb (List.mem_cons_of_mem _ z)) e) (mv hm h1) (mt hm h2))
  | succ k ih =>
    intro i s hk hi st h1 h2 fin
    have lt : i < n := by omega
    refine codeAny_builtin PyProof.Rows.F.entry_set_update_loop ?_
    rw [Around.under_plainId PyProof.Rows.F.plain_set_update_loop]
    refine wpAny_bind (m := pyNext (.ref I)) (W.item i s _ _ lt st fun v h' tk hP st' hm => ?_)
    obtain ⟨t, rfl⟩ := hv i v hP
    refine wpAny_bind (m := holding [Value.int (val i) t] (setAdd S (.int (val i) t))) (wpAny_holding ?_)
    unfold setAdd
    refine wpAny_holding (wpAny_bind ((intKind prog w).pyHash (k := val i) (intKind_is _ _ _ _) ?_))
    have room : (PyProof.Rows.firstMet val i).length + 1 < scanBound := by have := PyProof.Rows.firstMet_length_le val i; omega
    refine add_tab (knd := intKind prog w) (s := { s with heap := h', toks := tk + 1 }) (intKind_is _ _ _ _) rfl (mv hm h1) (mt hm h2) room fun h'' sb S2 T2 => ?_
    have S3 : h''.SetOf (intKind prog w) S (fun k' => (PyProof.Rows.firstMet val (i + 1)).any (· == k')) (PyProof.Rows.firstMet val (i + 1)).length :=
      PyProof.Rows.SetOf_congr S2 (fun k' => by rw [PyProof.Rows.firstMet_succ, PyProof.Rows.step_any]) (by rw [PyProof.Rows.firstMet_succ, PyProof.Rows.step_length])
    refine wpAny_pure ⟨plainId_quiet PyProof.Rows.F.plain_set_update_loop _, ih (i + 1) _ (by omega) lt (W.frame _ _ _ st' fun b hb o e => ?_) S3 T2 fun h3 tk3 hm3 z1 z2 => fin h3 tk3 (fun b o hb e => hm3 b o hb ?_) z1 z2⟩
    · show h''.get? b = some o
      rw [sb.2 b (fun z : b = S => hS (by rw [← z]; exact hb))]; exact e
    · show h''.get? b = some o
      rw [sb.2 b (fun z : b = S => hb (by rw [z]; exact List.mem_cons_self))]
      exact hm b o (fun z => hb (List.mem_cons_of_mem _ z)) e
set_option maxHeartbeats 4000000 in
theorem call_setT {l : Addr} {items : Array Value} {ns : List Int} {Q : Value → Shared → Prop} (hh : A.handled = none) (hl : s.heap.IsList l items) (hi : PyProof.Rows.IntsAre items.toList ns) (hb : items.size + 1 < scanBound)
    (k : ∀ (h' : Heap) (tk : Nat), h'.SetOf (intKind prog w) s.heap.objs.size (fun k' => (PyProof.Rows.firstMet (fun i => ns.getD i 0) items.size).any (· == k')) (PyProof.Rows.firstMet (fun i => ns.getD i 0) items.size).length → TabAt h' s.heap.objs.size (!ByText w) →
      (∀ b o, s.heap.get? b = some o → h'.get? b = some o) → Q (.ref s.heap.objs.size) { s with heap := h', toks := tk }) : wpAny (model prog w) A (call (.type "set") [.ref l]) Q E s := by
  obtain ⟨c0, tl0, mro0⟩ := F.called_set.mro
  have made0 := F.called_set.made
  have sub0 := F.called_set.sub
  refine wpAny_call (codeAny_of_tree (show wpAny _ _ (callAny (.type "set") _) _ _ _ from wpAny_pure ⟨Code.quiet_builtin _ (by decide +kernel), codeAny_builtin F.entry_type_call ?_⟩))
  rw [Around.under_plain (weight_type_call_type "set" [Value.ref l] []) rfl]
  have not0 := F.called_set.notType
  have can0 := F.called_set.canCreate
  have chk0 := F.typeCall_set_1 (.ref l)
  repeat (any_goals (first | assumption | wp_step))
  refine codeAny_mono (new_tab (.ref l) (E := E) (Q := fun u s1 => u = .ref s.heap.objs.size ∧ s1 = { s with heap := s.heap.push { cls := .type "set", dict := none, data := .set #[] 0 (.fresh 0 0 (!ByText w)) } }) ⟨rfl, rfl⟩) fun r s1 z => ?_
  match r, z with
  | .ok (.ret u), z =>
    obtain ⟨rfl, rfl⟩ := z
    have g0 : (s.heap.push { cls := .type "set", dict := none, data := .set #[] 0 (.fresh 0 0 (!ByText w)) }).get? s.heap.objs.size = some { cls := .type "set", dict := none, data := .set #[] 0 (.fresh 0 0 (!ByText w)) } := Heap.get?_push_size _ rfl
    have ty0 : Shared.TypeIs { s with heap := s.heap.push { cls := .type "set", dict := none, data := .set #[] 0 (.fresh 0 0 (!ByText w)) } } (.ref s.heap.objs.size) "set" := ⟨_, g0, rfl⟩
    have li0 := F.called_set.init.lookup
    have bi0 := F.called_set.init.bind (.ref s.heap.objs.size)
    repeat (any_goals (first | assumption | wp_step))
    refine codeAny_mono (codeAny_call_builtin (R := wants (fun r s2 => r = .none ∧ ∃ h' tk, s2 = { s with heap := h', toks := tk } ∧
        h'.SetOf (intKind prog w) s.heap.objs.size (fun k' => (PyProof.Rows.firstMet (fun i => ns.getD i 0) items.size).any (· == k')) (PyProof.Rows.firstMet (fun i => ns.getD i 0) items.size).length ∧ TabAt h' s.heap.objs.size (!ByText w) ∧
        (∀ b o, s.heap.get? b = some o → h'.get? b = some o)) E) F.called_set.init.plain F.entry_set_init (check_set_init_1 ty0 ?_)) fun r2 s2 z2 => ?_
    · obtain ⟨ol, hol, hcl, nl, hdl⟩ := hl
      obtain ⟨ocls, odict, odata, oslots⟩ := ol
      cases (show ocls = .type "list" from hcl)
      cases (show odata = .seq items nl from hdl)
      have gl : (s.heap.push { cls := .type "set", dict := none, data := .set #[] 0 (.fresh 0 0 (!ByText w)) }).get? l = some { cls := .type "list", dict := odict, data := .seq items nl, slots := oslots } := Heap.get?_push_of_some _ hol
      have ns0 := F.sub_list_set
      have nf0 := F.sub_list_frozenset
      have nd0 : (Value.type "list" == Value.type "dict") = false := by decide
      have il : (s.heap.push { cls := .type "set", dict := none, data := .set #[] 0 (.fresh 0 0 (!ByText w)) }).IsList l items := ⟨_, gl, rfl, nl, rfl⟩
      unfold Builtin.«set.__init__» noKeywords Builtin.Frozenset.updateFrom
      generalize eP : pyIter = PI
      wp_walk
      subst eP
      refine wpAny_pyIter_list il (wpAny_bind (wpAny_runValue ?_))
      have lt : l < s.heap.objs.size := Heap.lt_size hol
      have ne : l ≠ (s.heap.push { cls := .type "set", dict := none, data := .set #[] 0 (.fresh 0 0 (!ByText w)) }).objs.size := by rw [Heap.size_push]; exact Nat.ne_of_lt (Nat.lt_succ_of_lt lt)
      have nfp : s.heap.objs.size ∉ [(s.heap.push { cls := .type "set", dict := none, data := .set #[] 0 (.fresh 0 0 (!ByText w)) }).objs.size, l] := by
        rw [Heap.size_push]
        simp only [List.mem_cons, List.not_mem_nil, or_false, not_or]
        exact ⟨Nat.ne_of_lt (Nat.lt_succ_self _), Nat.ne_of_gt lt⟩
      refine loop_tab (led := !ByText w) (Walks.list (A := A.in1.in1.in1) (by simp [hh]) _ l ne items) s.heap.objs.size nfp (fun i => ns.getD i 0) (fun i v hv => PyProof.Rows.IntsAre.int_at hi i v (by rw [Array.getElem?_toList]; exact hv)) hb (items.size - 0) 0 _ rfl (Nat.zero_le _)
        ⟨⟨_, Heap.get?_push_size _ rfl, rfl, rfl⟩, il.push _⟩ ?_ ⟨_, _, _, _, Heap.get?_push_of_some _ g0, rfl, TabOk.fresh _⟩ fun h' tk hm z1 z2 => ?_
      · exact PyProof.Rows.SetOf_congr ((PyProof.Rows.setObjOf_fresh (knd := intKind prog w) (!ByText w)).setOf (Heap.get?_push_of_some _ g0) (by unfold scanBound; omega)) (fun _ => rfl) rfl
      · refine wpAny_pure (wpAny_pure ⟨rfl, h', tk, rfl, z1, z2, fun b o e => hm b o ?_ (Heap.get?_push_of_some _ (Heap.get?_push_of_some _ e))⟩)
        have lb := Heap.lt_size e
        simp only [List.mem_cons, List.not_mem_nil, or_false, not_or]
        refine ⟨Nat.ne_of_lt lb, ?_⟩
        rw [Heap.size_push]
        exact Nat.ne_of_lt (Nat.lt_succ_of_lt lb)
    · match r2, z2 with
      | .ok (.ret u), z2 =>
        obtain ⟨rfl, h', tk, rfl, z3, z4, hk⟩ := z2
        repeat (any_goals (first | assumption | wp_step))
        exact k _ _ z3 z4 hk
      | .error e, z2 => exact z2
  | .error e, z => exact z
end
end Ph
set_option Elab.async false
set_option linter.all false
set_option maxRecDepth 100000
namespace Ph
open PySem PyProof.Rows
theorem len_set : typeLookup (.type "set") "__len__" = pure (some (.builtin "set.__len__")) := by rw [typeLookup_type, builtinLookup_eq_fast]; kernel_rfl
section
variable {prog : Program} {w : World} {A : Around} {E : Value → Shared → Prop} {s : Shared} {a : Addr}
theorem hint_set {Q : Bool → Shared → Prop} (hT : s.TypeIs (.ref a) "set") (h : Q false s) : wpAny (model prog w) A (Builtin.List.listLengthHint (.ref a)) Q E s := by
  unfold Builtin.List.listLengthHint
  refine wpAny_bind (wpAny_specialOf hT len_set ?_)
  generalize eid : ("set.__len__" : String) = idx
  wp_delta
  rw [show splitId idx = some ("set", "__len__") from by subst eid; decide +kernel]
  subst eid
  refine wpAny_bind (wpAny_isInstance (b := true) (T := "set") hT (by rw [isSubtype_type]; kernel_rfl) ?_)
  refine wpAny_ite_split (fun z => absurd z (by decide)) (fun _ => wpAny_ite_split (fun _ => ?_) (fun z => absurd (by decide +kernel) z))
  exact wpAny_bind (wpAny_typeOf hT (wpAny_pure h))
theorem collect_set {S : Int → Bool} {n : Nat} {Q : List Value → Shared → Prop} (hh : A.handled = none) (hS : s.heap.SetOf (intKind prog w) a S n) (hT : TabAt s.heap a (!ByText w))
    (k : ∀ (ord : List Value) (h' : Heap) (tk : Nat) (d : Drawn) (es : Array (Int × Value)), (∀ b o, s.heap.get? b = some o → h'.get? b = some o) → ord.Perm (es.toList.map (·.2)) → ElemsOf (intKind prog w) es.toList → (∀ k, S k = true ↔ ∃ e ∈ es.toList, (intKind prog w).is k e.2 = true) → es.size = n → s.heap.objs.size < h'.objs.size → Q ord { s with heap := h', toks := tk, drawn := d }) :
    wpAny (model prog w) A (collect (.ref a)) Q E s := by
  have ty : ∀ {s' : Shared}, (∀ b o, s.heap.get? b = some o → s'.heap.get? b = some o) → s'.TypeIs (.ref a) "set" := fun hk => let ⟨o, _, _, _, ho, hc, _⟩ := hS; ⟨o, hk a o ho, hc.1⟩
  obtain ⟨o, es, ep, t, ho, hx, hd, el, hm0, hb, hf, hn⟩ := hS
  have T0 : TabOk (!ByText w) t := by
    obtain ⟨o', es', ep', t', g', d', T'⟩ := hT
    rw [ho] at g'; cases g'; rw [hd] at d'; cases d'; exact T'
  have la := Heap.lt_size ho
  have h4 : es.size ≤ sizeLine := fits_of_scanBound hb
  unfold collect
  refine wpAny_bind (wpAny_runValue (codeAny_builtin PySem.F.entry_proto_collect ?_))
  rw [Around.under_plainId PySem.F.plain_proto_collect]
  refine wpAny_bind (m := newList []) (wpAny_newObj_type (wpAny_pure (And.intro (plainId_quiet PySem.F.plain_list_iadd _) (codeAny_builtin PySem.F.entry_list_iadd ?_))))
  rw [Around.under_plainId PySem.F.plain_list_iadd]
  have k1 : ∀ b o, s.heap.get? b = some o → (s.heap.push { cls := .type "list", data := .seq ([] : List Value).toArray }).get? b = some o := fun b o e => Heap.get?_push_of_some _ e
  have gL : (s.heap.push { cls := .type "list", data := .seq ([] : List Value).toArray }).get? s.heap.objs.size = some { cls := .type "list", data := .seq ([] : List Value).toArray } := Heap.get?_push_size _ rfl
  refine show wpAny _ A.in1 (Builtin.List.listExtendWith (.ref s.heap.objs.size) (.ref a) (.ref s.heap.objs.size)) _ _ { s with heap := s.heap.push { cls := .type "list", data := .seq ([] : List Value).toArray } } from ?_
  unfold Builtin.List.listExtendWith
  refine wpAny_bind (wpAny_typeOf (T := "set") (ty k1) ?_)
  have ns : Builtin.List.listSameRef (.ref s.heap.objs.size) (.ref a) = false := by simp [Builtin.List.listSameRef, Nat.ne_of_gt la]
  rw [if_neg (by rw [ns]; decide)]
  refine wpAny_bind (set_iter (ty k1) ⟨⟨o, k1 _ _ ho, hd⟩, hf⟩ T0 hb fun I q ord h2 d hp hI hq hI2 hq2 hk2 at0 => ?_)
  have lI : s.heap.objs.size < I := Nat.lt_of_lt_of_le (by rw [Heap.size_push]; exact Nat.lt_succ_self _) hI
  have hk : ∀ b o, s.heap.get? b = some o → h2.get? b = some o := fun b o e => hk2 b o (k1 b o e)
  refine wpAny_bind (wpAny_holding (hint_set (ty (s' := { s with heap := h2, drawn := d }) hk) ?_))
  refine wpAny_ite_split (fun _ => ?_) (fun z => absurd (by decide) z)
  have W : Walks prog w A.in1 I [I, a, q] [I] es.size (fun i v => ord[i]? = some v) (fun i h => SAt w h I a q es ep t ord i ∧ SObj h a es ep t) := walks_set (A := A.in1) hh (Nat.ne_of_lt (Nat.lt_trans la lI)) (by have := hp.length_eq; simpa using this)
  have lq : s.heap.objs.size < q := Nat.lt_of_lt_of_le (by rw [Heap.size_push]; exact Nat.lt_succ_self _) hq
  have nfp : s.heap.objs.size ∉ [I, a, q] := by
    simp only [List.mem_cons, List.not_mem_nil, or_false, not_or]
    exact ⟨Nat.ne_of_lt lI, Nat.ne_of_gt la, Nat.ne_of_lt lq⟩
  have gL2 := hk2 _ _ gL
  have gL3 := Heap.get?_update_self (Obj.mapSeq (·.push Value.none)) gL2 rfl
  have gL4 := Heap.get?_update_self (Obj.mapSeq (·.pop)) gL3 rfl
  refine wpAny_bind (wpAny_rule (wpAny_bind (m := Builtin.List.listTouch (.ref s.heap.objs.size)) ?_))
  refine show wpAny _ _ (updateSeq s.heap.objs.size (·.push .none) >>= fun _ => updateSeq s.heap.objs.size (·.pop)) _ _ _ from wpAny_bind (wpAny_updateSeq (s := { s with heap := h2, drawn := d }) gL2 rfl (wpAny_updateSeq (hz := by seq_fits) gL3 rfl ?_))
  have ot : ∀ b o, b ≠ s.heap.objs.size → h2.get? b = some o → ((h2.update s.heap.objs.size (Obj.mapSeq (·.push Value.none))).update s.heap.objs.size (Obj.mapSeq (·.pop))).get? b = some o := fun b o hb e => (Heap.get?_update_other _ _ (Ne.symm hb)).trans ((Heap.get?_update_other _ _ (Ne.symm hb)).trans e)
  refine wpAny_pure (And.intro (plainId_quiet PySem.F.plain_extend_loop _) (codeAny_extend_loopS W.toS h4 _ nfp _ es.size 0 _ _ _ rfl (Nat.zero_le _) (W.frame 0 _ _ ⟨at0, ⟨⟨o, hk _ _ ho, hd⟩, hf⟩⟩ fun b hb o e => ot b o (fun z => nfp (z ▸ hb)) e) gL4 (ItemsOf.nil _) fun s' acc c hm gA hI3 => ?_))
  refine show wpAny _ A (load s.heap.objs.size >>= _) _ _ s' from wpAny_bind (wpAny_load gA (wpAny_pure ?_))
  have eo : acc.toList = ord := by
    refine List.ext_getElem? fun j => ?_
    by_cases c : j < acc.size
    · rw [Array.getElem?_toList, Array.getElem?_eq_getElem c]
      exact (hI3.2 j _ (Array.getElem?_eq_getElem c)).symm
    · have lo : ord.length = es.size := by have := hp.length_eq; simpa using this
      rw [List.getElem?_eq_none (by rw [Array.length_toList]; omega), List.getElem?_eq_none (by have := hI3.1; omega)]
  rw [eo]
  have es' : s' = { s with heap := s'.heap, toks := s'.toks, drawn := d } := by
    have g1 : s'.gens = s.gens := hm.gens
    have g2 : s'.drawn = d := hm.drawn
    have g3 : s'.os = s.os := hm.os
    cases s'
    cases g1; cases g2; cases g3
    rfl
  rw [es']
  refine k ord s'.heap s'.toks d es (fun b o e => hm.heap b o ?_ (ot b o (Nat.ne_of_lt (Heap.lt_size e)) (hk b o e))) hp el hm0 hn (Heap.lt_size gA)
  have lb := Heap.lt_size e
  simp only [List.mem_cons, List.not_mem_nil, or_false, not_or]
  exact ⟨Nat.ne_of_lt lb, Nat.ne_of_lt (Nat.lt_trans lb lI)⟩
theorem ints_of {knd : KeyKind prog w Int} (hk : ∀ k v, knd.is k v = true → ∃ t, v = Value.int k t) : ∀ {es : List (Int × Value)}, ElemsOf knd es → ∀ {ord : List Value}, ord.Perm (es.map (·.2)) → ∃ ns, IntsAre ord ns ∧ ∀ k, k ∈ ns → ∃ e ∈ es, knd.is k e.2 = true := by
  intro es el ord hp
  have all : ∀ v ∈ ord, ∃ k, ∃ e ∈ es, e.2 = v ∧ knd.is k v = true := fun v hv => by
    obtain ⟨e, he, ev⟩ := List.mem_map.mp (hp.mem_iff.mp hv)
    obtain ⟨⟨k, h1, _⟩, _⟩ := el e he
    exact ⟨k, e, he, ev, by rw [← ev]; exact h1⟩
  clear hp
  induction ord with
  | nil => exact ⟨[], .nil, fun k hk => by cases hk⟩
  | cons v r ih =>
    obtain ⟨ns, h1, h2⟩ := ih fun u hu => all u (List.mem_cons_of_mem _ hu)
    obtain ⟨k, e, he, ev, hi⟩ := all v List.mem_cons_self
    obtain ⟨t, rfl⟩ := hk k v hi
    refine ⟨k :: ns, .cons k t h1, fun j hj => ?_⟩
    rcases List.mem_cons.mp hj with z | z
    · rw [z]; exact ⟨e, he, by rw [ev]; exact hi⟩
    · exact h2 j z
theorem sorted_set {S : Int → Bool} {n : Nat} {Q : Value → Shared → Prop} (hh : A.handled = none) (hS : s.heap.SetOf (intKind prog w) a S n) (hT : TabAt s.heap a (!ByText w)) (h64 : n < 64)
    (k : ∀ (D : Addr) (vs : List Value) (ms : List Int) (c : Nat) (h' : Heap) (tk : Nat) (d : Drawn), (∀ b o, s.heap.get? b = some o → h'.get? b = some o) → s.heap.objs.size ≤ D → h'.get? D = some (seqObj "list" vs.toArray c) → IntsAre vs ms → ms.length = n → (∀ k, k ∈ ms ↔ S k = true) → Q (.ref D) { s with heap := h', toks := tk, drawn := d }) :
    wpAny (model prog w) A (call (.builtin "sorted") [.ref a]) Q E s := by
  refine Calls.call_function_entry kind_sorted plain_sorted entry_sorted (args_sorted1 _) ?_
  unfold Builtin.«sorted»
  refine wpAny_bind (m := checkCount "sorted" 1 1 _) (wpAny_pure (wpAny_bind (collect_set (A := A.in1) hh hS hT fun ord h1 tk d es hk hp el hm hn lt1 => ?_)))
  obtain ⟨ns, hI, hin⟩ := ints_of (knd := intKind prog w) (fun k v z => Value.isInt_shape z) el hp
  have l1 : ord.length = n := by have := hp.length_eq; simpa [hn] using this
  have l2 : ord.length = ns.length := IntsAre.length hI
  have lz : ord.length ≤ sizeLine := by rw [sizeLine_eq]; omega
  refine wpAny_bind (wpAny_newList ?_ lz)
  have gD : (h1.push (seqObj "list" ord.toArray 0)).get? h1.objs.size = some (seqObj "list" ord.toArray 0) := Heap.get?_push_size _ rfl
  refine wpAny_bind (wpAny_holding (wpAny_call_entry slot_list_sort ⟨_, gD, rfl⟩ entry_list_sort (list_sort_tree (s := { s with heap := h1.push (seqObj "list" ord.toArray 0), toks := tk, drawn := d }) gD hI (by omega) fun out ms a1 a2 a3 => ⟨_, rfl, ?_⟩) (args_list_sort _)))
  obtain ⟨c, gc⟩ := sortedHeap_at (vs := ord) (out := out) gD
  refine wpAny_pure ⟨_, rfl, k h1.objs.size out.toList ms c _ tk d (fun b o e => ?_) (Nat.le_of_lt lt1) (by rw [Array.toArray_toList]; exact gc) a1 (by rw [a2.length_eq, ← l2, l1]) fun j => ?_⟩
  · have lb := Heap.lt_size (hk b o e)
    rw [sortedHeap_old (Nat.ne_of_lt lb) (by rw [size_push']; exact Nat.lt_succ_of_lt lb), Heap.get?_push_ne _ _ _ (Nat.ne_of_lt lb)]
    exact hk b o e
  · rw [a2.mem_iff, hm]
    refine ⟨hin j, fun ⟨e, he, z⟩ => ?_⟩
    have : e.2 ∈ ord := hp.mem_iff.mpr (List.mem_map.mpr ⟨e, he, rfl⟩)
    obtain ⟨i, hi, ei⟩ := List.getElem_of_mem this
    obtain ⟨t, et⟩ := IntsAre.int_at hI i e.2 (by rw [← ei]; exact List.getElem?_eq_getElem hi)
    obtain ⟨t', et'⟩ := Value.isInt_shape (show Value.isInt j e.2 = true from z)
    rw [et] at et'
    have hin' : i < ns.length := by omega
    have : ns.getD i 0 = j := by injection et'
    rw [← this]
    simp [List.getD, hin']
end
end Ph
set_option Elab.async false
set_option linter.all false
set_option maxRecDepth 100000
namespace Ph
open PySem PySem.Spec L2
open PyProof.Rows hiding St
def fstM (ns : List Int) : List Int := firstMet (fun i => ns.getD i 0) ns.length
theorem fstM_any (ns : List Int) (k : Int) : (fstM ns).any (· == k) = true ↔ k ∈ ns := by
  unfold fstM
  rw [firstMet_any, range_getD, List.any_eq_true]
  exact ⟨fun ⟨x, hx, e⟩ => by rw [← eq_of_beq e]; exact hx, fun h => ⟨k, h, by simp⟩⟩
theorem fstM_len (ns : List Int) : (fstM ns).length ≤ ns.length := firstMet_length_le _ _
def SetX (P : Program) (w : World) (D : Addr) (ns : List Int) : HO := .ext fun h => h.SetOf (intKind P w) D (fun k => (fstM ns).any (· == k)) (fstM ns).length ∧ TabAt h D (!ByText w)
structure Bare3 (mg : Str → Option Value) : Prop where
  min : mg "min" = none
  set : mg "set" = none
theorem boot_set' : bootBuiltins "set" = some (.type "set") := by decide +kernel
section
variable {X : Cx}
theorem call_list_ofK (K : PySem.W.Frag) (h : X.K = K := by rfl) : CallR X (.type "list") (fun xs H Q => ∃ p ys, xs = [.ref p] ∧ (SqL K H p ys ∨ SqT K H p ys) ∧ ∀ l, H l = none → Q (.ref l) (upd H l (.lst ys))) := by subst h; exact call_list_of
theorem call_setI (hc : X.calm = true) : CallR X (.type "set") (fun xs H Q => ∃ p ns, xs = [.ref p] ∧ H p = some (.lst (List.map V.int ns)) ∧ ns.length ≤ 900 ∧ ∀ D, H D = none → Q (.ref D) (upd H D (SetX X.prog X.w D ns))) := by
  rintro pins s σ H xs us Q I r ⟨p, ns, rfl, hp, h9, q⟩
  obtain ⟨u, rfl, ru⟩ := vals1 r
  cases (show u = Value.ref p from ru)
  obtain ⟨its, rv, hl⟩ := lstAt I hp
  have hi := intsAre_of rv
  have ln : its.length = ns.length := IntsAre.length hi
  refine call_setT (items := its.toArray) (I.ok.hd hc) hl (by simpa using hi) (by rw [List.size_toArray]; unfold scanBound; omega) fun h' tk z1 z2 hk => ?_
  have e1 : firstMet (fun i => ns.getD i 0) its.toArray.size = fstM ns := by unfold fstM; rw [List.size_toArray, ln]
  rw [e1] at z1
  obtain ⟨o, _, _, _, ho, _⟩ := id z1
  refine ⟨.ref s.heap.objs.size, _, I.laid (t' := tk) hk (Nat.le_refl _) (show ObjOk X.prog X.w _ h' _ (SetX X.prog X.w s.heap.objs.size ns) from ⟨⟨z1, z2⟩, ⟨o, ho⟩, fun h1 h2 ⟨y1, y2⟩ hh => ⟨?_, ?_⟩⟩), rfl, q _ (I.hok.fresh (Nat.le_refl _))⟩
  · obtain ⟨o, es, ep, t, g, rest⟩ := y1
    exact ⟨o, es, ep, t, hh o g, rest⟩
  · obtain ⟨o, es, ep, t, g, rest⟩ := y2
    exact ⟨o, es, ep, t, hh o g, rest⟩
theorem Inv.drew {pins : List (Addr × Obj)} {σ : List (Option V)} {H : Hp} {s : Shared} (d : Drawn) (I : Inv X pins σ H s) : Inv X pins σ H { s with drawn := d } := ⟨I.ok, I.os, I.bare, I.base, I.loc, I.cell, I.free, I.freeC, I.pin, I.hok, I.len⟩
theorem call_sortedX (hc : X.calm = true) : CallR X (.builtin "sorted") (fun xs H Q => ∃ D ns, xs = [.ref D] ∧ H D = some (SetX X.prog X.w D ns) ∧ ns.length < 64 ∧ ∀ l ms, H l = none → ms.length ≤ ns.length → (∀ k : Int, k ∈ ms ↔ k ∈ ns) → Q (.ref l) (upd H l (.lst (List.map V.int ms)))) := by
  rintro pins s σ H xs us Q I r ⟨D, ns, rfl, hD, h64, q⟩
  obtain ⟨u, rfl, ru⟩ := vals1 r
  cases (show u = Value.ref D from ru)
  obtain ⟨⟨z1, z2⟩, _, _⟩ := (show ObjOk X.prog X.w H s.heap D (SetX X.prog X.w D ns) from I.hok D _ hD)
  have fl := fstM_len ns
  refine sorted_set (I.ok.hd hc) z1 z2 (by omega) fun l vs ms c h' tk d hk hl gl hI hn hm => ?_
  refine ⟨.ref l, _, Inv.drew d (I.laid (t' := tk) hk hl (show ObjOk X.prog X.w _ h' _ (.lst (List.map V.int ms)) from ⟨by rw [List.length_map, hn, sizeLine_eq]; omega, vs, c, L2.vals_ints hI, gl⟩)), rfl, q _ ms (I.hok.fresh hl) (by omega) fun k => (hm k).trans (fstM_any ns k)⟩
end
end Ph
set_option Elab.async false
set_option linter.all false
set_option maxRecDepth 100000
namespace Ph
open PySem PySem.Spec L2
open PyProof.Rows hiding St
def isU : Deed → Bool
  | .undo => true
  | _ => false
def nU (ds : List Deed) : Nat := (ds.filter fun d => !isU d).length
theorem nU_cons (d : Deed) (r : List Deed) : nU (d :: r) = (if isU d then 0 else 1) + nU r := by
  unfold nU
  rw [List.filter_cons]
  cases isU d with
  | true => simp
  | false => simp; omega
theorem undo_len (s : Sn) (c : Ch) : (s.undo c).ab.length = s.ab.length := by
  obtain ⟨w, hd, old, laid⟩ := c
  cases laid with
  | none => rfl
  | some u => show (s.ab.set u none).length = _; rw [List.length_set]
theorem step_bdU {h : Hs} {i : Nat} (b : h.Bd i) (d : Deed) : (step h d).1.Bd (i + if isU d then 0 else 1) := by
  cases d with
  | undo =>
    show h.doUndo.1.Bd i
    unfold Hs.doUndo
    match hp : h.past with
    | [] => exact b
    | c :: r =>
      refine ⟨?_, b.p, ?_⟩
      · show (h.s.undo c).ab.length ≤ i
        rw [undo_len]; exact b.n
      · have := b.c
        rw [hp] at this
        exact Nat.le_trans (Nat.le_succ _) this
  | opn => exact step_bd b _
  | put _ _ => exact step_bd b _
  | take _ => exact step_bd b _
  | least _ => exact step_bd b _
  | join _ _ => exact step_bd b _
  | same _ _ => exact step_bd b _
theorem steps_bdU {h : Hs} {i : Nat} (b : h.Bd i) (ds : List Deed) : (stepsOf h ds).Bd (i + nU ds) := by
  induction ds generalizing h i with
  | nil => exact b
  | cons d r ih =>
    have := ih (step_bdU b d)
    rw [nU_cons, ← Nat.add_assoc]
    exact this
structure DsOk (ds : List Deed) : Prop where
  len : ds.length ≤ 200
  fine : ∀ i, (stepsOf Hs.zero (ds.take i)).Fine
  ab : (stepsOf Hs.zero ds).s.ab.length ≤ 63
theorem nU_take (ds : List Deed) (i : Nat) : nU (ds.take i) ≤ nU ds := by
  unfold nU
  exact ((List.take_sublist i ds).filter _).length_le
theorem DsOk.of {ds : List Deed} (hl : ds.length ≤ 200) (hu : nU ds ≤ 63) : DsOk ds := by
  refine ⟨hl, fun i => ⟨steps_ok Hs.Ok.zero _, ?_⟩, ?_⟩
  · have b := steps_bdU Bd.zero (ds.take i)
    have := nU_take ds i
    exact ⟨Nat.le_trans b.n (by omega), Nat.le_trans b.p (by omega), Nat.le_trans b.c (by omega)⟩
  · have b := steps_bdU Bd.zero ds
    exact Nat.le_trans b.n (by omega)
def Sn.addN (s : Sn) : Nat → Sn
  | 0 => s
  | k + 1 => (s.addN k).add
def undoL : Sn → List Ch → Sn
  | s, [] => s
  | s, c :: r => undoL (s.undo c) r
theorem undoL_add {B : Nat} : ∀ {new r : List Ch} {s : Sn}, Ok B s (new ++ r) → undoL s.add new = (undoL s new).add
  | [], _, _, _ => rfl
  | c :: new, r, s, ⟨g, f, k⟩ => by
    show undoL (s.add.undo c) new = (undoL (s.undo c) new).add
    rw [undo_add g f]
    exact undoL_add k
structure Und (h1 h : Hs) (new : List Ch) (j : Nat) : Prop where
  past : h.past = new ++ h1.past
  s : undoL h.s new = h1.s.addN j
  ab : h.s.ab.length = h1.s.ab.length + j
theorem Und.zero (h : Hs) : Und h h [] 0 := ⟨rfl, rfl, rfl⟩
theorem Und.chg {h1 h h' : Hs} {new : List Ch} {j : Nat} {c : Ch} (u : Und h1 h new j) (hp : h'.past = c :: h.past) (hs : h'.s.undo c = h.s) : Und h1 h' (c :: new) j := by
  refine ⟨by rw [hp, u.past]; rfl, ?_, ?_⟩
  · show undoL (h'.s.undo c) new = _
    rw [hs]; exact u.s
  · rw [← u.ab, ← hs, undo_len]
theorem step_und {h1 h : Hs} {new : List Ch} {j : Nat} (k : h.Ok) (u : Und h1 h new j) (d : Deed) (hd : isU d = false) : ∃ new' j', Und h1 (step h d).1 new' j' := by
  cases d with
  | undo => cases hd
  | opn =>
    refine ⟨new, j + 1, u.past, ?_, ?_⟩
    · show undoL h.s.add new = (h1.s.addN j).add
      rw [undoL_add (B := h.puts) (r := h1.past) (by rw [← u.past]; exact k), u.s]
    · show (h.s.ab ++ [none]).length = _
      rw [List.length_append, u.ab]; rfl
  | put g r =>
    by_cases e : h.isG g
    · rw [step_put e]
      exact ⟨_, j, u.chg rfl (undo_setP k.good (k.hd e))⟩
    · rw [step_put' e]; exact ⟨new, j, u⟩
  | take g =>
    by_cases e : h.isG g
    · rw [step_take e]
      unfold Hs.doTake
      match hp : h.s.pile (h.way g).1 with
      | .nil => exact ⟨new, j, u⟩
      | .node r a l rt x y => exact ⟨_, j, u.chg rfl (undo_setP k.good (k.hd e))⟩
    · rw [step_take' e]; exact ⟨new, j, u⟩
  | least g =>
    by_cases e : h.isG g
    · rw [step_least e]; exact ⟨new, j, u⟩
    · rw [step_least' e]; exact ⟨new, j, u⟩
  | same a b =>
    by_cases e : h.isG a ∧ h.isG b
    · rw [step_same e]; exact ⟨new, j, u⟩
    · rw [step_same' e]; exact ⟨new, j, u⟩
  | join a b =>
    by_cases e : h.isG a ∧ h.isG b
    · rw [step_join e]
      unfold Hs.doJoin
      by_cases q : (h.way a).1 = (h.way b).1
      · rw [if_pos q]; exact ⟨new, j, u⟩
      · rw [if_neg q]
        exact ⟨_, j, u.chg (c := ⟨.join, h.s.upper (h.way a).1 (h.way b).1, h.s.pile (h.s.upper (h.way a).1 (h.way b).1), some (h.s.lower (h.way a).1 (h.way b).1)⟩) rfl (undo_lay k.good (k.hd e.1) (k.hd e.2) q)⟩
    · rw [step_join' e]; exact ⟨new, j, u⟩
theorem steps_und {h1 : Hs} : ∀ (ds : List Deed) {h : Hs} {new : List Ch} {j : Nat}, h.Ok → Und h1 h new j → (∀ d ∈ ds, isU d = false) → ∃ new' j', Und h1 (stepsOf h ds) new' j'
  | [], _, _, _, _, u, _ => ⟨_, _, u⟩
  | d :: r, h, new, j, k, u, hd => by
    obtain ⟨n', j', u'⟩ := step_und k u d (hd d List.mem_cons_self)
    exact steps_und r (step_ok k d) u' fun e he => hd e (List.mem_cons_of_mem _ he)
theorem undos : ∀ (new : List Ch) {h : Hs} {r : List Ch}, h.past = new ++ r → stepsOf h (List.replicate new.length .undo) = { h with s := undoL h.s new, past := r } ∧ outsOf h (List.replicate new.length .undo) = new.map fun c => (Ans.wd c.w, (0, 0))
  | [], h, r, e => by
    refine ⟨?_, rfl⟩
    cases h
    cases (show _ = r from e)
    rfl
  | c :: new, h, r, e => by
    have e1 : step h .undo = ({ h with s := h.s.undo c, past := new ++ r }, .wd c.w, (0, 0)) := by
      show h.doUndo = _
      unfold Hs.doUndo
      rw [e]; rfl
    obtain ⟨a, b⟩ := undos new (h := { h with s := h.s.undo c, past := new ++ r }) (r := r) rfl
    refine ⟨?_, ?_⟩
    · show stepsOf (step h .undo).1 (List.replicate new.length .undo) = _
      rw [e1]; exact a
    · show (step h .undo).2 :: outsOf (step h .undo).1 (List.replicate new.length .undo) = _
      rw [e1]
      exact congrArg _ b
theorem addN_len (s : Sn) (j : Nat) : (s.addN j).ab.length = s.ab.length + j := by
  induction j with
  | zero => rfl
  | succ j ih => show ((s.addN j).ab ++ [none]).length = _; rw [List.length_append, ih]; rfl
theorem addN_good {B : Nat} {s : Sn} (g : Good B s) (j : Nat) : Good B (s.addN j) := by
  induction j with
  | zero => exact g
  | succ j ih => exact ih.add
theorem addN_up {s : Sn} {i h k : Nat} (u : Up s.ab i h k) (j : Nat) : Up (s.addN j).ab i h k := by
  induction j with
  | zero => exact u
  | succ j ih => exact ih.add
theorem addN_pile {B : Nat} {s : Sn} (g : Good B s) {i : Nat} (hi : i < s.ab.length) (j : Nat) : (s.addN j).pile i = s.pile i := by
  induction j with
  | zero => rfl
  | succ j ih =>
    show ((s.addN j).pl ++ [T.nil]).getD i .nil = _
    rw [getD_app _ (by rw [(addN_good g j).lp, addN_len]; omega)]
    exact ih
theorem addN_new {B : Nat} {s : Sn} (g : Good B s) {i : Nat} (h1 : s.ab.length ≤ i) : ∀ {j : Nat}, i < s.ab.length + j → Up (s.addN j).ab i i 0 ∧ (s.addN j).pile i = .nil
  | 0, h2 => absurd h2 (by omega)
  | j + 1, h2 => by
    by_cases e : i < s.ab.length + j
    · obtain ⟨a, b⟩ := addN_new g h1 e
      refine ⟨a.add, ?_⟩
      show ((s.addN j).pl ++ [T.nil]).getD i .nil = _
      rw [getD_app _ (by rw [(addN_good g j).lp, addN_len]; omega)]
      exact b
    · have e2 : i = (s.addN j).ab.length := by rw [addN_len]; omega
      subst e2
      refine ⟨.here (by show ((s.addN j).ab ++ [none])[(s.addN j).ab.length]? = _; simp), ?_⟩
      show ((s.addN j).pl ++ [T.nil]).getD _ .nil = _
      rw [← (addN_good g j).lp, getD_snoc]
theorem RelC.words {B : Nat} : ∀ {r : List Ch} {s : Sn} {p : Pn} {r' : List (Wd × Pn)}, RelC B s r p r' → r'.map (·.1) = r.map (·.w)
  | [], _, _, [], _ => rfl
  | c :: _, _, _, (_, _) :: _, ⟨_, e, _, d⟩ => by rw [List.map_cons, List.map_cons, RelC.words d, e]
inductive IspOuts9 (K : PySem.W.Frag) (CH : Addr) (CG : Addr) (vs : List V) (H : Hp) (Q : VK) : Prop
  | mk : ∀ a p ws ds, (vs = [.ref a.p, .ref p]) → (HallAt CH CG H a Hs.zero) → (H p = some (.lst ws)) → (p ≠ a.aA) → (p ≠ a.aS) → (p ≠ a.aP) → (p ≠ a.aC) → (DeedsAt H ws ds) → (DsOk ds) → (∀ q us H', HallAt CH CG H' a (stepsOf Hs.zero ds) → Frm a H H' → H' q = some (.lst us) → Paired (OutAt K H') us (outsOf Hs.zero ds) → Q (.ref q) H') → IspOuts9 K CH CG vs H Q
def spOuts9 (K : PySem.W.Frag) (CH CG : Addr) : Sp := fun vs H Q _ => IspOuts9 K CH CG vs H Q
inductive IspAnswers9 (vs : List V) (H : Hp) (Q : VK) : Prop
  | mk : ∀ p ws ds, (vs = [.ref p]) → (H p = some (.lst ws)) → (DeedsAt H ws ds) → (DsOk ds) → (∀ q us H', H q = none → Same H H' → H' q = some (.lst us) → Paired (AnsAt H') us ((outsOf Hs.zero ds).map (·.1)) → Q (.ref q) H') → IspAnswers9 vs H Q
def spAnswers9 (K : PySem.W.Frag) : Sp := fun vs H Q _ => IspAnswers9 vs H Q
inductive IspBehind9 (CH : Addr) (CG : Addr) (vs : List V) (H : Hp) (Q : VK) : Prop
  | mk : ∀ p ws ds, (vs = [.ref p]) → (H p = some (.lst ws)) → (DeedsAt H ws ds) → (DsOk ds) → (∀ a H', Same H H' → HallAt CH CG H' a (stepsOf Hs.zero ds) → Q (.ref a.p) H') → IspBehind9 CH CG vs H Q
def spBehind9 (CH CG : Addr) : Sp := fun vs H Q _ => IspBehind9 CH CG vs H Q
end Ph
set_option Elab.async false
set_option linter.all false
set_option maxRecDepth 100000
namespace Ph
open PySem PySem.Spec L2
open PyProof.Rows hiding St
theorem cut_to (xs : List V) (c : Nat) : cutV xs none (some (c : Int)) = xs.take c := by
  unfold cutV
  rw [HT.sIx_none, HT.sIx_nat]
  show (xs.drop 0).take (min c xs.length - 0) = xs.take c
  rw [List.drop_zero, Nat.sub_zero]
  by_cases h : c ≤ xs.length
  · rw [Nat.min_eq_left h]
  · rw [Nat.min_eq_right (by omega), List.take_of_length_le (Nat.le_refl _), List.take_of_length_le (by omega)]
theorem cut_from (xs : List V) (c : Nat) : cutV xs (some (c : Int)) none = xs.drop c := by
  unfold cutV
  rw [HT.sIx_none, HT.sIx_nat]
  by_cases h : c ≤ xs.length
  · rw [Nat.min_eq_left h, List.take_of_length_le (by rw [List.length_drop]; exact Nat.le_refl _)]
  · rw [Nat.min_eq_right (by omega), List.drop_of_length_le (Nat.le_refl _), List.drop_of_length_le (by omega), List.take_nil]
def offM (H : Hp) (M : List Addr) : Hp := fun b => if b ∈ M then none else H b
theorem offM_some {H : Hp} {M : List Addr} {b : Addr} {o : HO} (hb : b ∉ M) (e : H b = some o) : offM H M b = some o := by unfold offM; rw [if_neg hb]; exact e
section
variable {H0 H H' : Hp} {a : PA} {x : List Sp1} {n : Nat} {p : Pn}
theorem PLAt.rebase (A : PLAt H0 H a x n p) : PLAt (offM H (a.mu x)) H a x n p :=
  ⟨A.od, A.sn, A.nl, A.pa, A.sp, A.nd, fun b hb => by unfold offM; exact if_pos hb, fun b o e => by
    unfold offM at e
    by_cases h : b ∈ a.mu x
    · rw [if_pos h] at e; cases e
    · rw [if_neg h] at e; exact e⟩
theorem PLAt.keepB (A : PLAt H0 H a x n p) {b : Addr} {o : HO} (e : H0 b = some o) : b ∉ a.mu x := fun z => by rw [A.fr b z] at e; cases e
theorem PLAt.smOff (A : PLAt H0 H a x n p) : Same H0 (offM H (a.mu x)) := fun b o e => offM_some (A.keepB e) (A.sm b o e)
end
def LstM (M : List Addr) (H : Hp) (u : V) (b : List (Int × Int)) : Prop := ∃ y xs qs, u = .ref y ∧ y ∉ M ∧ H y = some (.lst xs) ∧ PairsAt H xs qs ∧ qs.Perm b ∧ Sorted2 qs
theorem LstM.same {M : List Addr} {H H' : Hp} (s : Same H H') {u : V} {b : List (Int × Int)} (h : LstM M H u b) : LstM M H' u b := by
  obtain ⟨y, xs, qs, e, m, h1, h2, h3⟩ := h
  exact ⟨y, xs, qs, e, m, s _ _ h1, h2.mono (.of s), h3⟩
theorem LstM.put {M : List Addr} {H : Hp} {D : Addr} {us vs : List V} (hM : D ∈ M) (hD : H D = some (.lst us)) {u : V} {b : List (Int × Int)} (h : LstM M H u b) : LstM M (upd H D (.lst vs)) u b := by
  obtain ⟨y, xs, qs, e, m, h1, h2, h3⟩ := h
  exact ⟨y, xs, qs, e, m, by rw [upd_ne (fun z : y = D => m (by rw [z]; exact hM))]; exact h1, h2.mono (.put hD), h3⟩
def dnm : Deed → Str
  | .opn => "open"
  | .put _ _ => "put"
  | .take _ => "take"
  | .least _ => "least"
  | .join _ _ => "join"
  | .same _ _ => "same"
  | .undo => "undo"
theorem deed_head {H : Hp} {v : V} : ∀ {d : Deed}, DeedAt H v d → ∃ q xs, v = .ref q ∧ H q = some (.tup (.str (dnm d) :: xs))
  | .opn, ⟨q, e, h⟩ => ⟨q, _, e, h⟩
  | .put _ _, ⟨q, e, h⟩ => ⟨q, _, e, h⟩
  | .take _, ⟨q, e, h⟩ => ⟨q, _, e, h⟩
  | .least _, ⟨q, e, h⟩ => ⟨q, _, e, h⟩
  | .join _ _, ⟨q, e, h⟩ => ⟨q, _, e, h⟩
  | .same _ _, ⟨q, e, h⟩ => ⟨q, _, e, h⟩
  | .undo, ⟨q, e, h⟩ => ⟨q, _, e, h⟩
theorem dnm_undo (d : Deed) : decide (V.str (dnm d) = V.str "undo") = isU d := by
  have n : ∀ {x : Str}, x ≠ "undo" → decide (V.str x = V.str "undo") = false := fun h => decide_eq_false fun z => h (by injection z)
  cases d with
  | opn => exact n (x := "open") (by decide +kernel)
  | put _ _ => exact n (x := "put") (by decide +kernel)
  | take _ => exact n (x := "take") (by decide +kernel)
  | least _ => exact n (x := "least") (by decide +kernel)
  | join _ _ => exact n (x := "join") (by decide +kernel)
  | same _ _ => exact n (x := "same") (by decide +kernel)
  | undo => exact decide_eq_true rfl
theorem take_filter {α : Type} (f : α → Bool) {l : List α} {i : Nat} {x : α} (h : l[i]? = some x) : (l.take (i + 1)).filter f = (l.take i).filter f ++ if f x = true then [x] else [] := by
  have hi := get_lt h
  have e : l[i] = x := by rw [List.getElem?_eq_getElem hi] at h; exact Option.some.inj h
  rw [List.take_succ_eq_append_getElem hi, List.filter_append, e, List.filter_cons]
  cases f x <;> rfl
theorem nU_app (a b : List Deed) : nU (a ++ b) = nU a + nU b := by unfold nU; rw [List.filter_append, List.length_append]
theorem nU_le (a : List Deed) : nU a ≤ a.length := by unfold nU; exact List.length_filter_le _ _
theorem nU_undos (m : Nat) : nU (List.replicate m .undo) = 0 := by
  induction m with
  | zero => rfl
  | succ m ih => rw [List.replicate_succ, nU_cons, ih]; rfl
theorem rep_one {α : Type} (x : α) : ∀ m : Nat, (List.replicate m [x]).flatten = List.replicate m x
  | 0 => rfl
  | m + 1 => by rw [List.replicate_succ, List.flatten_cons, rep_one x m, List.replicate_succ]; rfl
theorem deeds_undos {H : Hp} {t : Addr} (h : H t = some (.tup [.str "undo"])) : ∀ m : Nat, DeedsAt H (List.replicate m (.ref t)) (List.replicate m .undo)
  | 0 => .nil
  | m + 1 => .cons ⟨t, rfl, h⟩ (deeds_undos h m)
theorem und_pile {h1 h2 : Hs} {new : List Ch} {j : Nat} (k1 : h1.Ok) (u : Und h1 h2 new j) {p : Pn} (r : R0 h1.puts h1.s p) {g : Nat} (hg : g < h1.s.ab.length + j) :
    ∃ t b, (pilesOf { h2 with s := undoL h2.s new, past := h1.past })[g]? = some t ∧ ((p.lb.map fun l => p.bag l) ++ List.replicate j [])[g]? = some b ∧ b.Perm t.toL := by
  have G := k1.good
  unfold pilesOf
  rw [u.s]
  show ∃ t b, ((headsOf (h1.s.addN j).ab).map fun n => (h1.s.addN j).pile n)[g]? = some t ∧ _
  have ll : (p.lb.map fun l => p.bag l).length = h1.s.ab.length := by rw [List.length_map, r.ln]
  by_cases c : g < h1.s.ab.length
  · obtain ⟨hd, st, up⟩ := G.up g c
    refine ⟨_, _, by rw [List.getElem?_map, headsOf_get (addN_up up j) (by rw [addN_len]; exact hg)]; rfl, by rw [List.getElem?_append_left (by omega), List.getElem?_map, List.getElem?_eq_getElem (by rw [r.ln]; exact c)]; rfl, ?_⟩
    show List.Perm _ ((h1.s.addN j).pile hd).toL
    rw [addN_pile G (get_lt up.head)]
    have := r.bag up
    unfold Pn.lab at this
    simpa [List.getD, show g < p.lb.length by rw [r.ln]; exact c] using this
  · obtain ⟨up, hp⟩ := addN_new G (by omega) (j := j) hg
    refine ⟨_, _, by rw [List.getElem?_map, headsOf_get up (by rw [addN_len]; exact hg)]; rfl, by rw [List.getElem?_append_right (by omega), List.getElem?_replicate, if_pos (by omega)], ?_⟩
    show List.Perm _ ((h1.s.addN j).pile g).toL
    rw [hp]
    exact List.Perm.refl _
end Ph
namespace Ph
open PySem PySem.Spec L2
open PyProof.Rows hiding St
def top (i : Nat) : Stmt := PySem.Challenge.pw_pilehall_k09_whole_undone.main.body.getD i (.Pass ⟨0, 0, 0, 0⟩)
abbrev s_Groups___init__ : Stmt := inClass (top 3) 0
abbrev s_Groups_add_group : Stmt := inClass (top 3) 1
abbrev s_Groups_has : Stmt := inClass (top 3) 2
abbrev s_Groups_way_up : Stmt := inClass (top 3) 3
abbrev s_Groups_heads : Stmt := inClass (top 3) 4
abbrev s_Groups_lay : Stmt := inClass (top 3) 5
abbrev s_Groups_part : Stmt := inClass (top 3) 6
abbrev s_thing_on : Stmt := top 14
abbrev s_reach_of : Stmt := top 15
abbrev s_held_of : Stmt := top 16
abbrev s_comes_ahead : Stmt := top 17
abbrev s_topped : Stmt := top 18
abbrev s_leaning : Stmt := top 19
abbrev s_single : Stmt := top 20
abbrev s_joined : Stmt := top 21
abbrev s_taken : Stmt := top 22
abbrev s_emptied : Stmt := top 23
abbrev s_Hall___init__ : Stmt := inClass (top 30) 0
abbrev s_Hall_has : Stmt := inClass (top 30) 1
abbrev s_Hall_add_group : Stmt := inClass (top 30) 2
abbrev s_Hall_put : Stmt := inClass (top 30) 3
abbrev s_Hall_take : Stmt := inClass (top 30) 4
abbrev s_Hall_least : Stmt := inClass (top 30) 5
abbrev s_Hall_unite : Stmt := inClass (top 30) 6
abbrev s_Hall_are_one : Stmt := inClass (top 30) 7
abbrev s_Hall_change : Stmt := inClass (top 30) 8
abbrev s_Hall_undo : Stmt := inClass (top 30) 9
abbrev s_groups_named : Stmt := top 32
abbrev s_done : Stmt := top 33
abbrev s_outcomes : Stmt := top 34
abbrev s_answers : Stmt := top 35
abbrev s_hall_behind : Stmt := top 36
abbrev s_contents : Stmt := top 37
abbrev s_law_whole : Stmt := top 39
abbrev s_law_at : Stmt := top 40
abbrev s_law_pairs_are : Stmt := top 41
abbrev s_law_told_so : Stmt := top 42
abbrev s_law_deeds : Stmt := top 43
abbrev s_law_start : Stmt := top 44
abbrev s_law_change : Stmt := top 45
abbrev s_law_back : Stmt := top 46
abbrev s_law_joining : Stmt := top 47
abbrev s_law_on_pile : Stmt := top 48
abbrev s_law_plainly : Stmt := top 49
abbrev s_law_mixed : Stmt := top 50
abbrev s_law : Stmt := top 51
structure Nums (mg : Str → Option Value) : Prop where
  rank : IntAt mg "RANK" 0
  age : IntAt mg "AGE" 1
  left : IntAt mg "LEFT" 2
  right : IntAt mg "RIGHT" 3
  reach : IntAt mg "REACH" 4
  held : IntAt mg "HELD" 5
section
variable {P : Program} {w : World} {K : PySem.W.Frag} {mg : Str → Option Value} {base : Heap}
theorem sc_thing : FnScope ["pile"] ["pile"] (defScope s_thing_on) := ⟨rfl, rfl, rfl, by decide +kernel, rfl, by decide +kernel, by decide +kernel⟩
theorem ok_thing (O : Own K mg "thing_on" s_thing_on) (N : Nums mg) : Has P w K mg base 1 "thing_on" ["pile"] spThing := by
  refine O.has sc_thing (fun _ _ _ _ _ _ => by1 fun _ => rfl) (fun vs H Q E h => ?_) (fun f cdv A outer s H vs Q E hr h => ?_)
  · obtain ⟨v, r, a, l, rt, rc, hd, rfl, _⟩ := h; rfl
  obtain ⟨v, r, a, l, rt, rc, hd, rfl, hv, k⟩ := h
  obtain ⟨p, vl, vr, rfl, hp, hl, hrt⟩ := nodeAt hv
  refine ⟨_, pss_one (ps_ret (pe_tup (pa_cons (pe_ix ix_tup (pv 0) (pe_gint N.rank) (fun _ _ => rfl)) (pa_cons (pe_ix ix_tup (pv 0) (pe_gint N.age) (fun _ _ => rfl)) pa_nil)))), ?_⟩
  refine ⟨_, rfl, p, _, _, _, rfl, rfl, SqT.of hp, rfl, _, rfl, p, _, _, _, rfl, rfl, SqT.of hp, rfl, (by show 2 ≤ sizeLine; decide), fun q hq => ?_⟩
  exact k _ _ (same_new hq _) pairNew
theorem sc_reach : FnScope ["pile"] ["pile"] (defScope s_reach_of) := ⟨rfl, rfl, rfl, by decide +kernel, rfl, by decide +kernel, by decide +kernel⟩
theorem ok_reach (O : Own K mg "reach_of" s_reach_of) (N : Nums mg) : Has P w K mg base 1 "reach_of" ["pile"] spReach := by
  refine O.has sc_reach (fun _ _ _ _ _ _ => by1 fun _ => rfl) (fun vs H Q E h => ?_) (fun f cdv A outer s H vs Q E hr h => ?_)
  · obtain ⟨v, t, rfl, _⟩ := h; rfl
  obtain ⟨v, t, rfl, hv, k⟩ := h
  refine ⟨_, pss_one (ps_ret (pe_ifExp (pt_truth (pv 0) (fun _ => rfl)) (pe_ix ix_tup (pv 0) (pe_gint N.reach) (fun _ _ => rfl)) pe_int)), ?_⟩
  refine ⟨_, rfl, _, pileTru hv, ?_⟩
  cases t with
  | nil => exact iteF k
  | node r a l rt rc hd =>
    obtain ⟨p, vl, vr, rfl, hp, hl, hrt⟩ := nodeAt hv
    exact iteT ⟨_, rfl, p, _, _, _, rfl, rfl, SqT.of hp, rfl, k⟩
theorem sc_held : FnScope ["pile"] ["pile"] (defScope s_held_of) := ⟨rfl, rfl, rfl, by decide +kernel, rfl, by decide +kernel, by decide +kernel⟩
theorem ok_held (O : Own K mg "held_of" s_held_of) (N : Nums mg) : Has P w K mg base 1 "held_of" ["pile"] spHeld := by
  refine O.has sc_held (fun _ _ _ _ _ _ => by1 fun _ => rfl) (fun vs H Q E h => ?_) (fun f cdv A outer s H vs Q E hr h => ?_)
  · obtain ⟨v, t, rfl, _⟩ := h; rfl
  obtain ⟨v, t, rfl, hv, k⟩ := h
  refine ⟨_, pss_one (ps_ret (pe_ifExp (pt_truth (pv 0) (fun _ => rfl)) (pe_ix ix_tup (pv 0) (pe_gint N.held) (fun _ _ => rfl)) pe_int)), ?_⟩
  refine ⟨_, rfl, _, pileTru hv, ?_⟩
  cases t with
  | nil => exact iteF k
  | node r a l rt rc hd =>
    obtain ⟨p, vl, vr, rfl, hp, hl, hrt⟩ := nodeAt hv
    exact iteT ⟨_, rfl, p, _, _, _, rfl, rfl, SqT.of hp, rfl, k⟩
theorem sc_ahead : FnScope ["one", "two"] ["one", "two"] (defScope s_comes_ahead) := ⟨rfl, rfl, rfl, by decide +kernel, rfl, by decide +kernel, by decide +kernel⟩
theorem ok_ahead (O : Own K mg "comes_ahead" s_comes_ahead) (GT : Has P w K mg base 1 "thing_on" ["pile"] spThing) : Has P w K mg base 2 "comes_ahead" ["one", "two"] spAhead := by
  refine O.has sc_ahead (fun _ _ _ _ _ _ => by2 fun _ _ => rfl) (fun vs H Q E h => ?_) (fun f cdv A outer s H vs Q E hr h => ?_)
  · obtain ⟨v, r, a, l, rt, rc, hd, v', r', a', l', rt', rc', hd', rfl, _⟩ := h; rfl
  obtain ⟨v, r, a, l, rt, rc, hd, v', r', a', l', rt', rc', hd', rfl, hv, hv', k⟩ := h
  refine ⟨_, pss_one (ps_ret (pe_cmpR (op_ltT hr.units0) (pe_fn GT hr (pa_cons (pv 0) pa_nil)) (pe_fn GT hr (pa_cons (pv 1) pa_nil)) (nomark _))), ?_⟩
  refine ⟨_, rfl, _, r, a, l, rt, rc, hd, rfl, hv, fun u H1 s1 hu => ?_⟩
  refine ⟨_, rfl, _, r', a', l', rt', rc', hd', rfl, hv'.mono (.of s1), fun u' H2 s2 hu' => ?_⟩
  obtain ⟨q, rfl, hq⟩ := hu.mono (.of s2)
  obtain ⟨q', rfl, hq'⟩ := hu'
  refine ⟨q, q', [r, a], [r', a'], rfl, rfl, SqT.of hq, SqT.of hq', ?_⟩
  rw [lexLt2 (r, a) (r', a')]
  exact k H2 (s1.trans s2)
theorem sc_topped : FnScope ["thing", "left", "right"] ["thing", "left", "right"] (defScope s_topped) := ⟨rfl, rfl, rfl, by decide +kernel, rfl, by decide +kernel, by decide +kernel⟩
theorem ok_topped (O : Own K mg "topped" s_topped) (N : Nums mg) (GR : Has P w K mg base 1 "reach_of" ["pile"] spReach) (GH : Has P w K mg base 1 "held_of" ["pile"] spHeld) : Has P w K mg base 2 "topped" ["thing", "left", "right"] spTopped := by
  refine O.has sc_topped (fun _ _ _ _ _ _ => by3 fun _ _ _ => rfl) (fun vs H Q E h => ?_) (fun f cdv A outer s H vs Q E hr h => ?_)
  · obtain ⟨u, vl, vr, p, l, rt, rfl, _⟩ := h; rfl
  obtain ⟨u, vl, vr, p, l, rt, rfl, ⟨q, rfl, hq⟩, hl, hrt, k⟩ := h
  refine ⟨_, pss_one (ps_ret (pe_tup (pa_cons (pe_ix ix_tup (pv 0) (pe_gint N.rank) (fun _ _ => rfl)) (pa_cons (pe_ix ix_tup (pv 0) (pe_gint N.age) (fun _ _ => rfl)) (pa_cons (pv 1) (pa_cons (pv 2)
    (pa_cons (pe_op op_add (pe_fn GR hr (pa_cons (pv 2) pa_nil)) pe_int) (pa_cons (pe_op op_add (pe_op op_add (pe_fn GH hr (pa_cons (pv 1) pa_nil)) (pe_fn GH hr (pa_cons (pv 2) pa_nil))) pe_int) pa_nil)))))))), ?_⟩
  refine ⟨_, rfl, q, _, _, _, rfl, rfl, SqT.of hq, rfl, _, rfl, q, _, _, _, rfl, rfl, SqT.of hq, rfl, _, rfl, _, rfl, ?_⟩
  refine ⟨_, rfl, _, rt, rfl, hrt, _, _, rfl, rfl, ?_⟩
  refine ⟨_, rfl, _, l, rfl, hl, _, rfl, _, rt, rfl, hrt, _, _, rfl, rfl, _, _, rfl, rfl, (by show 6 ≤ sizeLine; decide), fun z hz => ?_⟩
  exact k _ _ (same_new hz _) ⟨z, vl, vr, rfl, upd_same, hl.mono (.new hz _), hrt.mono (.new hz _)⟩
theorem sc_leaning : FnScope ["thing", "old_left", "other"] ["thing", "old_left", "other"] (defScope s_leaning) := ⟨rfl, rfl, rfl, by decide +kernel, rfl, by decide +kernel, by decide +kernel⟩
theorem ok_leaning (O : Own K mg "leaning" s_leaning) (GR : Has P w K mg base 1 "reach_of" ["pile"] spReach) (GT : Has P w K mg base 2 "topped" ["thing", "left", "right"] spTopped) : Has P w K mg base 3 "leaning" ["thing", "old_left", "other"] spLeaning := by
  refine O.has sc_leaning (fun _ _ _ _ _ _ => by3 fun _ _ _ => rfl) (fun vs H Q E h => ?_) (fun f cdv A outer s H vs Q E hr h => ?_)
  · obtain ⟨u, vl, vr, p, l, rt, rfl, _⟩ := h; rfl
  obtain ⟨u, vl, vr, p, l, rt, rfl, hu, hl, hrt, k⟩ := h
  refine ⟨_, pss_cons (ps_if (pt_cmpR op_gt (pe_fn GR hr (pa_cons (pv 2) pa_nil)) (pe_fn GR hr (pa_cons (pv 1) pa_nil)) (nomark _)) (pss_one (ps_ret (pe_fn GT hr (pa_cons (pv 0) (pa_cons (pv 2) (pa_cons (pv 1) pa_nil)))))) pss_nil)
    (pss_one (ps_ret (pe_fn GT hr (pa_cons (pv 0) (pa_cons (pv 1) (pa_cons (pv 2) pa_nil)))))), ?_⟩
  refine ⟨_, rfl, _, rt, rfl, hrt, _, rfl, _, l, rfl, hl, _, _, rfl, rfl, _, rfl, ?_⟩
  refine ite2 (fun c => ?_) (fun c => ?_)
  · have c' : l.reach < rt.reach := of_decide_eq_true c
    refine ⟨_, rfl, _, rfl, _, rfl, _, _, _, p, rt, l, rfl, hu, hrt, hl, fun v H' s' h' => k v H' s' ?_⟩
    unfold leanT; rw [if_pos c']; exact h'
  · have c' : ¬ l.reach < rt.reach := fun z => c (decide_eq_true z)
    refine ⟨_, rfl, _, rfl, _, rfl, _, _, _, p, l, rt, rfl, hu, hl, hrt, fun v H' s' h' => k v H' s' ?_⟩
    unfold leanT; rw [if_neg c']; exact h'
end
section
variable {P : Program} {w : World} {K : PySem.W.Frag} {mg : Str → Option Value} {base : Heap}
theorem sc_joined : FnScope ["one", "two", "tops", "pile", "top"] ["one", "two"] (defScope s_joined) := ⟨rfl, rfl, rfl, by decide +kernel, rfl, by decide +kernel, by decide +kernel⟩
theorem ok_joined (O : Own K mg "joined" s_joined) (N : Nums mg) (B : Bare mg) (GT : Has P w K mg base 1 "thing_on" ["pile"] spThing) (GA : Has P w K mg base 2 "comes_ahead" ["one", "two"] spAhead) (GL : Has P w K mg base 3 "leaning" ["thing", "old_left", "other"] spLeaning) :
    Has P w K mg base 4 "joined" ["one", "two"] spJoined := by
  refine O.has sc_joined (fun _ _ _ _ _ _ => by2 fun _ _ => rfl) (fun vs H Q E h => ?_) (fun f cdv A outer s H vs Q E hr h => ?_)
  · obtain ⟨v, v', s, t, rfl, _⟩ := h; rfl
  obtain ⟨v, v', a0, b0, rfl, hv, hv', hsz, k⟩ := h
  refine ⟨_, pss_cons (ps_set (i := 2) sc_joined.nd rfl (Or.inl rfl) (pe_lst pa_nil))
    (pss_cons (ps_while PassesOwn.never (pw_and (pt_truth (pv 0) (fun _ => rfl)) (pw_and1 (pt_truth (pv 1) (fun _ => rfl)))).pt
      (pss_one (ps_if (pt_truth (pe_fn GA hr (pa_cons (pv 1) (pa_cons (pv 0) pa_nil))) (fun _ => rfl))
        (pss_cons (ps_expr (pe_bm PySem.F.plainAttrs_list PySem.F.slot_list_append PySem.F.type_list_append mt_append (pv 2) (pa_cons (pv 1) pa_nil))) (pss_one (ps_set (i := 1) sc_joined.nd rfl (Or.inl rfl) (pe_ix ix_tup (pv 1) (pe_gint N.right) (fun _ _ => rfl)))))
        (pss_cons (ps_expr (pe_bm PySem.F.plainAttrs_list PySem.F.slot_list_append PySem.F.type_list_append mt_append (pv 2) (pa_cons (pv 0) pa_nil))) (pss_one (ps_set (i := 0) sc_joined.nd rfl (Or.inl rfl) (pe_ix ix_tup (pv 0) (pe_gint N.right) (fun _ _ => rfl))))))))
    (pss_cons (ps_set (i := 3) sc_joined.nd rfl (Or.inl rfl) (pe_ifExp (pt_truth (pv 0) (fun _ => rfl)) (pv 0) (pv 1)))
    (pss_cons (ps_for PassesOwn.never rfl (pi_rev rfl B.rev (pa_cons (pv 2) pa_nil)) (pg_name (i := 4) sc_joined.nd rfl (Or.inl rfl))
      (pss_one (ps_set (i := 3) sc_joined.nd rfl (Or.inl rfl) (pe_fn GL hr (pa_cons (pe_fn GT hr (pa_cons (pv 4) pa_nil)) (pa_cons (pe_ix ix_tup (pv 4) (pe_gint N.left) (fun _ _ => rfl)) (pa_cons (pv 3) pa_nil)))))))
    (pss_one (ps_ret (pe_tup (pa_cons (pv 3) (pa_cons (pe_callB call_len_seq rfl B.len PySem.boot_len (pa_cons (pv 2) pa_nil)) pa_nil)))))))), ?_⟩
  refine ⟨(by show 0 ≤ sizeLine; decide), fun L hL => ?_⟩
  refine ⟨fun m σ H2 => ∃ one two a b vs ts, σ = [some one, some two, some (.ref L), none, none] ∧ JW H H2 L a0 b0 one two a b vs ts ∧ m = a.size + b.size,
    ⟨_, v, v', a0, b0, [], [], rfl, ⟨same_new hL _, upd_same, hv.mono (.new hL _), hv'.mono (.new hL _), .nil, fun x hx => (by cases hx), rfl, rfl, Nat.le_refl _⟩, rfl⟩, ?_⟩
  rintro m σ H2 ⟨one, two, a, b, vs, ts, rfl, j, rfl⟩
  have after : ∀ {c : T}, join a b = c → joinN a b = 0 → ∀ u, PileAt H2 c u →
      tSeq (tFor (iRev K (tCons (tVar 2) tNil)) (gName 4) (tAsg (tCall spLeaning [] E0 (tCons (tCall spThing [] E0 (tCons (tVar 4) tNil)) (tCons (tOp (rIxT K) (tVar 4) (tC (.int 2))) (tCons (tVar 3) tNil)))) (gName 3)))
        (tRet (tTup (tCons (tVar 3) (tCons (tCB (fun xs H Q => ∃ p ys, xs = [.ref p] ∧ (SqL K H p ys ∨ SqT K H p ys) ∧ Q (.int ys.length) H) (tCons (tVar 2) tNil)) tNil)))) { nx := fun _ H' => Q .non H', rt := Q } [some one, some two, some (.ref L), some u, none] H2 := by
    intro c ec en u hu
    refine ⟨_, rfl, L, vs, rfl, SqL.of j.lst, ?_⟩
    have hlen : vs.length = ts.length := paired_len j.ps
    refine for_rev (K := K) (a := L) (xs := vs) (fun i σ H3 => ∃ pile acc tp, σ = [some one, some two, some (.ref L), some pile, tp] ∧ Same H2 H3 ∧ PileAt H3 acc pile ∧ acc = (ts.drop (ts.length - i)).foldr glue c)
      ⟨u, c, none, rfl, .refl _, hu, by rw [Nat.sub_zero, List.drop_length]; rfl⟩ (fun i σ H3 _ ⟨_, _, _, _, s3, _⟩ => SqL.of (s3 _ _ j.lst)) ?_ ?_
    · rintro i x σ H3 hi hx ⟨pile, acc, tp, rfl, s3, hp, ea⟩
      obtain ⟨y, ey, fy⟩ := paired_get j.ps hx
      have hy : y ∈ ts := List.mem_of_getElem? ey
      cases y with
      | nil => exact absurd rfl (j.nn _ hy)
      | node r a l rt rc hd =>
        have fy3 : PileAt H3 (.node r a l rt rc hd) x := PileAt.mono (.of s3) fy
        refine ⟨_, rfl, _, r, a, l, rt, rc, hd, rfl, fy3, fun w1 H4 s4 hw1 => ?_⟩
        obtain ⟨p, vl, vr, rfl, hp4, hl4, hr4⟩ := nodeAt (fy3.mono (.of s4))
        refine ⟨_, rfl, p, _, _, _, rfl, rfl, SqT.of hp4, rfl, _, rfl, _, _, _, (r, a), l, acc, rfl, hw1, hl4, hp.mono (.of s4), fun u' H5 s5 hu' => ?_⟩
        refine ⟨u', _, _, rfl, (s3.trans s4).trans s5, hu', ?_⟩
        have e1 : ts.length - (i + 1) = vs.length - 1 - i := by omega
        have e2 : ts.length - i = ts.length - (i + 1) + 1 := by omega
        rw [ea]
        rw [e1] at e2 ⊢
        rw [List.drop_eq_getElem_cons (i := vs.length - 1 - i) (by omega), List.foldr_cons]
        have e3 : ts[vs.length - 1 - i]'(by omega) = .node r a l rt rc hd := by
          rw [List.getElem?_eq_getElem (by omega)] at ey
          exact Option.some.inj ey
        rw [e3, ← e2]; rfl
    · rintro σ H3 ⟨pile, acc, tp, rfl, s3, hp, ea⟩
      rw [hlen, Nat.sub_self, List.drop_zero] at ea
      refine ⟨_, rfl, _, rfl, L, vs, rfl, .inl (SqL.of (s3 _ _ j.lst)), (by show 2 ≤ sizeLine; decide), fun q hq => ?_⟩
      have ejn : joinN a0 b0 = vs.length := by rw [j.cn, en, hlen]; omega
      refine k q pile _ ((j.same.trans s3).trans (same_new hq _)) (by rw [ejn]; exact upd_same) ?_
      rw [j.jn, ec, ← ea]
      exact hp.mono (.new hq _)
  refine ⟨_, rfl, _, pileTru j.pa, ?_⟩
  cases a with
  | nil =>
    refine iteF (iteF ?_)
    refine ⟨_, rfl, _, pileTru j.pa, iteF ?_⟩
    exact ⟨_, rfl, after (join_nil_left _) (joinN_nil_left _) two j.pb⟩
  | node r a l rt rc hd =>
    refine iteT ⟨_, rfl, _, pileTru j.pb, ?_⟩
    cases b with
    | nil =>
      refine iteF ?_
      refine ⟨_, rfl, _, pileTru j.pa, iteT ?_⟩
      exact ⟨_, rfl, after (join_nil_right _) (joinN_nil_right _) one j.pa⟩
    | node r' a' l' rt' rc' hd' =>
      refine iteT ⟨_, fun σ' H' z => z, ?_⟩
      refine ⟨_, rfl, _, rfl, _, r', a', l', rt', rc', hd', _, r, a, l, rt, rc, hd, rfl, j.pb, j.pa, fun H3 s3 => ⟨_, rfl, ?_⟩⟩
      have hL3 : H3 L = some (.lst vs) := s3 _ _ j.lst
      have hvl : vs.length < sizeLine := szl (by
        have := j.sz
        have h1 := paired_len j.ps
        omega)
      cases hc : lt2 (r', a') (r, a) with
      | true =>
        refine iteT ?_
        obtain ⟨p, vl, vr, rfl, hp, hl, hrt⟩ := nodeAt (j.pb.mono (.of s3))
        have j' := j.two hL s3 hc (vl := vl) hrt
        refine ⟨_, rfl, .inl ⟨rfl, _, SqL.of hL3⟩, _, rfl, L, _, _, rfl, rfl, hL3, hvl, ?_⟩
        refine ⟨_, rfl, p, _, _, _, rfl, rfl, SqT.of (Tups.put hL3 _ _ hp), rfl, ?_⟩
        exact ⟨_, by simp only [T.size]; omega, one, vr, _, _, _, _, rfl, j', rfl⟩
      | false =>
        refine iteF ?_
        obtain ⟨p, vl, vr, rfl, hp, hl, hrt⟩ := nodeAt (j.pa.mono (.of s3))
        have j' := j.one hL s3 (by rw [hc]; decide) (vl := vl) hrt
        refine ⟨_, rfl, .inl ⟨rfl, _, SqL.of hL3⟩, _, rfl, L, _, _, rfl, rfl, hL3, hvl, ?_⟩
        refine ⟨_, rfl, p, _, _, _, rfl, rfl, SqT.of (Tups.put hL3 _ _ hp), rfl, ?_⟩
        exact ⟨_, by simp only [T.size]; omega, vr, two, _, _, _, _, rfl, j', rfl⟩
end
section
variable {P : Program} {w : World} {K : PySem.W.Frag} {mg : Str → Option Value} {base : Heap}
theorem sc_single : FnScope ["rank", "age"] ["rank", "age"] (defScope s_single) := ⟨rfl, rfl, rfl, by decide +kernel, rfl, by decide +kernel, by decide +kernel⟩
theorem ok_single (O : Own K mg "single" s_single) (g_topped : Has P w K mg base 2 "topped" ["thing", "left", "right"] spTopped) : Has P w K mg base 3 "single" ["rank", "age"] spSingle := by
  refine O.has sc_single (fun _ _ _ _ _ _ => by2 fun _ _ => rfl) (fun vs H Q E h => ?_) (fun f cdv A outer s H vs Q E hr h => ?_)
  · obtain ⟨r, a, rfl, _⟩ := h; rfl
  obtain ⟨r, a, rfl, k⟩ := h
  refine ⟨_, (pss_one (ps_ret (pe_fn g_topped hr (pa_cons (pe_tup (pa_cons (pv 0) (pa_cons (pv 1) pa_nil))) (pa_cons (pe_tup pa_nil) (pa_cons (pe_tup pa_nil) pa_nil)))))), ?_⟩
  refine ⟨_, rfl, _, rfl, (by show 2 ≤ sizeLine; decide), fun z hz => ⟨(by show 0 ≤ sizeLine; decide), fun z2 hz2 => ⟨(by show 0 ≤ sizeLine; decide), fun z3 hz3 => ?_⟩⟩⟩
  have s23 := (same_new hz2 (.tup [])).trans (same_new hz3 (.tup []))
  refine ⟨_, _, _, (r, a), .nil, .nil, rfl, ⟨z, rfl, s23 _ _ upd_same⟩, ⟨z2, rfl, same_new hz3 _ _ _ upd_same⟩, ⟨z3, rfl, upd_same⟩, fun v H' s' hv => ?_⟩
  exact k v H' (((same_new hz _).trans s23).trans s') hv
end
section
variable {P : Program} {w : World} {K : PySem.W.Frag} {mg : Str → Option Value} {base : Heap}
theorem sc_taken : FnScope ["pile", "rest"] ["pile"] (defScope s_taken) := ⟨rfl, rfl, rfl, by decide +kernel, rfl, by decide +kernel, by decide +kernel⟩
theorem ok_taken (O : Own K mg "taken" s_taken) (N : Nums mg) (GT : Has P w K mg base 1 "thing_on" ["pile"] spThing) (GJ : Has P w K mg base 4 "joined" ["one", "two"] spJoined) : Has P w K mg base 5 "taken" ["pile"] spTaken := by
  refine O.has sc_taken (fun _ _ _ _ _ _ => by1 fun _ => rfl) (fun vs H Q E h => ?_) (fun f cdv A outer s H vs Q E hr h => ?_)
  · obtain ⟨v, r, a, l, rt, rc, hd, rfl, _⟩ := h; rfl
  obtain ⟨v, r, a, l, rt, rc, hd, rfl, hv, hsz, k⟩ := h
  refine ⟨_, pss_cons (ps_if (pt_not (pt_truth (pv 0) (fun _ => rfl))) pss_never pss_nil)
    (pss_cons (ps_set (i := 1) sc_taken.nd rfl (Or.inl rfl) (pe_fn GJ hr (pa_cons (pe_ix ix_tup (pv 0) (pe_gint N.left) (fun _ _ => rfl)) (pa_cons (pe_ix ix_tup (pv 0) (pe_gint N.right) (fun _ _ => rfl)) pa_nil))))
    (pss_one (ps_ret (pe_tup (pa_cons (pe_fn GT hr (pa_cons (pv 0) pa_nil)) (pa_cons (pe_ix ix_tup (pv 1) pe_int (fun _ _ => rfl)) (pa_cons (pe_ix ix_tup (pv 1) pe_int (fun _ _ => rfl)) pa_nil))))))), ?_⟩
  refine ⟨_, rfl, _, pileTru hv, iteF ?_⟩
  obtain ⟨p, vl, vr, rfl, hp, hl, hrt⟩ := nodeAt hv
  refine ⟨_, rfl, p, _, _, _, rfl, rfl, SqT.of hp, rfl, _, rfl, p, _, _, _, rfl, rfl, SqT.of hp, rfl, vl, vr, l, rt, rfl, hl, hrt, hsz, fun q u H1 s1 hq hu => ?_⟩
  refine ⟨_, rfl, _, r, a, l, rt, rc, hd, rfl, hv.mono (.of s1), fun w1 H2 s2 hw1 => ?_⟩
  have hq2 := s2 _ _ hq
  refine ⟨_, rfl, q, _, _, _, rfl, rfl, SqT.of hq2, rfl, _, rfl, q, _, _, _, rfl, rfl, SqT.of hq2, rfl, (by show 3 ≤ sizeLine; decide), fun z hz => ?_⟩
  exact k z w1 u _ ((s1.trans s2).trans (same_new hz _)) upd_same (hw1.mono (.new hz _)) ((hu.mono (.of s2)).mono (.new hz _))
theorem sc_emptied : FnScope ["pile", "things", "step"] ["pile"] (defScope s_emptied) := ⟨rfl, rfl, rfl, by decide +kernel, rfl, by decide +kernel, by decide +kernel⟩
theorem ok_emptied (O : Own K mg "emptied" s_emptied) (GK : Has P w K mg base 5 "taken" ["pile"] spTaken) : Has P w K mg base 6 "emptied" ["pile"] spEmptied := by
  refine O.has sc_emptied (fun _ _ _ _ _ _ => by1 fun _ => rfl) (fun vs H Q E h => ?_) (fun f cdv A outer s H vs Q E hr h => ?_)
  · obtain ⟨v, t, rfl, _⟩ := h; rfl
  obtain ⟨v, t, rfl, hv, ho, hsz, k⟩ := h
  refine ⟨_, pss_cons (ps_set (i := 1) sc_emptied.nd rfl (Or.inl rfl) (pe_lst pa_nil))
    (pss_cons (ps_while PassesOwn.never (pt_truth (pv 0) (fun _ => rfl))
      (pss_cons (ps_set (i := 2) sc_emptied.nd rfl (Or.inl rfl) (pe_fn GK hr (pa_cons (pv 0) pa_nil)))
      (pss_cons (ps_expr (pe_bm PySem.F.plainAttrs_list PySem.F.slot_list_append PySem.F.type_list_append mt_append (pv 1) (pa_cons (pe_ix ix_tup (pv 2) pe_int (fun _ _ => rfl)) pa_nil)))
      (pss_one (ps_set (i := 0) sc_emptied.nd rfl (Or.inl rfl) (pe_ix ix_tup (pv 2) pe_int (fun _ _ => rfl)))))))
    (pss_one (ps_ret (pv 1)))), ?_⟩
  refine ⟨(by show 0 ≤ sizeLine; decide), fun L hL => ?_⟩
  refine ⟨fun m σ H2 => ∃ pile st a ws ps, σ = [some pile, some (.ref L), st] ∧ Same H H2 ∧ H2 L = some (.lst ws) ∧ PileAt H2 a pile ∧ PairsAt H2 ws ps ∧ Ho a ∧ (ps ++ a.toL).Perm t.toL ∧ Sorted2 ps ∧ (∀ p ∈ ps, ∀ q ∈ a.toL, le2 p q) ∧ m = a.size,
    ⟨_, v, none, t, [], [], rfl, same_new hL _, upd_same, hv.mono (.new hL _), .nil, ho, List.Perm.refl _, List.Pairwise.nil, fun p hp => (by cases hp), rfl⟩, ?_⟩
  rintro m σ H2 ⟨pile, st, a, ws, ps, rfl, s2, hL2, ha, hps, hoa, hperm, hsrt, hle, rfl⟩
  refine ⟨_, rfl, _, pileTru ha, ?_⟩
  have hcount : ps.length + a.size = t.size := by
    have := hperm.length_eq
    rw [List.length_append, T.length_toL, T.length_toL] at this
    exact this
  cases a with
  | nil =>
    refine iteF ⟨_, rfl, ?_⟩
    exact k L ws ps H2 s2 hL2 hps (by simpa [T.toL] using hperm) hsrt
  | node r a l rt rc hd =>
    refine iteT ⟨_, fun σ' H' z => z, ?_⟩
    have hsz2 : l.size + rt.size ≤ 100 := by
      simp only [T.size] at hcount
      omega
    refine ⟨_, rfl, _, r, a, l, rt, rc, hd, rfl, ha, hsz2, fun q u u' H3 s3 hq hu hu' => ?_⟩
    have hL3 : H3 L = some (.lst ws) := s3 _ _ hL2
    refine ⟨_, rfl, .inl ⟨rfl, _, SqL.of hL3⟩, _, rfl, q, _, _, _, rfl, rfl, SqT.of hq, rfl, L, _, _, rfl, rfl, hL3, szl (by have := paired_len hps; omega), ?_⟩
    have mp := Tups.put (o := .lst (ws ++ [u])) hL3
    refine ⟨_, rfl, q, _, _, _, rfl, rfl, SqT.of (mp _ _ hq), rfl, ?_⟩
    have hj := join_perm l rt
    refine ⟨(join l rt).size, by rw [join_size]; simp only [T.size]; omega, u', _, join l rt, ws ++ [u], ps ++ [(r, a)], rfl, same_put hL (s2.trans s3) _, upd_same, hu'.mono mp,
      paired_app ((PairsAt.mono (.of s3) hps).mono mp) (.cons (hu.mono mp) .nil), ho_join _ _ hoa.2.1 hoa.2.2, ?_, ?_, ?_, rfl⟩
    · refine List.Perm.trans ?_ hperm
      rw [List.append_assoc]
      exact List.Perm.append_left _ (List.Perm.cons _ hj)
    · refine List.pairwise_append.mpr ⟨hsrt, List.pairwise_singleton _ _, fun p hp q' hq' => ?_⟩
      rw [List.mem_singleton.mp hq']
      exact hle p hp _ List.mem_cons_self
    · intro p hp q' hq'
      have hq2 : q' ∈ l.toL ++ rt.toL := hj.mem_iff.mp hq'
      rcases List.mem_append.mp hp with z | z
      · exact hle p z q' (List.mem_cons_of_mem _ hq2)
      · rw [List.mem_singleton.mp z]
        exact hoa.1 q' hq2
end
section
variable {P : Program} {w : World} {K : PySem.W.Frag} {mg : Str → Option Value} {base : Heap}
theorem sc_Groups___init__ : FnScope ["self"] ["self"] (defScope s_Groups___init__) := ⟨rfl, rfl, rfl, by decide +kernel, rfl, by decide +kernel, by decide +kernel⟩
theorem ok_ginit {C : Addr} (O : OwnI K mg "Groups" C "Groups.__init__" s_Groups___init__) (T : TxG K C) : HasI P w K mg base 1 "Groups" C (spGInit C) := by
  refine O.has sc_Groups___init__ (fun _ _ _ _ _ _ => by1 fun _ => rfl) (fun vs H Q E h => ?_) (fun f cdv A outer s H vs Q E hr h => ?_)
  · obtain ⟨p, dx, rfl, _⟩ := h; rfl
  obtain ⟨p, dx, rfl, hp, k⟩ := h
  refine ⟨_, (pss_cons (ps_fld (pv 0) (pe_lst pa_nil) rfl)
    (pss_one (ps_fld (pv 0) (pe_lst pa_nil) rfl))), ?_⟩
  refine ⟨(by show 0 ≤ sizeLine; decide), fun aA hA => ?_⟩
  have nA : p ≠ aA := ne_of_none hp hA
  refine ⟨_, rfl, p, C, dx, [], rfl, (by rw [upd_ne nA]; exact hp), T.cl, T.nA, (by show 0 < 1000; decide), ?_⟩
  refine ⟨(by show 0 ≤ sizeLine; decide), fun aS hS => ?_⟩
  have nS : p ≠ aS := ne_of_none upd_same hS
  have hS1 : (upd H aA (.lst [])) aS = none := by rw [upd_ne nS.symm] at hS; exact hS
  have nAS : aA ≠ aS := ne_of_none upd_same hS1
  have hS0 : H aS = none := by rw [upd_ne nAS.symm] at hS1; exact hS1
  refine ⟨_, rfl, p, C, dx, _, rfl, (by rw [upd_ne nS]; exact upd_same), T.cl, T.nS, (by show 1 < 1000; decide), ?_⟩
  refine k aA aS _ ⟨⟨dx, ?_⟩, ?_, ?_, nAS⟩ hA hS0 fun b o e hb => ?_
  · rw [upd_same]
    exact congrArg (fun l => some (HO.ins C dx l)) (show putF "sizes" (.ref aS) (putF "above" (.ref aA) []) = fG aA aS from by kernel_rfl)
  · rw [upd_ne nA.symm, upd_ne nAS, upd_ne nA.symm, upd_same]; rfl
  · rw [upd_ne nS.symm, upd_same]; rfl
  · rw [upd_ne hb, upd_ne (fun z => ne_of_none e hS0 z), upd_ne hb, upd_ne (ne_of_none e hA)]; exact e
theorem sc_Groups_add_group : FnScope ["self"] ["self"] (defScope s_Groups_add_group) := ⟨rfl, rfl, rfl, by decide +kernel, rfl, by decide +kernel, by decide +kernel⟩
theorem ok_gadd {C : Addr} (O : OwnM K C "add_group" "Groups.add_group" s_Groups_add_group) (T : TxG K C) (B : Bare mg) : HasM P w K mg base 1 C "add_group" ["self"] (spGAdd C) := by
  refine O.has T.cl sc_Groups_add_group (fun _ _ _ _ _ _ => by1 fun _ => rfl) (fun vs H Q E h => ?_) (fun f cdv A outer s H vs Q E hr h => ?_)
  · obtain ⟨g, aA, aS, ab, sz, rfl, _⟩ := h; rfl
  obtain ⟨g, aA, aS, ab, sz, rfl, G, h1, h2, k⟩ := h
  obtain ⟨⟨dx, ob⟩, la, ls, ne⟩ := G
  have nA : g ≠ aA := ne_of ob la (by intro z; cases z)
  have nS : g ≠ aS := ne_of ob ls (by intro z; cases z)
  refine ⟨_, (pss_cons (ps_expr (pe_bm PySem.F.plainAttrs_list PySem.F.slot_list_append PySem.F.type_list_append mt_append (pe_fld (pv 0) rfl) (pa_cons pe_non pa_nil)))
    (pss_cons (ps_expr (pe_bm PySem.F.plainAttrs_list PySem.F.slot_list_append PySem.F.type_list_append mt_append (pe_fld (pv 0) rfl) (pa_cons pe_int pa_nil)))
    (pss_one (ps_ret (pe_op op_sub (pe_callB call_len_seq rfl B.len PySem.boot_len (pa_cons (pe_fld (pv 0) rfl) pa_nil)) pe_int))))), ?_⟩
  refine ⟨_, rfl, g, C, dx, _, _, rfl, ob, T.cl, T.nA, lkA, .inl ⟨rfl, _, SqL.of la⟩, aA, _, _, rfl, rfl, la, szl (by rw [List.length_map]; omega), ?_⟩
  have ob1 : ∀ u, (upd H aA u) g = some (.ins C dx (fG aA aS)) := fun u => by rw [upd_ne nA]; exact ob
  have ls1 : ∀ u, (upd H aA u) aS = some (.lst (sz.map V.int)) := fun u => by rw [upd_ne ne.symm]; exact ls
  refine ⟨_, rfl, g, C, dx, _, _, rfl, ob1 _, T.cl, T.nS, lkS, .inl ⟨rfl, _, SqL.of (ls1 _)⟩, aS, _, _, rfl, rfl, ls1 _, szl (by rw [List.length_map]; omega), ?_⟩
  have la2 : ∀ u u', (upd (upd H aA u) aS u') aA = some u := fun u u' => by rw [upd_ne ne]; exact upd_same
  have ob2 : ∀ u u', (upd (upd H aA u) aS u') g = some (.ins C dx (fG aA aS)) := fun u u' => by rw [upd_ne nS]; exact ob1 u
  refine ⟨_, rfl, g, C, dx, _, _, rfl, ob2 _ _, T.cl, T.nA, lkA, aA, _, rfl, .inl (SqL.of (la2 _ _)), _, _, rfl, rfl, ?_⟩
  have e : (((ab.map oV ++ [V.non]).length : Nat) : Int) - 1 = (ab.length : Int) := by rw [List.length_append, List.length_map]; simp only [List.length_singleton]; omega
  show Q (.int ((((ab.map oV ++ [V.non]).length : Nat) : Int) - 1)) _
  rw [e]
  refine k _ ⟨⟨dx, ob2 _ _⟩, ?_, ?_, ne⟩ fun b o eb hA hS => ?_
  · rw [la2, List.map_append]; rfl
  · rw [upd_same, List.map_append]; rfl
  · rw [upd_ne hS, upd_ne hA]; exact eb
theorem sc_Groups_has : FnScope ["self", "number"] ["self", "number"] (defScope s_Groups_has) := ⟨rfl, rfl, rfl, by decide +kernel, rfl, by decide +kernel, by decide +kernel⟩
theorem ok_ghas {C : Addr} (O : OwnM K C "has" "Groups.has" s_Groups_has) (T : TxG K C) (B : Bare mg) : HasM P w K mg base 1 C "has" ["self", "number"] (spGHas C) := by
  refine O.has T.cl sc_Groups_has (fun _ _ _ _ _ _ => by2 fun _ _ => rfl) (fun vs H Q E h => ?_) (fun f cdv A outer s H vs Q E hr h => ?_)
  · obtain ⟨g, aA, aS, ab, sz, i, rfl, _⟩ := h; rfl
  obtain ⟨g, aA, aS, ab, sz, i, rfl, ⟨⟨dx, ob⟩, la, ls, ne⟩, k⟩ := h
  refine ⟨_, (pss_one (ps_ret (pe_chain op_le op_lt pe_int (pv 1) (pe_callB call_len_seq rfl B.len PySem.boot_len (pa_cons (pe_fld (pv 0) rfl) pa_nil))))), ?_⟩
  refine ⟨_, rfl, _, _, rfl, rfl, _, rfl, ?_⟩
  refine ite2 (fun c => ?_) (fun c => ?_)
  · have c' : (0 : Int) ≤ i := of_decide_eq_true c
    refine ⟨_, rfl, g, C, dx, _, _, rfl, ob, T.cl, T.nA, lkA, aA, _, rfl, .inl (SqL.of la), _, _, rfl, rfl, ?_⟩
    have e : decide (i < (((ab.map oV).length : Nat) : Int)) = decide (isG ab.length i) := by
      rw [List.length_map]
      exact decide_eq_decide.mpr ⟨fun z => ⟨c', z⟩, fun z => z.2⟩
    show Q (.bl (decide (i < (((ab.map oV).length : Nat) : Int)))) _
    rw [e]; exact k
  · have c' : ¬ (0 : Int) ≤ i := fun z => c (decide_eq_true z)
    have e : decide (isG ab.length i) = false := decide_eq_false (fun z => c' z.1)
    rw [e] at k; exact k
theorem sc_Groups_way_up : FnScope ["self", "number", "steps"] ["self", "number"] (defScope s_Groups_way_up) := ⟨rfl, rfl, rfl, by decide +kernel, rfl, by decide +kernel, by decide +kernel⟩
theorem ok_gway {C : Addr} (O : OwnM K C "way_up" "Groups.way_up" s_Groups_way_up) (T : TxG K C) : HasM P w K mg base 1 C "way_up" ["self", "number"] (spGWay C) := by
  refine O.has T.cl sc_Groups_way_up (fun _ _ _ _ _ _ => by2 fun _ _ => rfl) (fun vs H Q E h => ?_) (fun f cdv A outer s H vs Q E hr h => ?_)
  · obtain ⟨g, aA, aS, ab, sz, n, hd, k, rfl, _⟩ := h; rfl
  obtain ⟨g, aA, aS, ab, sz, n, hd, st, rfl, ⟨⟨dx, ob⟩, la, ls, ne⟩, up, k⟩ := h
  refine ⟨_, (pss_cons (ps_set (i := 2) sc_Groups_way_up.nd rfl (Or.inl rfl) pe_int)
    (pss_cons (ps_while PassesOwn.never (pt_cmpR op_notN (pe_ix ix_list (pe_fld (pv 0) rfl) (pv 1) (fun _ _ => rfl)) pe_non (nomark _))
      (pss_cons (ps_set (i := 1) sc_Groups_way_up.nd rfl (Or.inl rfl) (pe_ix ix_list (pe_fld (pv 0) rfl) (pv 1) (fun _ _ => rfl)))
        (pss_one (ps_aug (i := 2) sc_Groups_way_up.nd rfl (Or.inl rfl) pe_int ip_add))))
    (pss_one (ps_ret (pe_tup (pa_cons (pv 1) (pa_cons (pv 2) pa_nil))))))), ?_⟩
  refine ⟨fun m σ H2 => ∃ n' j : Nat, σ = [some (.ref g), some (.int n'), some (.int j)] ∧ H2 = H ∧ Up ab n' hd m ∧ j + m = st, ⟨st, n, 0, rfl, rfl, up, Nat.zero_add _⟩, ?_⟩
  rintro m σ H2 ⟨n', j, rfl, rfl, u, e⟩
  cases u with
  | here en =>
    refine ⟨_, rfl, g, C, dx, _, _, rfl, ob, T.cl, T.nA, lkA, _, rfl, aA, _, _, _, rfl, rfl, SqL.of la, get_oV en, rfl, _, rfl, ?_⟩
    refine iteF ?_
    refine ⟨_, rfl, _, rfl, (by show 2 ≤ sizeLine; decide), fun q hq => ?_⟩
    refine k q _ (same_new hq _) ?_
    rw [upd_same]
    have e' : j = st := by omega
    rw [e']
  | @step _ m' _ k' en r =>
    refine ⟨_, rfl, g, C, dx, _, _, rfl, ob, T.cl, T.nA, lkA, _, rfl, aA, _, _, _, rfl, rfl, SqL.of la, get_oV en, rfl, _, rfl, ?_⟩
    refine iteT ⟨_, fun σ' H' z => z, ?_⟩
    refine ⟨_, rfl, g, C, dx, _, _, rfl, ob, T.cl, T.nA, lkA, _, rfl, aA, _, _, _, rfl, rfl, SqL.of la, get_oV en, ?_⟩
    refine ⟨_, rfl, _, _, rfl, rfl, ?_⟩
    exact ⟨k', Nat.lt_succ_self _, m', j + 1, rfl, rfl, r, by omega⟩
theorem sc_Groups_lay : FnScope ["self", "first", "second", "lower", "upper"] ["self", "first", "second"] (defScope s_Groups_lay) := ⟨rfl, rfl, rfl, by decide +kernel, rfl, by decide +kernel, by decide +kernel⟩
theorem ok_glay {C : Addr} (O : OwnM K C "lay" "Groups.lay" s_Groups_lay) (T : TxG K C) : HasM P w K mg base 1 C "lay" ["self", "first", "second"] (spGLay C) := by
  refine O.has T.cl sc_Groups_lay (fun _ _ _ _ _ _ => by3 fun _ _ _ => rfl) (fun vs H Q E h => ?_) (fun f cdv A outer s H vs Q E hr h => ?_)
  · obtain ⟨g, aA, aS, s, f, f', rfl, _⟩ := h; rfl
  obtain ⟨g, aA, aS, sn, f1, f2, rfl, ⟨⟨dx, ob⟩, la, ls, ne⟩, h1, h2, hz, k⟩ := h
  have nA : g ≠ aA := ne_of ob la (by intro z; cases z)
  have nS : g ≠ aS := ne_of ob ls (by intro z; cases z)
  refine ⟨_, (pss_cons (ps_set (i := 3) sc_Groups_lay.nd rfl (Or.inl rfl) (pe_ifExp (pt_cmpR op_lt (pe_ix ix_list (pe_fld (pv 0) rfl) (pv 1) (fun _ _ => rfl)) (pe_ix ix_list (pe_fld (pv 0) rfl) (pv 2) (fun _ _ => rfl)) (nomark _)) (pv 1) (pv 2)))
    (pss_cons (ps_set (i := 4) sc_Groups_lay.nd rfl (Or.inl rfl) (pe_ifExp (pt_cmpR op_eq (pv 3) (pv 1) (nomark _)) (pv 2) (pv 1)))
    (pss_cons (ps_asg (pv 4) (pg_sub (pe_fld (pv 0) rfl) (pv 3) set_list))
    (pss_cons (ps_augS (pe_fld (pv 0) rfl) (pv 4) get_list (pe_ix ix_list (pe_fld (pv 0) rfl) (pv 3) (fun _ _ => rfl)) ip_add set_list)
    (pss_one (ps_ret (pv 3))))))), ?_⟩
  refine ⟨_, rfl, g, C, dx, _, _, rfl, ob, T.cl, T.nS, lkS, _, rfl, aS, _, _, _, rfl, rfl, SqL.of ls, at_sz (by omega), ?_⟩
  refine ⟨_, rfl, g, C, dx, _, _, rfl, ob, T.cl, T.nS, lkS, _, rfl, aS, _, _, _, rfl, rfl, SqL.of ls, at_sz (by omega), _, _, rfl, rfl, _, rfl, ?_⟩
  have two : ∀ lo up : Nat, lo < sn.ab.length → up < sn.ab.length → sn.lower f1 f2 = lo → sn.upper f1 f2 = up →
      tSeq (tAsg (tVar 4) (gSub (tFld K (tVar 0) "above") (tVar 3) rSetL)) (tSeq (tAugS (tFld K (tVar 0) "sizes") (tVar 4) (tOp (rIxL K) (tFld K (tVar 0) "sizes") (tVar 3)) rGetL (ipI fun i j => i + j) rSetL) (tRet (tVar 3)))
        { nx := fun _ H' => Q .non H', rt := Q } [some (.ref g), some (.int f1), some (.int f2), some (.int lo), some (.int up)] H := by
    intro lo up hlo hup elo eup
    refine ⟨_, rfl, _, rfl, g, C, dx, _, _, rfl, ob, T.cl, T.nA, lkA, _, rfl, aA, _, _, lo, rfl, rfl, la, ix_nat (by rw [List.length_map]; exact hlo), ?_⟩
    have ob1 : ∀ u, (upd H aA u) g = some (.ins C dx (fG aA aS)) := fun u => by rw [upd_ne nA]; exact ob
    have ls1 : ∀ u, (upd H aA u) aS = some (.lst (sn.sz.map V.int)) := fun u => by rw [upd_ne ne.symm]; exact ls
    refine ⟨_, rfl, g, C, dx, _, _, rfl, ob1 _, T.cl, T.nS, lkS, _, rfl, aS, _, _, up, _, rfl, rfl, ls1 _, Int.natCast_nonneg _, Int.toNat_natCast _, get_sz (by omega), ?_⟩
    refine ⟨_, rfl, g, C, dx, _, _, rfl, ob1 _, T.cl, T.nS, lkS, _, rfl, aS, _, _, _, rfl, rfl, SqL.of (ls1 _), at_sz (n := lo) (by omega), _, _, rfl, rfl, ?_⟩
    refine ⟨aS, _, _, up, rfl, rfl, ls1 _, ix_nat (by rw [List.length_map]; omega), ?_⟩
    refine ⟨_, rfl, ?_⟩
    rw [← elo]
    refine k _ ⟨⟨dx, by rw [upd_ne nS]; exact ob1 _⟩, ?_, ?_, ne⟩ fun b o eb hA hS => ?_
    · rw [upd_ne ne, upd_same]
      show _ = some (HO.lst (List.map oV (sn.ab.set (sn.lower f1 f2) (some (sn.upper f1 f2)))))
      rw [List.map_set, elo, eup]; rfl
    · rw [upd_same]
      show _ = some (HO.lst (List.map V.int (sn.sz.set (sn.upper f1 f2) (sn.sz.getD (sn.upper f1 f2) 0 + sn.sz.getD (sn.lower f1 f2) 0))))
      rw [List.map_set, elo, eup]
    · rw [upd_ne hS, upd_ne hA]; exact eb
  refine ite2 (fun c => ?_) (fun c => ?_)
  · have c' : sn.sz.getD f1 0 < sn.sz.getD f2 0 := of_decide_eq_true c
    have elo : sn.lower f1 f2 = f1 := if_pos c'
    refine ⟨_, rfl, _, rfl, _, rfl, rfl, _, rfl, ?_⟩
    refine yeT ?_
    refine ⟨_, rfl, ?_⟩
    exact two f1 f2 h1 h2 elo (by unfold Sn.upper; rw [elo, if_pos rfl])
  · have c' : ¬ sn.sz.getD f1 0 < sn.sz.getD f2 0 := fun z => c (decide_eq_true z)
    have elo : sn.lower f1 f2 = f2 := if_neg c'
    refine ⟨_, rfl, _, rfl, _, rfl, rfl, _, rfl, ?_⟩
    rw [eqI_nat]
    refine ite2 (fun d => ?_) (fun d => ?_)
    · have d' : f2 = f1 := of_decide_eq_true d
      exact ⟨_, rfl, two f2 f2 h2 h2 elo (by unfold Sn.upper; rw [elo, if_pos d'])⟩
    · have d' : ¬ f2 = f1 := fun z => d (decide_eq_true z)
      exact ⟨_, rfl, two f2 f1 h2 h1 elo (by unfold Sn.upper; rw [elo, if_neg d'])⟩
theorem sc_Groups_part : FnScope ["self", "lower"] ["self", "lower"] (defScope s_Groups_part) := ⟨rfl, rfl, rfl, by decide +kernel, rfl, by decide +kernel, by decide +kernel⟩
theorem ok_gpart {C : Addr} (O : OwnM K C "part" "Groups.part" s_Groups_part) (T : TxG K C) : HasM P w K mg base 1 C "part" ["self", "lower"] (spGPart C) := by
  refine O.has T.cl sc_Groups_part (fun _ _ _ _ _ _ => by2 fun _ _ => rfl) (fun vs H Q E h => ?_) (fun f cdv A outer s H vs Q E hr h => ?_)
  · obtain ⟨g, aA, aS, s, u, hd, rfl, _⟩ := h; rfl
  obtain ⟨g, aA, aS, sn, u, hd, rfl, ⟨⟨dx, ob⟩, la, ls, ne⟩, h1, h2, hz, k⟩ := h
  have nA : g ≠ aA := ne_of ob la (by intro z; cases z)
  have nS : g ≠ aS := ne_of ob ls (by intro z; cases z)
  have hu := get_lt h1
  refine ⟨_, (pss_cons (ps_augS (pe_fld (pv 0) rfl) (pe_ix ix_list (pe_fld (pv 0) rfl) (pv 1) (fun _ _ => rfl)) get_list (pe_ix ix_list (pe_fld (pv 0) rfl) (pv 1) (fun _ _ => rfl)) ip_sub set_list)
    (pss_one (ps_asg pe_non (pg_sub (pe_fld (pv 0) rfl) (pv 1) set_list)))), ?_⟩
  refine ⟨_, rfl, g, C, dx, _, _, rfl, ob, T.cl, T.nS, lkS, _, rfl, g, C, dx, _, _, rfl, ob, T.cl, T.nA, lkA, _, rfl, aA, _, _, _, rfl, rfl, SqL.of la, get_oV h1, ?_⟩
  refine ⟨aS, _, _, hd, _, rfl, rfl, ls, Int.natCast_nonneg _, Int.toNat_natCast _, get_sz (by omega), ?_⟩
  refine ⟨_, rfl, g, C, dx, _, _, rfl, ob, T.cl, T.nS, lkS, _, rfl, aS, _, _, _, rfl, rfl, SqL.of ls, at_sz (n := u) (by omega), _, _, rfl, rfl, ?_⟩
  refine ⟨aS, _, _, hd, rfl, rfl, ls, ix_nat (by rw [List.length_map]; omega), ?_⟩
  have ob1 : ∀ u, (upd H aS u) g = some (.ins C dx (fG aA aS)) := fun u => by rw [upd_ne nS]; exact ob
  have la1 : ∀ u, (upd H aS u) aA = some (.lst (sn.ab.map oV)) := fun u => by rw [upd_ne ne]; exact la
  refine ⟨_, rfl, g, C, dx, _, _, rfl, ob1 _, T.cl, T.nA, lkA, _, rfl, aA, _, _, u, rfl, rfl, la1 _, ix_nat (by rw [List.length_map]; exact hu), ?_⟩
  refine k _ ⟨⟨dx, by rw [upd_ne nA]; exact ob1 _⟩, ?_, ?_, ne⟩ fun b o eb hA hS => ?_
  · rw [upd_same]
    show _ = some (HO.lst (List.map oV (sn.ab.set u none)))
    rw [List.map_set]; rfl
  · rw [upd_ne ne.symm, upd_same]
    show _ = some (HO.lst (List.map V.int (sn.sz.set hd (sn.sz.getD hd 0 - sn.sz.getD u 0))))
    rw [List.map_set]
  · rw [upd_ne hA, upd_ne hS]; exact eb
end
section
variable {P : Program} {w : World} {K : PySem.W.Frag} {mg : Str → Option Value} {base : Heap} {CH CG nw : Addr}
theorem sc_Hall___init__ : FnScope ["self"] ["self"] (defScope s_Hall___init__) := ⟨rfl, rfl, rfl, by decide +kernel, rfl, by decide +kernel, by decide +kernel⟩
theorem ok_hinit (O : OwnI K mg "Hall" CH "Hall.__init__" s_Hall___init__) (T : TxH K CH) (i_Groups : HasI P w K mg base 1 "Groups" CG (spGInit CG)) : HasI P w K mg base 3 "Hall" CH (spHInit CH CG) := by
  refine O.has sc_Hall___init__ (fun _ _ _ _ _ _ => by1 fun _ => rfl) (fun vs H Q E h => ?_) (fun f cdv A outer s H vs Q E hr h => ?_)
  · obtain ⟨p, dx, rfl, _⟩ := h; rfl
  obtain ⟨p, dx, rfl, hp, k⟩ := h
  refine ⟨_, (pss_cons (ps_fld (pv 0) (pe_mk0 i_Groups hr) rfl)
    (pss_cons (ps_fld (pv 0) (pe_lst pa_nil) rfl)
    (pss_cons (ps_fld (pv 0) pe_int rfl)
    (pss_one (ps_fld (pv 0) (pe_lst pa_nil) rfl))))), ?_⟩
  intro g dg ng ndg neg
  refine ⟨g, dg, rfl, upd_same, fun aA aS H1 G1 hA hS f1 => ⟨rfl, ?_⟩⟩
  have s0 : Same H (upd (upd H dg (.own g)) g (.ins CG dg [])) := fun b o e => by rw [upd_ne (ne_of_none e ng), upd_ne (ne_of_none e ndg)]; exact e
  have s1 : Same H H1 := fun b o e => f1 b o (s0 b o e) (ne_of_none e ng)
  have pg : p ≠ g := ne_of_none hp ng
  obtain ⟨⟨dg1, gob⟩, la, ls, ne⟩ := G1
  have pA : p ≠ aA := ne_of_none hp (s0.free hA)
  have pS : p ≠ aS := ne_of_none hp (s0.free hS)
  have gA : g ≠ aA := ne_of gob la (by intro z; cases z)
  have gS : g ≠ aS := ne_of gob ls (by intro z; cases z)
  refine ⟨_, rfl, p, CH, dx, [], rfl, s1 _ _ hp, T.cl, T.nG, (by show 0 < 1000; decide), ?_⟩
  refine ⟨(by show 0 ≤ sizeLine; decide), fun aP hP => ?_⟩
  have pP : p ≠ aP := ne_of_none upd_same hP
  have hP1 : H1 aP = none := by rw [upd_ne pP.symm] at hP; exact hP
  have hP0 : H aP = none := s1.free hP1
  have gP : g ≠ aP := ne_of_none gob hP1
  have AP : aA ≠ aP := ne_of_none la hP1
  have SP : aS ≠ aP := ne_of_none ls hP1
  refine ⟨_, rfl, p, CH, dx, _, rfl, (by rw [upd_ne pP]; exact upd_same), T.cl, T.nP, (by show 1 < 1000; decide), ?_⟩
  refine ⟨_, rfl, p, CH, dx, _, rfl, upd_same, T.cl, T.nN, (by show 2 < 1000; decide), ?_⟩
  refine ⟨(by show 0 ≤ sizeLine; decide), fun aC hC => ?_⟩
  have pC : p ≠ aC := ne_of_none upd_same hC
  rw [upd_ne pC.symm, upd_ne pC.symm] at hC
  have PC : aP ≠ aC := ne_of_none upd_same hC
  rw [upd_ne PC.symm, upd_ne pC.symm] at hC
  have hC0 : H aC = none := s1.free hC
  have gC : g ≠ aC := ne_of_none gob hC
  have AC : aA ≠ aC := ne_of_none la hC
  have SC : aS ≠ aC := ne_of_none ls hC
  refine ⟨_, rfl, p, CH, dx, _, rfl, (by rw [upd_ne pC]; exact upd_same), T.cl, T.nC, (by show 3 < 1000; decide), ?_⟩
  refine k ⟨p, g, aA, aS, aP, aC⟩ _ rfl ⟨⟨dx, ?_⟩, ⟨⟨dg1, ?_⟩, ?_, ?_, ne⟩, ⟨[], ?_, .nil⟩, ⟨[], ?_, .nil⟩, pg, AP, SP, AC, SC, PC⟩ (s0.free hA) (s0.free hS) hP0 hC0 fun b o e hb => ?_
  · rw [upd_same]
    exact congrArg (fun l => some (HO.ins CH dx l)) (show putF "changes" (.ref aC) (putF "put_count" (.int 0) (putF "piles" (.ref aP) (putF "groups" (.ref g) []))) = fH g aP ((0 : Nat) : Int) aC from by kernel_rfl)
  · show _ = some (HO.ins CG dg1 (fG aA aS))
    rw [upd_ne pg.symm, upd_ne gC, upd_ne pg.symm, upd_ne pg.symm, upd_ne gP, upd_ne pg.symm]; exact gob
  · rw [upd_ne pA.symm, upd_ne AC, upd_ne pA.symm, upd_ne pA.symm, upd_ne AP, upd_ne pA.symm]; exact la
  · rw [upd_ne pS.symm, upd_ne SC, upd_ne pS.symm, upd_ne pS.symm, upd_ne SP, upd_ne pS.symm]; exact ls
  · show _ = some (HO.lst [])
    rw [upd_ne pP.symm, upd_ne PC, upd_ne pP.symm, upd_ne pP.symm, upd_same]
  · show _ = some (HO.lst [])
    rw [upd_ne pC.symm, upd_same]
  · rw [upd_ne hb, upd_ne (ne_of_none e hC0), upd_ne hb, upd_ne hb, upd_ne (ne_of_none e hP0), upd_ne hb]
    exact s1 _ _ e
theorem sc_Hall_has : FnScope ["self", "number"] ["self", "number"] (defScope s_Hall_has) := ⟨rfl, rfl, rfl, by decide +kernel, rfl, by decide +kernel, by decide +kernel⟩
theorem ok_hhas (O : OwnM K CH "has" "Hall.has" s_Hall_has) (T : TxH K CH) (mG_has : HasM P w K mg base 1 CG "has" ["self", "number"] (spGHas CG)) : HasM P w K mg base 2 CH "has" ["self", "number"] (spHHas CH CG) := by
  refine O.has T.cl sc_Hall_has (fun _ _ _ _ _ _ => by2 fun _ _ => rfl) (fun vs H Q E h => ?_) (fun f cdv A outer s H vs Q E hr h => ?_)
  · obtain ⟨a, h, i, rfl, _⟩ := h; rfl
  obtain ⟨a, h, i, rfl, HA, k⟩ := h
  obtain ⟨dx, ob⟩ := HA.ob
  obtain ⟨dg, gob⟩ := HA.gr.ob
  refine ⟨_, (pss_one (ps_ret (pe_mt mG_has (pe_fld (pv 0) rfl) hr (pa_cons (pv 1) pa_nil)))), ?_⟩
  refine ⟨_, rfl, a.p, CH, dx, _, _, rfl, ob, T.cl, T.nG, lkG, a.g, dg, _, rfl, gob, by kernel_rfl, _, rfl, ?_⟩
  exact ⟨a.g, a.aA, a.aS, _, _, i, rfl, HA.gr, k⟩
theorem sc_Hall_add_group : FnScope ["self"] ["self"] (defScope s_Hall_add_group) := ⟨rfl, rfl, rfl, by decide +kernel, rfl, by decide +kernel, by decide +kernel⟩
theorem ok_hopen (O : OwnM K CH "add_group" "Hall.add_group" s_Hall_add_group) (T : TxH K CH) (NH : NumsH K mg nw) (mG_add_group : HasM P w K mg base 1 CG "add_group" ["self"] (spGAdd CG)) : HasM P w K mg base 2 CH "add_group" ["self"] (spHOpen K CH CG) := by
  refine O.has T.cl sc_Hall_add_group (fun _ _ _ _ _ _ => by1 fun _ => rfl) (fun vs H Q E h => ?_) (fun f cdv A outer s H vs Q E hr h => ?_)
  · obtain ⟨a, h, rfl, _⟩ := h; rfl
  obtain ⟨a, h, rfl, HA, F, k⟩ := h
  obtain ⟨dx, ob⟩ := HA.ob
  obtain ⟨vs, lp, hp⟩ := HA.lp
  have hl := paired_len hp
  have b1 := F.bd.n
  have b2 := F.ok.good.lp
  have b3 := F.ok.good.lz
  refine ⟨_, (pss_cons (ps_expr (pe_bm PySem.F.plainAttrs_list PySem.F.slot_list_append PySem.F.type_list_append mt_append (pe_fld (pv 0) rfl) (pa_cons (pe_tup pa_nil) pa_nil)))
    (pss_one (ps_ret (pe_tup (pa_cons (pe_mt0 mG_add_group (pe_fld (pv 0) rfl) hr) (pa_cons (pe_gref NH.nowork) pa_nil)))))), ?_⟩
  refine ⟨_, rfl, a.p, CH, dx, _, _, rfl, ob, T.cl, T.nP, lkP, .inl ⟨rfl, _, SqL.of lp⟩, (by show 0 ≤ sizeLine; decide), fun z hz => ?_⟩
  have s1 := same_new hz (.tup [])
  refine ⟨a.aP, _, _, rfl, rfl, s1 _ _ lp, szl (by omega), ?_⟩
  have A1 := HA.same s1
  have t1 : Tups (upd H z (.tup [])) (upd (upd H z (.tup [])) a.aP (.lst (vs ++ [.ref z]))) := Tups.put (s1 _ _ lp)
  have z1 : (upd H z (.tup [])) z = some (.tup []) := upd_same
  have fr1 : Frm a H (upd (upd H z (.tup [])) a.aP (.lst (vs ++ [.ref z]))) := fun b o e h1 h2 h3 h4 h5 => by rw [upd_ne h4]; exact s1 _ _ e
  have A2 : HallAt CH CG (upd (upd H z (.tup [])) a.aP (.lst (vs ++ [.ref z]))) a { h with s := { h.s with pl := h.s.pl ++ [.nil] } } := by
    obtain ⟨⟨dx1, ob1⟩, ⟨⟨dg1, gob1⟩, la1, ls1, ne1⟩, ⟨vs1, lp1, hp1⟩, ⟨cs1, lc1, hc1⟩, pg, n1, n2, n3, n4, n5⟩ := A1
    refine ⟨⟨dx1, by rw [upd_ne (ne_of ob1 lp1 (by intro z; cases z))]; exact ob1⟩, ⟨⟨dg1, by rw [upd_ne (ne_of gob1 lp1 (by intro z; cases z))]; exact gob1⟩, by rw [upd_ne n1]; exact la1, by rw [upd_ne n2]; exact ls1, ne1⟩,
      ⟨_, upd_same, paired_app ((hp.mono (.of s1)).mono t1) (.cons ⟨z, rfl, t1 _ _ z1⟩ .nil)⟩, ⟨cs1, by rw [upd_ne n5.symm]; exact lc1, chs_mono t1 hc1⟩, pg, n1, n2, n3, n4, n5⟩
  generalize upd (upd H z (.tup [])) a.aP (.lst (vs ++ [.ref z])) = H2 at *
  obtain ⟨dx2, ob2⟩ := A2.ob
  obtain ⟨dg2, gob2⟩ := A2.gr.ob
  refine ⟨_, rfl, a.p, CH, dx2, _, _, rfl, ob2, T.cl, T.nG, lkG, a.g, dg2, _, rfl, gob2, by kernel_rfl, ?_⟩
  refine ⟨a.g, a.aA, a.aS, h.s.ab, h.s.sz, rfl, A2.gr, by omega, by omega, fun H3 G3 f3 => ?_⟩
  obtain ⟨A3, fr3⟩ := A2.grp G3 f3
  refine ⟨(by show 2 ≤ sizeLine; decide), fun q hq => ?_⟩
  have s4 := same_new hq (.tup [.int (h.s.ab.length : Int), .ref nw])
  exact k _ _ (A3.same s4) ((fr1.trans fr3).trans (.of s4)) ⟨q, _, _, rfl, upd_same, rfl, ⟨nw, rfl, .inr NH.nowork.2⟩⟩
theorem sc_Hall_change : FnScope ["self", "word", "head", "pile", "laid"] ["self", "word", "head", "pile", "laid"] (defScope s_Hall_change) := ⟨rfl, rfl, rfl, by decide +kernel, rfl, by decide +kernel, by decide +kernel⟩
theorem ok_hchange (O : OwnM K CH "change" "Hall.change" s_Hall_change) (T : TxH K CH) : HasM P w K mg base 1 CH "change" ["self", "word", "head", "pile", "laid"] (spHChange CH CG) := by
  refine O.has T.cl sc_Hall_change (fun _ _ _ _ _ _ => by5 fun _ _ _ _ _ => rfl) (fun vs H Q E h => ?_) (fun f cdv A outer s H vs Q E hr h => ?_)
  · obtain ⟨a, h, w, hd, u, t, l, rfl, _⟩ := h; rfl
  obtain ⟨a, h, wd, hd, u, t, l, rfl, HA, hu, hlt, hpast, k⟩ := h
  obtain ⟨⟨dx, ob⟩, ⟨⟨dg, gob⟩, la, ls, ne⟩, ⟨vs, lp, hp⟩, ⟨cs, lc, hc⟩, pg, n1, n2, n3, n4, n5⟩ := HA
  have hlen := paired_len hp
  have hclen := paired_len hc
  rw [List.length_reverse] at hclen
  obtain ⟨x, ex, fx⟩ := piles_at hp hlt
  refine ⟨_, (pss_cons (ps_expr (pe_bm PySem.F.plainAttrs_list PySem.F.slot_list_append PySem.F.type_list_append mt_append (pe_fld (pv 0) rfl) (pa_cons (pe_tup (pa_cons (pv 1) (pa_cons (pv 2) (pa_cons (pe_ix ix_list (pe_fld (pv 0) rfl) (pv 2) (fun _ _ => rfl)) (pa_cons (pv 4) pa_nil))))) pa_nil)))
    (pss_one (ps_asg (pv 3) (pg_sub (pe_fld (pv 0) rfl) (pv 2) set_list)))), ?_⟩
  refine ⟨_, rfl, a.p, CH, dx, _, _, rfl, ob, T.cl, T.nC, lkC, .inl ⟨rfl, _, SqL.of lc⟩, ?_⟩
  refine ⟨_, rfl, _, rfl, _, rfl, a.p, CH, dx, _, _, rfl, ob, T.cl, T.nP, lkP, _, rfl, a.aP, _, _, _, rfl, rfl, SqL.of lp, atI_nat ex, _, rfl, (by show 4 ≤ sizeLine; decide), fun q hq => ?_⟩
  have s1 := same_new hq (.tup [.str (wdS wd), .int (hd : Int), x, oV l])
  refine ⟨a.aC, _, _, rfl, rfl, s1 _ _ lc, szl (by omega), ?_⟩
  have hq1 : (upd H q (.tup [.str (wdS wd), .int (hd : Int), x, oV l])) q = some (.tup [.str (wdS wd), .int (hd : Int), x, oV l]) := upd_same
  generalize upd H q (.tup [.str (wdS wd), .int (hd : Int), x, oV l]) = H1 at *
  have lc1 := s1 _ _ lc
  have lp1 := s1 _ _ lp
  have ob1 := s1 _ _ ob
  have gob1 := s1 _ _ gob
  have pC : a.p ≠ a.aC := ne_of ob1 lc1 (by intro z; cases z)
  have pP : a.p ≠ a.aP := ne_of ob1 lp1 (by intro z; cases z)
  have gC : a.g ≠ a.aC := ne_of gob1 lc1 (by intro z; cases z)
  have gP : a.g ≠ a.aP := ne_of gob1 lp1 (by intro z; cases z)
  have t2 : Tups H1 (upd H1 a.aC (.lst (cs ++ [.ref q]))) := Tups.put lc1
  have lp2 : (upd H1 a.aC (.lst (cs ++ [.ref q]))) a.aP = some (.lst vs) := by rw [upd_ne n5]; exact lp1
  refine ⟨_, rfl, _, rfl, a.p, CH, dx, _, _, rfl, (by rw [upd_ne pC]; exact ob1), T.cl, T.nP, lkP, _, rfl, a.aP, _, _, hd, rfl, rfl, lp2, ix_nat (by omega), ?_⟩
  have t3 : Tups (upd H1 a.aC (.lst (cs ++ [.ref q]))) (upd (upd H1 a.aC (.lst (cs ++ [.ref q]))) a.aP (.lst (vs.set hd u))) := Tups.put lp2
  have t03 := ((Tups.of s1).trans t2).trans t3
  refine k _ ⟨⟨dx, ?_⟩, ⟨⟨dg, ?_⟩, ?_, ?_, ne⟩, ⟨_, upd_same, ?_⟩, ⟨cs ++ [.ref q], ?_, ?_⟩, pg, n1, n2, n3, n4, n5⟩ fun b o e h1 h2 h3 h4 h5 => ?_
  · rw [upd_ne pP, upd_ne pC]; exact ob1
  · rw [upd_ne gP, upd_ne gC]; exact gob1
  · rw [upd_ne n1, upd_ne n3]; exact s1 _ _ la
  · rw [upd_ne n2, upd_ne n4]; exact s1 _ _ ls
  · exact piles_set (PileAt.mono t03 hu) hd (hp.mono t03)
  · rw [upd_ne n5.symm, upd_same]
  · show Paired _ _ ((_ :: h.past).reverse)
    rw [List.reverse_cons]
    exact paired_app (chs_mono t03 hc) (.cons ⟨q, x, rfl, t3 _ _ (t2 _ _ hq1), fx.mono t03⟩ .nil)
  · rw [upd_ne h4, upd_ne h5]; exact s1 _ _ e
end
section
variable {P : Program} {w : World} {K : PySem.W.Frag} {mg : Str → Option Value} {base : Heap} {CH CG nw : Addr}
theorem sc_Hall_put : FnScope ["self", "group", "rank", "way", "age", "outcome"] ["self", "group", "rank"] (defScope s_Hall_put) := ⟨rfl, rfl, rfl, by decide +kernel, rfl, by decide +kernel, by decide +kernel⟩
theorem ok_hput (O : OwnM K CH "put" "Hall.put" s_Hall_put) (T : TxH K CH) (NH : NumsH K mg nw) (mG_way_up : HasM P w K mg base 1 CG "way_up" ["self", "number"] (spGWay CG)) (mH_change : HasM P w K mg base 1 CH "change" ["self", "word", "head", "pile", "laid"] (spHChange CH CG))
    (g_joined : Has P w K mg base 4 "joined" ["one", "two"] spJoined) (g_single : Has P w K mg base 3 "single" ["rank", "age"] spSingle) : HasM P w K mg base 5 CH "put" ["self", "group", "rank"] (spHPut K CH CG) := by
  refine O.has T.cl sc_Hall_put (fun _ _ _ _ _ _ => by3 fun _ _ _ => rfl) (fun vs H Q E h => ?_) (fun f cdv A outer s H vs Q E hr h => ?_)
  · obtain ⟨a, h, g, r, rfl, _⟩ := h; rfl
  obtain ⟨a, h, g, r, rfl, HA, F, hg, k⟩ := h
  obtain ⟨n, rfl⟩ := isG_nat hg
  obtain ⟨dx, ob⟩ := HA.ob
  obtain ⟨dg, gob⟩ := HA.gr.ob
  have plt := F.ok.plt hg
  have psz := F.ok.szP hg
  have pb := F.bd.p
  have cb := F.bd.c
  have up := F.ok.upN hg
  unfold Hs.doPut at k
  generalize h.way (n : Int) = wy at *
  obtain ⟨hd, st⟩ := wy
  refine ⟨_, (pss_cons (ps_set (i := 3) sc_Hall_put.nd rfl (Or.inl rfl) (pe_mt mG_way_up (pe_fld (pv 0) rfl) hr (pa_cons (pv 1) pa_nil)))
    (pss_cons (ps_set (i := 4) sc_Hall_put.nd rfl (Or.inl rfl) (pe_fld (pv 0) rfl))
    (pss_cons (ps_set (i := 5) sc_Hall_put.nd rfl (Or.inl rfl) (pe_fn g_joined hr (pa_cons (pe_ix ix_list (pe_fld (pv 0) rfl) (pe_ix ix_tup (pv 3) (pe_gint NH.head) (fun _ _ => rfl)) (fun _ _ => rfl)) (pa_cons (pe_fn g_single hr (pa_cons (pv 2) (pa_cons (pv 4) pa_nil))) pa_nil))))
    (pss_cons (ps_expr (pe_mt mH_change (pv 0) hr (pa_cons pe_str (pa_cons (pe_ix ix_tup (pv 3) (pe_gint NH.head) (fun _ _ => rfl)) (pa_cons (pe_ix ix_tup (pv 5) pe_int (fun _ _ => rfl)) (pa_cons pe_non pa_nil))))))
    (pss_cons (ps_fldaug (pv 0) pe_int in_add)
    (pss_one (ps_ret (pe_tup (pa_cons (pv 4) (pa_cons (pe_tup (pa_cons (pe_ix ix_tup (pv 3) (pe_gint NH.steps) (fun _ _ => rfl)) (pa_cons (pe_ix ix_tup (pv 5) pe_int (fun _ _ => rfl)) pa_nil))) pa_nil)))))))))), ?_⟩
  refine ⟨_, rfl, a.p, CH, dx, _, _, rfl, ob, T.cl, T.nG, lkG, a.g, dg, _, rfl, gob, by kernel_rfl, _, rfl, ?_⟩
  refine ⟨a.g, a.aA, a.aS, _, _, n, hd, st, rfl, HA.gr, up, fun q H1 s1 hq => ?_⟩
  have A1 := HA.same s1
  obtain ⟨dx1, ob1⟩ := A1.ob
  obtain ⟨vs1, lp1, hp1⟩ := A1.lp
  obtain ⟨x, ex, fx⟩ := piles_at hp1 plt
  refine ⟨_, rfl, a.p, CH, dx1, _, _, rfl, ob1, T.cl, T.nN, lkN, ?_⟩
  refine ⟨_, rfl, a.p, CH, dx1, _, _, rfl, ob1, T.cl, T.nP, lkP, _, rfl, q, _, _, _, rfl, rfl, SqT.of hq, rfl, a.aP, _, _, _, rfl, rfl, SqL.of lp1, atI_nat ex, ?_⟩
  refine ⟨_, rfl, _, rfl, _, _, rfl, fun v H2 s2 hv => ?_⟩
  refine ⟨_, _, _, _, rfl, PileAt.mono (.of s2) fx, hv, (by show _ + 1 ≤ 100; unfold Sn.pile at psz; omega), fun q2 u H3 s3 hq2 hu => ?_⟩
  have s23 := s2.trans s3
  have A3 := A1.same s23
  obtain ⟨dx3, ob3⟩ := A3.ob
  have hq3 := s23 _ _ hq
  refine ⟨_, rfl, a.p, dx3, _, rfl, ob3, by kernel_rfl, _, rfl, q, _, _, _, rfl, rfl, SqT.of hq3, rfl, _, rfl, q2, _, _, _, rfl, rfl, SqT.of hq2, rfl, ?_⟩
  refine ⟨a, h, .put, hd, _, _, none, rfl, A3, hu, plt, by omega, fun H4 A4 f4 => ?_⟩
  have t34 := A3.tups f4
  obtain ⟨dx4, ob4⟩ := A4.ob
  have ob4 : H4 a.p = some (.ins CH dx4 (fH a.g a.aP (h.puts : Int) a.aC)) := ob4
  refine ⟨_, rfl, a.p, CH, dx4, _, _, rfl, ob4, T.cl, T.nN, lkN, _, _, rfl, rfl, dx4, _, ob4, (by show 4 < 1000; decide), ?_⟩
  have A5 := A4.count (n := h.puts + 1) ob4
  have e5 : putF "put_count" (V.int ((h.puts : Int) + 1)) (fH a.g a.aP (h.puts : Int) a.aC) = fH a.g a.aP ((h.puts + 1 : Nat) : Int) a.aC := by kernel_rfl
  dsimp only
  rw [e5]
  have f5 : Frm a H4 (upd H4 a.p (.ins CH dx4 (fH a.g a.aP ((h.puts + 1 : Nat) : Int) a.aC))) := frm_count
  generalize upd H4 a.p (.ins CH dx4 (fH a.g a.aP ((h.puts + 1 : Nat) : Int) a.aC)) = H5 at *
  have t35 := t34.trans (A4.tups f5)
  refine ⟨_, rfl, _, rfl, q, _, _, _, rfl, rfl, SqT.of (t35 _ _ hq3), rfl, _, rfl, q2, _, _, _, rfl, rfl, SqT.of (t35 _ _ hq2), rfl, (by show 2 ≤ sizeLine; decide), fun z1 hz1 => ⟨(by show 2 ≤ sizeLine; decide), fun z2 hz2 => ?_⟩⟩
  have s67 := (same_new hz1 (.tup [.int (st : Int), .int (joinN (h.s.pl.getD hd .nil) (mk r (h.puts : Int) .nil .nil) : Int)])).trans (same_new hz2 (.tup [.int (h.puts : Int), .ref z1]))
  exact k _ _ (A5.same s67) ((((Frm.of s1).trans (.of s23)).trans (f4.trans f5)).trans (.of s67)) ⟨z2, _, _, rfl, upd_same, rfl, ⟨z1, rfl, .inl (same_new hz2 _ _ _ upd_same)⟩⟩
theorem sc_Hall_take : FnScope ["self", "group", "way", "pile", "outcome"] ["self", "group"] (defScope s_Hall_take) := ⟨rfl, rfl, rfl, by decide +kernel, rfl, by decide +kernel, by decide +kernel⟩
theorem ok_htake (O : OwnM K CH "take" "Hall.take" s_Hall_take) (T : TxH K CH) (NH : NumsH K mg nw) (mG_way_up : HasM P w K mg base 1 CG "way_up" ["self", "number"] (spGWay CG)) (mH_change : HasM P w K mg base 1 CH "change" ["self", "word", "head", "pile", "laid"] (spHChange CH CG))
    (g_taken : Has P w K mg base 5 "taken" ["pile"] spTaken) : HasM P w K mg base 6 CH "take" ["self", "group"] (spHTake K CH CG) := by
  refine O.has T.cl sc_Hall_take (fun _ _ _ _ _ _ => by2 fun _ _ => rfl) (fun vs H Q E h => ?_) (fun f cdv A outer s H vs Q E hr h => ?_)
  · obtain ⟨a, h, g, rfl, _⟩ := h; rfl
  obtain ⟨a, h, g, rfl, HA, F, hg, k⟩ := h
  obtain ⟨n, rfl⟩ := isG_nat hg
  obtain ⟨dx, ob⟩ := HA.ob
  obtain ⟨dg, gob⟩ := HA.gr.ob
  have plt := F.ok.plt hg
  have psz := F.ok.szP hg
  have pb := F.bd.p
  have cb := F.bd.c
  have up := F.ok.upN hg
  unfold Hs.doTake at k
  generalize h.way (n : Int) = wy at *
  obtain ⟨hd, st⟩ := wy
  refine ⟨_, (pss_cons (ps_set (i := 2) sc_Hall_take.nd rfl (Or.inl rfl) (pe_mt mG_way_up (pe_fld (pv 0) rfl) hr (pa_cons (pv 1) pa_nil)))
    (pss_cons (ps_set (i := 3) sc_Hall_take.nd rfl (Or.inl rfl) (pe_ix ix_list (pe_fld (pv 0) rfl) (pe_ix ix_tup (pv 2) (pe_gint NH.head) (fun _ _ => rfl)) (fun _ _ => rfl)))
    (pss_cons (ps_if (pt_not (pt_truth (pv 3) (fun _ => rfl)))
      (pss_one (ps_ret (pe_tup (pa_cons pe_non (pa_cons (pe_tup (pa_cons (pe_ix ix_tup (pv 2) (pe_gint NH.steps) (fun _ _ => rfl)) (pa_cons pe_int pa_nil))) pa_nil)))))
      pss_nil)
    (pss_cons (ps_set (i := 4) sc_Hall_take.nd rfl (Or.inl rfl) (pe_fn g_taken hr (pa_cons (pv 3) pa_nil)))
    (pss_cons (ps_expr (pe_mt mH_change (pv 0) hr (pa_cons pe_str (pa_cons (pe_ix ix_tup (pv 2) (pe_gint NH.head) (fun _ _ => rfl)) (pa_cons (pe_ix ix_tup (pv 4) pe_int (fun _ _ => rfl)) (pa_cons pe_non pa_nil))))))
    (pss_one (ps_ret (pe_tup (pa_cons (pe_ix ix_tup (pv 4) pe_int (fun _ _ => rfl)) (pa_cons (pe_tup (pa_cons (pe_ix ix_tup (pv 2) (pe_gint NH.steps) (fun _ _ => rfl)) (pa_cons (pe_ix ix_tup (pv 4) pe_int (fun _ _ => rfl)) pa_nil))) pa_nil)))))))))), ?_⟩
  refine ⟨_, rfl, a.p, CH, dx, _, _, rfl, ob, T.cl, T.nG, lkG, a.g, dg, _, rfl, gob, by kernel_rfl, _, rfl, ?_⟩
  refine ⟨a.g, a.aA, a.aS, _, _, n, hd, st, rfl, HA.gr, up, fun q H1 s1 hq => ?_⟩
  have A1 := HA.same s1
  obtain ⟨dx1, ob1⟩ := A1.ob
  obtain ⟨vs1, lp1, hp1⟩ := A1.lp
  obtain ⟨x, ex, fx⟩ := piles_at hp1 plt
  refine ⟨_, rfl, a.p, CH, dx1, _, _, rfl, ob1, T.cl, T.nP, lkP, _, rfl, q, _, _, _, rfl, rfl, SqT.of hq, rfl, a.aP, _, _, _, rfl, rfl, SqL.of lp1, atI_nat ex, ?_⟩
  refine ⟨_, rfl, _, pileTru fx, ?_⟩
  have ep : h.s.pile hd = h.s.pl.getD hd .nil := rfl
  cases hpl : h.s.pl.getD hd .nil with
  | nil =>
    refine iteT ?_
    rw [ep, hpl] at k
    refine ⟨_, rfl, q, _, _, _, rfl, rfl, SqT.of hq, rfl, (by show 2 ≤ sizeLine; decide), fun z1 hz1 => ⟨(by show 2 ≤ sizeLine; decide), fun z2 hz2 => ?_⟩⟩
    have s67 := (same_new hz1 (.tup [.int (st : Int), .int 0])).trans (same_new hz2 (.tup [.non, .ref z1]))
    exact k _ _ (A1.same s67) (.of (s1.trans s67)) ⟨z2, _, _, rfl, upd_same, rfl, ⟨z1, rfl, .inl (same_new hz2 _ _ _ upd_same)⟩⟩
  | node r ag l rt rc hdn =>
    refine iteF ?_
    rw [ep, hpl] at k psz
    rw [hpl] at fx
    simp only [Ph.T.size] at psz
    refine ⟨_, rfl, _, r, ag, l, rt, rc, hdn, rfl, fx, by omega, fun q2 u u' H3 s3 hq2 hu hu' => ?_⟩
    have A3 := A1.same s3
    obtain ⟨dx3, ob3⟩ := A3.ob
    have hq3 := s3 _ _ hq
    refine ⟨_, rfl, a.p, dx3, _, rfl, ob3, by kernel_rfl, _, rfl, q, _, _, _, rfl, rfl, SqT.of hq3, rfl, _, rfl, q2, _, _, _, rfl, rfl, SqT.of hq2, rfl, ?_⟩
    refine ⟨a, h, .take, hd, _, _, none, rfl, A3, hu', plt, by omega, fun H4 A4 f4 => ?_⟩
    have t34 := A3.tups f4
    refine ⟨_, rfl, q2, _, _, _, rfl, rfl, SqT.of (t34 _ _ hq2), rfl, _, rfl, q, _, _, _, rfl, rfl, SqT.of (t34 _ _ hq3), rfl, _, rfl, q2, _, _, _, rfl, rfl, SqT.of (t34 _ _ hq2), rfl, (by show 2 ≤ sizeLine; decide), fun z1 hz1 => ⟨(by show 2 ≤ sizeLine; decide), fun z2 hz2 => ?_⟩⟩
    have s67 := (same_new hz1 (.tup [.int (st : Int), .int (joinN l rt : Int)])).trans (same_new hz2 (.tup [u, .ref z1]))
    exact k _ _ (A4.same s67) ((((Frm.of s1).trans (.of s3)).trans f4).trans (.of s67)) ⟨z2, _, _, rfl, upd_same, (hu.mono t34).mono (.of s67), ⟨z1, rfl, .inl (same_new hz2 _ _ _ upd_same)⟩⟩
theorem sc_Hall_least : FnScope ["self", "group", "way", "pile"] ["self", "group"] (defScope s_Hall_least) := ⟨rfl, rfl, rfl, by decide +kernel, rfl, by decide +kernel, by decide +kernel⟩
theorem ok_hleast (O : OwnM K CH "least" "Hall.least" s_Hall_least) (T : TxH K CH) (NH : NumsH K mg nw) (mG_way_up : HasM P w K mg base 1 CG "way_up" ["self", "number"] (spGWay CG))
    (g_thing_on : Has P w K mg base 1 "thing_on" ["pile"] spThing) : HasM P w K mg base 2 CH "least" ["self", "group"] (spHLeast K CH CG) := by
  refine O.has T.cl sc_Hall_least (fun _ _ _ _ _ _ => by2 fun _ _ => rfl) (fun vs H Q E h => ?_) (fun f cdv A outer s H vs Q E hr h => ?_)
  · obtain ⟨a, h, g, rfl, _⟩ := h; rfl
  obtain ⟨a, h, g, rfl, HA, F, hg, k⟩ := h
  obtain ⟨n, rfl⟩ := isG_nat hg
  obtain ⟨dx, ob⟩ := HA.ob
  obtain ⟨dg, gob⟩ := HA.gr.ob
  have plt := F.ok.plt hg
  have up := F.ok.upN hg
  unfold Hs.doLeast at k
  generalize h.way (n : Int) = wy at *
  obtain ⟨hd, st⟩ := wy
  refine ⟨_, (pss_cons (ps_set (i := 2) sc_Hall_least.nd rfl (Or.inl rfl) (pe_mt mG_way_up (pe_fld (pv 0) rfl) hr (pa_cons (pv 1) pa_nil)))
    (pss_cons (ps_set (i := 3) sc_Hall_least.nd rfl (Or.inl rfl) (pe_ix ix_list (pe_fld (pv 0) rfl) (pe_ix ix_tup (pv 2) (pe_gint NH.head) (fun _ _ => rfl)) (fun _ _ => rfl)))
    (pss_one (ps_ret (pe_tup (pa_cons (pe_ifExp (pt_truth (pv 3) (fun _ => rfl)) (pe_fn g_thing_on hr (pa_cons (pv 3) pa_nil)) pe_non) (pa_cons (pe_tup (pa_cons (pe_ix ix_tup (pv 2) (pe_gint NH.steps) (fun _ _ => rfl)) (pa_cons pe_int pa_nil))) pa_nil))))))), ?_⟩
  refine ⟨_, rfl, a.p, CH, dx, _, _, rfl, ob, T.cl, T.nG, lkG, a.g, dg, _, rfl, gob, by kernel_rfl, _, rfl, ?_⟩
  refine ⟨a.g, a.aA, a.aS, _, _, n, hd, st, rfl, HA.gr, up, fun q H1 s1 hq => ?_⟩
  have A1 := HA.same s1
  obtain ⟨dx1, ob1⟩ := A1.ob
  obtain ⟨vs1, lp1, hp1⟩ := A1.lp
  obtain ⟨x, ex, fx⟩ := piles_at hp1 plt
  refine ⟨_, rfl, a.p, CH, dx1, _, _, rfl, ob1, T.cl, T.nP, lkP, _, rfl, q, _, _, _, rfl, rfl, SqT.of hq, rfl, a.aP, _, _, _, rfl, rfl, SqL.of lp1, atI_nat ex, ?_⟩
  have ep : h.s.pile hd = h.s.pl.getD hd .nil := rfl
  refine ⟨_, rfl, _, pileTru fx, ?_⟩
  cases hpl : h.s.pl.getD hd .nil with
  | nil =>
    refine iteF ?_
    rw [ep, hpl] at k
    refine ⟨_, rfl, q, _, _, _, rfl, rfl, SqT.of hq, rfl, (by show 2 ≤ sizeLine; decide), fun z1 hz1 => ⟨(by show 2 ≤ sizeLine; decide), fun z2 hz2 => ?_⟩⟩
    have s67 := (same_new hz1 (.tup [.int (st : Int), .int 0])).trans (same_new hz2 (.tup [.non, .ref z1]))
    exact k _ _ (A1.same s67) (.of (s1.trans s67)) ⟨z2, _, _, rfl, upd_same, rfl, ⟨z1, rfl, .inl (same_new hz2 _ _ _ upd_same)⟩⟩
  | node r ag l rt rc hdn =>
    refine iteT ?_
    rw [ep, hpl] at k
    rw [hpl] at fx
    refine ⟨_, rfl, _, r, ag, l, rt, rc, hdn, rfl, fx, fun u H3 s3 hu => ?_⟩
    refine ⟨_, rfl, q, _, _, _, rfl, rfl, SqT.of (s3 _ _ hq), rfl, (by show 2 ≤ sizeLine; decide), fun z1 hz1 => ⟨(by show 2 ≤ sizeLine; decide), fun z2 hz2 => ?_⟩⟩
    have s67 := (same_new hz1 (.tup [.int (st : Int), .int 0])).trans (same_new hz2 (.tup [u, .ref z1]))
    exact k _ _ (A1.same (s3.trans s67)) (.of ((s1.trans s3).trans s67)) ⟨z2, _, _, rfl, upd_same, hu.mono (.of s67), ⟨z1, rfl, .inl (same_new hz2 _ _ _ upd_same)⟩⟩
theorem sc_Hall_are_one : FnScope ["self", "one", "two", "first", "second"] ["self", "one", "two"] (defScope s_Hall_are_one) := ⟨rfl, rfl, rfl, by decide +kernel, rfl, by decide +kernel, by decide +kernel⟩
theorem ok_hsame (O : OwnM K CH "are_one" "Hall.are_one" s_Hall_are_one) (T : TxH K CH) (NH : NumsH K mg nw) (mG_way_up : HasM P w K mg base 1 CG "way_up" ["self", "number"] (spGWay CG)) : HasM P w K mg base 2 CH "are_one" ["self", "one", "two"] (spHSame K CH CG) := by
  refine O.has T.cl sc_Hall_are_one (fun _ _ _ _ _ _ => by3 fun _ _ _ => rfl) (fun vs H Q E h => ?_) (fun f cdv A outer s H vs Q E hr h => ?_)
  · obtain ⟨a, h, g, g', rfl, _⟩ := h; rfl
  obtain ⟨a, h, g, g', rfl, HA, F, hg, hg', k⟩ := h
  obtain ⟨n, rfl⟩ := isG_nat hg
  obtain ⟨n', rfl⟩ := isG_nat hg'
  obtain ⟨dx, ob⟩ := HA.ob
  obtain ⟨dg, gob⟩ := HA.gr.ob
  have up := F.ok.upN hg
  have up' := F.ok.upN hg'
  unfold Hs.doSame at k
  generalize h.way (n : Int) = wy at *
  generalize h.way (n' : Int) = wy' at *
  obtain ⟨hd, st⟩ := wy
  obtain ⟨hd', st'⟩ := wy'
  refine ⟨_, (pss_cons (ps_set (i := 3) sc_Hall_are_one.nd rfl (Or.inl rfl) (pe_mt mG_way_up (pe_fld (pv 0) rfl) hr (pa_cons (pv 1) pa_nil)))
    (pss_cons (ps_set (i := 4) sc_Hall_are_one.nd rfl (Or.inl rfl) (pe_mt mG_way_up (pe_fld (pv 0) rfl) hr (pa_cons (pv 2) pa_nil)))
    (pss_one (ps_ret (pe_tup (pa_cons (pe_cmpR op_eq (pe_ix ix_tup (pv 3) (pe_gint NH.head) (fun _ _ => rfl)) (pe_ix ix_tup (pv 4) (pe_gint NH.head) (fun _ _ => rfl)) (nomark _)) (pa_cons (pe_tup (pa_cons (pe_op op_add (pe_ix ix_tup (pv 3) (pe_gint NH.steps) (fun _ _ => rfl)) (pe_ix ix_tup (pv 4) (pe_gint NH.steps) (fun _ _ => rfl))) (pa_cons pe_int pa_nil))) pa_nil))))))), ?_⟩
  refine ⟨_, rfl, a.p, CH, dx, _, _, rfl, ob, T.cl, T.nG, lkG, a.g, dg, _, rfl, gob, by kernel_rfl, _, rfl, ?_⟩
  refine ⟨a.g, a.aA, a.aS, _, _, n, hd, st, rfl, HA.gr, up, fun q H1 s1 hq => ?_⟩
  have A1 := HA.same s1
  obtain ⟨dx1, ob1⟩ := A1.ob
  obtain ⟨dg1, gob1⟩ := A1.gr.ob
  refine ⟨_, rfl, a.p, CH, dx1, _, _, rfl, ob1, T.cl, T.nG, lkG, a.g, dg1, _, rfl, gob1, by kernel_rfl, _, rfl, ?_⟩
  refine ⟨a.g, a.aA, a.aS, _, _, n', hd', st', rfl, A1.gr, up', fun q' H2 s2 hq' => ?_⟩
  have hq2 := s2 _ _ hq
  refine ⟨_, rfl, q, _, _, _, rfl, rfl, SqT.of hq2, rfl, _, rfl, q', _, _, _, rfl, rfl, SqT.of hq', rfl, rfl, ?_⟩
  refine ⟨_, rfl, q, _, _, _, rfl, rfl, SqT.of hq2, rfl, _, rfl, q', _, _, _, rfl, rfl, SqT.of hq', rfl, _, _, rfl, rfl, (by show 2 ≤ sizeLine; decide), fun z1 hz1 => ⟨(by show 2 ≤ sizeLine; decide), fun z2 hz2 => ?_⟩⟩
  have s67 := (same_new hz1 (.tup [.int ((st : Int) + (st' : Int)), .int 0])).trans (same_new hz2 (.tup [.bl (decide (V.int (hd : Int) = V.int (hd' : Int))), .ref z1]))
  refine k _ _ (A1.same (s2.trans s67)) (.of ((s1.trans s2).trans s67)) ⟨z2, _, _, rfl, upd_same, ?_, ⟨z1, rfl, .inl ?_⟩⟩
  · show V.bl _ = V.bl _
    rw [eqI_nat]
  · exact same_new hz2 _ _ _ upd_same
theorem sc_Hall_unite : FnScope ["self", "one", "two", "first", "second", "steps", "outcome", "laid"] ["self", "one", "two"] (defScope s_Hall_unite) := ⟨rfl, rfl, rfl, by decide +kernel, rfl, by decide +kernel, by decide +kernel⟩
theorem ok_hjoin (O : OwnM K CH "unite" "Hall.unite" s_Hall_unite) (T : TxH K CH) (TG : TxG K CG) (NH : NumsH K mg nw) (mG_way_up : HasM P w K mg base 1 CG "way_up" ["self", "number"] (spGWay CG)) (mG_lay : HasM P w K mg base 1 CG "lay" ["self", "first", "second"] (spGLay CG)) (mH_change : HasM P w K mg base 1 CH "change" ["self", "word", "head", "pile", "laid"] (spHChange CH CG))
    (g_joined : Has P w K mg base 4 "joined" ["one", "two"] spJoined) : HasM P w K mg base 5 CH "unite" ["self", "one", "two"] (spHJoin K CH CG) := by
  refine O.has T.cl sc_Hall_unite (fun _ _ _ _ _ _ => by3 fun _ _ _ => rfl) (fun vs H Q E h => ?_) (fun f cdv A outer s H vs Q E hr h => ?_)
  · obtain ⟨a, h, g, g', rfl, _⟩ := h; rfl
  obtain ⟨a, h, g, g', rfl, HA, F, hg, hg', k⟩ := h
  obtain ⟨n, rfl⟩ := isG_nat hg
  obtain ⟨n', rfl⟩ := isG_nat hg'
  obtain ⟨dx, ob⟩ := HA.ob
  obtain ⟨dg, gob⟩ := HA.gr.ob
  have up := F.ok.upN hg
  have up' := F.ok.upN hg'
  have plt := F.ok.plt hg
  have plt' := F.ok.plt hg'
  have psz := F.ok.sz2 hg hg'
  have pb := F.bd.p
  have cb := F.bd.c
  unfold Hs.doJoin at k
  generalize h.way (n : Int) = wy at *
  generalize h.way (n' : Int) = wy' at *
  obtain ⟨hd, st⟩ := wy
  obtain ⟨hd', st'⟩ := wy'
  refine ⟨_, (pss_cons (ps_set (i := 3) sc_Hall_unite.nd rfl (Or.inl rfl) (pe_mt mG_way_up (pe_fld (pv 0) rfl) hr (pa_cons (pv 1) pa_nil)))
    (pss_cons (ps_set (i := 4) sc_Hall_unite.nd rfl (Or.inl rfl) (pe_mt mG_way_up (pe_fld (pv 0) rfl) hr (pa_cons (pv 2) pa_nil)))
    (pss_cons (ps_set (i := 5) sc_Hall_unite.nd rfl (Or.inl rfl) (pe_op op_add (pe_ix ix_tup (pv 3) (pe_gint NH.steps) (fun _ _ => rfl)) (pe_ix ix_tup (pv 4) (pe_gint NH.steps) (fun _ _ => rfl))))
    (pss_cons (ps_if (pt_cmpR op_eq (pe_ix ix_tup (pv 3) (pe_gint NH.head) (fun _ _ => rfl)) (pe_ix ix_tup (pv 4) (pe_gint NH.head) (fun _ _ => rfl)) (nomark _))
      (pss_one (ps_ret (pe_tup (pa_cons pe_bl (pa_cons (pe_tup (pa_cons (pv 5) (pa_cons pe_int pa_nil))) pa_nil)))))
      pss_nil)
    (pss_cons (ps_set (i := 6) sc_Hall_unite.nd rfl (Or.inl rfl) (pe_fn g_joined hr (pa_cons (pe_ix ix_list (pe_fld (pv 0) rfl) (pe_ix ix_tup (pv 3) (pe_gint NH.head) (fun _ _ => rfl)) (fun _ _ => rfl)) (pa_cons (pe_ix ix_list (pe_fld (pv 0) rfl) (pe_ix ix_tup (pv 4) (pe_gint NH.head) (fun _ _ => rfl)) (fun _ _ => rfl)) pa_nil))))
    (pss_cons (ps_set (i := 7) sc_Hall_unite.nd rfl (Or.inl rfl) (pe_mt mG_lay (pe_fld (pv 0) rfl) hr (pa_cons (pe_ix ix_tup (pv 3) (pe_gint NH.head) (fun _ _ => rfl)) (pa_cons (pe_ix ix_tup (pv 4) (pe_gint NH.head) (fun _ _ => rfl)) pa_nil))))
    (pss_cons (ps_expr (pe_mt mH_change (pv 0) hr (pa_cons pe_str (pa_cons (pe_ix ix_list (pe_fld (pe_fld (pv 0) rfl) rfl) (pv 7) (fun _ _ => rfl)) (pa_cons (pe_ix ix_tup (pv 6) pe_int (fun _ _ => rfl)) (pa_cons (pv 7) pa_nil))))))
    (pss_one (ps_ret (pe_tup (pa_cons pe_bl (pa_cons (pe_tup (pa_cons (pv 5) (pa_cons (pe_ix ix_tup (pv 6) pe_int (fun _ _ => rfl)) pa_nil))) pa_nil)))))))))))), ?_⟩
  refine ⟨_, rfl, a.p, CH, dx, _, _, rfl, ob, T.cl, T.nG, lkG, a.g, dg, _, rfl, gob, by kernel_rfl, _, rfl, ?_⟩
  refine ⟨a.g, a.aA, a.aS, _, _, n, hd, st, rfl, HA.gr, up, fun q H1 s1 hq => ?_⟩
  have A1 := HA.same s1
  obtain ⟨dx1, ob1⟩ := A1.ob
  obtain ⟨dg1, gob1⟩ := A1.gr.ob
  refine ⟨_, rfl, a.p, CH, dx1, _, _, rfl, ob1, T.cl, T.nG, lkG, a.g, dg1, _, rfl, gob1, by kernel_rfl, _, rfl, ?_⟩
  refine ⟨a.g, a.aA, a.aS, _, _, n', hd', st', rfl, A1.gr, up', fun q' H2 s2 hq' => ?_⟩
  have hq2 := s2 _ _ hq
  have A2 := A1.same s2
  refine ⟨_, rfl, q, _, _, _, rfl, rfl, SqT.of hq2, rfl, _, rfl, q', _, _, _, rfl, rfl, SqT.of hq', rfl, _, _, rfl, rfl, ?_⟩
  refine ⟨_, rfl, q, _, _, _, rfl, rfl, SqT.of hq2, rfl, _, rfl, q', _, _, _, rfl, rfl, SqT.of hq', rfl, rfl, _, rfl, ?_⟩
  rw [eqI_nat]
  refine ite2 (fun c => ?_) (fun c => ?_)
  · have c' : hd = hd' := of_decide_eq_true c
    rw [if_pos c'] at k
    refine ⟨_, rfl, (by show 2 ≤ sizeLine; decide), fun z1 hz1 => ⟨(by show 2 ≤ sizeLine; decide), fun z2 hz2 => ?_⟩⟩
    have s67 := (same_new hz1 (.tup [.int ((st : Int) + (st' : Int)), .int 0])).trans (same_new hz2 (.tup [.bl false, .ref z1]))
    exact k _ _ (A2.same s67) (.of ((s1.trans s2).trans s67)) ⟨z2, _, _, rfl, upd_same, rfl, ⟨z1, rfl, .inl (same_new hz2 _ _ _ upd_same)⟩⟩
  · have c' : ¬ hd = hd' := fun z => c (decide_eq_true z)
    rw [if_neg c'] at k
    have psz := psz c'
    obtain ⟨dx2, ob2⟩ := A2.ob
    obtain ⟨vs2, lp2, hp2⟩ := A2.lp
    obtain ⟨x, ex, fx⟩ := piles_at hp2 plt
    obtain ⟨x', ex', fx'⟩ := piles_at hp2 plt'
    refine ⟨_, rfl, a.p, CH, dx2, _, _, rfl, ob2, T.cl, T.nP, lkP, _, rfl, q, _, _, _, rfl, rfl, SqT.of hq2, rfl, a.aP, _, _, _, rfl, rfl, SqL.of lp2, atI_nat ex, ?_⟩
    refine ⟨_, rfl, a.p, CH, dx2, _, _, rfl, ob2, T.cl, T.nP, lkP, _, rfl, q', _, _, _, rfl, rfl, SqT.of hq', rfl, a.aP, _, _, _, rfl, rfl, SqL.of lp2, atI_nat ex', ?_⟩
    refine ⟨_, _, _, _, rfl, fx, fx', (by unfold Sn.pile at psz; omega), fun q3 u H3 s3 hq3 hu => ?_⟩
    have A3 := A2.same s3
    obtain ⟨dx3, ob3⟩ := A3.ob
    obtain ⟨dg3, gob3⟩ := A3.gr.ob
    have hqa := s3 _ _ hq2
    have hqb := s3 _ _ hq'
    refine ⟨_, rfl, a.p, CH, dx3, _, _, rfl, ob3, T.cl, T.nG, lkG, a.g, dg3, _, rfl, gob3, by kernel_rfl, _, rfl, q, _, _, _, rfl, rfl, SqT.of hqa, rfl, _, rfl, q', _, _, _, rfl, rfl, SqT.of hqb, rfl, ?_⟩
    have lpE := F.ok.good.lp
    have lzE := F.ok.good.lz
    refine ⟨a.g, a.aA, a.aS, h.s, hd, hd', rfl, A3.gr, by omega, by omega, by omega, fun H4 G4 f4 => ?_⟩
    obtain ⟨A4, fr4⟩ := A3.grp G4 f4
    have t4 := A3.tups fr4
    obtain ⟨dx4, ob4⟩ := A4.ob
    obtain ⟨dg4, gob4⟩ := A4.gr.ob
    obtain ⟨h1, h2, h3, h4⟩ := lay_two (s := h.s) up.head up'.head c'
    have hla : (h.s.lay hd hd').ab[h.s.lower hd hd']? = some (some (h.s.upper hd hd')) := by
      show (h.s.ab.set _ _)[_]? = _
      rw [List.getElem?_set_self (get_lt h1)]
    refine ⟨_, rfl, a.p, dx4, _, rfl, ob4, by kernel_rfl, _, rfl, a.p, CH, dx4, _, _, rfl, ob4, T.cl, T.nG, lkG, a.g, CG, dg4, _, _, rfl, gob4, TG.cl, TG.nA, lkA, _, rfl, a.aA, _, _, _, rfl, rfl, SqL.of A4.gr.la, get_oV hla, ?_⟩
    refine ⟨_, rfl, q3, _, _, _, rfl, rfl, SqT.of (t4 _ _ hq3), rfl, _, rfl, ?_⟩
    refine ⟨a, _, .join, h.s.upper hd hd', _, _, some (h.s.lower hd hd'), rfl, A4, hu.mono t4, (by show _ < h.s.pl.length; rw [lpE]; exact get_lt h2), (by show h.past.length ≤ 900; omega), fun H5 A5 f5 => ?_⟩
    have t45 := t4.trans (A4.tups f5)
    refine ⟨_, rfl, _, rfl, q3, _, _, _, rfl, rfl, SqT.of (t45 _ _ hq3), rfl, (by show 2 ≤ sizeLine; decide), fun z1 hz1 => ⟨(by show 2 ≤ sizeLine; decide), fun z2 hz2 => ?_⟩⟩
    have s67 := (same_new hz1 (.tup [.int ((st : Int) + (st' : Int)), .int (joinN (h.s.pl.getD hd .nil) (h.s.pl.getD hd' .nil) : Int)])).trans (same_new hz2 (.tup [.bl true, .ref z1]))
    exact k _ _ (A5.same s67) (((Frm.of ((s1.trans s2).trans s3)).trans (fr4.trans f5)).trans (.of s67)) ⟨z2, _, _, rfl, upd_same, rfl, ⟨z1, rfl, .inl (same_new hz2 _ _ _ upd_same)⟩⟩
theorem sc_Hall_undo : FnScope ["self", "last"] ["self"] (defScope s_Hall_undo) := ⟨rfl, rfl, rfl, by decide +kernel, rfl, by decide +kernel, by decide +kernel⟩
theorem ok_hundo (O : OwnM K CH "undo" "Hall.undo" s_Hall_undo) (T : TxH K CH) (NH : NumsH K mg nw) (mG_part : HasM P w K mg base 1 CG "part" ["self", "lower"] (spGPart CG)) : HasM P w K mg base 2 CH "undo" ["self"] (spHUndo K CH CG) := by
  refine O.has T.cl sc_Hall_undo (fun _ _ _ _ _ _ => by1 fun _ => rfl) (fun vs H Q E h => ?_) (fun f cdv A outer s H vs Q E hr h => ?_)
  · obtain ⟨a, h, rfl, _⟩ := h; rfl
  obtain ⟨a, h, rfl, HA, F, k⟩ := h
  obtain ⟨dx, ob⟩ := HA.ob
  obtain ⟨cs, lc, hc⟩ := HA.lc
  refine ⟨_, (pss_cons (ps_if (pt_not (pt_truth (pe_fld (pv 0) rfl) (fun _ => rfl)))
      (pss_one (ps_ret (pe_tup (pa_cons pe_non (pa_cons (pe_gref NH.nowork) pa_nil)))))
      pss_nil)
    (pss_cons (ps_set (i := 1) sc_Hall_undo.nd rfl (Or.inl rfl) (pe_bm0 PySem.F.plainAttrs_list PySem.F.slot_list_pop PySem.F.type_list_pop mt_pop (pe_fld (pv 0) rfl)))
    (pss_cons (ps_if (pt_cmpR op_notN (pe_ix ix_tup (pv 1) (pe_gint NH.laid) (fun _ _ => rfl)) pe_non (nomark _))
      (pss_one (ps_expr (pe_mt mG_part (pe_fld (pv 0) rfl) hr (pa_cons (pe_ix ix_tup (pv 1) (pe_gint NH.laid) (fun _ _ => rfl)) pa_nil))))
      pss_nil)
    (pss_cons (ps_asg (pe_ix ix_tup (pv 1) (pe_gint NH.old) (fun _ _ => rfl)) (pg_sub (pe_fld (pv 0) rfl) (pe_ix ix_tup (pv 1) (pe_gint NH.whose) (fun _ _ => rfl)) set_list))
    (pss_one (ps_ret (pe_tup (pa_cons (pe_ix ix_tup (pv 1) (pe_gint NH.word) (fun _ _ => rfl)) (pa_cons (pe_gref NH.nowork) pa_nil))))))))), ?_⟩
  refine ⟨_, rfl, a.p, CH, dx, _, _, rfl, ob, T.cl, T.nC, lkC, _, .inl ⟨_, SqL.of lc, rfl⟩, ?_⟩
  obtain ⟨sn, past, puts⟩ := h
  cases past with
  | nil =>
    have e0 : cs = [] := by
      have := paired_len hc
      exact List.length_eq_zero_iff.mp this
    subst e0
    refine iteT ?_
    refine ⟨(by show 2 ≤ sizeLine; decide), fun z hz => ?_⟩
    have s1 := same_new hz (.tup [.non, .ref nw])
    exact k _ _ (HA.same s1) (.of s1) ⟨z, _, _, rfl, upd_same, rfl, ⟨nw, rfl, .inr NH.nowork.2⟩⟩
  | cons c r =>
    obtain ⟨cs', x, rfl, hc', hx⟩ := paired_snoc_inv (show Paired (ChAt H) cs (r.reverse ++ [c]) from by rw [← List.reverse_cons]; exact hc)
    have hcn : (cs' ++ [x]).isEmpty = false := by cases cs' <;> rfl
    rw [hcn]
    refine iteF ?_
    obtain ⟨q, u, rfl, hq, hu⟩ := hx
    obtain ⟨g0, fit, okr⟩ := F.ok
    refine ⟨_, rfl, a.p, CH, dx, _, _, rfl, ob, T.cl, T.nC, lkC, .inl ⟨rfl, _, SqL.of lc⟩, a.aC, _, .ref q, rfl, rfl, lc, (by simp), ?_⟩
    rw [List.dropLast_concat]
    have t1 : Tups H (upd H a.aC (.lst cs')) := Tups.put lc
    have fr1 : Frm a H (upd H a.aC (.lst cs')) := fun b o e _ _ _ _ h5 => by rw [upd_ne h5]; exact e
    have A1 : HallAt CH CG (upd H a.aC (.lst cs')) a ⟨sn, r, puts⟩ := by
      obtain ⟨⟨dx1, ob1⟩, ⟨⟨dg1, gob1⟩, la1, ls1, ne1⟩, ⟨vs1, lp1, hp1⟩, _, pg, n1, n2, n3, n4, n5⟩ := HA
      exact ⟨⟨dx1, by rw [upd_ne (ne_of ob1 lc (by intro z; cases z))]; exact ob1⟩, ⟨⟨dg1, by rw [upd_ne (ne_of gob1 lc (by intro z; cases z))]; exact gob1⟩, by rw [upd_ne n3]; exact la1, by rw [upd_ne n4]; exact ls1, ne1⟩,
        ⟨vs1, by rw [upd_ne n5]; exact lp1, hp1.mono t1⟩, ⟨cs', upd_same, chs_mono t1 hc'⟩, pg, n1, n2, n3, n4, n5⟩
    have hq1 := t1 _ _ hq
    have hu1 := hu.mono t1
    generalize upd H a.aC (.lst cs') = H1 at *
    have last : ∀ {H2 : Hp} {s2 : Sn}, HallAt CH CG H2 a ⟨s2, r, puts⟩ → Frm a H1 H2 → s2.pl.length = sn.pl.length → s2.setP c.head c.old = sn.undo c →
        tSeq (tAsg (tOp (rIxT K) (tVar 1) (tC (.int 2))) (gSub (tFld K (tVar 0) "piles") (tOp (rIxT K) (tVar 1) (tC (.int 1))) rSetL)) (tRet (tTup (tCons (tOp (rIxT K) (tVar 1) (tC (.int 0))) (tCons (tC (.ref nw)) tNil))))
          { nx := fun _ H' => Q .non H', rt := Q } [some (.ref a.p), some (.ref q)] H2 := by
      intro H2 s2 A2 fr2 hlen e2
      have t2 := A1.tups fr2
      have hq2 := t2 _ _ hq1
      obtain ⟨⟨dx2, ob2⟩, ⟨⟨dg2, gob2⟩, la2, ls2, ne2⟩, ⟨vs2, lp2, hp2⟩, ⟨cs2, lc2, hc2⟩, pg, n1, n2, n3, n4, n5⟩ := id A2
      have hl2 := paired_len hp2
      have hhd : c.head < vs2.length := by rw [hl2]; show _ < s2.pl.length; rw [hlen, g0.lp]; exact get_lt fit.hd
      refine ⟨_, rfl, q, _, _, _, rfl, rfl, SqT.of hq2, rfl, _, rfl, a.p, CH, dx2, _, _, rfl, ob2, T.cl, T.nP, lkP, _, rfl, q, _, _, _, rfl, rfl, SqT.of hq2, rfl, a.aP, _, _, c.head, rfl, rfl, lp2, ix_nat hhd, ?_⟩
      have t3 : Tups H2 (upd H2 a.aP (.lst (vs2.set c.head u))) := Tups.put lp2
      have fr3 : Frm a H2 (upd H2 a.aP (.lst (vs2.set c.head u))) := fun b o e _ _ _ h4 _ => by rw [upd_ne h4]; exact e
      have A3 : HallAt CH CG (upd H2 a.aP (.lst (vs2.set c.head u))) a ⟨sn.undo c, r, puts⟩ := by
        rw [← e2]
        exact ⟨⟨dx2, by rw [upd_ne (ne_of ob2 lp2 (by intro z; cases z))]; exact ob2⟩, ⟨⟨dg2, by rw [upd_ne (ne_of gob2 lp2 (by intro z; cases z))]; exact gob2⟩, by rw [upd_ne n1]; exact la2, by rw [upd_ne n2]; exact ls2, ne2⟩,
          ⟨_, upd_same, piles_set ((hu1.mono t2).mono t3) c.head (hp2.mono t3)⟩, ⟨cs2, by rw [upd_ne n5.symm]; exact lc2, chs_mono t3 hc2⟩, pg, n1, n2, n3, n4, n5⟩
      have hq3 := t3 _ _ hq2
      generalize upd H2 a.aP (.lst (vs2.set c.head u)) = H3 at *
      refine ⟨_, rfl, q, _, _, _, rfl, rfl, SqT.of hq3, rfl, (by show 2 ≤ sizeLine; decide), fun z hz => ?_⟩
      have s4 := same_new hz (.tup [.str (wdS c.w), .ref nw])
      exact k _ _ (A3.same s4) (((fr1.trans fr2).trans fr3).trans (.of s4)) ⟨z, _, _, rfl, upd_same, rfl, ⟨nw, rfl, .inr NH.nowork.2⟩⟩
    refine ⟨_, rfl, q, _, _, _, rfl, rfl, SqT.of hq1, rfl, rfl, _, rfl, ?_⟩
    obtain ⟨cw, chd, cold, claid⟩ := c
    cases claid with
    | none =>
      refine iteF ?_
      exact last A1 (.of (.refl _)) rfl rfl
    | some lo =>
      refine iteT ?_
      obtain ⟨dx1, ob1⟩ := A1.ob
      obtain ⟨dg1, gob1⟩ := A1.gr.ob
      refine ⟨_, rfl, a.p, CH, dx1, _, _, rfl, ob1, T.cl, T.nG, lkG, a.g, dg1, _, rfl, gob1, by kernel_rfl, _, rfl, q, _, _, _, rfl, rfl, SqT.of hq1, rfl, ?_⟩
      refine ⟨a.g, a.aA, a.aS, sn, lo, chd, rfl, A1.gr, fit.ld lo rfl, get_lt fit.hd, g0.lz, fun H2 G2 f2 => ?_⟩
      obtain ⟨A2, fr2⟩ := A1.grp G2 f2
      exact last A2 fr2 rfl rfl
end
section
variable {P : Program} {w : World} {K : PySem.W.Frag} {mg : Str → Option Value} {base : Heap} {CH CG nw : Addr}
theorem sc_groups_named : FnScope ["deed"] ["deed"] (defScope s_groups_named) := ⟨rfl, rfl, rfl, by decide +kernel, rfl, by decide +kernel, by decide +kernel⟩
theorem ok_named (O : Own K mg "groups_named" s_groups_named) : Has P w K mg base 1 "groups_named" ["deed"] spNamed := by
  refine O.has sc_groups_named (fun _ _ _ _ _ _ => by1 fun _ => rfl) (fun vs H Q E h => ?_) (fun f cdv A outer s H vs Q E hr h => ?_)
  · obtain ⟨v, d, rfl, _⟩ := h; rfl
  obtain ⟨v, d, rfl, hd, k⟩ := h
  refine ⟨_, (pss_one (ps_ret (pe_ifExp (pt_cmpR op_eq (pe_ix ix_tup (pv 0) pe_int (fun _ _ => rfl)) pe_str (nomark _)) (pe_slice sl_tup (pv 0) (po_some pe_int) (po_some pe_int)) (pe_slice sl_tup (pv 0) (po_some pe_int) po_none)))), ?_⟩
  cases d with
  | put g r =>
    obtain ⟨q, rfl, hq⟩ := hd
    refine ⟨_, rfl, q, _, _, _, rfl, rfl, SqT.of hq, rfl, rfl, _, rfl, ?_⟩
    refine yeT ?_
    refine ⟨_, rfl, _, rfl, _, rfl, q, _, rfl, SqT.of hq, (fun z => absurd z.1 (by show ¬ (1 : Nat) = 0; decide)), fun p hp => ?_⟩
    exact k p _ (same_new hp _) upd_same
  | opn =>
    obtain ⟨q, rfl, hq⟩ := hd
    refine ⟨_, rfl, q, _, _, _, rfl, rfl, SqT.of hq, rfl, rfl, _, rfl, ?_⟩
    refine noT (by decide +kernel) ?_
    refine ⟨_, rfl, _, rfl, q, _, rfl, SqT.of hq, (fun z => absurd z.1 (by show ¬ (1 : Nat) = 0; decide)), fun p hp => ?_⟩
    exact k p _ (same_new hp _) upd_same
  | take g =>
    obtain ⟨q, rfl, hq⟩ := hd
    refine ⟨_, rfl, q, _, _, _, rfl, rfl, SqT.of hq, rfl, rfl, _, rfl, ?_⟩
    refine noT (by decide +kernel) ?_
    refine ⟨_, rfl, _, rfl, q, _, rfl, SqT.of hq, (fun z => absurd z.1 (by show ¬ (1 : Nat) = 0; decide)), fun p hp => ?_⟩
    exact k p _ (same_new hp _) upd_same
  | least g =>
    obtain ⟨q, rfl, hq⟩ := hd
    refine ⟨_, rfl, q, _, _, _, rfl, rfl, SqT.of hq, rfl, rfl, _, rfl, ?_⟩
    refine noT (by decide +kernel) ?_
    refine ⟨_, rfl, _, rfl, q, _, rfl, SqT.of hq, (fun z => absurd z.1 (by show ¬ (1 : Nat) = 0; decide)), fun p hp => ?_⟩
    exact k p _ (same_new hp _) upd_same
  | join a b =>
    obtain ⟨q, rfl, hq⟩ := hd
    refine ⟨_, rfl, q, _, _, _, rfl, rfl, SqT.of hq, rfl, rfl, _, rfl, ?_⟩
    refine noT (by decide +kernel) ?_
    refine ⟨_, rfl, _, rfl, q, _, rfl, SqT.of hq, (fun z => absurd z.1 (by show ¬ (1 : Nat) = 0; decide)), fun p hp => ?_⟩
    exact k p _ (same_new hp _) upd_same
  | same a b =>
    obtain ⟨q, rfl, hq⟩ := hd
    refine ⟨_, rfl, q, _, _, _, rfl, rfl, SqT.of hq, rfl, rfl, _, rfl, ?_⟩
    refine noT (by decide +kernel) ?_
    refine ⟨_, rfl, _, rfl, q, _, rfl, SqT.of hq, (fun z => absurd z.1 (by show ¬ (1 : Nat) = 0; decide)), fun p hp => ?_⟩
    exact k p _ (same_new hp _) upd_same
  | undo =>
    obtain ⟨q, rfl, hq⟩ := hd
    refine ⟨_, rfl, q, _, _, _, rfl, rfl, SqT.of hq, rfl, rfl, _, rfl, ?_⟩
    refine noT (by decide +kernel) ?_
    refine ⟨_, rfl, _, rfl, q, _, rfl, SqT.of hq, (fun z => absurd z.1 (by show ¬ (1 : Nat) = 0; decide)), fun p hp => ?_⟩
    exact k p _ (same_new hp _) upd_same
theorem sc_done : FnScope ["hall", "deed", "word"] ["hall", "deed"] (defScope s_done) := ⟨rfl, rfl, rfl, by decide +kernel, rfl, by decide +kernel, by decide +kernel⟩
theorem ok_done (O : Own K mg "done" s_done) (T : TxH K CH) (B : Bare mg) (NH : NumsH K mg nw) (g_groups_named : Has P w K mg base 1 "groups_named" ["deed"] spNamed) (mH_has : HasM P w K mg base 2 CH "has" ["self", "number"] (spHHas CH CG))
    (mH_add_group : HasM P w K mg base 2 CH "add_group" ["self"] (spHOpen K CH CG)) (mH_put : HasM P w K mg base 5 CH "put" ["self", "group", "rank"] (spHPut K CH CG)) (mH_take : HasM P w K mg base 6 CH "take" ["self", "group"] (spHTake K CH CG))
    (mH_least : HasM P w K mg base 2 CH "least" ["self", "group"] (spHLeast K CH CG)) (mH_unite : HasM P w K mg base 5 CH "unite" ["self", "one", "two"] (spHJoin K CH CG)) (mH_are_one : HasM P w K mg base 2 CH "are_one" ["self", "one", "two"] (spHSame K CH CG))
    (mH_undo : HasM P w K mg base 2 CH "undo" ["self"] (spHUndo K CH CG)) : Has P w K mg base 7 "done" ["hall", "deed"] (spDone K CH CG) := by
  refine O.has sc_done (fun _ _ _ _ _ _ => by2 fun _ _ => rfl) (fun vs H Q E h => ?_) (fun f cdv A outer s H vs Q E hr h => ?_)
  · obtain ⟨a, h, v, d, rfl, _⟩ := h; rfl
  obtain ⟨a, h, v, d, rfl, A0, F, hd, k⟩ := h
  refine ⟨_, (pss_cons (ps_if (pt_not (pt_truth (pe_callB (call_allB rfl) rfl B.all boot_all' (pa_cons (pe_comp ["number"] [(0, "hall")] rfl (pi_tup (pe_fn g_groups_named hr (pa_cons (pv 1) pa_nil))) (by decide +kernel) rfl (by decide +kernel) (by decide +kernel) ⟨⟨rfl, rfl, rfl⟩, trivial⟩ (fun cl C s3 H3 fp => (pg_name (i := 0) (show (["number", "hall"] : List Str).Nodup from by decide +kernel) rfl (Or.inl rfl) (Or.inr rfl))) (fun cl C s3 H3 fp => (pe_mt mH_has (pv 1) hr (pa_cons (pv 0) pa_nil)))) pa_nil)) (fun _ => rfl)))
      (pss_one (ps_ret (pe_tup (pa_cons pe_non (pa_cons (pe_gref NH.nowork) pa_nil)))))
      pss_nil)
    (pss_cons (ps_set (i := 2) sc_done.nd rfl (Or.inl rfl) (pe_ix ix_tup (pv 1) pe_int (fun _ _ => rfl)))
    (pss_cons (ps_if (pt_cmpR op_eq (pv 2) pe_str (nomark _))
      (pss_one (ps_ret (pe_mt0 mH_add_group (pv 0) hr)))
      pss_nil)
    (pss_cons (ps_if (pt_cmpR op_eq (pv 2) pe_str (nomark _))
      (pss_one (ps_ret (pe_mt mH_put (pv 0) hr (pa_cons (pe_ix ix_tup (pv 1) pe_int (fun _ _ => rfl)) (pa_cons (pe_ix ix_tup (pv 1) pe_int (fun _ _ => rfl)) pa_nil)))))
      pss_nil)
    (pss_cons (ps_if (pt_cmpR op_eq (pv 2) pe_str (nomark _))
      (pss_one (ps_ret (pe_mt mH_take (pv 0) hr (pa_cons (pe_ix ix_tup (pv 1) pe_int (fun _ _ => rfl)) pa_nil))))
      pss_nil)
    (pss_cons (ps_if (pt_cmpR op_eq (pv 2) pe_str (nomark _))
      (pss_one (ps_ret (pe_mt mH_least (pv 0) hr (pa_cons (pe_ix ix_tup (pv 1) pe_int (fun _ _ => rfl)) pa_nil))))
      pss_nil)
    (pss_cons (ps_if (pt_cmpR op_eq (pv 2) pe_str (nomark _))
      (pss_one (ps_ret (pe_mt mH_unite (pv 0) hr (pa_cons (pe_ix ix_tup (pv 1) pe_int (fun _ _ => rfl)) (pa_cons (pe_ix ix_tup (pv 1) pe_int (fun _ _ => rfl)) pa_nil)))))
      pss_nil)
    (pss_cons (ps_if (pt_cmpR op_eq (pv 2) pe_str (nomark _))
      (pss_one (ps_ret (pe_mt mH_are_one (pv 0) hr (pa_cons (pe_ix ix_tup (pv 1) pe_int (fun _ _ => rfl)) (pa_cons (pe_ix ix_tup (pv 1) pe_int (fun _ _ => rfl)) pa_nil)))))
      pss_nil)
    (pss_one (ps_ret (pe_mt0 mH_undo (pv 0) hr))))))))))), ?_⟩
  refine ⟨_, rfl, _, d, rfl, hd, fun qn H1 s1 hqn => ?_⟩
  refine ⟨qn, rfl, ⟨_, SqT.of hqn⟩, fun D hD => ?_⟩
  refine ⟨fun i m H2 => i + m = d.named.length ∧ Same H1 H2 ∧ H2 D = some (.lst (((d.named.take i).map fun g => decide (h.isG g)).map V.bl)), ⟨d.named.length, by omega, same_new hD _, upd_same⟩, ?_⟩
  rintro i m H2 ⟨him, s2, hD2⟩
  have hlen : d.named.length ≤ 2 := by cases d <;> (show _ ≤ 2; simp [Deed.named])
  have hqn2 := s2 _ _ hqn
  have A2 := (A0.same s1).same s2
  by_cases hi : i < d.named.length
  · refine .inr ⟨⟨_, _, SqT.of hqn2, List.getElem?_eq_getElem (by rw [List.length_map]; exact hi)⟩, fun x H3 y => ?_⟩
    obtain ⟨rfl, hy⟩ := y
    have hx := hy _ (SqT.of hqn2)
    rw [List.getElem?_map, List.getElem?_eq_getElem hi] at hx
    have ex : x = V.int d.named[i] := (Option.some.inj hx).symm
    subst ex
    refine ⟨Keeps.one _ _, ?_⟩
    obtain ⟨dx, ob⟩ := A2.ob
    refine ⟨_, rfl, a.p, dx, _, rfl, ob, by kernel_rfl, _, rfl, a, h, _, rfl, A2, ?_⟩
    refine ⟨_, hD2, szl (by rw [List.length_map, List.length_map, List.length_take]; omega), m - 1, by omega, by omega, same_put hD s2 _, ?_⟩
    rw [upd_same, List.take_succ_eq_append_getElem hi, List.map_append, List.map_append]; rfl
  refine .inl ⟨⟨_, SqT.of hqn2, by rw [List.length_map]; omega⟩, ?_⟩
  rw [List.take_of_length_le (by omega)] at hD2
  have s02 := s1.trans s2
  refine ⟨D, _, rfl, hD2, _, rfl, ?_⟩
  have hall : ((d.named.map fun g => decide (h.isG g)).all id) = decide (∀ g ∈ d.named, h.isG g) := by
    rw [Bool.eq_iff_iff, decide_eq_true_iff, List.all_eq_true]
    constructor
    · intro z g hg
      have := z (decide (h.isG g)) (List.mem_map.mpr ⟨g, hg, rfl⟩)
      exact of_decide_eq_true this
    · intro z b hb
      obtain ⟨g, hg, rfl⟩ := List.mem_map.mp hb
      exact decide_eq_true (z g hg)
  rw [hall]
  have hd2 := hd.mono (.of s02)
  obtain ⟨dx, ob⟩ := A2.ob
  by_cases c : ∀ g ∈ d.named, h.isG g
  · rw [decide_eq_true c]
    refine iteF ?_
    cases d with
    | opn =>
      obtain ⟨q, rfl, hq⟩ := hd2
      refine ⟨_, rfl, q, _, _, _, rfl, rfl, SqT.of hq, rfl, ?_⟩
      refine ⟨_, rfl, rfl, _, rfl, ?_⟩
      refine yeT ?_
      exact ⟨_, rfl, a.p, dx, _, rfl, ob, by kernel_rfl, a, h, rfl, A2, F, k.from s02 rfl⟩
    | put g r =>
      obtain ⟨q, rfl, hq⟩ := hd2
      have cg : h.isG g := c g (List.mem_singleton.mpr rfl)
      refine ⟨_, rfl, q, _, _, _, rfl, rfl, SqT.of hq, rfl, ?_⟩
      refine ⟨_, rfl, rfl, _, rfl, ?_⟩
      refine noT (by decide +kernel) ?_
      refine ⟨_, rfl, rfl, _, rfl, ?_⟩
      refine yeT ?_
      exact ⟨_, rfl, a.p, dx, _, rfl, ob, by kernel_rfl, _, rfl, q, _, _, _, rfl, rfl, SqT.of hq, rfl, _, rfl, q, _, _, _, rfl, rfl, SqT.of hq, rfl, a, h, g, r, rfl, A2, F, cg, k.from s02 (step_put cg)⟩
    | take g =>
      obtain ⟨q, rfl, hq⟩ := hd2
      have cg : h.isG g := c g (List.mem_singleton.mpr rfl)
      refine ⟨_, rfl, q, _, _, _, rfl, rfl, SqT.of hq, rfl, ?_⟩
      refine ⟨_, rfl, rfl, _, rfl, ?_⟩
      refine noT (by decide +kernel) ?_
      refine ⟨_, rfl, rfl, _, rfl, ?_⟩
      refine noT (by decide +kernel) ?_
      refine ⟨_, rfl, rfl, _, rfl, ?_⟩
      refine yeT ?_
      exact ⟨_, rfl, a.p, dx, _, rfl, ob, by kernel_rfl, _, rfl, q, _, _, _, rfl, rfl, SqT.of hq, rfl, a, h, g, rfl, A2, F, cg, k.from s02 (step_take cg)⟩
    | least g =>
      obtain ⟨q, rfl, hq⟩ := hd2
      have cg : h.isG g := c g (List.mem_singleton.mpr rfl)
      refine ⟨_, rfl, q, _, _, _, rfl, rfl, SqT.of hq, rfl, ?_⟩
      refine ⟨_, rfl, rfl, _, rfl, ?_⟩
      refine noT (by decide +kernel) ?_
      refine ⟨_, rfl, rfl, _, rfl, ?_⟩
      refine noT (by decide +kernel) ?_
      refine ⟨_, rfl, rfl, _, rfl, ?_⟩
      refine noT (by decide +kernel) ?_
      refine ⟨_, rfl, rfl, _, rfl, ?_⟩
      refine yeT ?_
      exact ⟨_, rfl, a.p, dx, _, rfl, ob, by kernel_rfl, _, rfl, q, _, _, _, rfl, rfl, SqT.of hq, rfl, a, h, g, rfl, A2, F, cg, k.from s02 (step_least cg)⟩
    | join g g' =>
      obtain ⟨q, rfl, hq⟩ := hd2
      have cg : h.isG g := c g (by simp [Deed.named])
      have cg' : h.isG g' := c g' (by simp [Deed.named])
      refine ⟨_, rfl, q, _, _, _, rfl, rfl, SqT.of hq, rfl, ?_⟩
      refine ⟨_, rfl, rfl, _, rfl, ?_⟩
      refine noT (by decide +kernel) ?_
      refine ⟨_, rfl, rfl, _, rfl, ?_⟩
      refine noT (by decide +kernel) ?_
      refine ⟨_, rfl, rfl, _, rfl, ?_⟩
      refine noT (by decide +kernel) ?_
      refine ⟨_, rfl, rfl, _, rfl, ?_⟩
      refine noT (by decide +kernel) ?_
      refine ⟨_, rfl, rfl, _, rfl, ?_⟩
      refine yeT ?_
      exact ⟨_, rfl, a.p, dx, _, rfl, ob, by kernel_rfl, _, rfl, q, _, _, _, rfl, rfl, SqT.of hq, rfl, _, rfl, q, _, _, _, rfl, rfl, SqT.of hq, rfl, a, h, g, g', rfl, A2, F, cg, cg', k.from s02 (step_join ⟨cg, cg'⟩)⟩
    | same g g' =>
      obtain ⟨q, rfl, hq⟩ := hd2
      have cg : h.isG g := c g (by simp [Deed.named])
      have cg' : h.isG g' := c g' (by simp [Deed.named])
      refine ⟨_, rfl, q, _, _, _, rfl, rfl, SqT.of hq, rfl, ?_⟩
      refine ⟨_, rfl, rfl, _, rfl, ?_⟩
      refine noT (by decide +kernel) ?_
      refine ⟨_, rfl, rfl, _, rfl, ?_⟩
      refine noT (by decide +kernel) ?_
      refine ⟨_, rfl, rfl, _, rfl, ?_⟩
      refine noT (by decide +kernel) ?_
      refine ⟨_, rfl, rfl, _, rfl, ?_⟩
      refine noT (by decide +kernel) ?_
      refine ⟨_, rfl, rfl, _, rfl, ?_⟩
      refine noT (by decide +kernel) ?_
      refine ⟨_, rfl, rfl, _, rfl, ?_⟩
      refine yeT ?_
      exact ⟨_, rfl, a.p, dx, _, rfl, ob, by kernel_rfl, _, rfl, q, _, _, _, rfl, rfl, SqT.of hq, rfl, _, rfl, q, _, _, _, rfl, rfl, SqT.of hq, rfl, a, h, g, g', rfl, A2, F, cg, cg', k.from s02 (step_same ⟨cg, cg'⟩)⟩
    | undo =>
      obtain ⟨q, rfl, hq⟩ := hd2
      refine ⟨_, rfl, q, _, _, _, rfl, rfl, SqT.of hq, rfl, ?_⟩
      refine ⟨_, rfl, rfl, _, rfl, ?_⟩
      refine noT (by decide +kernel) ?_
      refine ⟨_, rfl, rfl, _, rfl, ?_⟩
      refine noT (by decide +kernel) ?_
      refine ⟨_, rfl, rfl, _, rfl, ?_⟩
      refine noT (by decide +kernel) ?_
      refine ⟨_, rfl, rfl, _, rfl, ?_⟩
      refine noT (by decide +kernel) ?_
      refine ⟨_, rfl, rfl, _, rfl, ?_⟩
      refine noT (by decide +kernel) ?_
      refine ⟨_, rfl, rfl, _, rfl, ?_⟩
      refine noT (by decide +kernel) ?_
      exact ⟨_, rfl, a.p, dx, _, rfl, ob, by kernel_rfl, a, h, rfl, A2, F, k.from s02 rfl⟩
  · rw [decide_eq_false c]
    refine iteT ?_
    have e : step h d = h.no := by
      cases d with
      | opn => exact absurd (fun g hg => (nomatch hg)) c
      | put g r => exact step_put' fun z => c (fun x hx => by rw [List.mem_singleton.mp hx]; exact z)
      | take g => exact step_take' fun z => c (fun x hx => by rw [List.mem_singleton.mp hx]; exact z)
      | least g => exact step_least' fun z => c (fun x hx => by rw [List.mem_singleton.mp hx]; exact z)
      | join g g' => exact step_join' fun z => c (fun x hx => by
          have hx' : x = g ∨ x = g' := by simpa [Deed.named] using hx
          rcases hx' with rfl | rfl
          · exact z.1
          · exact z.2)
      | same g g' => exact step_same' fun z => c (fun x hx => by
          have hx' : x = g ∨ x = g' := by simpa [Deed.named] using hx
          rcases hx' with rfl | rfl
          · exact z.1
          · exact z.2)
      | undo => exact absurd (fun g hg => (nomatch hg)) c
    have k2 := k.from s02 e
    refine ⟨(by show 2 ≤ sizeLine; decide), fun z hz => ?_⟩
    have s4 := same_new hz (.tup [.non, .ref nw])
    exact k2 _ _ (A2.same s4) (.of s4) ⟨z, _, _, rfl, upd_same, rfl, ⟨nw, rfl, .inr NH.nowork.2⟩⟩
theorem sc_outcomes : FnScope ["hall", "deeds"] ["hall", "deeds"] (defScope s_outcomes) := ⟨rfl, rfl, rfl, by decide +kernel, rfl, by decide +kernel, by decide +kernel⟩
theorem ok_outs (O : Own K mg "outcomes" s_outcomes) (g_done : Has P w K mg base 7 "done" ["hall", "deed"] (spDone K CH CG)) : Has P w K mg base 8 "outcomes" ["hall", "deeds"] (spOuts9 K CH CG) := by
  refine O.has sc_outcomes (fun _ _ _ _ _ _ => by2 fun _ _ => rfl) (fun vs H Q E h => ?_) (fun f cdv A outer s H vs Q E hr h => ?_)
  · obtain ⟨a, p, ws, ds, rfl, _⟩ := h; rfl
  obtain ⟨a, p, ws, ds, rfl, A0, hp, p1, p2, p3, p4, hds, h63, k⟩ := h
  have h200 := h63.len
  have lw := paired_len hds
  refine ⟨_, (pss_one (ps_ret (pe_comp ["deed"] [(0, "hall")] rfl (pi_list (pv 1)) (by decide +kernel) rfl (by decide +kernel) (by decide +kernel) ⟨⟨rfl, rfl, rfl⟩, trivial⟩ (fun cl C s3 H3 fp => (pg_name (i := 0) (show (["deed", "hall"] : List Str).Nodup from by decide +kernel) rfl (Or.inl rfl) (Or.inr rfl))) (fun cl C s3 H3 fp => (pe_fn g_done hr (pa_cons (pv 1) (pa_cons (pv 0) pa_nil))))))), ?_⟩
  refine ⟨_, rfl, p, rfl, ⟨_, SqL.of hp⟩, fun D hD => ?_⟩
  obtain ⟨d1, d2, d3, d4, d5⟩ := A0.ne_new hD
  obtain ⟨dx0, ob0⟩ := A0.ob
  have pp : p ≠ a.p := ne_of hp ob0 (by intro z; cases z)
  have pD : p ≠ D := ne_of_none hp hD
  refine ⟨fun i m H2 => i + m = ds.length ∧ HallAt CH CG H2 a (stepsOf Hs.zero (ds.take i)) ∧ Frm a H H2 ∧ ∃ us, H2 D = some (.lst us) ∧ Paired (OutAt K H2) us (outsOf Hs.zero (ds.take i)), ⟨ds.length, by omega, A0.same (same_new hD _), .of (same_new hD _), [], upd_same, .nil⟩, ?_⟩
  rintro i m H2 ⟨him, A2, f2, us, hD2, hus⟩
  have hp2 : H2 p = some (.lst ws) := f2 _ _ hp pp p1 p2 p3 p4
  have lu := paired_len hus
  rw [outsOf_len, List.length_take] at lu
  by_cases hi : i < ds.length
  · refine .inr ⟨⟨ws, ws[i]'(by omega), SqL.of hp2, List.getElem?_eq_getElem _⟩, fun x H3 y => ?_⟩
    obtain ⟨rfl, hy⟩ := y
    have hx := hy ws (SqL.of hp2)
    obtain ⟨d, ed, fd⟩ := paired_get hds hx
    have ed' : ds[i] = d := by rw [List.getElem?_eq_getElem hi] at ed; exact Option.some.inj ed
    refine ⟨Keeps.one _ _, ?_⟩
    refine ⟨_, rfl, _, rfl, a, _, x, d, rfl, A2, h63.fine i, fd.mono (A0.tups f2), fun v H4 A4 f4 ho => ?_⟩
    have hD4 : H4 D = some (.lst us) := f4 _ _ hD2 d1 d2 d3 d4 d5
    have t5 : Tups H4 (upd H4 D (.lst (us ++ [v]))) := Tups.put hD4
    have e1 : ds.take (i + 1) = ds.take i ++ [d] := by rw [List.take_succ_eq_append_getElem hi, ed']
    refine ⟨us, hD4, szl (by omega), m - 1, by omega, by omega, ?_, ?_, us ++ [v], upd_same, ?_⟩
    · rw [e1, steps_snoc]; exact A4.off hD4 d2 d3 d4 d5
    · exact fun b o e h1 h2 h3 h4 h5 => by rw [upd_ne (ne_of_none e hD)]; exact f4 b o (f2 b o e h1 h2 h3 h4 h5) h1 h2 h3 h4 h5
    · rw [e1, outs_snoc]
      exact paired_app (outs_mono ((A2.tups f4).trans t5) hus) (.cons (ho.mono t5) .nil)
  refine .inl ⟨⟨ws, SqL.of hp2, by omega⟩, ?_⟩
  rw [List.take_of_length_le (by omega)] at A2 hus
  exact k D us H2 A2 f2 hD2 hus
end
section
variable {P : Program} {w : World} {K : PySem.W.Frag} {mg : Str → Option Value} {base : Heap} {CH CG nw : Addr}
theorem sc_answers : FnScope ["deeds"] ["deeds"] (defScope s_answers) := ⟨rfl, rfl, rfl, by decide +kernel, rfl, by decide +kernel, by decide +kernel⟩
theorem ok_answers (O : Own K mg "answers" s_answers) (i_Hall : HasI P w K mg base 3 "Hall" CH (spHInit CH CG)) (g_outcomes : Has P w K mg base 8 "outcomes" ["hall", "deeds"] (spOuts9 K CH CG)) : Has P w K mg base 9 "answers" ["deeds"] (spAnswers9 K) := by
  refine O.has sc_answers (fun _ _ _ _ _ _ => by1 fun _ => rfl) (fun vs H Q E h => ?_) (fun f cdv A outer s H vs Q E hr h => ?_)
  · obtain ⟨p, ws, ds, rfl, _⟩ := h; rfl
  obtain ⟨p, ws, ds, rfl, hp, hds, h63, k⟩ := h
  have h200 := h63.len
  refine ⟨_, (pss_one (ps_ret (pe_comp ["outcome"] [] rfl (pi_list (pe_fn g_outcomes hr (pa_cons (pe_mk0 i_Hall hr) (pa_cons (pv 0) pa_nil)))) (by decide +kernel) rfl (by decide +kernel) (by decide +kernel) trivial (fun cl C s3 H3 fp => (pg_name (i := 0) (show (["outcome"] : List Str).Nodup from by decide +kernel) rfl (Or.inl rfl) (Or.inr rfl))) (fun cl C s3 H3 fp => (pe_ix (ix_tupK K) (pv 0) pe_int (fun _ _ => rfl)))))), ?_⟩
  intro x dx nx ndx nex
  have s0 : Same H (upd (upd H dx (.own x)) x (.ins CH dx [])) := fun b o e => by rw [upd_ne (ne_of_none e nx), upd_ne (ne_of_none e ndx)]; exact e
  refine ⟨x, dx, rfl, upd_same, fun a H1 ea A1 fA fS fP fC f1 => ⟨rfl, ?_⟩⟩
  subst ea
  have s1 : Same H H1 := fun b o e => f1 b o (s0 b o e) (ne_of_none e nx)
  have gA := s0.free fA
  have gS := s0.free fS
  have gP := s0.free fP
  have gC := s0.free fC
  refine ⟨_, rfl, a, p, ws, ds, rfl, A1, s1 _ _ hp, ne_of_none hp gA, ne_of_none hp gS, ne_of_none hp gP, ne_of_none hp gC, hds.mono (.of s1), h63, fun q us H2 A2 f2 hq hus => ?_⟩
  have s2 : Same H H2 := fun b o e => f2 b o (s1 b o e) (ne_of_none e nx) (ne_of_none e gA) (ne_of_none e gS) (ne_of_none e gP) (ne_of_none e gC)
  have lu := paired_len hus
  rw [outsOf_len] at lu
  refine ⟨q, rfl, ⟨_, SqL.of hq⟩, fun D hD => ?_⟩
  refine ⟨fun i m H3 => i + m = us.length ∧ Same H2 H3 ∧ ∃ vs, H3 D = some (.lst vs) ∧ Paired (AnsAt H3) vs (((outsOf Hs.zero ds).take i).map (·.1)), ⟨us.length, by omega, same_new hD _, [], upd_same, .nil⟩, ?_⟩
  rintro i m H3 ⟨him, s3, vs, hD3, hvs⟩
  have hq3 := s3 _ _ hq
  by_cases hi : i < us.length
  · refine .inr ⟨⟨us, us[i], SqL.of hq3, List.getElem?_eq_getElem hi⟩, fun y H4 z => ?_⟩
    obtain ⟨rfl, hy⟩ := z
    have hx := hy us (SqL.of hq3)
    obtain ⟨o, eo, fo⟩ := paired_get (outs_mono (.of s3) hus) hx
    obtain ⟨qo, va, vw, rfl, hqo, ha, hw⟩ := fo
    have lv := paired_len hvs
    rw [List.length_map, List.length_take] at lv
    refine ⟨Keeps.one _ _, ?_⟩
    refine ⟨_, rfl, qo, _, _, va, rfl, rfl, SqT.of hqo, rfl, vs, hD3, szl (by omega), m - 1, by omega, by omega, same_put hD s3 _, vs ++ [va], upd_same, ?_⟩
    have hlt : i < (outsOf Hs.zero ds).length := get_lt eo
    have e : (outsOf Hs.zero ds)[i] = o := by rw [List.getElem?_eq_getElem hlt] at eo; exact Option.some.inj eo
    rw [List.take_succ_eq_append_getElem hlt, List.map_append, e]
    exact paired_app (ans_mono (.put hD3) hvs) (.cons (ha.mono (.put hD3)) .nil)
  refine .inl ⟨⟨us, SqL.of hq3, by omega⟩, ?_⟩
  rw [List.take_of_length_le (by rw [outsOf_len]; omega)] at hvs
  exact k D vs H3 (s2.free hD) (s2.trans s3) hD3 hvs
end
section
variable {P : Program} {w : World} {K : PySem.W.Frag} {mg : Str → Option Value} {base : Heap} {CH CG nw : Addr}
theorem sc_Groups_heads : FnScope ["self"] ["self"] (defScope s_Groups_heads) := ⟨rfl, rfl, rfl, by decide +kernel, rfl, by decide +kernel, by decide +kernel⟩
theorem ok_gheads {C : Addr} (O : OwnM K C "heads" "Groups.heads" s_Groups_heads) (T : TxG K C) (B : Bare mg) (NH : NumsH K mg nw) (mG_way_up : HasM P w K mg base 1 C "way_up" ["self", "number"] (spGWay C)) : HasM P w K mg base 2 C "heads" ["self"] (spGHeads C) := by
  refine O.has T.cl sc_Groups_heads (fun _ _ _ _ _ _ => by1 fun _ => rfl) (fun vs H Q E h => ?_) (fun f cdv A outer s H vs Q E hr h => ?_)
  · obtain ⟨g, aA, aS, ab, sz, rfl, _⟩ := h; rfl
  obtain ⟨g, aA, aS, ab, sz, rfl, G, h9, hup, k⟩ := h
  obtain ⟨dx, ob⟩ := G.ob
  refine ⟨_, (pss_one (ps_ret (pe_comp ["number"] [(0, "self")] rfl (pi_range1 rfl B.range (pa_cons (pe_callB call_len_seq rfl B.len PySem.boot_len (pa_cons (pe_fld (pv 0) rfl) pa_nil)) pa_nil)) (by decide +kernel) rfl (by decide +kernel) (by decide +kernel) ⟨⟨rfl, rfl, rfl⟩, trivial⟩ (fun cl C s3 H3 fp => (pg_name (i := 0) (show (["number", "self"] : List Str).Nodup from by decide +kernel) rfl (Or.inl rfl) (Or.inr rfl))) (fun cl C s3 H3 fp => (pe_ix (ix_tupK K) (pe_mt mG_way_up (pv 1) hr (pa_cons (pv 0) pa_nil)) (pe_gint NH.head) (fun _ _ => rfl)))))), ?_⟩
  refine ⟨_, rfl, g, C, dx, _, _, rfl, ob, T.cl, T.nA, lkA, aA, _, rfl, .inl (SqL.of G.la), _, rfl, (by rw [List.length_map]; omega), (by rw [List.length_map]; omega), fun D hD => ?_⟩
  have en : (((ab.map oV).length : Nat) : Int).toNat = ab.length := by rw [List.length_map]; omega
  rw [en]
  refine ⟨fun i m H2 => i + m = ab.length ∧ Same H H2 ∧ H2 D = some (.lst ((((List.range i).map fun n => (way ab n).1)).map fun n : Nat => V.int n)), ⟨ab.length, by omega, same_new hD _, upd_same⟩, ?_⟩
  rintro i m H2 ⟨him, s2, hD2⟩
  have G2 := G.same s2
  by_cases hi : i < ab.length
  · refine .inr ⟨hi, fun x H3 y => ?_⟩
    obtain ⟨rfl, rfl⟩ := y
    refine ⟨Keeps.one _ _, ?_⟩
    obtain ⟨dx2, ob2⟩ := G2.ob
    obtain ⟨hd, st, up⟩ := hup i hi
    refine ⟨_, rfl, g, dx2, _, rfl, ob2, by kernel_rfl, _, rfl, g, aA, aS, ab, sz, i, hd, st, by rw [Int.zero_add]; rfl, G2, up, fun q H4 s4 hq => ?_⟩
    refine ⟨q, _, _, _, rfl, rfl, SqT.of hq, rfl, _, s4 _ _ hD2, szl (by simp; omega), m - 1, by omega, by omega, same_put hD (s2.trans s4) _, ?_⟩
    rw [upd_same, List.range_succ, List.map_append, List.map_append]
    simp only [List.map_cons, List.map_nil, up.way]
  refine .inl ⟨by show ab.length ≤ i; omega, ?_⟩
  have ei : i = ab.length := by omega
  subst ei
  exact k D H2 s2 hD2
theorem sc_hall_behind : FnScope ["deeds", "hall"] ["deeds"] (defScope s_hall_behind) := ⟨rfl, rfl, rfl, by decide +kernel, rfl, by decide +kernel, by decide +kernel⟩
theorem ok_behind (O : Own K mg "hall_behind" s_hall_behind) (i_Hall : HasI P w K mg base 3 "Hall" CH (spHInit CH CG)) (g_outcomes : Has P w K mg base 8 "outcomes" ["hall", "deeds"] (spOuts9 K CH CG)) : Has P w K mg base 9 "hall_behind" ["deeds"] (spBehind9 CH CG) := by
  refine O.has sc_hall_behind (fun _ _ _ _ _ _ => by1 fun _ => rfl) (fun vs H Q E h => ?_) (fun f cdv A outer s H vs Q E hr h => ?_)
  · obtain ⟨p, ws, ds, rfl, _⟩ := h; rfl
  obtain ⟨p, ws, ds, rfl, hp, hds, h63, k⟩ := h
  have h200 := h63.len
  refine ⟨_, (pss_cons (ps_set (i := 1) sc_hall_behind.nd rfl (Or.inl rfl) (pe_mk0 i_Hall hr))
    (pss_cons (ps_expr (pe_fn g_outcomes hr (pa_cons (pv 1) (pa_cons (pv 0) pa_nil))))
    (pss_one (ps_ret (pv 1))))), ?_⟩
  intro x dx nx ndx nex
  have s0 : Same H (upd (upd H dx (.own x)) x (.ins CH dx [])) := fun b o e => by rw [upd_ne (ne_of_none e nx), upd_ne (ne_of_none e ndx)]; exact e
  refine ⟨x, dx, rfl, upd_same, fun a H1 ea A1 fA fS fP fC f1 => ⟨rfl, ?_⟩⟩
  subst ea
  have s1 : Same H H1 := fun b o e => f1 b o (s0 b o e) (ne_of_none e nx)
  have gA := s0.free fA
  have gS := s0.free fS
  have gP := s0.free fP
  have gC := s0.free fC
  refine ⟨_, rfl, _, rfl, a, p, ws, ds, rfl, A1, s1 _ _ hp, ne_of_none hp gA, ne_of_none hp gS, ne_of_none hp gP, ne_of_none hp gC, hds.mono (.of s1), h63, fun q us H2 A2 f2 hq hus => ?_⟩
  have s2 : Same H H2 := fun b o e => f2 b o (s1 b o e) (ne_of_none e nx) (ne_of_none e gA) (ne_of_none e gS) (ne_of_none e gP) (ne_of_none e gC)
  exact ⟨_, rfl, k a H2 s2 A2⟩
end
section
variable {P : Program} {w : World} {K : PySem.W.Frag} {mg : Str → Option Value} {base : Heap} {CH CG nw : Addr}
def ThgAt (H : Hp) (u : V) (t : T) : Prop := ∃ y xs ps, u = .ref y ∧ H y = some (.lst xs) ∧ PairsAt H xs ps ∧ ps.Perm t.toL ∧ Sorted2 ps
theorem ThgAt.same {H H' : Hp} (s : Same H H') {u : V} {t : T} (h : ThgAt H u t) : ThgAt H' u t := by
  obtain ⟨y, xs, ps, e, h1, h2, h3⟩ := h
  exact ⟨y, xs, ps, e, s _ _ h1, h2.mono (.of s), h3⟩
def ThgN (D : Addr) (H : Hp) (u : V) (t : T) : Prop := ∃ y xs ps, u = .ref y ∧ y ≠ D ∧ H y = some (.lst xs) ∧ PairsAt H xs ps ∧ ps.Perm t.toL ∧ Sorted2 ps
inductive IspContents9 (vs : List V) (H : Hp) (Q : VK) : Prop
  | mk : ∀ p ws ds, (vs = [.ref p]) → (H p = some (.lst ws)) → (DeedsAt H ws ds) → (DsOk ds) → (∀ q us H', H q = none → Same H H' → H' q = some (.lst us) → Paired (ThgAt H') us (pilesOf (stepsOf Hs.zero ds)) → Q (.ref q) H') → IspContents9 vs H Q
def spContents9 : Sp := fun vs H Q _ => IspContents9 vs H Q
def ThsAt (H : Hp) (s : Sn) (kvs : List (Key × V)) (ms : List Int) : Prop := ∀ n : Nat, (n : Int) ∈ ms → ∃ u, valV kvs (Sum.inl (n : Int)) = some u ∧ ThgAt H u (s.pile n)
theorem sc_contents : FnScope ["deeds", "hall", "heads", "things", "head"] ["deeds"] (defScope s_contents) := ⟨rfl, rfl, rfl, by decide +kernel, rfl, by decide +kernel, by decide +kernel⟩
theorem ok_contents (O : Own K mg "contents" s_contents) (T : TxH K CH) (B : Bare mg) (B3 : Bare3 mg) (g_hall_behind : Has P w K mg base 9 "hall_behind" ["deeds"] (spBehind9 CH CG)) (mG_heads : HasM P w K mg base 2 CG "heads" ["self"] (spGHeads CG)) (g_emptied : Has P w K mg base 6 "emptied" ["pile"] spEmptied) : Has P w K mg base 10 "contents" ["deeds"] spContents9 := by
  refine O.has sc_contents (fun _ _ _ _ _ _ => by1 fun _ => rfl) (fun vs H Q E h => ?_) (fun f cdv A outer s H vs Q E hr h => ?_)
  · obtain ⟨p, ws, ds, rfl, _⟩ := h; rfl
  obtain ⟨p, ws, ds, rfl, hp, hds, h63, k⟩ := h
  have h200 := h63.len
  refine ⟨_, (pss_cons (ps_set (i := 1) sc_contents.nd rfl (Or.inl rfl) (pe_fn g_hall_behind hr (pa_cons (pv 0) pa_nil)))
    (pss_cons (ps_set (i := 2) sc_contents.nd rfl (Or.inl rfl) (pe_mt0 mG_heads (pe_fld (pv 1) rfl) hr))
    (pss_cons (ps_set (i := 3) sc_contents.nd rfl (Or.inr rfl) pe_dnewK)
    (pss_cons (ps_for PassesOwn.never rfl (pi_list (pe_callB (call_sortedX rfl) rfl B.srt boot_srt (pa_cons (pe_callTy (call_setI rfl) rfl B3.set boot_set' (pa_cons (pv 2) pa_nil)) pa_nil))) (pg_name (i := 4) sc_contents.nd rfl (Or.inl rfl))
      (pss_one (ps_dput (hu_of hr) (pv 3) (pv 4) (pe_fn g_emptied hr (pa_cons (pe_ix ix_list (pe_fld (pv 1) rfl) (pv 4) (fun _ _ => rfl)) pa_nil)) rfl)))
    (pss_one (ps_ret (pe_comp ["head"] [(3, "things")] rfl (pi_list (pv 2)) (by decide +kernel) rfl (by decide +kernel) (by decide +kernel) ⟨⟨rfl, rfl, rfl⟩, trivial⟩ (fun cl C s3 H3 fp => (pg_name (i := 0) (show (["head", "things"] : List Str).Nodup from by decide +kernel) rfl (Or.inl rfl) (Or.inr rfl))) (fun cl C s3 H3 fp => (pe_callTy (call_list_ofK K) rfl B.list boot_list' (pa_cons (pe_dget (hu_of hr) (pv 1) (pv 0) (fun _ _ => rfl)) pa_nil)))))))))), ?_⟩
  refine ⟨_, rfl, p, ws, ds, rfl, hp, hds, h63, fun a H1 s1 A1 => ?_⟩
  have F := h63.fine ds.length
  rw [List.take_length] at F
  unfold pilesOf at k
  have bn := h63.ab
  generalize stepsOf Hs.zero ds = h at *
  obtain ⟨dx, ob⟩ := A1.ob
  obtain ⟨dg, gob⟩ := A1.gr.ob
  refine ⟨_, rfl, a.p, CH, dx, _, _, rfl, ob, T.cl, T.nG, lkG, a.g, dg, _, rfl, gob, by kernel_rfl, a.g, a.aA, a.aS, _, _, rfl, A1.gr, by omega, F.ok.good.up, fun q H2 s2 hq => ?_⟩
  have hlen : (headsOf h.s.ab).length = h.s.ab.length := by unfold headsOf; rw [List.length_map, List.length_range]
  have hlt : ∀ n ∈ headsOf h.s.ab, n < h.s.pl.length ∧ h.s.ab[n]? = some none := fun n hn => by
    obtain ⟨i, hi, e⟩ := List.getElem_of_mem hn
    obtain ⟨hd, st, up⟩ := F.ok.good.up i (by omega)
    have e2 := headsOf_get up (by omega)
    rw [List.getElem?_eq_getElem hi] at e2
    have : n = hd := e.symm.trans (Option.some.inj e2)
    rw [this, F.ok.good.lp]
    exact ⟨get_lt up.head, up.head⟩
  generalize headsOf h.s.ab = hs at *
  intro td htd
  have s3 := same_new htd (.dK [])
  have hq3 := s3 _ _ hq
  have ei : (hs.map fun n : Nat => V.int n) = List.map V.int (hs.map fun n : Nat => (n : Int)) := by rw [List.map_map]; rfl
  refine ⟨_, rfl, q, hs.map fun n : Nat => (n : Int), rfl, by rw [← ei]; exact hq3, by rw [List.length_map]; omega, fun D hD => ?_⟩
  refine ⟨D, hs.map fun n : Nat => (n : Int), rfl, upd_same, by rw [List.length_map]; omega, fun l ms hl hml hmm => ?_⟩
  rw [List.length_map] at hml
  generalize SetX _ _ D (hs.map fun n : Nat => (n : Int)) = so at *
  have s4 := same_new hD so
  have s5 := same_new hl (.lst (List.map V.int ms))
  have s25 : Same H2 _ := s3.trans (s4.trans s5)
  have htd5 : (upd (upd (upd H2 td (.dK [])) D so) l (.lst (List.map V.int ms))) td = some (.dK []) := s5 _ _ (s4 _ _ upd_same)
  have hl5 : (upd (upd (upd H2 td (.dK [])) D so) l (.lst (List.map V.int ms))) l = some (.lst (List.map V.int ms)) := upd_same
  have ntl : td ≠ l := ne_of_none (s4 _ _ upd_same) hl
  generalize upd (upd (upd H2 td (.dK [])) D so) l (.lst (List.map V.int ms)) = H5 at *
  refine ⟨l, rfl, ⟨_, SqL.of hl5⟩, for_list (K := K) (a := l) (xs := List.map V.int ms) (fun i σ H6 => ∃ o4 kvs, σ = [some (.ref p), some (.ref a.p), some (.ref q), some (.ref td), o4] ∧ Same H2 H6 ∧ H6 l = some (.lst (List.map V.int ms)) ∧ H6 td = some (.dK kvs) ∧ kvs.length ≤ i ∧ ThsAt H6 h.s kvs (ms.take i))
    ⟨none, [], rfl, s25, hl5, htd5, Nat.le_refl _, fun n hn => by cases hn⟩ (fun i σ H' _ ⟨_, _, _, _, e, _⟩ => SqL.of e) ?_ ?_⟩
  · rintro i x σ H6 hi ⟨o4, kvs, rfl, s6, hl6, ht6, hk6, hth⟩
    have hil : i < ms.length := by have := get_lt hi; simpa using this
    rw [List.getElem?_map, List.getElem?_eq_getElem hil] at hi
    have hx : x = .int ms[i] := (Option.some.inj hi).symm
    subst hx
    obtain ⟨n, hn, en⟩ := List.mem_map.mp ((hmm ms[i]).mp (List.getElem_mem hil))
    rw [← en]
    obtain ⟨ln, hnone⟩ := hlt n hn
    have A6 := (A1.same s2).same s6
    obtain ⟨dx6, ob6⟩ := A6.ob
    obtain ⟨vp, lp, hpp⟩ := A6.lp
    obtain ⟨u, eu, fu⟩ := piles_at hpp ln
    have hsz : (h.s.pl.getD n .nil).size ≤ 100 := by
      have := hsum_one (pl := h.s.pl) hnone ln
      have := F.ok.good.sum
      have := F.bd.p
      omega
    have hho : Ho (h.s.pl.getD n .nil) := F.ok.good.ho _ (pile_mem (s := h.s) ln)
    refine ⟨_, rfl, a.p, CH, dx6, _, _, rfl, ob6, T.cl, T.nP, lkP, _, rfl, a.aP, _, _, _, rfl, rfl, SqL.of lp, atI_nat eu, u, _, rfl, fu, hho, hsz, fun y xs ps H7 s7 hy hps hpm hsr => ?_⟩
    have ht7 := s7 _ _ ht6
    refine ⟨_, rfl, _, rfl, td, _, rfl, DPut.k (k := Sum.inl (n : Int)) ht7 (szl (by omega)), ?_⟩
    have tp : Tups H7 (upd H7 td (.dK (putK kvs (Sum.inl (n : Int)) (.ref y)))) := fun b xs e => by rw [upd_ne (ne_of e ht7 (by intro z; cases z))]; exact e
    have mv : ∀ {u : V} {t : Ph.T}, ThgAt H7 u t → ThgAt (upd H7 td (.dK (putK kvs (Sum.inl (n : Int)) (.ref y)))) u t := fun ⟨y, xs, ps, e, h1, h2, h3⟩ => ⟨y, xs, ps, e, by rw [upd_ne (ne_of h1 ht7 (by intro z; cases z))]; exact h1, h2.mono tp, h3⟩
    refine ⟨_, _, rfl, same_put htd (s6.trans s7) _, by rw [upd_ne ntl.symm]; exact s7 _ _ hl6, upd_same, Nat.le_trans (length_putK _ _ _) (by omega), fun m hm => ?_⟩
    rw [valV_put]
    by_cases e : (Sum.inl (m : Int) : Key) = Sum.inl (n : Int)
    · rw [if_pos e]
      have em : m = n := by have := Sum.inl.inj e; omega
      subst em
      exact ⟨_, rfl, mv ⟨y, xs, ps, rfl, hy, hps, hpm, hsr⟩⟩
    · rw [if_neg e]
      have hm' : (m : Int) ∈ ms.take i := by
        rw [List.take_succ_eq_append_getElem hil, List.mem_append] at hm
        rcases hm with z | z
        · exact z
        · rw [List.mem_singleton, ← en] at z; exact absurd (congrArg Sum.inl z) e
      obtain ⟨u', e1, e2⟩ := hth m hm'
      exact ⟨u', e1, mv (e2.same s7)⟩
  · rintro σ H6 ⟨o4, kvs, rfl, s6, hl6, ht6, hk6, hth⟩
    rw [List.length_map, List.take_of_length_le (Nat.le_refl _)] at hth
    have hq6 := s6 _ _ hq
    refine ⟨_, rfl, q, rfl, ⟨_, SqL.of hq6⟩, fun D7 hD7 => ?_⟩
    refine ⟨fun i m H8 => i + m = hs.length ∧ Same H6 H8 ∧ ∃ vs, H8 D7 = some (.lst vs) ∧ Paired (ThgN D7 H8) vs ((hs.take i).map fun n => h.s.pile n), ⟨hs.length, by omega, same_new hD7 _, [], upd_same, .nil⟩, ?_⟩
    rintro i m H8 ⟨him, s8, vs, hD8, hvs⟩
    have hq8 := s8 _ _ hq6
    by_cases hi : i < hs.length
    · refine .inr ⟨⟨_, _, SqL.of hq8, List.getElem?_eq_getElem (by rw [List.length_map]; exact hi)⟩, fun y H9 z => ?_⟩
      obtain ⟨rfl, hy⟩ := z
      have hx := hy _ (SqL.of hq8)
      rw [List.getElem?_map, List.getElem?_eq_getElem hi] at hx
      have ex : y = V.int (hs[i] : Nat) := (Option.some.inj hx).symm
      subst ex
      refine ⟨Keeps.one _ _, ?_⟩
      obtain ⟨u, e1, y1, xs1, ps1, rfl, e2, e3, e4, e5⟩ := hth hs[i] ((hmm _).mpr (List.mem_map.mpr ⟨hs[i], List.getElem_mem hi, rfl⟩))
      have lv := paired_len hvs
      rw [List.length_map, List.length_take] at lv
      have g8 : DGet H9 td (.int (hs[i] : Nat)) (some (.ref y1)) := by rw [← e1]; exact DGet.k (k := Sum.inl ((hs[i] : Nat) : Int)) (s8 _ _ ht6)
      refine ⟨_, rfl, _, rfl, td, _, rfl, g8, y1, xs1, rfl, .inl (SqL.of (s8 _ _ e2)), fun l9 hl9 => ?_⟩
      have s9 := same_new hl9 (.lst xs1)
      have hD9 := s9 _ _ hD8
      refine ⟨vs, hD9, szl (by omega), m - 1, by omega, by omega, same_put hD7 (s8.trans s9) _, vs ++ [.ref l9], upd_same, ?_⟩
      have nl : l9 ≠ D7 := (ne_of_none hD8 hl9).symm
      have tp : Tups H9 (upd (upd H9 l9 (.lst xs1)) D7 (.lst (vs ++ [.ref l9]))) := fun b xs e => by rw [upd_ne (ne_of (s9 _ _ e) hD9 (by intro z; cases z))]; exact s9 _ _ e
      rw [List.take_succ_eq_append_getElem hi, List.map_append]
      refine paired_app (Paired.imp' (fun u t z => ?_) hvs) (.cons ⟨l9, xs1, ps1, rfl, nl, by rw [upd_ne nl]; exact upd_same, (e3.mono (.of s8)).mono tp, e4, e5⟩ .nil)
      obtain ⟨y, xs, ps, e, h1, h2, h3, h4⟩ := z
      exact ⟨y, xs, ps, e, h1, by rw [upd_ne h1]; exact s9 _ _ h2, h3.mono tp, h4⟩
    refine .inl ⟨⟨_, SqL.of hq8, by rw [List.length_map]; omega⟩, ?_⟩
    rw [List.take_of_length_le (by omega)] at hvs
    exact k D7 vs H8 ((s1.trans (s2.trans s6)).free hD7) (s1.trans (s2.trans (s6.trans s8))) hD8 (Paired.imp' (fun u t ⟨y, xs, ps, e, _, h2, h3, h4⟩ => ⟨y, xs, ps, e, h2, h3, h4⟩) hvs)
end
section
variable {P : Program} {w : World} {K : PySem.W.Frag} {mg : Str → Option Value} {base : Heap}
theorem sc_law_whole : FnScope ["_law_found"] ["_law_found"] (defScope s_law_whole) := ⟨rfl, rfl, rfl, by decide +kernel, rfl, by decide +kernel, by decide +kernel⟩
theorem ok_whole (O : Own K mg "_law_whole" s_law_whole) (B : Bare mg) : Has P w K mg base 1 "_law_whole" ["_law_found"] spWhole := by
  refine O.has sc_law_whole (fun _ _ _ _ _ _ => by1 fun _ => rfl) (fun vs H Q E h => ?_) (fun f cdv A outer s H vs Q E hr h => ?_)
  · obtain ⟨i, rfl, _⟩ := h; rfl
  obtain ⟨i, rfl, k⟩ := h
  refine ⟨_, (pss_one (ps_ret (pe_and (pe_callB call_isi rfl B.isi boot_isi (pa_cons (pv 0) (pa_cons (pe_bltn (v := .ty "int") rfl B.int boot_int' rfl) pa_nil))) (pe_one (pe_not (pe_callB call_isi rfl B.isi boot_isi (pa_cons (pv 0) (pa_cons (pe_bltn (v := .ty "bool") rfl B.bool boot_bool' rfl) pa_nil)))))))), ?_⟩
  refine ⟨_, rfl, _, _, _, _, rfl, TyOf.int i, kit_ii K, _, rfl, iteT ?_⟩
  exact ⟨_, rfl, _, _, _, _, rfl, TyOf.int i, kit_ib K, _, rfl, k⟩
end
section
variable {P : Program} {w : World} {K : PySem.W.Frag} {mg : Str → Option Value} {base : Heap}
theorem sc_law_mixed : FnScope ["_law_script"] ["_law_script"] (defScope s_law_mixed) := ⟨rfl, rfl, rfl, by decide +kernel, rfl, by decide +kernel, by decide +kernel⟩
theorem ok_mixed (O : Own K mg "_law_mixed" s_law_mixed) (B : Bare mg) : Has P w K mg base 1 "_law_mixed" ["_law_script"] (spMixed K) := by
  refine O.has sc_law_mixed (fun _ _ _ _ _ _ => by1 fun _ => rfl) (fun vs H Q E h => ?_) (fun f cdv A outer s H vs Q E hr h => ?_)
  · obtain ⟨p, ns, rfl, _⟩ := h; rfl
  obtain ⟨p, ns, rfl, hp, h63, k⟩ := h
  refine ⟨_, (pss_one (ps_ret (pe_comp ["_law_k"] [(0, "_law_script")] rfl (pi_range1 rfl B.range (pa_cons (pe_callB call_len_seq rfl B.len PySem.boot_len (pa_cons (pv 0) pa_nil)) pa_nil)) (by decide +kernel) rfl (by decide +kernel) (by decide +kernel) ⟨⟨rfl, rfl, rfl⟩, trivial⟩ (fun cl C s3 H3 fp => (pg_name (i := 0) (show (["_law_k", "_law_script"] : List Str).Nodup from by decide +kernel) rfl (Or.inl rfl) (Or.inr rfl))) (fun cl C s3 H3 fp => (pe_op op_mod (pe_op op_mul (pe_op op_add (pe_ix (ix_listK K) (pv 1) (pv 0) (fun _ _ => rfl)) (pe_op op_mul pe_int (pv 0))) pe_int) pe_int))))), ?_⟩
  have hlen : (ns.map V.int).length = ns.length := List.length_map _
  refine ⟨_, rfl, p, _, rfl, .inl hp, _, rfl, by omega, by omega, fun D hD => ?_⟩
  have en : (((ns.map V.int).length : Nat) : Int).toNat = ns.length := by omega
  rw [en]
  refine ⟨fun i m H2 => i + m = ns.length ∧ Same H H2 ∧ ∃ ms : List Int, ms.length = i ∧ H2 D = some (.lst (ms.map V.int)), ⟨ns.length, by omega, same_new hD _, [], rfl, upd_same⟩, ?_⟩
  rintro i m H2 ⟨him, s2, ms, hms, hD2⟩
  by_cases hi : i < ns.length
  · refine .inr ⟨hi, fun x H3 y => ?_⟩
    obtain ⟨rfl, rfl⟩ := y
    refine ⟨Keeps.one _ _, ?_⟩
    refine ⟨_, rfl, _, rfl, p, _, _, _, rfl, rfl, s2.seq hp, ints_get hi, ?_⟩
    refine ⟨_, rfl, _, _, rfl, rfl, .inl ⟨by decide, by decide⟩, _, _, rfl, rfl, _, _, rfl, rfl, .inr ⟨by decide, by decide⟩, _, _, rfl, rfl, (by show (0 : Int) < 1000003; decide), ?_⟩
    refine ⟨_, hD2, szl (by rw [List.length_map]; omega), m - 1, by omega, by omega, same_put hD s2 _, ms ++ [(ns.getD i 0 + 7919 * ((0 : Int) + (i : Int))) * 48271 % 1000003], by rw [List.length_append, hms]; rfl, ?_⟩
    rw [upd_same, List.map_append]; rfl
  · have ei : i = ns.length := by omega
    subst ei
    exact .inl ⟨Nat.le_refl _, k D ms H2 s2 hms hD2⟩
theorem sc_law_at : FnScope ["_law_script", "_law_k"] ["_law_script", "_law_k"] (defScope s_law_at) := ⟨rfl, rfl, rfl, by decide +kernel, rfl, by decide +kernel, by decide +kernel⟩
theorem ok_at (O : Own K mg "_law_at" s_law_at) (B : Bare mg) : Has P w K mg base 1 "_law_at" ["_law_script", "_law_k"] (spAt K) := by
  refine O.has sc_law_at (fun _ _ _ _ _ _ => by2 fun _ _ => rfl) (fun vs H Q E h => ?_) (fun f cdv A outer s H vs Q E hr h => ?_)
  · obtain ⟨p, ns, kk, rfl, _⟩ := h; rfl
  obtain ⟨p, ns, kk, rfl, hp, h0, k⟩ := h
  refine ⟨_, (pss_cons (ps_if (pt_cmpR op_lt (pv 1) (pe_callB call_len_seq rfl B.len PySem.boot_len (pa_cons (pv 0) pa_nil)) (nomark _))
      (pss_one (ps_ret (pe_ix ix_list (pv 0) (pv 1) (fun _ _ => rfl))))
      pss_nil)
    (pss_one (ps_ret pe_int))), ?_⟩
  have hlen : (ns.map V.int).length = ns.length := List.length_map _
  refine ⟨_, rfl, _, rfl, p, _, rfl, .inl hp, _, _, rfl, rfl, _, rfl, ?_⟩
  refine ite2 (fun c => ?_) (fun c => ?_)
  · have c' : kk < (((ns.map V.int).length : Nat) : Int) := of_decide_eq_true c
    have hk : kk.toNat < ns.length := by omega
    refine ⟨_, rfl, _, rfl, p, _, _, .int (ns.getD kk.toNat 0), rfl, rfl, hp, atI_some h0 ?_, k⟩
    rw [List.getElem?_map, List.getElem?_eq_getElem hk]
    simp [List.getD, hk]
  · have c' : ¬ kk < (((ns.map V.int).length : Nat) : Int) := fun q => c (decide_eq_true q)
    have e : ns.getD kk.toNat 0 = 0 := by
      have : ns.length ≤ kk.toNat := by omega
      simp [List.getD, this]
    rw [e] at k
    exact k
end
section
variable {P : Program} {w : World} {K : PySem.W.Frag} {mg : Str → Option Value} {base : Heap}
theorem sc_law_pairs_are : FnScope ["_law_found", "_law_due", "_law_k"] ["_law_found", "_law_due"] (defScope s_law_pairs_are) := ⟨rfl, rfl, rfl, by decide +kernel, rfl, by decide +kernel, by decide +kernel⟩
theorem ok_pairsare (O : Own K mg "_law_pairs_are" s_law_pairs_are) (B : Bare mg) (g_law_whole : Has P w K mg base 1 "_law_whole" ["_law_found"] spWhole) : Has P w K mg base 2 "_law_pairs_are" ["_law_found", "_law_due"] spPairsAre := by
  refine O.has sc_law_pairs_are (fun _ _ _ _ _ _ => by2 fun _ _ => rfl) (fun vs H Q E h => ?_) (fun f cdv A outer s H vs Q E hr h => ?_)
  · obtain ⟨a, b, ws, ws', ps, qs, rfl, _⟩ := h; rfl
  obtain ⟨a, b, ws, ws', ps, qs, rfl, ha, hb, hps, hqs, h1, h2, k⟩ := h
  have lw := paired_len hps
  have lw' := paired_len hqs
  refine ⟨_, (pss_cons (ps_if (pt_or (pt_not (pt_truth (pe_callB call_isi rfl B.isi boot_isi (pa_cons (pv 0) (pa_cons (pe_bltn (v := .ty "list") rfl B.list boot_list' rfl) pa_nil))) (fun _ => rfl))) (pw_or1 (pt_cmpR op_ne (pe_callB call_len_seq rfl B.len PySem.boot_len (pa_cons (pv 0) pa_nil)) (pe_callB call_len_seq rfl B.len PySem.boot_len (pa_cons (pv 1) pa_nil)) (nomark _))))
      (pss_one (ps_ret pe_bl))
      pss_nil)
    (pss_cons (ps_for PassesOwn.never rfl (pi_range1 rfl B.range (pa_cons (pe_callB call_len_seq rfl B.len PySem.boot_len (pa_cons (pv 1) pa_nil)) pa_nil)) (pg_name (i := 2) sc_law_pairs_are.nd rfl (Or.inl rfl))
      (pss_cons (ps_if (pt_or (pt_not (pt_truth (pe_callB call_isi rfl B.isi boot_isi (pa_cons (pe_ix ix_list (pv 0) (pv 2) (fun _ _ => rfl)) (pa_cons (pe_bltn (v := .ty "tuple") rfl B.tuple boot_tuple' rfl) pa_nil))) (fun _ => rfl))) (pw_or1 (pt_cmpR op_ne (pe_callB call_len_seq rfl B.len PySem.boot_len (pa_cons (pe_ix ix_list (pv 0) (pv 2) (fun _ _ => rfl)) pa_nil)) pe_int (nomark _))))
          (pss_one (ps_ret pe_bl))
          pss_nil)
        (pss_cons (ps_if (pt_or (pt_not (pt_truth (pe_fn g_law_whole hr (pa_cons (pe_ix ix_tup (pe_ix ix_list (pv 0) (pv 2) (fun _ _ => rfl)) pe_int (fun _ _ => rfl)) pa_nil)) (fun _ => rfl))) (pw_or1 (pt_not (pt_truth (pe_fn g_law_whole hr (pa_cons (pe_ix ix_tup (pe_ix ix_list (pv 0) (pv 2) (fun _ _ => rfl)) pe_int (fun _ _ => rfl)) pa_nil)) (fun _ => rfl)))))
          (pss_one (ps_ret pe_bl))
          pss_nil)
        (pss_one (ps_if (pt_cmpR (op_nePair (hu110 hr)) (pe_ix ix_list (pv 0) (pv 2) (fun _ _ => rfl)) (pe_ix ix_list (pv 1) (pv 2) (fun _ _ => rfl)) (nomark _))
          (pss_one (ps_ret pe_bl))
          pss_nil)))))
    (pss_one (ps_ret pe_bl)))), ?_⟩
  refine ⟨_, rfl, _, _, _, _, rfl, TyOf.lst ha, kit_ll K, _, rfl, iteF ?_⟩
  refine ⟨_, rfl, a, _, rfl, .inl (SqL.of ha), _, rfl, b, _, rfl, .inl (SqL.of hb), rfl, _, rfl, ?_⟩
  refine ite2 (fun c => ?_) (fun c => ?_)
  · have hne : ¬ ps = qs := fun e => by
      rw [e] at lw
      have : ws.length = ws'.length := by omega
      rw [this] at c
      simp at c
    rw [decide_eq_false hne] at k
    exact k
  · have he : ps.length = qs.length := by
      have c' : (!decide (V.int (ws.length : Int) = V.int (ws'.length : Int))) = false := by simpa using c
      have c2 : V.int (ws.length : Int) = V.int (ws'.length : Int) := by simpa using c'
      injection c2 with c3
      omega
    refine ⟨_, rfl, b, _, rfl, .inl (SqL.of hb), _, rfl, by omega, by omega, ?_⟩
    have en : ((ws'.length : Nat) : Int).toNat = qs.length := by omega
    rw [en]
    refine for_range (n := qs.length) (fun i σ H2 => ∃ kk, σ = [some (.ref a), some (.ref b), kk] ∧ H2 = H ∧ ps.take i = qs.take i) ⟨none, rfl, rfl, rfl⟩ ?_ ?_
    · rintro i σ H2 hi ⟨kk, rfl, rfl, ht⟩
      have e0 : ((0 : Int) + (i : Int)).toNat = i := by omega
      obtain ⟨x, ex, fx⟩ := paired_get' hps (i := i) (y := ps[i]'(by omega)) (List.getElem?_eq_getElem _)
      obtain ⟨y, ey, fy⟩ := paired_get' hqs (i := i) (y := qs[i]) (List.getElem?_eq_getElem _)
      have ax : atI ws ((0 : Int) + (i : Int)) = some x := atI_some (by omega) (by rw [e0]; exact ex)
      have ay : atI ws' ((0 : Int) + (i : Int)) = some y := atI_some (by omega) (by rw [e0]; exact ey)
      have fx' := fx
      obtain ⟨q, rfl, hq⟩ := fx
      refine ⟨_, rfl, _, rfl, a, _, _, _, rfl, rfl, SqL.of ha, ax, _, _, _, _, rfl, TyOf.tup hq, kit_tt K, _, rfl, iteF ?_⟩
      refine ⟨_, rfl, _, rfl, a, _, _, _, rfl, rfl, SqL.of ha, ax, q, _, rfl, .inr (SqT.of hq), rfl, _, rfl, iteF ?_⟩
      refine ⟨_, rfl, _, rfl, a, _, _, _, rfl, rfl, SqL.of ha, ax, q, _, _, _, rfl, rfl, SqT.of hq, rfl, _, rfl, _, rfl, iteF ?_⟩
      refine ⟨_, rfl, _, rfl, a, _, _, _, rfl, rfl, SqL.of ha, ax, q, _, _, _, rfl, rfl, SqT.of hq, rfl, _, rfl, _, rfl, iteF ?_⟩
      refine ⟨_, rfl, _, rfl, a, _, _, _, rfl, rfl, SqL.of ha, ax, _, rfl, _, rfl, b, _, _, _, rfl, rfl, SqL.of hb, ay, _, _, fx', fy, _, rfl, ?_⟩
      refine ite2 (fun c => ?_) (fun c => ?_)
      · have c' : ¬ ps[i]'(by omega) = qs[i] := by simpa using c
        have hne : ¬ ps = qs := fun e => c' (by simp only [e])
        rw [decide_eq_false hne] at k
        exact k
      · have c' : ps[i]'(by omega) = qs[i] := by simpa using c
        refine ⟨_, rfl, rfl, ?_⟩
        rw [List.take_succ_eq_append_getElem (by omega), List.take_succ_eq_append_getElem hi, ht, c']
    · rintro σ H2 ⟨kk, rfl, rfl, ht⟩
      have e : ps = qs := by
        rw [List.take_of_length_le (by omega), List.take_of_length_le (Nat.le_refl _)] at ht
        exact ht
      rw [decide_eq_true e] at k
      exact k
end
section
variable {P : Program} {w : World} {K : PySem.W.Frag} {mg : Str → Option Value} {base : Heap}
theorem sc_law_told_so : FnScope ["_law_found", "_law_due"] ["_law_found", "_law_due"] (defScope s_law_told_so) := ⟨rfl, rfl, rfl, by decide +kernel, rfl, by decide +kernel, by decide +kernel⟩
theorem ok_told (O : Own K mg "_law_told_so" s_law_told_so) (B : Bare mg) (g_law_whole : Has P w K mg base 1 "_law_whole" ["_law_found"] spWhole) (g_law_pairs_are : Has P w K mg base 2 "_law_pairs_are" ["_law_found", "_law_due"] spPairsAre) : Has P w K mg base 3 "_law_told_so" ["_law_found", "_law_due"] spTold := by
  refine O.has sc_law_told_so (fun _ _ _ _ _ _ => by2 fun _ _ => rfl) (fun vs H Q E h => ?_) (fun f cdv A outer s H vs Q E hr h => ?_)
  · obtain ⟨v, v', an, rfl, _⟩ := h; rfl
  obtain ⟨v, v', an, rfl, hv, hv', k⟩ := h
  refine ⟨_, (pss_cons (ps_if (pt_cmpR op_isN (pv 1) pe_non (nomark _))
      (pss_one (ps_ret (pe_cmpR op_isN (pv 0) pe_non (nomark _))))
      pss_nil)
    (pss_cons (ps_if (pt_truth (pe_callB call_isi rfl B.isi boot_isi (pa_cons (pv 1) (pa_cons (pe_bltn (v := .ty "bool") rfl B.bool boot_bool' rfl) pa_nil))) (fun _ => rfl))
      (pss_one (ps_ret (pe_and (pe_callB call_isi rfl B.isi boot_isi (pa_cons (pv 0) (pa_cons (pe_bltn (v := .ty "bool") rfl B.bool boot_bool' rfl) pa_nil))) (pe_one (pe_cmpR op_eq (pv 0) (pv 1) (nomark _))))))
      pss_nil)
    (pss_cons (ps_if (pt_truth (pe_callB call_isi rfl B.isi boot_isi (pa_cons (pv 1) (pa_cons (pe_bltn (v := .ty "str") rfl B.str boot_str' rfl) pa_nil))) (fun _ => rfl))
      (pss_one (ps_ret (pe_and (pe_callB call_isi rfl B.isi boot_isi (pa_cons (pv 0) (pa_cons (pe_bltn (v := .ty "str") rfl B.str boot_str' rfl) pa_nil))) (pe_one (pe_cmpR op_eq (pv 0) (pv 1) (nomark _))))))
      pss_nil)
    (pss_cons (ps_if (pt_truth (pe_callB call_isi rfl B.isi boot_isi (pa_cons (pv 1) (pa_cons (pe_bltn (v := .ty "tuple") rfl B.tuple boot_tuple' rfl) pa_nil))) (fun _ => rfl))
      (pss_one (ps_ret (pe_fn g_law_pairs_are hr (pa_cons (pe_lst (pa_cons (pv 0) pa_nil)) (pa_cons (pe_lst (pa_cons (pv 1) pa_nil)) pa_nil)))))
      pss_nil)
    (pss_one (ps_ret (pe_and (pe_fn g_law_whole hr (pa_cons (pv 0) pa_nil)) (pe_one (pe_cmpR op_eq (pv 0) (pv 1) (nomark _)))))))))), ?_⟩
  cases an with
  | non =>
    cases (show v = V.non from hv)
    cases (show v' = V.non from hv')
    refine ⟨_, rfl, rfl, _, rfl, iteT ?_⟩
    exact ⟨_, rfl, rfl, k _ (.refl _)⟩
  | int i =>
    cases (show v = V.int i from hv)
    cases (show v' = V.int i from hv')
    refine ⟨_, rfl, rfl, _, rfl, iteF ?_⟩
    refine ⟨_, rfl, _, _, _, _, rfl, TyOf.int i, kit_ib K, _, rfl, iteF ?_⟩
    refine ⟨_, rfl, _, _, _, _, rfl, TyOf.int i, kit_is K, _, rfl, iteF ?_⟩
    refine ⟨_, rfl, _, _, _, _, rfl, TyOf.int i, kit_it K, _, rfl, iteF ?_⟩
    refine ⟨_, rfl, i, rfl, _, rfl, iteT ?_⟩
    refine ⟨_, rfl, _, rfl, rfl, ?_⟩
    rw [decide_eq_true rfl]
    exact k _ (.refl _)
  | pair q =>
    obtain ⟨p1, rfl, h1⟩ := hv
    obtain ⟨p2, rfl, h2⟩ := hv'
    refine ⟨_, rfl, rfl, _, rfl, iteF ?_⟩
    refine ⟨_, rfl, _, _, _, _, rfl, TyOf.tup h2, kit_tb K, _, rfl, iteF ?_⟩
    refine ⟨_, rfl, _, _, _, _, rfl, TyOf.tup h2, kit_ts K, _, rfl, iteF ?_⟩
    refine ⟨_, rfl, _, _, _, _, rfl, TyOf.tup h2, kit_tt K, _, rfl, iteT ?_⟩
    refine ⟨_, rfl, (by show 1 ≤ sizeLine; decide), fun l1 hl1 => ⟨_, rfl, (by show 1 ≤ sizeLine; decide), fun l2 hl2 => ?_⟩⟩
    have s1 := same_new hl1 (.lst [.ref p1])
    have s2 := same_new hl2 (.lst [.ref p2])
    refine ⟨l1, l2, _, _, [q], [q], rfl, s2 _ _ upd_same, upd_same, .cons ⟨p1, rfl, s2 _ _ (s1 _ _ h1)⟩ .nil, .cons ⟨p2, rfl, s2 _ _ (s1 _ _ h2)⟩ .nil, by show 1 ≤ 100; decide, by show 1 ≤ 100; decide, ?_⟩
    rw [decide_eq_true rfl]
    exact k _ (s1.trans s2)
  | bl b =>
    cases (show v = V.bl b from hv)
    cases (show v' = V.bl b from hv')
    refine ⟨_, rfl, rfl, _, rfl, iteF ?_⟩
    refine ⟨_, rfl, _, _, _, _, rfl, TyOf.bl b, kit_bb K, _, rfl, iteT ?_⟩
    refine ⟨_, rfl, _, _, _, _, rfl, TyOf.bl b, kit_bb K, _, rfl, iteT ?_⟩
    refine ⟨_, rfl, _, rfl, rfl, ?_⟩
    rw [decide_eq_true rfl]
    exact k _ (.refl _)
  | wd x =>
    cases (show v = V.str (wdS x) from hv)
    cases (show v' = V.str (wdS x) from hv')
    refine ⟨_, rfl, rfl, _, rfl, iteF ?_⟩
    refine ⟨_, rfl, _, _, _, _, rfl, TyOf.str _, kit_sb K, _, rfl, iteF ?_⟩
    refine ⟨_, rfl, _, _, _, _, rfl, TyOf.str _, kit_ss K, _, rfl, iteT ?_⟩
    refine ⟨_, rfl, _, _, _, _, rfl, TyOf.str _, kit_ss K, _, rfl, iteT ?_⟩
    refine ⟨_, rfl, _, rfl, rfl, ?_⟩
    rw [decide_eq_true rfl]
    exact k _ (.refl _)
end
section
variable {P : Program} {w : World} {K : PySem.W.Frag} {mg : Str → Option Value} {base : Heap}
theorem sc_law_deeds : FnScope ["_law_cells", "_law_made", "_law_count", "_law_k", "_law_turn", "_law_seed", "_law_group", "_law_other", "_law_rank", "_law_far"] ["_law_cells"] (defScope s_law_deeds) := ⟨rfl, rfl, rfl, by decide +kernel, rfl, by decide +kernel, by decide +kernel⟩
set_option maxHeartbeats 2000000 in
theorem ok_deeds (O : Own K mg "_law_deeds" s_law_deeds) (B : Bare mg) : Has P w K mg base 1 "_law_deeds" ["_law_cells"] (spDeeds K) := by
  refine O.has sc_law_deeds (fun _ _ _ _ _ _ => by1 fun _ => rfl) (fun vs H Q E h => ?_) (fun f cdv A outer s H vs Q E hr h => ?_)
  · obtain ⟨p, ns, rfl, _⟩ := h; rfl
  obtain ⟨a, ns, rfl, ha, h63, k⟩ := h
  refine ⟨_, (pss_cons (ps_set (i := 1) sc_law_deeds.nd rfl (Or.inl rfl) (pe_lst pa_nil))
    (pss_cons (ps_set (i := 2) sc_law_deeds.nd rfl (Or.inl rfl) pe_int)
    (pss_cons (ps_for PassesOwn.never rfl (pi_range1 rfl B.range (pa_cons (pe_callB call_len_seq rfl B.len PySem.boot_len (pa_cons (pv 0) pa_nil)) pa_nil)) (pg_name (i := 3) sc_law_deeds.nd rfl (Or.inl rfl))
      (pss_cons (ps_set (i := 4) sc_law_deeds.nd rfl (Or.inl rfl) (pe_op op_mod (pe_op op_add (pe_ix ix_list (pv 0) (pv 3) (fun _ _ => rfl)) (pe_op op_mul pe_int (pv 3))) pe_int))
        (pss_cons (ps_set (i := 5) sc_law_deeds.nd rfl (Or.inl rfl) (pe_op op_add (pe_op op_fdiv (pe_ix ix_list (pv 0) (pv 3) (fun _ _ => rfl)) pe_int) (pe_op op_mul pe_int (pv 3))))
        (pss_cons (ps_set (i := 6) sc_law_deeds.nd rfl (Or.inl rfl) (pe_op op_mod (pv 5) (pe_op op_add (pv 2) pe_int)))
        (pss_cons (ps_set (i := 7) sc_law_deeds.nd rfl (Or.inl rfl) (pe_op op_mod (pe_op op_add (pe_op op_fdiv (pv 5) pe_int) (pv 3)) (pe_op op_add (pv 2) pe_int)))
        (pss_cons (ps_if (pt_cmpR op_eq (pe_op op_mod (pv 5) pe_int) pe_int (nomark _))
          (pss_one (ps_set (i := 6) sc_law_deeds.nd rfl (Or.inl rfl) (pe_ix ix_list (pe_lst (pa_cons (pe_un un_neg pe_int) (pa_cons (pe_op op_pow pe_int pe_int) pa_nil))) (pe_op op_mod (pv 3) pe_int) (fun _ _ => rfl))))
          pss_nil)
        (pss_cons (ps_set (i := 8) sc_law_deeds.nd rfl (Or.inl rfl) (pe_op op_sub (pe_op op_mod (pe_op op_add (pe_op op_fdiv (pe_ix ix_list (pv 0) (pv 3) (fun _ _ => rfl)) pe_int) (pv 3)) pe_int) pe_int))
        (pss_cons (ps_if (pt_cmpR op_in_seq (pe_op op_mod (pv 5) pe_int) (pe_lst (pa_cons pe_int (pa_cons pe_int (pa_cons pe_int pa_nil)))) (by with_unfolding_all rfl))
          (pss_cons (ps_set (i := 9) sc_law_deeds.nd rfl (Or.inl rfl) (pe_op op_sub (pe_op op_mod (pe_op op_mul (pe_ix ix_list (pv 0) (pv 3) (fun _ _ => rfl)) pe_int) (pe_op op_pow pe_int pe_int)) (pe_op op_mul pe_int (pe_op op_pow pe_int pe_int))))
            (pss_one (ps_set (i := 8) sc_law_deeds.nd rfl (Or.inl rfl) (pe_ix ix_list (pe_lst (pa_cons (pe_op op_pow pe_int pe_int) (pa_cons (pe_op op_sub (pe_un un_neg (pe_op op_pow pe_int pe_int)) (pv 3)) (pa_cons (pv 9) pa_nil)))) (pe_op op_sub (pe_op op_mod (pv 5) pe_int) pe_int) (fun _ _ => rfl)))))
          pss_nil)
        (pss_one (ps_if (pt_or (pt_and (pt_cmpR op_lt (pv 4) pe_int (nomark _)) (pw_and1 (pt_cmpR op_lt (pv 2) (pe_ix ix_list (pe_lst (pa_cons pe_int (pa_cons pe_int pa_nil))) (pe_callTy call_int1 rfl B.int boot_int' (pa_cons (pe_cmpR op_gt (pe_callB call_len_seq rfl B.len PySem.boot_len (pa_cons (pv 0) pa_nil)) pe_int (nomark _)) pa_nil)) (fun _ _ => rfl)) (nomark _)))) (pw_or1 (pt_cmpR op_eq (pv 2) pe_int (nomark _))))
          (pss_cons (ps_expr (pe_bm PySem.F.plainAttrs_list PySem.F.slot_list_append PySem.F.type_list_append mt_append (pv 1) (pa_cons (pe_tup (pa_cons pe_str pa_nil)) pa_nil)))
            (pss_one (ps_set (i := 2) sc_law_deeds.nd rfl (Or.inl rfl) (pe_op op_add (pv 2) pe_int))))
          (pss_one (ps_if (pt_cmpR op_lt (pv 4) pe_int (nomark _))
              (pss_one (ps_expr (pe_bm PySem.F.plainAttrs_list PySem.F.slot_list_append PySem.F.type_list_append mt_append (pv 1) (pa_cons (pe_tup (pa_cons pe_str (pa_cons (pv 6) (pa_cons (pv 8) pa_nil)))) pa_nil))))
              (pss_one (ps_if (pt_cmpR op_lt (pv 4) pe_int (nomark _))
                  (pss_one (ps_expr (pe_bm PySem.F.plainAttrs_list PySem.F.slot_list_append PySem.F.type_list_append mt_append (pv 1) (pa_cons (pe_tup (pa_cons pe_str (pa_cons (pv 6) pa_nil))) pa_nil))))
                  (pss_one (ps_if (pt_cmpR op_lt (pv 4) pe_int (nomark _))
                      (pss_one (ps_expr (pe_bm PySem.F.plainAttrs_list PySem.F.slot_list_append PySem.F.type_list_append mt_append (pv 1) (pa_cons (pe_tup (pa_cons pe_str (pa_cons (pv 6) (pa_cons (pv 7) pa_nil)))) pa_nil))))
                      (pss_one (ps_if (pt_cmpR op_lt (pv 4) pe_int (nomark _))
                          (pss_one (ps_expr (pe_bm PySem.F.plainAttrs_list PySem.F.slot_list_append PySem.F.type_list_append mt_append (pv 1) (pa_cons (pe_ix ix_list (pe_lst (pa_cons (pe_tup (pa_cons pe_str (pa_cons (pv 6) pa_nil))) (pa_cons (pe_tup (pa_cons pe_str (pa_cons (pv 7) (pa_cons (pv 6) pa_nil)))) pa_nil))) (pe_op op_mod (pv 5) pe_int) (fun _ _ => rfl)) pa_nil))))
                          (pss_one (ps_expr (pe_bm PySem.F.plainAttrs_list PySem.F.slot_list_append PySem.F.type_list_append mt_append (pv 1) (pa_cons (pe_tup (pa_cons pe_str pa_nil)) pa_nil))))))))))))))))))))))
    (pss_one (ps_ret (pv 1)))))), ?_⟩
  have hlen : (ns.map V.int).length = ns.length := List.length_map _
  have en : (((ns.map V.int).length : Nat) : Int).toNat = ns.length := by omega
  refine ⟨(by show 0 ≤ sizeLine; decide), fun L hL => ?_⟩
  refine ⟨_, rfl, a, _, rfl, .inl ((same_new hL _).seq ha), _, rfl, by omega, by omega, ?_⟩
  rw [en]
  refine for_range (n := ns.length) (fun i σ H2 => ∃ (c : Nat) (k3 k4 k5 k6 k7 k8 k9 : Option V) (ws : List V) (ds : List Deed), σ = [some (.ref a), some (.ref L), some (.int c), k3, k4, k5, k6, k7, k8, k9] ∧ Same H H2 ∧ H2 L = some (.lst ws) ∧ DeedsAt H2 ws ds ∧ ds.length = i)
    ⟨0, none, none, none, none, none, none, none, [], [], rfl, same_new hL _, upd_same, .nil, rfl⟩ ?_ ?_
  · rintro i σ H2 hi ⟨c, k3, k4, k5, k6, k7, k8, k9, ws, ds, rfl, s2, hL2, hds, hl⟩
    have lw := paired_len hds
    have hsq : ∀ {H' : Hp}, Same H H' → SqL K H' a (ns.map V.int) := fun s' => s'.seq ha
    have hcell : atI (ns.map V.int) ((0 : Int) + (i : Int)) = some (.int (ns.getD i 0)) := ints_get hi
    generalize ns.getD i 0 = x at *
    refine ⟨_, rfl, _, rfl, a, _, _, _, rfl, rfl, hsq s2, hcell, _, rfl, _, _, rfl, rfl, .inl ⟨by decide, by decide⟩, _, _, rfl, rfl, _, _, rfl, rfl, (by show (0 : Int) < 16; decide), ?_⟩
    refine ⟨_, rfl, _, rfl, a, _, _, _, rfl, rfl, hsq s2, hcell, _, _, rfl, rfl, (by show (0 : Int) < 16 ∧ (16 : Int) < 1073741824; decide), _, rfl, _, _, rfl, rfl, .inl ⟨by decide, by decide⟩, _, _, rfl, rfl, ?_⟩
    refine ⟨_, rfl, _, rfl, _, _, rfl, rfl, _, _, rfl, rfl, (by show (0 : Int) < (c : Int) + 1; omega), ?_⟩
    refine ⟨_, rfl, _, _, rfl, rfl, (by show (0 : Int) < 3 ∧ (3 : Int) < 1073741824; decide), _, rfl, _, _, rfl, rfl, _, rfl, _, _, rfl, rfl, _, _, rfl, rfl, (by show (0 : Int) < (c : Int) + 1; omega), ?_⟩
    dsimp only [gName, tSeq]
    refine tIfS_cut (fun σ' H' => ∃ t sd g o : Int, σ' = [some (.ref a), some (.ref L), some (.int c), some (.int ((0 : Int) + (i : Int))), some (.int t), some (.int sd), some (.int g), some (.int o), k8, k9] ∧ Same H H' ∧ H' L = some (.lst ws) ∧ DeedsAt H' ws ds) ?tail1 fun tail => ?_
    case tail1 =>
      rintro σ' H3 ⟨t, sd, g, o, rfl, s3, hL3, hds3⟩
      refine ⟨_, rfl, _, rfl, a, _, _, _, rfl, rfl, hsq s3, hcell, _, _, rfl, rfl, (by show (0 : Int) < 3 ∧ (3 : Int) < 1073741824; decide), _, rfl, _, _, rfl, rfl, _, _, rfl, rfl, (by show (0 : Int) < 7; decide), _, _, rfl, rfl, ?_⟩
      dsimp only [gName, tSeq]
      refine tIfS_cut (fun σ' H' => ∃ (r : Int) (k9 : Option V), σ' = [some (.ref a), some (.ref L), some (.int c), some (.int ((0 : Int) + (i : Int))), some (.int t), some (.int sd), some (.int g), some (.int o), some (.int r), k9] ∧ Same H H' ∧ H' L = some (.lst ws) ∧ DeedsAt H' ws ds) ?tail2 fun tail => ?_
      case tail2 =>
        rintro σ' H4 ⟨r, k9', rfl, s4, hL4, hds4⟩
        have close : ∀ {c' : Nat} {σ0 : L2.St} {H5 : Hp} {v : V} {d : Deed}, σ0 = [some (.ref a), some (.ref L), some (.int c'), some (.int ((0 : Int) + (i : Int))), some (.int t), some (.int sd), some (.int g), some (.int o), some (.int r), k9'] → Same H H5 → H5 L = some (.lst ws) → DeedsAt H5 ws ds → DeedAt H5 v d →
            ∃ (c : Nat) (k3 k4 k5 k6 k7 k8 k9 : Option V) (ws' : List V) (ds' : List Deed), σ0 = [some (.ref a), some (.ref L), some (.int c), k3, k4, k5, k6, k7, k8, k9] ∧ Same H (upd H5 L (.lst (ws ++ [v]))) ∧ (upd H5 L (.lst (ws ++ [v]))) L = some (.lst ws') ∧ DeedsAt (upd H5 L (.lst (ws ++ [v]))) ws' ds' ∧ ds'.length = i + 1 := by
          intro c' σ0 H5 v d e0 s5 hL5 hds5 hd
          exact ⟨c', _, _, _, _, _, _, _, ws ++ [v], ds ++ [d], e0, same_put hL s5 _, upd_same, paired_app (DeedsAt.mono (.put hL5) hds5) (.cons (hd.mono (.put hL5)) .nil), by rw [List.length_append, hl]; rfl⟩
        dsimp only
        refine tIfS_cut2 (fun H' => Same H H' ∧ H' L = some (.lst ws) ∧ DeedsAt H' ws ds) ?ya ?yb fun both => ?_
        case ya =>
          rintro H5 ⟨s5, hL5, hds5⟩
          refine ⟨_, rfl, .inl ⟨rfl, _, SqL.of hL5⟩, (by show 1 ≤ sizeLine; decide), fun q hq => ?_⟩
          have sq := same_new hq (.tup [.str "open"])
          refine ⟨L, _, _, rfl, rfl, sq _ _ hL5, szl (by omega), ?_⟩
          refine ⟨_, rfl, _, _, rfl, rfl, ?_⟩
          exact close (c' := c + 1) (d := .opn) rfl (s5.trans sq) (sq _ _ hL5) (hds5.mono (.of sq)) ⟨q, rfl, upd_same⟩
        case yb =>
          rintro H5 ⟨s5, hL5, hds5⟩
          refine ⟨_, rfl, _, _, rfl, rfl, _, rfl, ?_⟩
          refine ite2 (fun _ => ?_) (fun _ => ?_)
          · refine ⟨_, rfl, .inl ⟨rfl, _, SqL.of hL5⟩, _, rfl, _, rfl, (by show 3 ≤ sizeLine; decide), fun q hq => ?_⟩
            have sq := same_new hq (.tup [.str "put", .int g, .int r])
            refine ⟨L, _, _, rfl, rfl, sq _ _ hL5, szl (by omega), ?_⟩
            exact close (d := .put g r) rfl (s5.trans sq) (sq _ _ hL5) (hds5.mono (.of sq)) ⟨q, rfl, upd_same⟩
          refine ⟨_, rfl, _, _, rfl, rfl, _, rfl, ?_⟩
          refine ite2 (fun _ => ?_) (fun _ => ?_)
          · refine ⟨_, rfl, .inl ⟨rfl, _, SqL.of hL5⟩, _, rfl, (by show 2 ≤ sizeLine; decide), fun q hq => ?_⟩
            have sq := same_new hq (.tup [.str "take", .int g])
            refine ⟨L, _, _, rfl, rfl, sq _ _ hL5, szl (by omega), ?_⟩
            exact close (d := .take g) rfl (s5.trans sq) (sq _ _ hL5) (hds5.mono (.of sq)) ⟨q, rfl, upd_same⟩
          refine ⟨_, rfl, _, _, rfl, rfl, _, rfl, ?_⟩
          refine ite2 (fun _ => ?_) (fun _ => ?_)
          · refine ⟨_, rfl, .inl ⟨rfl, _, SqL.of hL5⟩, _, rfl, _, rfl, (by show 3 ≤ sizeLine; decide), fun q hq => ?_⟩
            have sq := same_new hq (.tup [.str "join", .int g, .int o])
            refine ⟨L, _, _, rfl, rfl, sq _ _ hL5, szl (by omega), ?_⟩
            exact close (d := .join g o) rfl (s5.trans sq) (sq _ _ hL5) (hds5.mono (.of sq)) ⟨q, rfl, upd_same⟩
          refine ⟨_, rfl, _, _, rfl, rfl, _, rfl, ?_⟩
          refine ite2 (fun _ => ?_) (fun _ => ?_)
          · refine ⟨_, rfl, .inl ⟨rfl, _, SqL.of hL5⟩, _, rfl, (by show 2 ≤ sizeLine; decide), fun q1 hq1 => ⟨_, rfl, _, rfl, (by show 3 ≤ sizeLine; decide), fun q2 hq2 => ⟨(by show 2 ≤ sizeLine; decide), fun q3 hq3 => ?_⟩⟩⟩
            have s12 := (same_new hq1 (.tup [.str "least", .int g])).trans ((same_new hq2 (.tup [.str "same", .int o, .int g])).trans (same_new hq3 (.lst [.ref q1, .ref q2])))
            refine ⟨_, rfl, _, _, rfl, rfl, (by show (0 : Int) < 2; decide), ?_⟩
            have h2 : sd % 2 = 0 ∨ sd % 2 = 1 := by omega
            have hx : ∃ v d, atI ([.ref q1, .ref q2] : List V) (sd % 2) = some v ∧ DeedAt (upd (upd (upd H5 q1 (.tup [.str "least", .int g])) q2 (.tup [.str "same", .int o, .int g])) q3 (.lst [.ref q1, .ref q2])) v d := by
              rcases h2 with e | e <;> rw [e]
              · exact ⟨_, .least g, rfl, q1, rfl, same_new hq3 _ _ _ (same_new hq2 _ _ _ upd_same)⟩
              · exact ⟨_, .same o g, rfl, q2, rfl, same_new hq3 _ _ _ upd_same⟩
            obtain ⟨v, d, hv, hd⟩ := hx
            refine ⟨q3, _, _, _, rfl, rfl, SqL.of upd_same, hv, ?_⟩
            refine ⟨L, _, _, rfl, rfl, s12 _ _ hL5, szl (by omega), ?_⟩
            exact close rfl (s5.trans s12) (s12 _ _ hL5) (hds5.mono (.of s12)) hd
          · refine ⟨_, rfl, .inl ⟨rfl, _, SqL.of hL5⟩, (by show 1 ≤ sizeLine; decide), fun q hq => ?_⟩
            have sq := same_new hq (.tup [.str "undo"])
            refine ⟨L, _, _, rfl, rfl, sq _ _ hL5, szl (by omega), ?_⟩
            exact close (d := .undo) rfl (s5.trans sq) (sq _ _ hL5) (hds5.mono (.of sq)) ⟨q, rfl, upd_same⟩
        refine ⟨_, rfl, _, _, rfl, rfl, _, rfl, ?_⟩
        refine ite2 (fun _ => ?_) (fun _ => ?_)
        · refine ⟨_, rfl, (by show 2 ≤ sizeLine; decide), fun q hq => ?_⟩
          have sq := same_new hq (.lst [.int 12, .int 60])
          obtain ⟨m, hm⟩ := at2 (x := 12) (y := 60) (c := if decide ((63 : Int) < (((ns.map V.int).length : Nat) : Int)) = true then 1 else 0) (by split <;> simp)
          refine ⟨_, rfl, a, _, rfl, .inl (hsq (s4.trans sq)), _, _, rfl, rfl, .inr ⟨_, rfl, q, _, _, _, rfl, rfl, SqL.of upd_same, hm, _, _, rfl, rfl, _, rfl, ?_⟩⟩
          refine ite2 (fun _ => ?_) (fun _ => ?_)
          · exact both _ _ ⟨s4.trans sq, sq _ _ hL4, hds4.mono (.of sq)⟩
          · exact ⟨_, rfl, rfl, _, rfl, both _ _ ⟨s4.trans sq, sq _ _ hL4, hds4.mono (.of sq)⟩⟩
        · refine iteF ⟨_, rfl, rfl, _, rfl, both _ _ ⟨s4, hL4, hds4⟩⟩
      refine ⟨_, rfl, _, _, rfl, rfl, (by show (0 : Int) < 17; decide), (by show 3 ≤ sizeLine; decide), fun q hq => ?_⟩
      have sq := same_new hq (.lst [.int 5, .int 6, .int 7])
      refine ⟨q, _, rfl, .inl (SqL.of upd_same), rfl, rfl, _, rfl, ?_⟩
      have s4 := s3.trans sq
      have hL4 := sq _ _ hL3
      have hds4 := hds3.mono (.of sq)
      refine ite2 (fun cc => ?_) (fun _ => ?_)
      · have h3 : sd % 17 - 5 = 0 ∨ sd % 17 - 5 = 1 ∨ sd % 17 - 5 = 2 := by
          have cc' : inV (.int (sd % 17)) [.int 5, .int 6, .int 7] = true := cc
          simp [inV, eqV] at cc'
          omega
        generalize upd H3 q (.lst [.int 5, .int 6, .int 7]) = H4 at *
        refine ⟨_, rfl, _, rfl, a, _, _, _, rfl, rfl, hsq s4, hcell, _, _, rfl, rfl, .inr ⟨by decide, by decide⟩, _, _, rfl, rfl, (by show (0 : Int) ≤ 9 ∧ (9 : Int) ≤ 1000000 ∧ (10 : Int).natAbs < 2 ^ 64; decide), _, _, rfl, rfl, (by show (0 : Int) < 10 ^ (9 : Int).toNat; decide), _, _, rfl, rfl, (by show (0 : Int) ≤ 8 ∧ (8 : Int) ≤ 1000000 ∧ (10 : Int).natAbs < 2 ^ 64; decide), _, _, rfl, rfl, .inl ⟨by decide, by decide⟩, _, _, rfl, rfl, ?_⟩
        refine ⟨_, _, rfl, rfl, (by show (0 : Int) ≤ 30 ∧ (30 : Int) ≤ 1000000 ∧ (10 : Int).natAbs < 2 ^ 64; decide), _, _, rfl, rfl, (by show (0 : Int) ≤ 30 ∧ (30 : Int) ≤ 1000000 ∧ (10 : Int).natAbs < 2 ^ 64; decide), _, rfl, _, rfl, _, _, rfl, rfl, _, rfl, (by show 3 ≤ sizeLine; decide), fun q2 hq2 => ?_⟩
        refine ⟨_, rfl, _, _, rfl, rfl, (by show (0 : Int) < 17; decide), _, _, rfl, rfl, ?_⟩
        obtain ⟨rk, hrk⟩ := at3 (x := (10 : Int) ^ (30 : Int).toNat) (y := -((10 : Int) ^ (30 : Int).toNat) - ((0 : Int) + (i : Int))) (z := x * 48271 % (10 : Int) ^ (9 : Int).toNat - 5 * (10 : Int) ^ (8 : Int).toNat) h3
        refine ⟨q2, _, _, _, rfl, rfl, SqL.of upd_same, hrk, ?_⟩
        have sq2 := same_new hq2 (.lst [.int ((10 : Int) ^ (30 : Int).toNat), .int (-((10 : Int) ^ (30 : Int).toNat) - ((0 : Int) + (i : Int))), .int (x * 48271 % (10 : Int) ^ (9 : Int).toNat - 5 * (10 : Int) ^ (8 : Int).toNat)])
        exact tail _ _ ⟨_, _, rfl, s4.trans sq2, sq2 _ _ hL4, hds4.mono (.of sq2)⟩
      · exact tail _ _ ⟨_, _, rfl, s4, hL4, hds4⟩
    refine ⟨_, rfl, _, _, rfl, rfl, (by show (0 : Int) < 29; decide), rfl, _, rfl, ?_⟩
    refine ite2 (fun _ => ?_) (fun _ => ?_)
    · refine ⟨_, rfl, _, _, rfl, rfl, (by show (0 : Int) ≤ 30 ∧ (30 : Int) ≤ 1000000 ∧ (10 : Int).natAbs < 2 ^ 64; decide), (by show 2 ≤ sizeLine; decide), fun q hq => ?_⟩
      obtain ⟨g, hg⟩ := at2 (x := -1) (y := (10 : Int) ^ (30 : Int).toNat) (c := ((0 : Int) + (i : Int)) % 2) (by omega)
      refine ⟨_, rfl, _, _, rfl, rfl, (by show (0 : Int) < 2; decide), q, _, _, _, rfl, rfl, SqL.of upd_same, hg, ?_⟩
      have sq := same_new hq (.lst [.int (-1), .int ((10 : Int) ^ (30 : Int).toNat)])
      exact tail _ _ ⟨_, _, g, _, rfl, s2.trans sq, sq _ _ hL2, hds.mono (.of sq)⟩
    · exact tail _ _ ⟨_, _, _, _, rfl, s2, hL2, hds⟩
  · rintro σ H2 ⟨c, k3, k4, k5, k6, k7, k8, k9, ws, ds, rfl, s2, hL2, hds, hl⟩
    exact ⟨_, rfl, k L ws ds H2 s2 hl hL2 hds⟩
end
section
variable {P : Program} {w : World} {K : PySem.W.Frag} {mg : Str → Option Value} {base : Heap}
theorem sc_law_start : FnScope [] [] (defScope s_law_start) := ⟨rfl, rfl, rfl, by decide +kernel, rfl, by decide +kernel, by decide +kernel⟩
theorem ok_start (O : Own K mg "_law_start" s_law_start) : Has P w K mg base 1 "_law_start" [] spStart := by
  refine O.hasB sc_law_start (fun _ _ _ _ _ _ us e => by cases us with | nil => rfl | cons => cases e) (fun vs H Q E h => ?_) (fun f cdv A outer s H vs Q E hr h => ?_)
  · obtain ⟨rfl, _⟩ := h; rfl
  obtain ⟨rfl, k⟩ := h
  refine ⟨_, (pssB_one (ps_retB (pe_dispB (ppsB_cons pe_str (pe_lst pa_nil) (ppsB_cons pe_str pe_dnewK (ppsB_cons pe_str (pe_lst pa_nil) (ppsB_cons pe_str pe_int ppsB_nil)))) rfl rfl (by intro z; cases z) (by decide)))), ?_⟩
  refine fun dd hd => ⟨(by show 0 ≤ sizeLine; decide), fun aL hL => fun aB hB => ⟨(by show 0 ≤ sizeLine; decide), fun aP hP => ?_⟩⟩
  have s1 := same_new hd (.dK [])
  have s2 := same_new hL (.lst [])
  have s3 := same_new hB (.dK [])
  have s4 := same_new hP (.lst [])
  have n0 : H dd = none := hd
  have n1 : H aL = none := s1.free hL
  have n2 : H aB = none := (s1.trans s2).free hB
  have n3 : H aP = none := (s1.trans (s2.trans s3)).free hP
  have e0 := s4 _ _ (s3 _ _ (s2 _ _ (show (upd H dd (.dK [])) dd = some (.dK []) from upd_same)))
  have e1 := s4 _ _ (s3 _ _ (show (upd (upd H dd (.dK [])) aL (.lst [])) aL = some (.lst []) from upd_same))
  have e2 := s4 _ _ (show (upd (upd (upd H dd (.dK [])) aL (.lst [])) aB (.dK [])) aB = some (.dK []) from upd_same)
  have e3 : (upd (upd (upd (upd H dd (.dK [])) aL (.lst [])) aB (.dK [])) aP (.lst [])) aP = some (.lst []) := upd_same
  have d0 : dd ≠ aB := fun e => by rw [← e, s2 _ _ (show (upd H dd (.dK [])) dd = some (.dK []) from upd_same)] at hB; cases hB
  have d1 : aL ≠ aP := fun e => by rw [← e, s3 _ _ (show (upd (upd H dd (.dK [])) aL (.lst [])) aL = some (.lst []) from upd_same)] at hP; cases hP
  have sm : Same H (upd (upd (upd (upd H dd (.dK [])) aL (.lst [])) aB (.dK [])) aP (.lst [])) := s1.trans (s2.trans (s3.trans s4))
  generalize upd (upd (upd (upd H dd (.dK [])) aL (.lst [])) aB (.dK [])) aP (.lst []) = H4 at *
  refine ⟨e0, pK aL aB aP 0, rfl, (by show 4 ≤ 15; decide), ?_⟩
  rw [pK_new]
  have nLd : aL ≠ dd := fun e => by rw [e, e0] at e1; cases e1
  have nPd : aP ≠ dd := fun e => by rw [e, e0] at e3; cases e3
  have nPB : aP ≠ aB := fun e => by rw [e, e2] at e3; cases e3
  have nLB : aL ≠ aB := fun e => by rw [e, e2] at e1; cases e1
  refine k ⟨dd, aL, aB, aP, []⟩ _ ?_ rfl
  refine ⟨upd_same, ⟨by rw [upd_ne nLd]; exact e1, [], by rw [upd_ne d0.symm]; exact e2, .nil⟩, ?_, ⟨[], by rw [upd_ne nPd]; exact e3, .nil⟩, (fun s hs => by cases hs), ?_, fun b hb => ?_, fun b o e => ?_⟩
  · show aL ∉ [dd, aP, aB]
    simp only [List.mem_cons, List.not_mem_nil, or_false, not_or]
    exact ⟨nLd, d1, nLB⟩
  · show [dd, aP, aB].Nodup
    simp only [List.nodup_cons, List.mem_cons, List.not_mem_nil, or_false, not_or, not_false_iff, List.nodup_nil, and_true]
    exact ⟨⟨nPd.symm, d0⟩, nPB⟩
  · have hb' : b ∈ [dd, aP, aB] := hb
    simp only [List.mem_cons, List.not_mem_nil, or_false] at hb'
    rcases hb' with e | e | e <;> rw [e] <;> assumption
  · rw [upd_ne (ne_of_none e n0)]; exact sm b o e
theorem sc_law_change : FnScope ["_law_hall", "_law_word", "_law_bags", "_law_label"] ["_law_hall", "_law_word"] (defScope s_law_change) := ⟨rfl, rfl, rfl, by decide +kernel, rfl, by decide +kernel, by decide +kernel⟩
theorem ok_change (O : Own K mg "_law_change" s_law_change) (B : Bare mg) : Has P w K mg base 1 "_law_change" ["_law_hall", "_law_word"] spChange := by
  refine O.has sc_law_change (fun _ _ _ _ _ _ => by2 fun _ _ => rfl) (fun vs H Q E h => ?_) (fun f cdv A outer s H vs Q E hr h => ?_)
  · obtain ⟨H0, a, n, p, wd, rfl, _⟩ := h; rfl
  obtain ⟨H0, a, n, p, wd, rfl, A0, hbg, hlb, hss, k⟩ := h
  refine ⟨_, (pss_cons (ps_set (i := 2) sc_law_change.nd rfl (Or.inl rfl) pe_dnewK)
    (pss_cons (ps_for PassesOwn.never rfl (pi_list (pe_callTy (call_listD rfl) rfl B.list boot_list' (pa_cons (pe_dget (hu_of hr) (pv 0) pe_str (fun _ _ => rfl)) pa_nil))) (pg_name (i := 3) sc_law_change.nd rfl (Or.inl rfl))
      (pss_one (ps_dput (hu_of hr) (pv 2) (pv 3) (pe_callTy call_list_of rfl B.list boot_list' (pa_cons (pe_dget (hu_of hr) (pe_dget (hu_of hr) (pv 0) pe_str (fun _ _ => rfl)) (pv 3) (fun _ _ => rfl)) pa_nil)) rfl)))
    (pss_one (ps_expr (pe_bm PySem.F.plainAttrs_list PySem.F.slot_list_append PySem.F.type_list_append mt_append (pe_dget (hu_of hr) (pv 0) pe_str (fun _ _ => rfl)) (pa_cons (pe_tup (pa_cons (pv 1) (pa_cons (pe_callTy call_list_of rfl B.list boot_list' (pa_cons (pe_dget (hu_of hr) (pv 0) pe_str (fun _ _ => rfl)) pa_nil)) (pa_cons (pv 2) pa_nil)))) pa_nil)))))), ?_⟩
  obtain ⟨hl0, us, hb0, hus⟩ := id A0.sn
  have lus := paired_len hus
  intro nb hnb
  have s1 := same_new hnb (.dK [])
  refine ⟨_, rfl, a.d, _, rfl, (A0.same s1).gB, a.aB, _, rfl, s1 _ _ hb0, fun l hl => ?_⟩
  rw [bagK_keys]
  have s2 := s1.trans (same_new hl (.lst ((List.range' 0 us.length).map fun k : Nat => V.int k)))
  have hnl : nb ≠ l := fun e => by rw [← e, upd_same] at hl; cases hl
  have hl0' : H l = none := s1.free hl
  refine ⟨l, rfl, ⟨_, SqL.of upd_same⟩, for_list (K := K) (a := l) (xs := (List.range' 0 us.length).map fun k : Nat => V.int k) (fun i σ H2 => ∃ o3 us2, σ = [some (.ref a.d), some (.str (wdS wd)), some (.ref nb), o3] ∧ Same H H2 ∧ H2 l = some (.lst ((List.range' 0 us.length).map fun k : Nat => V.int k)) ∧ H2 nb = some (.dK (bagK 0 us2)) ∧ us2.length = i ∧ Paired (BagAt H2 (a.mu [])) us2 (p.bg.take i))
    ⟨none, [], rfl, s2, upd_same, by rw [upd_ne hnl]; exact upd_same, rfl, .nil⟩ (fun i σ H' _ ⟨_, _, _, _, e, _⟩ => SqL.of e) ?_ ?_⟩
  · rintro i x σ H2 hi ⟨o3, us2, rfl, s3, hl3, hnb3, hlen, hp3⟩
    have hil : i < us.length := by have := get_lt hi; simpa using this
    have hx : x = .int (i : Int) := by
      rw [List.getElem?_map, List.getElem?_range' hil] at hi
      simpa using hi.symm
    subst hx
    have A2 := A0.same s3
    have hb2 := s3 _ _ hb0
    have hus2 : Paired (BagAt H2 (a.mu [])) us p.bg := Paired.imp' (fun _ _ z => bag_to (fun y xs m e => ⟨m, s3 _ _ e⟩) (.of s3) z) hus
    obtain ⟨y, xs, ey, ny, hy, hpy⟩ := bag_at hus2 (i := i) (by omega)
    have hlxs := paired_len hpy
    refine ⟨_, rfl, a.d, _, rfl, A2.gB, _, rfl, a.aB, _, rfl, (by rw [← ey]; exact bag_get hb2), y, _, rfl, .inl (SqL.of hy), fun l2 hl2' => ?_⟩
    have s4 := same_new hl2' (.lst xs)
    have hp4 : Paired (BagAt (upd H2 l2 (.lst xs)) (a.mu [])) us2 (p.bg.take i) := Paired.imp' (fun _ _ z => bag_to (fun y xs m e => ⟨m, s4 _ _ e⟩) (.of s4) z) hp3
    have hb4 : BagAt (upd H2 l2 (.lst xs)) (a.mu []) (.ref l2) (p.bg.getD i []) := ⟨l2, xs, rfl, A2.out hl2', upd_same, hpy.mono (.of s4)⟩
    have hnb4 := s4 _ _ hnb3
    have hl4 := s4 _ _ hl3
    have s5 := s3.trans s4
    generalize upd H2 l2 (.lst xs) = H4 at *
    refine ⟨_, rfl, _, rfl, nb, _, rfl, (by have := bag_new (v := V.ref l2) hnb4 (by omega); rw [hlen] at this; exact this), ?_⟩
    have tp : Tups H4 (upd H4 nb (.dK (bagK 0 (us2 ++ [.ref l2])))) := fun b xs e => by rw [upd_ne (ne_of e hnb4 (by intro z; cases z))]; exact e
    refine ⟨_, us2 ++ [.ref l2], rfl, same_put hnb s5 _, by rw [upd_ne hnl.symm]; exact hl4, upd_same, by rw [List.length_append, hlen]; rfl, ?_⟩
    have hlt : i < p.bg.length := by omega
    rw [List.take_succ_eq_append_getElem hlt]
    have eg : p.bg[i] = p.bg.getD i [] := by simp [List.getD, hlt]
    rw [eg]
    exact Paired.imp' (fun _ _ z => bag_to (fun y xs m e => ⟨m, by rw [upd_ne (ne_of e hnb4 (by intro z; cases z))]; exact e⟩) tp z) (paired_app hp4 (.cons hb4 .nil))
  · rintro σ H2 ⟨o3, us2, rfl, s3, hl3, hnb3, hlen, hp3⟩
    have hlen' : us2.length = us.length := by simpa using hlen
    rw [List.take_of_length_le (by simp; omega)] at hp3
    have A3 := A0.same s3
    obtain ⟨vs, hpa, hpt⟩ := A3.pa
    have lpt := paired_len hpt
    rw [List.length_reverse] at lpt
    refine ⟨_, rfl, a.d, _, rfl, A3.gP, .inl ⟨rfl, _, SqL.of hpa⟩, _, rfl, _, rfl, a.d, _, rfl, A3.gL, a.aL, _, rfl, .inl (SqL.of A3.sn.1), fun l' hl' => ⟨_, rfl, (by show 3 ≤ sizeLine; decide), fun q hq => ?_⟩⟩
    have A4 := A3.loose (w := wd) hl' hnb3 hp3 (A0.out hnb) (A0.sm.free hnb) (A3.sm.free hl')
    have sq := same_new hq (.tup [.str (wdS wd), .ref l', .ref nb])
    have sl := same_new hl' (.lst (labV p.lb))
    have A5 := A4.same sq
    have hpa5 := sq _ _ (sl _ _ hpa)
    refine ⟨a.aP, _, _, rfl, rfl, hpa5, szl (by omega), ?_⟩
    have A6 := A5.push (v := .ref q) hpa5 ⟨q, rfl, upd_same⟩
    refine k ⟨l', nb, wd, p⟩ _ rfl rfl A6 fun b o e hb => ?_
    rw [upd_ne hb]
    exact sq _ _ (sl _ _ (s3 _ _ e))
theorem sc_law_back : FnScope ["_law_hall", "_law_word", "_law_labels", "_law_bags", "_law_group"] ["_law_hall"] (defScope s_law_back) := ⟨rfl, rfl, rfl, by decide +kernel, rfl, by decide +kernel, by decide +kernel⟩
theorem ok_back (O : Own K mg "_law_back" s_law_back) (B : Bare mg) : Has P w K mg base 1 "_law_back" ["_law_hall"] spBack := by
  refine O.has sc_law_back (fun _ _ _ _ _ _ => by1 fun _ => rfl) (fun vs H Q E h => ?_) (fun f cdv A outer s H vs Q E hr h => ?_)
  · obtain ⟨H0, a, n, p, rfl, _⟩ := h; rfl
  obtain ⟨H0, a, n, p, rfl, A0, hlb, hss, hsn, k0, k1⟩ := h
  refine ⟨_, (pss_cons (ps_if (pt_cmpR (op_eqEmp (hu110 hr)) (pe_dget (hu_of hr) (pv 0) pe_str (fun _ _ => rfl)) (pe_lst pa_nil) (nomark _))
      (pss_one (ps_ret pe_non))
      pss_nil)
    (pss_cons (ps_asg (pe_bm0 PySem.F.plainAttrs_list PySem.F.slot_list_pop PySem.F.type_list_pop mt_pop (pe_dget (hu_of hr) (pv 0) pe_str (fun _ _ => rfl))) (pg_tup rfl (pgs_cons (pg_name (i := 1) sc_law_back.nd rfl (Or.inl rfl)) (pgs_cons (pg_name (i := 2) sc_law_back.nd rfl (Or.inl rfl)) (pgs_cons (pg_name (i := 3) sc_law_back.nd rfl (Or.inl rfl)) pgs_nil)))))
    (pss_cons (ps_for PassesOwn.never rfl (pi_range2 rfl B.range (pa_cons (pe_callB call_len_seq rfl B.len PySem.boot_len (pa_cons (pv 2) pa_nil)) (pa_cons (pe_callB call_len_seq rfl B.len PySem.boot_len (pa_cons (pe_dget (hu_of hr) (pv 0) pe_str (fun _ _ => rfl)) pa_nil)) pa_nil))) (pg_name (i := 4) sc_law_back.nd rfl (Or.inl rfl))
      (pss_cons (ps_expr (pe_bm PySem.F.plainAttrs_list PySem.F.slot_list_append PySem.F.type_list_append mt_append (pv 2) (pa_cons (pv 4) pa_nil)))
        (pss_one (ps_dput (hu_of hr) (pv 3) (pv 4) (pe_lst pa_nil) rfl))))
    (pss_cons (ps_dput (hu_of hr) (pv 0) pe_str (pv 2) rfl)
    (pss_cons (ps_dput (hu_of hr) (pv 0) pe_str (pv 3) rfl)
    (pss_one (ps_ret (pv 1)))))))), ?_⟩
  obtain ⟨vs, hpa, hpt⟩ := id A0.pa
  refine ⟨_, rfl, a.d, _, rfl, A0.gP, (by show 0 ≤ sizeLine; decide), fun z hz => ?_⟩
  have s1 := same_new hz (.lst [])
  have A1 := A0.same s1
  have hpa1 := s1 _ _ hpa
  refine ⟨a.aP, z, vs, rfl, rfl, hpa1, upd_same, _, rfl, ?_⟩
  generalize upd H z (.lst []) = H1 at *
  cases hs : a.ss with
  | nil =>
    rw [hs] at hpt
    obtain _ | _ := hpt
    exact iteT (k0 hs _ A1)
  | cons s r =>
    rw [hs, List.reverse_cons] at hpt
    obtain ⟨vs', v, rfl, _, _⟩ := paired_snoc_inv hpt
    have em : (vs' ++ [v]).isEmpty = false := by cases vs' <;> rfl
    rw [em]
    refine iteF ?_
    obtain ⟨hle, hbl⟩ := hsn s r hs
    refine ⟨_, rfl, a.d, _, rfl, A1.gP, .inl ⟨rfl, _, SqL.of hpa1⟩, a.aP, _, v, rfl, rfl, hpa1, (by simp), ?_⟩
    rw [List.dropLast_concat]
    obtain ⟨A2, q, rfl, hq⟩ := A1.pop hs hpa1
    have hq2 := A1.tupsU (o := .lst vs') A1.mP _ _ hq
    generalize upd H1 a.aP (.lst vs') = H2 at *
    have sx : s ∈ [s] ++ r := List.mem_cons_self
    obtain ⟨hl2, us2, hb2, hus2⟩ := A2.sp s sx
    refine ⟨q, _, rfl, SqT.of hq2, rfl, _, _, rfl, _, _, rfl, _, _, rfl, rfl, ?_⟩
    have l1 := labV_len s.p.lb
    have l2 := labV_len p.lb
    refine ⟨_, rfl, s.l, _, rfl, .inl (SqL.of hl2), _, rfl, a.d, _, rfl, A2.gL, a.aL, _, rfl, .inl (SqL.of A2.sn.1), _, _, rfl, ⟨by omega, by omega, by omega, by omega⟩, ?_⟩
    have en : (((labV p.lb).length : Nat) : Int) - (((labV s.p.lb).length : Nat) : Int) = ((p.lb.length - s.p.lb.length : Nat) : Int) := by omega
    rw [en, Int.toNat_natCast, l1]
    refine for_range (n := p.lb.length - s.p.lb.length) (fun i σ H3 => ∃ o4, σ = [some (.ref a.d), some (.str (wdS s.w)), some (.ref s.l), some (.ref s.b), o4] ∧ PLAt H0 H3 { a with ss := r } [⟨s.l, s.b, s.w, s.p.pad i⟩] n p) ⟨none, rfl, A2⟩ ?_ ?_
    · rintro i σ H3 hi ⟨o4, rfl, A3⟩
      obtain ⟨hl3, us3, hb3, hus3⟩ := A3.sp _ List.mem_cons_self
      have pl := Pn.pad_len s.p i
      have pb := Pn.pad_lenB s.p i
      have lu3 := paired_len hus3
      refine ⟨_, rfl, .inl ⟨rfl, _, SqL.of hl3⟩, _, rfl, s.l, _, _, rfl, rfl, hl3, szl (by rw [labV_len]; show (s.p.pad i).lb.length ≤ 1000; omega), ?_⟩
      have A4 := A3.looL ((s.p.pad i).lb ++ [(s.p.pad i).lb.length])
      rw [labV_snoc, pl] at A4
      rw [show ((s.p.lb.length : Nat) : Int) + (i : Int) = ((s.p.lb.length + i : Nat) : Int) by omega]
      refine ⟨(by show 0 ≤ sizeLine; decide), fun e he => ?_⟩
      have A5 := A4.same (same_new he (.lst []))
      obtain ⟨hl5, us5, hb5, hus5⟩ := A5.sp _ List.mem_cons_self
      have lu5 := paired_len hus5
      have eu5 : us5.length = s.p.lb.length + i := by
        have : us5.length = (s.p.pad i).bg.length := lu5
        omega
      refine ⟨_, rfl, _, rfl, s.b, _, rfl, (by have := bag_new (v := V.ref e) hb5 (by omega); rw [eu5] at this; exact this), ?_⟩
      have A6 := A5.looB (us := us5 ++ [.ref e]) (bg := (s.p.pad i).bg ++ [[]]) (paired_app hus5 (.cons ⟨e, [], rfl, A4.out he, upd_same, .nil⟩ .nil))
      refine ⟨_, rfl, ?_⟩
      have e7 : s.p.pad (i + 1) = ⟨(s.p.pad i).lb ++ [s.p.lb.length + i], (s.p.pad i).bg ++ [[]]⟩ := by rw [← pl]; rfl
      rw [e7]
      exact A6
    · rintro σ H3 ⟨o4, rfl, A3⟩
      refine ⟨_, rfl, _, rfl, a.d, _, rfl, A3.pL s.l, ?_⟩
      refine ⟨_, rfl, _, rfl, a.d, _, rfl, dputB upd_same s.b, ?_⟩
      exact ⟨_, rfl, k1 s r ⟨a.d, s.l, s.b, a.aP, r⟩ _ hs rfl rfl A3.back⟩
end
section
variable {P : Program} {w : World} {K : PySem.W.Frag} {mg : Str → Option Value} {base : Heap}
theorem sc_law_joining : FnScope ["_law_hall", "_law_one", "_law_two", "_law_labels", "_law_first", "_law_second"] ["_law_hall", "_law_one", "_law_two"] (defScope s_law_joining) := ⟨rfl, rfl, rfl, by decide +kernel, rfl, by decide +kernel, by decide +kernel⟩
theorem ok_joining (O : Own K mg "_law_joining" s_law_joining) (B : Bare mg) (g_law_change : Has P w K mg base 1 "_law_change" ["_law_hall", "_law_word"] spChange) : Has P w K mg base 2 "_law_joining" ["_law_hall", "_law_one", "_law_two"] spJoining := by
  refine O.has sc_law_joining (fun _ _ _ _ _ _ => by3 fun _ _ _ => rfl) (fun vs H Q E h => ?_) (fun f cdv A outer s H vs Q E hr h => ?_)
  · obtain ⟨H0, a, n, p, i, j, rfl, _⟩ := h; rfl
  obtain ⟨H0, a, n, p, i, j, rfl, A0, hi, hj, hbi, hbj, hbg, hlb, hss, hli, hlj, k0, k1⟩ := h
  refine ⟨_, (pss_cons (ps_set (i := 3) sc_law_joining.nd rfl (Or.inl rfl) (pe_dget (hu_of hr) (pv 0) pe_str (fun _ _ => rfl)))
    (pss_cons (ps_set (i := 4) sc_law_joining.nd rfl (Or.inr rfl) (pe_ix ix_list (pv 3) (pv 1) (fun _ _ => rfl)))
    (pss_cons (ps_set (i := 5) sc_law_joining.nd rfl (Or.inr rfl) (pe_ix ix_list (pv 3) (pv 2) (fun _ _ => rfl)))
    (pss_cons (ps_if (pt_cmpR op_eq (pv 4) (pv 5) (nomark _))
      (pss_one (ps_ret pe_bl))
      pss_nil)
    (pss_cons (ps_expr (pe_fn g_law_change hr (pa_cons (pv 0) (pa_cons pe_str pa_nil))))
    (pss_cons (ps_dput (hu_of hr) (pe_dget (hu_of hr) (pv 0) pe_str (fun _ _ => rfl)) (pv 4) (pe_op op_cat (pe_dget (hu_of hr) (pe_dget (hu_of hr) (pv 0) pe_str (fun _ _ => rfl)) (pv 4) (fun _ _ => rfl)) (pe_dget (hu_of hr) (pe_dget (hu_of hr) (pv 0) pe_str (fun _ _ => rfl)) (pv 5) (fun _ _ => rfl))) rfl)
    (pss_cons (ps_dput (hu_of hr) (pe_dget (hu_of hr) (pv 0) pe_str (fun _ _ => rfl)) (pv 5) (pe_lst pa_nil) rfl)
    (pss_cons (ps_dput (hu_of hr) (pv 0) pe_str (pe_comp ["_law_label"] [(4, "_law_first"), (5, "_law_second")] rfl (pi_list (pv 3)) (by decide +kernel) rfl (by decide +kernel) (by decide +kernel) ⟨⟨rfl, rfl, rfl⟩, ⟨⟨rfl, rfl, rfl⟩, trivial⟩⟩ (fun cl C s3 H3 fp => (pg_name (i := 0) (show (["_law_label", "_law_first", "_law_second"] : List Str).Nodup from by decide +kernel) rfl (Or.inl rfl) (Or.inr rfl))) (fun cl C s3 H3 fp => (pe_ix (ix_listK K) (pe_lst (pa_cons (pv 0) (pa_cons (pv 1) pa_nil))) (pe_callTy call_int1 rfl B.int boot_int' (pa_cons (pe_cmpR op_eq (pv 0) (pv 2) (nomark _)) pa_nil)) (fun _ _ => rfl)))) rfl)
    (pss_one (ps_ret pe_bl)))))))))), ?_⟩
  refine ⟨_, rfl, a.d, _, rfl, A0.gL, ?_⟩
  refine ⟨_, rfl, _, rfl, a.aL, _, _, _, rfl, rfl, SqL.of A0.sn.1, at_lab hi, ?_⟩
  refine ⟨_, rfl, _, rfl, a.aL, _, _, _, rfl, rfl, SqL.of A0.sn.1, at_lab hj, ?_⟩
  refine ⟨_, rfl, _, rfl, rfl, _, rfl, ?_⟩
  rw [eqI_nat]
  by_cases c : p.lb.getD i 0 = p.lb.getD j 0
  · rw [decide_eq_true c]
    exact iteT (k0 c _ A0)
  rw [decide_eq_false c]
  refine iteF ?_
  have k1 := k1 c
  have el : p.lab i = p.lb.getD i 0 := rfl
  have em : p.lab j = p.lb.getD j 0 := rfl
  rw [el, em] at k1
  rw [el] at hbi hli
  rw [em] at hbj hlj
  generalize p.lb.getD i 0 = li at *
  generalize p.lb.getD j 0 = lj at *
  refine ⟨_, rfl, H0, a, n, p, .join, rfl, A0, hbg, hlb, hss, fun s1 H1 ew ep A1 f1 => ?_⟩
  obtain ⟨hl1, us, hb1, hus⟩ := id A1.sn
  have lus := paired_len hus
  obtain ⟨y, xs, ey, ny, hy, hpy⟩ := bag_at hus hbi
  obtain ⟨y', xs', ey', ny', hy', hpy'⟩ := bag_at hus hbj
  have lxs := paired_len hpy
  have lxs' := paired_len hpy'
  have hli' : (p.bg.getD li []).length ≤ 64 := hli
  have hlj' : (p.bg.getD lj []).length ≤ 64 := hlj
  refine ⟨_, rfl, a.d, _, rfl, A1.gB, _, rfl, a.aB, _, rfl, (by rw [← ey]; exact bag_get hb1), _, rfl, a.d, _, rfl, A1.gB, _, rfl, a.aB, _, rfl, (by rw [← ey']; exact bag_get hb1), y, y', xs, xs', rfl, rfl, hy, hy', Nat.le_of_lt (szl (by omega)), fun l2 hl2 => ?_⟩
  have s2 := same_new hl2 (.lst (xs ++ xs'))
  have A2 := A1.same s2
  have n2 := A1.out hl2
  have hb2 := s2 _ _ hb1
  have hus2 : Paired (BagAt (upd H1 l2 (.lst (xs ++ xs'))) ((⟨a.d, a.aL, a.aB, a.aP, s1 :: a.ss⟩ : PA).mu [])) us p.bg := Paired.imp' (fun _ _ z => bag_to (fun y xs m e => ⟨m, s2 _ _ e⟩) (.of s2) z) hus
  have bag2 : BagAt (upd H1 l2 (.lst (xs ++ xs'))) ((⟨a.d, a.aL, a.aB, a.aP, s1 :: a.ss⟩ : PA).mu []) (.ref l2) (p.bag li ++ p.bag lj) := ⟨l2, xs ++ xs', rfl, n2, upd_same, paired_app (PairsAt.mono (.of s2) hpy) (PairsAt.mono (.of s2) hpy')⟩
  generalize upd H1 l2 (.lst (xs ++ xs')) = H2 at *
  refine ⟨_, rfl, a.d, _, rfl, A2.gB, _, rfl, a.aB, _, rfl, bag_set hb2 (by omega) (by omega), ?_⟩
  have A3 := A2.setB (paired_set (F := BagAt H2 ((⟨a.d, a.aL, a.aB, a.aP, s1 :: a.ss⟩ : PA).mu [])) bag2 li hus2)
  obtain ⟨hl3, us3, hb3, hus3⟩ := id A3.sn
  have eu3 := hb3
  rw [upd_same] at eu3
  have eu3' : bagK 0 (us.set li (.ref l2)) = bagK 0 us3 := by injection (Option.some.inj eu3)
  clear eu3
  generalize upd H2 a.aB (.dK (bagK 0 (us.set li (.ref l2)))) = H3 at *
  have lus3 := paired_len hus3
  have lus3' : us3.length = p.bg.length := by rw [lus3]; show (p.bg.set _ _).length = _; rw [List.length_set]
  refine ⟨(by show 0 ≤ sizeLine; decide), fun l4 hl4 => ?_⟩
  have s4 := same_new hl4 (.lst [])
  have A4 := A3.same s4
  have n4 := A3.out hl4
  have hb4 := s4 _ _ hb3
  have hus4 : Paired (BagAt (upd H3 l4 (.lst [])) ((⟨a.d, a.aL, a.aB, a.aP, s1 :: a.ss⟩ : PA).mu [])) us3 (p.bg.set li (p.bag li ++ p.bag lj)) := Paired.imp' (fun _ _ z => bag_to (fun y xs m e => ⟨m, s4 _ _ e⟩) (.of s4) z) hus3
  have bag4 : BagAt (upd H3 l4 (.lst [])) ((⟨a.d, a.aL, a.aB, a.aP, s1 :: a.ss⟩ : PA).mu []) (.ref l4) [] := ⟨l4, [], rfl, n4, upd_same, .nil⟩
  generalize upd H3 l4 (.lst []) = H4 at *
  refine ⟨_, rfl, a.d, _, rfl, A4.gB, _, rfl, a.aB, _, rfl, bag_set hb4 (by omega) (by omega), ?_⟩
  have A5 := A4.setB (paired_set (F := BagAt H4 ((⟨a.d, a.aL, a.aB, a.aP, s1 :: a.ss⟩ : PA).mu [])) bag4 lj hus4)
  generalize upd H4 a.aB (.dK (bagK 0 (us3.set lj (.ref l4)))) = H5 at *
  have hl5 := A5.sn.1
  refine ⟨_, rfl, a.aL, rfl, ⟨_, SqL.of hl5⟩, fun D hD => ?_⟩
  refine ⟨fun i m H6 => i + m = p.lb.length ∧ Same H5 H6 ∧ H6 D = some (.lst (labV ((p.lb.take i).map fun l => if l = lj then li else l))), ⟨p.lb.length, by omega, same_new hD _, upd_same⟩, ?_⟩
  rintro i6 m H6 ⟨him, s6, hD6⟩
  have hl6 := s6 _ _ hl5
  by_cases hi6 : i6 < p.lb.length
  · refine .inr ⟨⟨labV p.lb, .int (p.lb.getD i6 0 : Nat), SqL.of hl6, ?_⟩, fun x H7 z => ?_⟩
    · have := at_lab hi6
      unfold labV
      rw [List.getElem?_map, List.getElem?_eq_getElem hi6]; simp [List.getD, hi6]
    obtain ⟨rfl, hx⟩ := z
    have hx := hx _ (SqL.of hl6)
    have ex : x = .int (p.lb.getD i6 0 : Nat) := by
      unfold labV at hx
      rw [List.getElem?_map, List.getElem?_eq_getElem hi6] at hx
      have hx' : V.int (p.lb[i6] : Nat) = x := Option.some.inj hx
      rw [← hx']; simp [List.getD, hi6]
    subst ex
    refine ⟨Keeps.one _ _, ?_⟩
    refine ⟨_, rfl, _, rfl, (by show 2 ≤ sizeLine; decide), fun z hz => ?_⟩
    have sz := same_new hz (.lst [.int (p.lb.getD i6 0 : Nat), .int (li : Nat)])
    refine ⟨_, rfl, _, rfl, rfl, .inr ⟨_, rfl, z, _, _, .int ((if p.lb.getD i6 0 = lj then li else p.lb.getD i6 0 : Nat) : Int), rfl, rfl, SqL.of upd_same, ?_, ?_⟩⟩
    · rw [eqI_nat]
      by_cases e : p.lb.getD i6 0 = lj
      · rw [decide_eq_true e, if_pos rfl, if_pos e]; rfl
      · rw [decide_eq_false e, if_neg Bool.false_ne_true, if_neg e]; rfl
    · refine ⟨_, sz _ _ hD6, szl (by rw [labV_len, List.length_map, List.length_take]; omega), m - 1, by omega, by omega, same_put hD (s6.trans sz) _, ?_⟩
      rw [upd_same, List.take_succ_eq_append_getElem hi6, List.map_append, List.map_cons, List.map_nil, labV_snoc, show p.lb[i6] = p.lb.getD i6 0 by simp [List.getD, hi6]]
  · refine .inl ⟨⟨labV p.lb, SqL.of hl6, by rw [labV_len]; omega⟩, ?_⟩
    rw [List.take_of_length_le (by omega)] at hD6
    have A6 := A5.same s6
    refine ⟨_, rfl, a.d, _, rfl, A6.pL D, ?_⟩
    exact k1 s1 ⟨a.d, D, a.aB, a.aP, s1 :: a.ss⟩ _ ew ep rfl rfl (A6.setL hD6 (A5.out hD))
theorem sc_law_on_pile : FnScope ["_law_hall", "_law_deed", "_law_label", "_law_bag", "_law_age", "_law_thing"] ["_law_hall", "_law_deed"] (defScope s_law_on_pile) := ⟨rfl, rfl, rfl, by decide +kernel, rfl, by decide +kernel, by decide +kernel⟩
theorem ok_onpile (O : Own K mg "_law_on_pile" s_law_on_pile) (B : Bare mg) (B2 : Bare2 mg) (g_law_change : Has P w K mg base 1 "_law_change" ["_law_hall", "_law_word"] spChange) : Has P w K mg base 2 "_law_on_pile" ["_law_hall", "_law_deed"] spOnPile := by
  refine O.has sc_law_on_pile (fun _ _ _ _ _ _ => by2 fun _ _ => rfl) (fun vs H Q E h => ?_) (fun f cdv A outer s H vs Q E hr h => ?_)
  · obtain ⟨H0, a, n, p, v, d, i, rfl, _⟩ := h; rfl
  obtain ⟨H0, a, n, p, v, d, i, rfl, hd, hnm, A0, hi, hbi, hbg, hlb, hss, hli, kp, kn, kt, kl⟩ := h
  refine ⟨_, (pss_cons (ps_set (i := 2) sc_law_on_pile.nd rfl (Or.inl rfl) (pe_ix ix_list (pe_dget (hu_of hr) (pv 0) pe_str (fun _ _ => rfl)) (pe_ix ix_tup (pv 1) pe_int (fun _ _ => rfl)) (fun _ _ => rfl)))
    (pss_cons (ps_set (i := 3) sc_law_on_pile.nd rfl (Or.inl rfl) (pe_dget (hu_of hr) (pe_dget (hu_of hr) (pv 0) pe_str (fun _ _ => rfl)) (pv 2) (fun _ _ => rfl)))
    (pss_cons (ps_if (pt_cmpR op_eq (pe_ix ix_tup (pv 1) pe_int (fun _ _ => rfl)) pe_str (nomark _))
      (pss_cons (ps_expr (pe_fn g_law_change hr (pa_cons (pv 0) (pa_cons pe_str pa_nil))))
        (pss_cons (ps_set (i := 4) sc_law_on_pile.nd rfl (Or.inl rfl) (pe_dget (hu_of hr) (pv 0) pe_str (fun _ _ => rfl)))
        (pss_cons (ps_dput (hu_of hr) (pv 0) pe_str (pe_op op_add (pv 4) pe_int) rfl)
        (pss_cons (ps_dput (hu_of hr) (pe_dget (hu_of hr) (pv 0) pe_str (fun _ _ => rfl)) (pv 2) (pe_callB call_sortedP rfl B.srt boot_srt (pa_cons (pe_op op_cat (pe_dget (hu_of hr) (pe_dget (hu_of hr) (pv 0) pe_str (fun _ _ => rfl)) (pv 2) (fun _ _ => rfl)) (pe_lst (pa_cons (pe_tup (pa_cons (pe_ix ix_tup (pv 1) pe_int (fun _ _ => rfl)) (pa_cons (pv 4) pa_nil))) pa_nil))) pa_nil)) rfl)
        (pss_one (ps_ret (pv 4)))))))
      pss_nil)
    (pss_cons (ps_if (pt_cmpR (op_eqEmp (hu110 hr)) (pv 3) (pe_lst pa_nil) (nomark _))
      (pss_one (ps_ret pe_non))
      pss_nil)
    (pss_cons (ps_set (i := 5) sc_law_on_pile.nd rfl (Or.inr rfl) (pe_callB (call_minP rfl (hu_of hr)) rfl B2.min boot_min' (pa_cons (pv 3) pa_nil)))
    (pss_cons (ps_if (pt_cmpR op_eq (pe_ix ix_tup (pv 1) pe_int (fun _ _ => rfl)) pe_str (nomark _))
      (pss_cons (ps_expr (pe_fn g_law_change hr (pa_cons (pv 0) (pa_cons pe_str pa_nil))))
        (pss_one (ps_dput (hu_of hr) (pe_dget (hu_of hr) (pv 0) pe_str (fun _ _ => rfl)) (pv 2) (pe_compT ["_law_one"] [(5, "_law_thing")] rfl (pi_list (pv 3)) (by decide +kernel) rfl (by decide +kernel) (by decide +kernel) ⟨⟨rfl, rfl, rfl⟩, trivial⟩ (fun cl C s3 H3 fp => (pg_name (i := 0) (show (["_law_one", "_law_thing"] : List Str).Nodup from by decide +kernel) rfl (Or.inl rfl) (Or.inr rfl))) (fun cl C s3 H3 fp => (pt_cmpR (op_nePair (hu110 hr)) (pv 0) (pv 1) (nomark _))) (fun cl C s3 H3 fp => (pv 0))) rfl)))
      pss_nil)
    (pss_one (ps_ret (pv 5))))))))), ?_⟩
  obtain ⟨hl0, us, hb0, hus⟩ := id A0.sn
  have lus := paired_len hus
  obtain ⟨y, xs, ey, ny, hy, hpy⟩ := bag_at hus hbi
  have lxs := paired_len hpy
  have hli' : (p.bg.getD (p.lab i) []).length ≤ 62 := hli
  have lab0 : p.lb.getD i 0 = p.lab i := rfl
  have bag0 : p.bg.getD (p.lab i) [] = p.bag (p.lab i) := rfl
  have al := at_lab hi
  rw [lab0] at al
  rw [bag0] at hpy hli' lxs
  have putBag : ∀ {H4 : Hp} {a4 : PA} {n4 : Nat} {D : Addr} {ws : List V} {b : List (Int × Int)}, PLAt H0 H4 a4 [] n4 p → D ∉ a4.mu [] → H4 D = some (.lst ws) → PairsAt H4 ws b → ∃ H5, DPut H4 a4.aB (.int (p.lab i : Nat)) (.ref D) H5 ∧ PLAt H0 H5 a4 [] n4 { p with bg := p.bg.set (p.lab i) b } ∧ Tups H4 H5 := by
    intro H4 a4 n4 D ws b A4 nD hD hw
    obtain ⟨hl4, us4, hb4, hus4⟩ := id A4.sn
    have l4 := paired_len hus4
    exact ⟨_, bag_set hb4 (by omega) (by omega), A4.setB (paired_set (F := BagAt H4 (a4.mu [])) ⟨D, ws, rfl, nD, hD, hw⟩ (p.lab i) hus4), A4.tupsU A4.mB⟩
  generalize p.lab i = lb at *
  cases d with
  | opn => cases hnm
  | undo => cases hnm
  | join x z => cases hnm
  | same x z => cases hnm
  | put g r =>
    have eg : g = (i : Int) := by simpa [Deed.named] using hnm
    subst eg
    have kp := kp r rfl
    obtain ⟨q0, rfl, hq0⟩ := hd
    refine ⟨_, rfl, a.d, _, rfl, A0.gL, _, rfl, q0, _, _, _, rfl, rfl, SqT.of hq0, rfl, a.aL, _, _, _, rfl, rfl, SqL.of hl0, al, ?_⟩
    refine ⟨_, rfl, a.d, _, rfl, A0.gB, _, rfl, a.aB, _, rfl, (by rw [← ey]; exact bag_get hb0), ?_⟩
    refine ⟨_, rfl, q0, _, _, _, rfl, rfl, SqT.of hq0, rfl, rfl, _, rfl, ?_⟩
    refine yeT ?_
    refine ⟨_, rfl, H0, a, n, p, .put, rfl, A0, hbg, hlb, hss, fun s1 H1 ew ep A1 f1 => ?_⟩
    have hpt1 : ∀ b o, H b = some o → b ≠ a.aP → H1 b = some o := f1
    have tup1 : ∀ b xs, H b = some (.tup xs) → H1 b = some (.tup xs) := fun b xs e => f1 b _ e (fun z => by obtain ⟨vs, pa, _⟩ := A0.pa; rw [z, pa] at e; cases e)
    have hq1 := tup1 _ _ hq0
    refine ⟨_, rfl, a.d, _, rfl, A1.gN, ?_⟩
    refine ⟨_, rfl, _, _, rfl, rfl, _, rfl, a.d, _, rfl, A1.pN _, ?_⟩
    have A2 := A1.setN (n + 1)
    have hq2 := A1.tupsU (o := .dK (pK a.aL a.aB a.aP ((n + 1 : Nat) : Int))) A1.mD _ _ hq1
    rw [show (n : Int) + 1 = ((n + 1 : Nat) : Int) by omega]
    generalize upd H1 a.d (.dK (pK a.aL a.aB a.aP ((n + 1 : Nat) : Int))) = H2 at *
    obtain ⟨hl2, us2, hb2, hus2⟩ := id A2.sn
    obtain ⟨y2, xs2, ey2, ny2, hy2, hpy2⟩ := bag_at hus2 hbi
    have lxs2 := paired_len hpy2
    rw [bag0] at hpy2 lxs2
    refine ⟨_, rfl, a.d, _, rfl, A2.gB, _, rfl, a.aB, _, rfl, (by rw [← ey2]; exact bag_get hb2), _, rfl, q0, _, _, _, rfl, rfl, SqT.of hq2, rfl, _, rfl, (by show 2 ≤ sizeLine; decide), fun t ht => ⟨(by show 1 ≤ sizeLine; decide), fun l1 hl1 => ?_⟩⟩
    have st := same_new ht (.tup [.int r, .int (n : Int)])
    have s1' := same_new hl1 (.lst [.ref t])
    have s3 := st.trans s1'
    refine ⟨y2, l1, xs2, [.ref t], rfl, rfl, s3 _ _ hy2, upd_same, Nat.le_of_lt (szl (by show xs2.length + 1 ≤ 1000; omega)), fun l2 hl2' => ?_⟩
    have s4 := same_new hl2' (.lst (xs2 ++ [.ref t]))
    have A4 := A2.same (s3.trans s4)
    have hps : PairsAt (upd (upd (upd H2 t (.tup [.int r, .int (n : Int)])) l1 (.lst [.ref t])) l2 (.lst (xs2 ++ [.ref t]))) (xs2 ++ [.ref t]) (p.bag lb ++ [(r, (n : Int))]) :=
      paired_app (PairsAt.mono (.of (s3.trans s4)) hpy2) (.cons ⟨t, rfl, s4 _ _ (s1' _ _ upd_same)⟩ .nil)
    have hl24 : (upd (upd (upd H2 t (.tup [.int r, .int (n : Int)])) l1 (.lst [.ref t])) l2 (.lst (xs2 ++ [.ref t]))) l2 = some (.lst (xs2 ++ [.ref t])) := upd_same
    generalize upd (upd (upd H2 t (.tup [.int r, .int (n : Int)])) l1 (.lst [.ref t])) l2 (.lst (xs2 ++ [.ref t])) = H4 at *
    refine ⟨l2, _, _, rfl, hl24, hps, (by rw [List.length_append]; show _ + 1 < 64; omega), fun D ws qs hD hw perm _ _ => ?_⟩
    have s5 := same_new hD (.lst ws)
    obtain ⟨H6, dp, A6, _⟩ := putBag (A4.same s5) (A4.out hD) upd_same (hw.mono (.of s5))
    refine ⟨_, rfl, a.d, _, rfl, (A4.same s5).gB, _, rfl, a.aB, _, rfl, dp, ?_⟩
    exact ⟨_, rfl, kp s1 ⟨a.d, a.aL, a.aB, a.aP, s1 :: a.ss⟩ qs _ ew ep rfl rfl perm A6⟩
  | take g =>
    have eg : g = (i : Int) := by simpa [Deed.named] using hnm
    subst eg
    have kt := kt rfl
    obtain ⟨q0, rfl, hq0⟩ := hd
    refine ⟨_, rfl, a.d, _, rfl, A0.gL, _, rfl, q0, _, _, _, rfl, rfl, SqT.of hq0, rfl, a.aL, _, _, _, rfl, rfl, SqL.of hl0, al, ?_⟩
    refine ⟨_, rfl, a.d, _, rfl, A0.gB, _, rfl, a.aB, _, rfl, (by rw [← ey]; exact bag_get hb0), ?_⟩
    refine ⟨_, rfl, q0, _, _, _, rfl, rfl, SqT.of hq0, rfl, rfl, _, rfl, ?_⟩
    refine noT (by decide +kernel) ?_
    refine ⟨_, rfl, (by show 0 ≤ sizeLine; decide), fun z hz => ?_⟩
    have sz := same_new hz (.lst [])
    refine ⟨y, z, xs, rfl, rfl, sz _ _ hy, upd_same, _, rfl, ?_⟩
    have A1 := A0.same sz
    have hy1 := sz _ _ hy
    have hpy1 := PairsAt.mono (.of sz) hpy
    have hq1 := sz _ _ hq0
    generalize upd H z (.lst []) = H1 at *
    cases hx : xs with
    | nil =>
      rw [hx] at lxs
      refine iteT ?_
      exact kn (fun r e => by cases e) (List.length_eq_zero_iff.mp lxs.symm) _ A1
    | cons x0 xr =>
      rw [← hx]
      have ex : xs.isEmpty = false := by rw [hx]; rfl
      rw [ex]
      refine iteF ?_
      refine ⟨_, rfl, y, xs, p.bag lb, rfl, hy1, hpy1, (fun e => by rw [e, hx] at lxs; cases lxs), fun v q hv hm mn => ?_⟩
      refine ⟨_, rfl, q0, _, _, _, rfl, rfl, SqT.of hq1, rfl, rfl, _, rfl, ?_⟩
      refine yeT ?_
      refine ⟨_, rfl, H0, a, n, p, .take, rfl, A1, hbg, hlb, hss, fun s1 H2 ew ep A2 f2 => ?_⟩
      have nyP : y ≠ a.aP := fun e => ny (e ▸ A0.mP)
      have hy2 := f2 _ _ hy1 nyP
      have tup2 : Tups H1 H2 := fun b xs e => f2 b _ e (fun z => by obtain ⟨vs, pa, _⟩ := A1.pa; rw [z, pa] at e; cases e)
      have hpy2 := PairsAt.mono tup2 hpy1
      have hv2 := PairAt.mono tup2 hv
      refine ⟨_, rfl, y, rfl, ⟨_, SqL.of hy2⟩, fun D hD => ?_⟩
      refine ⟨fun i m H3 => i + m = xs.length ∧ Same H2 H3 ∧ ∃ ws, H3 D = some (.lst ws) ∧ ws.length ≤ i ∧ PairsAt H3 ws (((p.bag lb).take i).filter fun x => decide (x ≠ q)), ⟨xs.length, by omega, same_new hD _, [], upd_same, Nat.le_refl _, .nil⟩, ?_⟩
      rintro i3 m H3 ⟨him, s3, ws, hD3, hwl, hws⟩
      have hy3 := s3 _ _ hy2
      by_cases hi3 : i3 < xs.length
      · refine .inr ⟨⟨xs, xs[i3], SqL.of hy3, List.getElem?_eq_getElem hi3⟩, fun x H4 z => ?_⟩
        obtain ⟨rfl, hx4⟩ := z
        have hx4 := hx4 _ (SqL.of hy3)
        obtain ⟨pr, epr, fpr⟩ := paired_get (PairsAt.mono (.of s3) hpy2) hx4
        refine ⟨Keeps.one _ _, ?_⟩
        refine ⟨_, rfl, _, rfl, pr, q, fpr, PairAt.mono (.of s3) hv2, _, rfl, fun c => ?_, fun c => ?_⟩
        · have c' : pr ≠ q := by simpa using c
          refine ⟨_, rfl, ws, hD3, szl (by omega), m - 1, by omega, by omega, same_put hD s3 _, ws ++ [x], upd_same, by rw [List.length_append]; show _ + 1 ≤ _; omega, ?_⟩
          rw [take_succ_filter _ _ _ _ epr, if_pos (decide_eq_true c')]
          exact paired_app (PairsAt.mono (.put hD3) hws) (.cons (PairAt.mono (.put hD3) fpr) .nil)
        · have c' : pr = q := by simpa using c
          refine ⟨m - 1, by omega, by omega, s3, ws, hD3, by omega, ?_⟩
          rw [take_succ_filter _ _ _ _ epr, c', if_neg (by simp), List.append_nil]
          exact hws
      · refine .inl ⟨⟨xs, SqL.of hy3, by omega⟩, ?_⟩
        rw [List.take_of_length_le (by omega)] at hws
        have A3 := A2.same s3
        obtain ⟨H6, dp, A6, t6⟩ := putBag A3 (A2.out hD) hD3 hws
        refine ⟨_, rfl, a.d, _, rfl, A3.gB, _, rfl, a.aB, _, rfl, dp, ?_⟩
        exact ⟨_, rfl, kt q _ s1 ⟨a.d, a.aL, a.aB, a.aP, s1 :: a.ss⟩ _ hm mn ew ep rfl rfl A6 (PairAt.mono ((Tups.of s3).trans t6) hv2)⟩
  | least g =>
    have eg : g = (i : Int) := by simpa [Deed.named] using hnm
    subst eg
    have kl := kl rfl
    obtain ⟨q0, rfl, hq0⟩ := hd
    refine ⟨_, rfl, a.d, _, rfl, A0.gL, _, rfl, q0, _, _, _, rfl, rfl, SqT.of hq0, rfl, a.aL, _, _, _, rfl, rfl, SqL.of hl0, al, ?_⟩
    refine ⟨_, rfl, a.d, _, rfl, A0.gB, _, rfl, a.aB, _, rfl, (by rw [← ey]; exact bag_get hb0), ?_⟩
    refine ⟨_, rfl, q0, _, _, _, rfl, rfl, SqT.of hq0, rfl, rfl, _, rfl, ?_⟩
    refine noT (by decide +kernel) ?_
    refine ⟨_, rfl, (by show 0 ≤ sizeLine; decide), fun z hz => ?_⟩
    have sz := same_new hz (.lst [])
    refine ⟨y, z, xs, rfl, rfl, sz _ _ hy, upd_same, _, rfl, ?_⟩
    have A1 := A0.same sz
    have hy1 := sz _ _ hy
    have hpy1 := PairsAt.mono (.of sz) hpy
    have hq1 := sz _ _ hq0
    generalize upd H z (.lst []) = H1 at *
    cases hx : xs with
    | nil =>
      rw [hx] at lxs
      refine iteT ?_
      exact kn (fun r e => by cases e) (List.length_eq_zero_iff.mp lxs.symm) _ A1
    | cons x0 xr =>
      rw [← hx]
      have ex : xs.isEmpty = false := by rw [hx]; rfl
      rw [ex]
      refine iteF ?_
      refine ⟨_, rfl, y, xs, p.bag lb, rfl, hy1, hpy1, (fun e => by rw [e, hx] at lxs; cases lxs), fun v q hv hm mn => ?_⟩
      refine ⟨_, rfl, q0, _, _, _, rfl, rfl, SqT.of hq1, rfl, rfl, _, rfl, ?_⟩
      refine noT (by decide +kernel) ?_
      exact ⟨_, rfl, kl q _ _ hm mn A1 hv⟩
end
section
variable {P : Program} {w : World} {K : PySem.W.Frag} {mg : Str → Option Value} {base : Heap}
theorem sc_law_plainly : FnScope ["_law_hall", "_law_deed", "_law_labels", "_law_named", "_law_group"] ["_law_hall", "_law_deed"] (defScope s_law_plainly) := ⟨rfl, rfl, rfl, by decide +kernel, rfl, by decide +kernel, by decide +kernel⟩
set_option maxHeartbeats 1000000 in
theorem ok_plainly (O : Own K mg "_law_plainly" s_law_plainly) (B : Bare mg) (g_law_back : Has P w K mg base 1 "_law_back" ["_law_hall"] spBack) (g_law_joining : Has P w K mg base 2 "_law_joining" ["_law_hall", "_law_one", "_law_two"] spJoining)
    (g_law_on_pile : Has P w K mg base 2 "_law_on_pile" ["_law_hall", "_law_deed"] spOnPile) : Has P w K mg base 3 "_law_plainly" ["_law_hall", "_law_deed"] spPlainly := by
  refine O.has sc_law_plainly (fun _ _ _ _ _ _ => by2 fun _ _ => rfl) (fun vs H Q E h => ?_) (fun f cdv A outer s H vs Q E hr h => ?_)
  · obtain ⟨H0, a, h, v, d, p, rfl, _⟩ := h; rfl
  obtain ⟨H0, a, h, v, d, p, rfl, hd, A0, F, hp62, rc, k⟩ := h
  refine ⟨_, (pss_cons (ps_set (i := 2) sc_law_plainly.nd rfl (Or.inl rfl) (pe_dget (hu_of hr) (pv 0) pe_str (fun _ _ => rfl)))
    (pss_cons (ps_if (pt_cmpR op_eq (pe_ix ix_tup (pv 1) pe_int (fun _ _ => rfl)) pe_str (nomark _))
      (pss_cons (ps_dput (hu_of hr) (pv 0) pe_str (pe_op op_cat (pv 2) (pe_lst (pa_cons (pe_callB call_len_seq rfl B.len PySem.boot_len (pa_cons (pv 2) pa_nil)) pa_nil))) rfl)
        (pss_cons (ps_dput (hu_of hr) (pe_dget (hu_of hr) (pv 0) pe_str (fun _ _ => rfl)) (pe_callB call_len_seq rfl B.len PySem.boot_len (pa_cons (pv 2) pa_nil)) (pe_lst pa_nil) rfl)
        (pss_one (ps_ret (pe_callB call_len_seq rfl B.len PySem.boot_len (pa_cons (pv 2) pa_nil))))))
      pss_nil)
    (pss_cons (ps_if (pt_cmpR op_eq (pe_ix ix_tup (pv 1) pe_int (fun _ _ => rfl)) pe_str (nomark _))
      (pss_one (ps_ret (pe_fn g_law_back hr (pa_cons (pv 0) pa_nil))))
      pss_nil)
    (pss_cons (ps_set (i := 3) sc_law_plainly.nd rfl (Or.inl rfl) (pe_lst (pa_cons (pe_ix ix_tup (pv 1) pe_int (fun _ _ => rfl)) pa_nil)))
    (pss_cons (ps_if (pt_cmpR op_in_seq (pe_ix ix_tup (pv 1) pe_int (fun _ _ => rfl)) (pe_lst (pa_cons pe_str (pa_cons pe_str pa_nil))) (by with_unfolding_all rfl))
      (pss_one (ps_set (i := 3) sc_law_plainly.nd rfl (Or.inl rfl) (pe_lst (pa_cons (pe_ix ix_tup (pv 1) pe_int (fun _ _ => rfl)) (pa_cons (pe_ix ix_tup (pv 1) pe_int (fun _ _ => rfl)) pa_nil)))))
      pss_nil)
    (pss_cons (ps_for PassesOwn.never rfl (pi_list (pv 3)) (pg_name (i := 4) sc_law_plainly.nd rfl (Or.inl rfl))
      (pss_one (ps_if (pt_or (pt_cmpR op_lt (pv 4) pe_int (nomark _)) (pw_or1 (pt_cmpR op_ge (pv 4) (pe_callB call_len_seq rfl B.len PySem.boot_len (pa_cons (pv 2) pa_nil)) (nomark _))))
          (pss_one (ps_ret pe_non))
          pss_nil)))
    (pss_cons (ps_if (pt_cmpR op_eq (pe_ix ix_tup (pv 1) pe_int (fun _ _ => rfl)) pe_str (nomark _))
      (pss_one (ps_ret (pe_fn g_law_joining hr (pa_cons (pv 0) (pa_cons (pe_ix ix_tup (pv 1) pe_int (fun _ _ => rfl)) (pa_cons (pe_ix ix_tup (pv 1) pe_int (fun _ _ => rfl)) pa_nil))))))
      pss_nil)
    (pss_cons (ps_if (pt_cmpR op_eq (pe_ix ix_tup (pv 1) pe_int (fun _ _ => rfl)) pe_str (nomark _))
      (pss_one (ps_ret (pe_cmpR op_eq (pe_ix ix_list (pv 2) (pe_ix ix_tup (pv 1) pe_int (fun _ _ => rfl)) (fun _ _ => rfl)) (pe_ix ix_list (pv 2) (pe_ix ix_tup (pv 1) pe_int (fun _ _ => rfl)) (fun _ _ => rfl)) (nomark _))))
      pss_nil)
    (pss_one (ps_ret (pe_fn g_law_on_pile hr (pa_cons (pv 0) (pa_cons (pv 1) pa_nil))))))))))))), ?_⟩
  have r0 := rc.r0
  have ln := r0.ln
  have lg := r0.lg
  have bn := F.bd.n
  have cb := F.bd.c
  have ssl : a.ss.length = h.past.length := by rw [rc.len]; unfold PA.ws; rw [List.length_map]
  have hl0 := A0.sn.1
  have bagl : ∀ {n : Nat}, h.isG (n : Int) → (p.bag (p.lab n)).length ≤ h.puts := fun hg => by
    have e := (plain_bag F.ok rc hg).length_eq
    have := F.ok.szP hg
    rw [e, T.length_toL]; exact this
  have labl : ∀ {n : Nat}, h.isG (n : Int) → n < p.lb.length ∧ p.lab n < p.bg.length := fun {n} hg => by
    have h1 : (n : Int) < (h.s.ab.length : Int) := hg.2
    have h2 := r0.lt n (by omega)
    exact ⟨by omega, by omega⟩
  refine ⟨_, rfl, a.d, _, rfl, A0.gL, ?_⟩
  rcases deed_kinds hd with ⟨rfl, q0, rfl, hq0⟩ | ⟨rfl, q0, rfl, hq0⟩ | ⟨q0, wd, g, xs, rfl, hq0, hnm, w1, w2, w3, w4⟩ | ⟨q0, wd, g, g', rfl, hq0, hnm, hj⟩
  · -- open
    refine ⟨_, rfl, q0, _, _, _, rfl, rfl, SqT.of hq0, rfl, rfl, _, rfl, ?_⟩
    refine yeT ?_
    refine ⟨_, rfl, _, rfl, a.aL, _, rfl, .inl (SqL.of hl0), (by show 1 ≤ sizeLine; decide), fun l1 hl1 => ?_⟩
    have s1 := same_new hl1 (.lst [.int (((labV p.lb).length : Nat) : Int)])
    refine ⟨a.aL, l1, _, _, rfl, rfl, s1 _ _ hl0, upd_same, Nat.le_of_lt (szl (by rw [labV_len]; show _ + 1 ≤ 1000; omega)), fun l2 hl2 => ?_⟩
    rw [labV_len, ← labV_snoc]
    rw [labV_len] at s1 hl2
    have s2 := s1.trans (same_new hl2 (.lst (labV (p.lb ++ [p.lb.length]))))
    have A2 := A0.same s2
    have n2 : l2 ∉ a.mu [] := (A0.same s1).out hl2
    have hl2' : (upd (upd H l1 (.lst [.int (p.lb.length : Int)])) l2 (.lst (labV (p.lb ++ [p.lb.length])))) l2 = some (.lst (labV (p.lb ++ [p.lb.length]))) := upd_same
    generalize upd (upd H l1 (.lst [.int (p.lb.length : Int)])) l2 (.lst (labV (p.lb ++ [p.lb.length]))) = H2 at *
    refine ⟨_, rfl, a.d, _, rfl, A2.pL l2, ?_⟩
    have A3 := A2.setL hl2' n2
    have hl3 : (upd H2 a.d (.dK (pK l2 a.aB a.aP (h.puts : Int)))) a.aL = some (.lst (labV p.lb)) := by rw [upd_ne (A0.nL A0.mD)]; exact s2 _ _ hl0
    generalize upd H2 a.d (.dK (pK l2 a.aB a.aP (h.puts : Int))) = H3 at *
    refine ⟨(by show 0 ≤ sizeLine; decide), fun e he => ?_⟩
    have s4 := same_new he (.lst [])
    have A4 := A3.same s4
    obtain ⟨hl4', us, hb4, hus⟩ := id A4.sn
    have lus := paired_len hus
    have eus : us.length = (labV p.lb).length := by
      have : us.length = p.bg.length := lus
      rw [labV_len]; omega
    have bage : BagAt (upd H3 e (.lst [])) ((⟨a.d, l2, a.aB, a.aP, a.ss⟩ : PA).mu []) (.ref e) [] := ⟨e, [], rfl, A3.out he, upd_same, .nil⟩
    have hl4 := s4 _ _ hl3
    generalize upd H3 e (.lst []) = H4 at *
    refine ⟨_, rfl, a.d, _, rfl, A4.gB, _, rfl, a.aL, _, rfl, .inl (SqL.of hl4), a.aB, _, rfl, (by have := bag_new (v := V.ref e) hb4 (by rw [eus, labV_len]; omega); rw [eus] at this; exact this), ?_⟩
    have A5 := A4.setB (paired_app hus (.cons bage .nil))
    have hl5 : (upd H4 a.aB (.dK (bagK 0 (us ++ [.ref e])))) a.aL = some (.lst (labV p.lb)) := by rw [upd_ne (A0.nL A0.mB)]; exact hl4
    refine ⟨_, rfl, a.aL, _, rfl, .inl (SqL.of hl5), ?_⟩
    refine k _ ⟨a.d, l2, a.aB, a.aP, a.ss⟩ p.add _ rfl A5 (RelC.add F.ok rc) ?_
    show V.int _ = V.int _
    rw [labV_len, ln]
  · -- undo
    refine ⟨_, rfl, q0, _, _, _, rfl, rfl, SqT.of hq0, rfl, rfl, _, rfl, ?_⟩
    refine noT (by decide +kernel) ?_
    refine ⟨_, rfl, q0, _, _, _, rfl, rfl, SqT.of hq0, rfl, rfl, _, rfl, ?_⟩
    refine yeT ?_
    obtain ⟨d0, aL, aB, aP, ss⟩ := a
    obtain ⟨sn, past, puts⟩ := h
    refine ⟨_, rfl, H0, _, _, p, rfl, A0, by omega, by omega, fun s1 r e => ?_, fun e H' A' => ?_, fun s1 r a' H' e ed er A' => ?_⟩
    · cases (show ss = s1 :: r from e)
      cases past with
      | nil => exact absurd ssl (by simp)
      | cons c pr =>
        obtain ⟨_, _, le, rest⟩ := rc
        have h1 := rest.r0.ln
        have h2 := rest.r0.lg
        rw [Pn.pad_len] at h1
        rw [Pn.pad_lenB] at h2
        exact ⟨by have : s1.p.lb.length ≤ sn.ab.length := le; omega, by omega⟩
    · cases (show ss = [] from e)
      cases past with
      | nil => exact k .non _ p H' rfl A' rc rfl
      | cons c pr => exact absurd ssl (by simp)
    · cases (show ss = s1 :: r from e)
      cases past with
      | nil => exact absurd ssl (by simp)
      | cons c pr =>
        obtain ⟨_, ew, le, rest⟩ := rc
        refine k _ a' _ H' ed A' ?_ ?_
        · have e2 : a'.ws = r.map fun s => (s.w, s.p) := by unfold PA.ws; rw [er]
          rw [e2, ln]; exact rest
        · show V.str _ = V.str (wdS c.w)
          rw [ew]
  · -- one group
    refine ⟨_, rfl, q0, _, _, _, rfl, rfl, SqT.of hq0, at0 _ _, rfl, _, rfl, ?_⟩
    refine ite2 (fun c => absurd (of_decide_eq_true c) w1) (fun _ => ?_)
    refine ⟨_, rfl, q0, _, _, _, rfl, rfl, SqT.of hq0, at0 _ _, rfl, _, rfl, ?_⟩
    refine ite2 (fun c => absurd (of_decide_eq_true c) w2) (fun _ => ?_)
    refine ⟨_, rfl, q0, _, _, _, rfl, rfl, SqT.of hq0, at1 _ _ _, (by show 1 ≤ sizeLine; decide), fun nm hn => ?_⟩
    have s2 := same_new hn (.lst [.int g])
    have hn2 : (upd H nm (.lst [.int g])) nm = some (.lst [.int g]) := upd_same
    have hq2 := s2 _ _ hq0
    generalize upd H nm (.lst [.int g]) = H2 at *
    refine ⟨_, rfl, q0, _, _, _, rfl, rfl, SqT.of hq2, at0 _ _, (by show 2 ≤ sizeLine; decide), fun y2 hy2 => ?_⟩
    have sy2 := same_new hy2 (.lst [.str "join", .str "same"])
    refine ⟨y2, _, rfl, .inl (SqL.of upd_same), rfl, rfl, _, rfl, ?_⟩
    refine ite2 (fun c => absurd c (by rw [show (if (false : Bool) = true then !inV (.str wd) [.str "join", .str "same"] else inV (.str wd) [.str "join", .str "same"]) = false from inS2 w3 w4]; decide)) (fun _ => ?_)
    have s3 := s2.trans sy2
    have hn3 := sy2 _ _ hn2
    have hq3 := sy2 _ _ hq2
    generalize upd H2 y2 (.lst [.str "join", .str "same"]) = H3 at *
    have A3 := A0.same s3
    have hl3 := s3 _ _ hl0
    refine ⟨_, rfl, nm, rfl, ⟨_, SqL.of hn3⟩, for_list (K := K) (a := nm) (xs := [.int g]) (fun i σ H' => ∃ kg, σ = [some (.ref a.d), some (.ref q0), some (.ref a.aL), some (.ref nm), kg] ∧ H' = H3 ∧ (1 ≤ i → h.isG g)) ⟨none, rfl, rfl, fun z => by omega⟩ (fun i σ H' _ ⟨_, _, e, _⟩ => by rw [e]; exact SqL.of hn3) ?_ ?_⟩
    · rintro i y3 σ H' hi ⟨kg, rfl, rfl, _⟩
      have ei : i = 0 := by have := get_lt hi; simpa using this
      subst ei
      have ey : y3 = .int g := (Option.some.inj hi).symm
      subst ey
      have no : ¬ h.isG g → Q .non H' := by
        intro ng
        have e := step_no (d := d) (g := g) (by rw [hnm]; exact List.mem_singleton.mpr rfl) ng
        rw [e] at k
        exact k .non a p H' rfl A3 rc rfl
      refine ⟨_, rfl, _, _, rfl, rfl, _, rfl, ?_⟩
      refine ite2 (fun c => ?_) (fun c => ?_)
      · have c' : g < 0 := of_decide_eq_true c
        exact iteT (no (fun z => by have := z.1; omega))
      · have c' : ¬ g < 0 := fun z => c (decide_eq_true z)
        refine ⟨_, rfl, _, rfl, a.aL, _, rfl, .inl (SqL.of hl3), _, _, rfl, rfl, _, rfl, ?_⟩
        refine ite2 (fun c2 => ?_) (fun c2 => ?_)
        · have c2' : (((labV p.lb).length : Nat) : Int) ≤ g := of_decide_eq_true c2
          rw [labV_len] at c2'
          exact no (fun z => by have := z.2; omega)
        · have c2' : ¬ (((labV p.lb).length : Nat) : Int) ≤ g := fun z => c2 (decide_eq_true z)
          rw [labV_len] at c2'
          exact ⟨_, rfl, rfl, fun _ => ⟨by omega, by omega⟩⟩
    · rintro σ H' ⟨kg, rfl, rfl, hg⟩
      have hg := hg (by simp)
      obtain ⟨n, rfl⟩ := isG_nat hg
      refine ⟨_, rfl, q0, _, _, _, rfl, rfl, SqT.of hq3, at0 _ _, rfl, _, rfl, ?_⟩
      refine ite2 (fun c => absurd (of_decide_eq_true c) w3) (fun _ => ?_)
      refine ⟨_, rfl, q0, _, _, _, rfl, rfl, SqT.of hq3, at0 _ _, rfl, _, rfl, ?_⟩
      refine ite2 (fun c => absurd (of_decide_eq_true c) w4) (fun _ => ?_)
      obtain ⟨la, lb⟩ := labl hg
      have bl := bagl hg
      have up := F.ok.upN hg
      refine ⟨_, rfl, _, rfl, H0, a, h.puts, p, _, d, n, rfl, hd.mono (.of s3), hnm, A3, la, lb, by omega, by omega, by omega, by omega, fun r e s1 a' b H4 ew ep ed es hb A4 => ?_, fun np e H4 A4 => ?_, fun e q v s1 a' H4 hm mn ew ep ed es A4 hv => ?_, fun e q v H4 hm mn A4 hv => ?_⟩
      · subst e
        rw [step_put hg] at k
        refine k _ a' _ H4 ed A4 ?_ rfl
        have e2 : a'.ws = (.put, p) :: a.ws := by unfold PA.ws; rw [es, List.map_cons, ew, ep]
        rw [e2]
        exact plain_put F.ok rc up hb
      · have pn := plain_nil F.ok rc hg e
        cases d with
        | opn => cases hnm
        | undo => cases hnm
        | join x z => cases hnm
        | same x z => cases hnm
        | put x r =>
          have ex : x = (n : Int) := by simpa [Deed.named] using hnm
          exact absurd (show Deed.put x r = Deed.put (n : Int) r by rw [ex]) (np r)
        | take x =>
          have ex : x = (n : Int) := by simpa [Deed.named] using hnm
          subst ex
          rw [step_take hg] at k
          unfold Hs.doTake at k
          rw [pn] at k
          exact k .non a p H4 rfl A4 rc rfl
        | least x =>
          have ex : x = (n : Int) := by simpa [Deed.named] using hnm
          subst ex
          rw [step_least hg] at k
          unfold Hs.doLeast at k
          rw [pn] at k
          exact k .non a p H4 rfl A4 rc rfl
      · subst e
        rw [step_take hg] at k
        obtain ⟨t1, t2⟩ := plain_take F.ok rc hg hm mn
        have e3 : (h.doTake (n : Int)).1.puts = h.puts := by
          unfold Hs.doTake
          cases h.s.pile (h.way (n : Int)).1 <;> rfl
        refine k v a' _ H4 ed (by rw [e3]; exact A4) ?_ (by rw [t2]; exact hv)
        have e2 : a'.ws = (.take, p) :: a.ws := by unfold PA.ws; rw [es, List.map_cons, ew, ep]
        rw [e2]
        exact t1
      · subst e
        rw [step_least hg] at k
        exact k v a p H4 rfl A4 rc (by rw [plain_least F.ok rc hg hm mn]; exact hv)
  · -- two groups
    have w1 : ¬ V.str wd = V.str "open" := by rcases hj with ⟨_, e⟩ | ⟨_, e⟩ <;> subst e <;> decide +kernel
    have w2 : ¬ V.str wd = V.str "undo" := by rcases hj with ⟨_, e⟩ | ⟨_, e⟩ <;> subst e <;> decide +kernel
    have wi : inV (.str wd) [.str "join", .str "same"] = true := by rcases hj with ⟨_, e⟩ | ⟨_, e⟩ <;> subst e <;> decide +kernel
    refine ⟨_, rfl, q0, _, _, _, rfl, rfl, SqT.of hq0, rfl, rfl, _, rfl, ?_⟩
    refine ite2 (fun c => absurd (of_decide_eq_true c) w1) (fun _ => ?_)
    refine ⟨_, rfl, q0, _, _, _, rfl, rfl, SqT.of hq0, rfl, rfl, _, rfl, ?_⟩
    refine ite2 (fun c => absurd (of_decide_eq_true c) w2) (fun _ => ?_)
    refine ⟨_, rfl, q0, _, _, _, rfl, rfl, SqT.of hq0, rfl, (by show 1 ≤ sizeLine; decide), fun nm0 hn0 => ?_⟩
    have s2 := same_new hn0 (.lst [.int g])
    have hq2 := s2 _ _ hq0
    generalize upd H nm0 (.lst [.int g]) = H2 at *
    refine ⟨_, rfl, q0, _, _, _, rfl, rfl, SqT.of hq2, rfl, (by show 2 ≤ sizeLine; decide), fun y2 hy2 => ?_⟩
    have sy2 := same_new hy2 (.lst [.str "join", .str "same"])
    refine ⟨y2, _, rfl, .inl (SqL.of upd_same), rfl, rfl, _, rfl, ?_⟩
    refine ite2 (fun _ => ?_) (fun c => absurd wi c)
    have s22 := s2.trans sy2
    have hq22 := sy2 _ _ hq2
    generalize upd H2 y2 (.lst [.str "join", .str "same"]) = H22 at *
    refine ⟨_, rfl, q0, _, _, _, rfl, rfl, SqT.of hq22, rfl, _, rfl, q0, _, _, _, rfl, rfl, SqT.of hq22, rfl, (by show 2 ≤ sizeLine; decide), fun nm hn => ?_⟩
    have s3 := s22.trans (same_new hn (.lst [.int g, .int g']))
    have hn3 : (upd H22 nm (.lst [.int g, .int g'])) nm = some (.lst [.int g, .int g']) := upd_same
    have hq3 := (same_new hn (.lst [.int g, .int g'])) _ _ hq22
    generalize upd H22 nm (.lst [.int g, .int g']) = H3 at *
    have A3 := A0.same s3
    have hl3 := s3 _ _ hl0
    refine ⟨_, rfl, nm, rfl, ⟨_, SqL.of hn3⟩, for_list (K := K) (a := nm) (xs := [.int g, .int g']) (fun i σ H' => ∃ kg, σ = [some (.ref a.d), some (.ref q0), some (.ref a.aL), some (.ref nm), kg] ∧ H' = H3 ∧ (1 ≤ i → h.isG g) ∧ (2 ≤ i → h.isG g')) ⟨none, rfl, rfl, fun z => by omega, fun z => by omega⟩ (fun i σ H' _ ⟨_, _, e, _⟩ => by rw [e]; exact SqL.of hn3) ?_ ?_⟩
    · rintro i y3 σ H' hi ⟨kg, rfl, rfl, i1, i2⟩
      have hi2 : i < 2 := get_lt hi
      obtain ⟨x, ex, hx, hstep⟩ : ∃ x : Int, y3 = .int x ∧ x ∈ d.named ∧ (h.isG x → (1 ≤ i + 1 → h.isG g) ∧ (2 ≤ i + 1 → h.isG g')) := by
        have : i = 0 ∨ i = 1 := by omega
        rcases this with e | e
        · subst e; exact ⟨g, (Option.some.inj hi).symm, by rw [hnm]; simp, fun z => ⟨fun _ => z, fun z2 => by omega⟩⟩
        · subst e; exact ⟨g', (Option.some.inj hi).symm, by rw [hnm]; simp, fun z => ⟨fun _ => i1 (by omega), fun _ => z⟩⟩
      subst ex
      have no : ¬ h.isG x → Q .non H' := by
        intro ng
        have e := step_no (d := d) (g := x) hx ng
        rw [e] at k
        exact k .non a p H' rfl A3 rc rfl
      refine ⟨_, rfl, _, _, rfl, rfl, _, rfl, ?_⟩
      refine ite2 (fun c => ?_) (fun c => ?_)
      · have c' : x < 0 := of_decide_eq_true c
        exact iteT (no (fun z => by have := z.1; omega))
      · have c' : ¬ x < 0 := fun z => c (decide_eq_true z)
        refine ⟨_, rfl, _, rfl, a.aL, _, rfl, .inl (SqL.of hl3), _, _, rfl, rfl, _, rfl, ?_⟩
        refine ite2 (fun c2 => ?_) (fun c2 => ?_)
        · have c2' : (((labV p.lb).length : Nat) : Int) ≤ x := of_decide_eq_true c2
          rw [labV_len] at c2'
          exact no (fun z => by have := z.2; omega)
        · have c2' : ¬ (((labV p.lb).length : Nat) : Int) ≤ x := fun z => c2 (decide_eq_true z)
          rw [labV_len] at c2'
          exact ⟨_, rfl, rfl, hstep ⟨by omega, by omega⟩⟩
    · rintro σ H' ⟨kg, rfl, rfl, hgA, hgB⟩
      have hg := hgA (by simp)
      have hg' := hgB (by simp)
      clear hgA hgB
      obtain ⟨n, rfl⟩ := isG_nat hg
      obtain ⟨m, rfl⟩ := isG_nat hg'
      obtain ⟨la, lb⟩ := labl hg
      obtain ⟨la', lb'⟩ := labl hg'
      have bl := bagl hg
      have bl' := bagl hg'
      refine ⟨_, rfl, q0, _, _, _, rfl, rfl, SqT.of hq3, rfl, rfl, _, rfl, ?_⟩
      rcases hj with ⟨rfl, rfl⟩ | ⟨rfl, rfl⟩
      · refine yeT ?_
        rw [step_join ⟨hg, hg'⟩] at k
        refine ⟨_, rfl, _, rfl, q0, _, _, _, rfl, rfl, SqT.of hq3, rfl, _, rfl, q0, _, _, _, rfl, rfl, SqT.of hq3, rfl, ?_⟩
        refine ⟨H0, a, h.puts, p, n, m, rfl, A3, la, la', lb, lb', by omega, by omega, by omega, by omega, by omega, fun e H4 A4 => ?_, fun ne s1 a' H4 ew ep ed es A4 => ?_⟩
        · rw [plain_stay F.ok rc hg hg' e] at k
          exact k _ a p H4 rfl A4 rc rfl
        · obtain ⟨t1, t2⟩ := plain_join F.ok rc hg hg' ne
          have e3 : (h.doJoin (n : Int) (m : Int)).1.puts = h.puts := by
            unfold Hs.doJoin
            split <;> rfl
          refine k _ a' _ H4 ed (by rw [e3]; exact A4) ?_ (by rw [t2]; rfl)
          have e2 : a'.ws = (.join, p) :: a.ws := by unfold PA.ws; rw [es, List.map_cons, ew, ep]
          rw [e2]
          exact t1
      · refine noT (by decide +kernel) ?_
        refine ⟨_, rfl, q0, _, _, _, rfl, rfl, SqT.of hq3, rfl, rfl, _, rfl, ?_⟩
        refine yeT ?_
        rw [step_same ⟨hg, hg'⟩] at k
        refine ⟨_, rfl, _, rfl, q0, _, _, _, rfl, rfl, SqT.of hq3, rfl, a.aL, _, _, _, rfl, rfl, SqL.of hl3, at_lab la, _, rfl, _, rfl, q0, _, _, _, rfl, rfl, SqT.of hq3, rfl, a.aL, _, _, _, rfl, rfl, SqL.of hl3, at_lab la', rfl, ?_⟩
        refine k _ a p H' rfl A3 rc ?_
        show V.bl _ = V.bl _
        rw [eqI_nat]
        have := plain_one F.ok rc hg hg'
        have e : decide (p.lab n = p.lab m) = decide ((h.way (n : Int)).1 = (h.way (m : Int)).1) := by
          by_cases c : (h.way (n : Int)).1 = (h.way (m : Int)).1
          · rw [decide_eq_true c, decide_eq_true (this.mp c)]
          · rw [decide_eq_false c, decide_eq_false (fun z => c (this.mpr z))]
        exact congrArg V.bl e
end
section
structure Pack_Groups (K : PySem.W.Frag) (mg : Str → Option Value) (C : Addr) : Prop where
  tx : TxG K C
  i : OwnI K mg "Groups" C "Groups.__init__" s_Groups___init__
  m_add_group : OwnM K C "add_group" "Groups.add_group" s_Groups_add_group
  m_has : OwnM K C "has" "Groups.has" s_Groups_has
  m_way_up : OwnM K C "way_up" "Groups.way_up" s_Groups_way_up
  m_heads : OwnM K C "heads" "Groups.heads" s_Groups_heads
  m_lay : OwnM K C "lay" "Groups.lay" s_Groups_lay
  m_part : OwnM K C "part" "Groups.part" s_Groups_part
theorem pack_Groups {K : PySem.W.Frag} {mg : Str → Option Value} {h : Heap} {C f0 f1 f2 f3 f4 f5 f6 : Addr} {oc0 kV0 dc0 pm0 cd0 ct0 oc1 kV1 dc1 pm1 cd1 ct1 oc2 kV2 dc2 pm2 cd2 ct2 oc3 kV3 dc3 pm3 cd3 ct3 oc4 kV4 dc4 pm4 cd4 ct4 oc5 kV5 dc5 pm5 cd5 ct5 oc6 kV6 dc6 pm6 cd6 ct6 : Value} {od0 an0 od1 an1 od2 an2 od3 an3 od4 an4 od5 an5 od6 an6 : Option Addr} {sl0 sl1 sl2 sl3 sl4 sl5 sl6 : Array (Option Value)} (X : K.In h) (G : h.Ns mainGlobals mg)
    (aC : PySem.W.nsIn K mainGlobals "Groups" = some (some (.ref C))) (pg : PySem.W.plainGet K C Str.empty = true) (hd : PySem.W.hasDictIn K C = true) (po : PySem.W.plainOver K C = true) (sa : PySem.W.findIn K (.ref C) "__setattr__" = some (some (.builtin "object.__setattr__"))) (mk : PySem.W.makesIn K C = true) (kc : PySem.W.keepIn K (.ref C) = true)
    (n0 : PySem.W.findIn K (.ref C) "above" = some none) (n1 : PySem.W.findIn K (.ref C) "sizes" = some none)
    (a0 : PySem.W.findIn K (.ref C) "__init__" = some (some (.ref f0))) (i0 : PySem.W.isFn K (.ref f0) = true) (l0 : K.lookup f0 = some ⟨oc0, od0, .func (PySem.W.fnOf "__init__" "Groups.__init__" (defArgs s_Groups___init__) (defBody s_Groups___init__) (defScope s_Groups___init__) .none kV0 dc0 pm0 an0 cd0 ct0), sl0⟩) (c0 : PySem.W.codeIn K cd0 "Groups.__init__" = true) (k0 : PySem.W.keepIn K (.ref f0) = true)
    (a1 : PySem.W.findIn K (.ref C) "add_group" = some (some (.ref f1))) (i1 : PySem.W.isFn K (.ref f1) = true) (l1 : K.lookup f1 = some ⟨oc1, od1, .func (PySem.W.fnOf "add_group" "Groups.add_group" (defArgs s_Groups_add_group) (defBody s_Groups_add_group) (defScope s_Groups_add_group) .none kV1 dc1 pm1 an1 cd1 ct1), sl1⟩) (c1 : PySem.W.codeIn K cd1 "Groups.add_group" = true) (k1 : PySem.W.keepIn K (.ref f1) = true)
    (a2 : PySem.W.findIn K (.ref C) "has" = some (some (.ref f2))) (i2 : PySem.W.isFn K (.ref f2) = true) (l2 : K.lookup f2 = some ⟨oc2, od2, .func (PySem.W.fnOf "has" "Groups.has" (defArgs s_Groups_has) (defBody s_Groups_has) (defScope s_Groups_has) .none kV2 dc2 pm2 an2 cd2 ct2), sl2⟩) (c2 : PySem.W.codeIn K cd2 "Groups.has" = true) (k2 : PySem.W.keepIn K (.ref f2) = true)
    (a3 : PySem.W.findIn K (.ref C) "way_up" = some (some (.ref f3))) (i3 : PySem.W.isFn K (.ref f3) = true) (l3 : K.lookup f3 = some ⟨oc3, od3, .func (PySem.W.fnOf "way_up" "Groups.way_up" (defArgs s_Groups_way_up) (defBody s_Groups_way_up) (defScope s_Groups_way_up) .none kV3 dc3 pm3 an3 cd3 ct3), sl3⟩) (c3 : PySem.W.codeIn K cd3 "Groups.way_up" = true) (k3 : PySem.W.keepIn K (.ref f3) = true)
    (a4 : PySem.W.findIn K (.ref C) "heads" = some (some (.ref f4))) (i4 : PySem.W.isFn K (.ref f4) = true) (l4 : K.lookup f4 = some ⟨oc4, od4, .func (PySem.W.fnOf "heads" "Groups.heads" (defArgs s_Groups_heads) (defBody s_Groups_heads) (defScope s_Groups_heads) .none kV4 dc4 pm4 an4 cd4 ct4), sl4⟩) (c4 : PySem.W.codeIn K cd4 "Groups.heads" = true) (k4 : PySem.W.keepIn K (.ref f4) = true)
    (a5 : PySem.W.findIn K (.ref C) "lay" = some (some (.ref f5))) (i5 : PySem.W.isFn K (.ref f5) = true) (l5 : K.lookup f5 = some ⟨oc5, od5, .func (PySem.W.fnOf "lay" "Groups.lay" (defArgs s_Groups_lay) (defBody s_Groups_lay) (defScope s_Groups_lay) .none kV5 dc5 pm5 an5 cd5 ct5), sl5⟩) (c5 : PySem.W.codeIn K cd5 "Groups.lay" = true) (k5 : PySem.W.keepIn K (.ref f5) = true)
    (a6 : PySem.W.findIn K (.ref C) "part" = some (some (.ref f6))) (i6 : PySem.W.isFn K (.ref f6) = true) (l6 : K.lookup f6 = some ⟨oc6, od6, .func (PySem.W.fnOf "part" "Groups.part" (defArgs s_Groups_part) (defBody s_Groups_part) (defScope s_Groups_part) .none kV6 dc6 pm6 an6 cd6 ct6), sl6⟩) (c6 : PySem.W.codeIn K cd6 "Groups.part" = true) (k6 : PySem.W.keepIn K (.ref f6) = true)
    : ∃ C, Pack_Groups K mg C :=
  ⟨C, ⟨⟨pg, hd, po, sa⟩, n0, n1⟩, ⟨f0, _, fun_mk l0 c0 k0, ⟨mk, a0, i0, kc⟩, PySem.W.mg_of X G aC⟩, ⟨f1, _, fun_mk l1 c1 k1, ⟨a1, i1, k1⟩⟩, ⟨f2, _, fun_mk l2 c2 k2, ⟨a2, i2, k2⟩⟩, ⟨f3, _, fun_mk l3 c3 k3, ⟨a3, i3, k3⟩⟩, ⟨f4, _, fun_mk l4 c4 k4, ⟨a4, i4, k4⟩⟩, ⟨f5, _, fun_mk l5 c5 k5, ⟨a5, i5, k5⟩⟩, ⟨f6, _, fun_mk l6 c6 k6, ⟨a6, i6, k6⟩⟩⟩
structure Pack_Hall (K : PySem.W.Frag) (mg : Str → Option Value) (C : Addr) : Prop where
  tx : TxH K C
  i : OwnI K mg "Hall" C "Hall.__init__" s_Hall___init__
  m_has : OwnM K C "has" "Hall.has" s_Hall_has
  m_add_group : OwnM K C "add_group" "Hall.add_group" s_Hall_add_group
  m_put : OwnM K C "put" "Hall.put" s_Hall_put
  m_take : OwnM K C "take" "Hall.take" s_Hall_take
  m_least : OwnM K C "least" "Hall.least" s_Hall_least
  m_unite : OwnM K C "unite" "Hall.unite" s_Hall_unite
  m_are_one : OwnM K C "are_one" "Hall.are_one" s_Hall_are_one
  m_change : OwnM K C "change" "Hall.change" s_Hall_change
  m_undo : OwnM K C "undo" "Hall.undo" s_Hall_undo
theorem pack_Hall {K : PySem.W.Frag} {mg : Str → Option Value} {h : Heap} {C f0 f1 f2 f3 f4 f5 f6 f7 f8 f9 : Addr} {oc0 kV0 dc0 pm0 cd0 ct0 oc1 kV1 dc1 pm1 cd1 ct1 oc2 kV2 dc2 pm2 cd2 ct2 oc3 kV3 dc3 pm3 cd3 ct3 oc4 kV4 dc4 pm4 cd4 ct4 oc5 kV5 dc5 pm5 cd5 ct5 oc6 kV6 dc6 pm6 cd6 ct6 oc7 kV7 dc7 pm7 cd7 ct7 oc8 kV8 dc8 pm8 cd8 ct8 oc9 kV9 dc9 pm9 cd9 ct9 : Value} {od0 an0 od1 an1 od2 an2 od3 an3 od4 an4 od5 an5 od6 an6 od7 an7 od8 an8 od9 an9 : Option Addr} {sl0 sl1 sl2 sl3 sl4 sl5 sl6 sl7 sl8 sl9 : Array (Option Value)} (X : K.In h) (G : h.Ns mainGlobals mg)
    (aC : PySem.W.nsIn K mainGlobals "Hall" = some (some (.ref C))) (pg : PySem.W.plainGet K C Str.empty = true) (hd : PySem.W.hasDictIn K C = true) (po : PySem.W.plainOver K C = true) (sa : PySem.W.findIn K (.ref C) "__setattr__" = some (some (.builtin "object.__setattr__"))) (mk : PySem.W.makesIn K C = true) (kc : PySem.W.keepIn K (.ref C) = true)
    (n0 : PySem.W.findIn K (.ref C) "groups" = some none) (n1 : PySem.W.findIn K (.ref C) "piles" = some none) (n2 : PySem.W.findIn K (.ref C) "put_count" = some none) (n3 : PySem.W.findIn K (.ref C) "changes" = some none)
    (a0 : PySem.W.findIn K (.ref C) "__init__" = some (some (.ref f0))) (i0 : PySem.W.isFn K (.ref f0) = true) (l0 : K.lookup f0 = some ⟨oc0, od0, .func (PySem.W.fnOf "__init__" "Hall.__init__" (defArgs s_Hall___init__) (defBody s_Hall___init__) (defScope s_Hall___init__) .none kV0 dc0 pm0 an0 cd0 ct0), sl0⟩) (c0 : PySem.W.codeIn K cd0 "Hall.__init__" = true) (k0 : PySem.W.keepIn K (.ref f0) = true)
    (a1 : PySem.W.findIn K (.ref C) "has" = some (some (.ref f1))) (i1 : PySem.W.isFn K (.ref f1) = true) (l1 : K.lookup f1 = some ⟨oc1, od1, .func (PySem.W.fnOf "has" "Hall.has" (defArgs s_Hall_has) (defBody s_Hall_has) (defScope s_Hall_has) .none kV1 dc1 pm1 an1 cd1 ct1), sl1⟩) (c1 : PySem.W.codeIn K cd1 "Hall.has" = true) (k1 : PySem.W.keepIn K (.ref f1) = true)
    (a2 : PySem.W.findIn K (.ref C) "add_group" = some (some (.ref f2))) (i2 : PySem.W.isFn K (.ref f2) = true) (l2 : K.lookup f2 = some ⟨oc2, od2, .func (PySem.W.fnOf "add_group" "Hall.add_group" (defArgs s_Hall_add_group) (defBody s_Hall_add_group) (defScope s_Hall_add_group) .none kV2 dc2 pm2 an2 cd2 ct2), sl2⟩) (c2 : PySem.W.codeIn K cd2 "Hall.add_group" = true) (k2 : PySem.W.keepIn K (.ref f2) = true)
    (a3 : PySem.W.findIn K (.ref C) "put" = some (some (.ref f3))) (i3 : PySem.W.isFn K (.ref f3) = true) (l3 : K.lookup f3 = some ⟨oc3, od3, .func (PySem.W.fnOf "put" "Hall.put" (defArgs s_Hall_put) (defBody s_Hall_put) (defScope s_Hall_put) .none kV3 dc3 pm3 an3 cd3 ct3), sl3⟩) (c3 : PySem.W.codeIn K cd3 "Hall.put" = true) (k3 : PySem.W.keepIn K (.ref f3) = true)
    (a4 : PySem.W.findIn K (.ref C) "take" = some (some (.ref f4))) (i4 : PySem.W.isFn K (.ref f4) = true) (l4 : K.lookup f4 = some ⟨oc4, od4, .func (PySem.W.fnOf "take" "Hall.take" (defArgs s_Hall_take) (defBody s_Hall_take) (defScope s_Hall_take) .none kV4 dc4 pm4 an4 cd4 ct4), sl4⟩) (c4 : PySem.W.codeIn K cd4 "Hall.take" = true) (k4 : PySem.W.keepIn K (.ref f4) = true)
    (a5 : PySem.W.findIn K (.ref C) "least" = some (some (.ref f5))) (i5 : PySem.W.isFn K (.ref f5) = true) (l5 : K.lookup f5 = some ⟨oc5, od5, .func (PySem.W.fnOf "least" "Hall.least" (defArgs s_Hall_least) (defBody s_Hall_least) (defScope s_Hall_least) .none kV5 dc5 pm5 an5 cd5 ct5), sl5⟩) (c5 : PySem.W.codeIn K cd5 "Hall.least" = true) (k5 : PySem.W.keepIn K (.ref f5) = true)
    (a6 : PySem.W.findIn K (.ref C) "unite" = some (some (.ref f6))) (i6 : PySem.W.isFn K (.ref f6) = true) (l6 : K.lookup f6 = some ⟨oc6, od6, .func (PySem.W.fnOf "unite" "Hall.unite" (defArgs s_Hall_unite) (defBody s_Hall_unite) (defScope s_Hall_unite) .none kV6 dc6 pm6 an6 cd6 ct6), sl6⟩) (c6 : PySem.W.codeIn K cd6 "Hall.unite" = true) (k6 : PySem.W.keepIn K (.ref f6) = true)
    (a7 : PySem.W.findIn K (.ref C) "are_one" = some (some (.ref f7))) (i7 : PySem.W.isFn K (.ref f7) = true) (l7 : K.lookup f7 = some ⟨oc7, od7, .func (PySem.W.fnOf "are_one" "Hall.are_one" (defArgs s_Hall_are_one) (defBody s_Hall_are_one) (defScope s_Hall_are_one) .none kV7 dc7 pm7 an7 cd7 ct7), sl7⟩) (c7 : PySem.W.codeIn K cd7 "Hall.are_one" = true) (k7 : PySem.W.keepIn K (.ref f7) = true)
    (a8 : PySem.W.findIn K (.ref C) "change" = some (some (.ref f8))) (i8 : PySem.W.isFn K (.ref f8) = true) (l8 : K.lookup f8 = some ⟨oc8, od8, .func (PySem.W.fnOf "change" "Hall.change" (defArgs s_Hall_change) (defBody s_Hall_change) (defScope s_Hall_change) .none kV8 dc8 pm8 an8 cd8 ct8), sl8⟩) (c8 : PySem.W.codeIn K cd8 "Hall.change" = true) (k8 : PySem.W.keepIn K (.ref f8) = true)
    (a9 : PySem.W.findIn K (.ref C) "undo" = some (some (.ref f9))) (i9 : PySem.W.isFn K (.ref f9) = true) (l9 : K.lookup f9 = some ⟨oc9, od9, .func (PySem.W.fnOf "undo" "Hall.undo" (defArgs s_Hall_undo) (defBody s_Hall_undo) (defScope s_Hall_undo) .none kV9 dc9 pm9 an9 cd9 ct9), sl9⟩) (c9 : PySem.W.codeIn K cd9 "Hall.undo" = true) (k9 : PySem.W.keepIn K (.ref f9) = true)
    : ∃ C, Pack_Hall K mg C :=
  ⟨C, ⟨⟨pg, hd, po, sa⟩, n0, n1, n2, n3⟩, ⟨f0, _, fun_mk l0 c0 k0, ⟨mk, a0, i0, kc⟩, PySem.W.mg_of X G aC⟩, ⟨f1, _, fun_mk l1 c1 k1, ⟨a1, i1, k1⟩⟩, ⟨f2, _, fun_mk l2 c2 k2, ⟨a2, i2, k2⟩⟩, ⟨f3, _, fun_mk l3 c3 k3, ⟨a3, i3, k3⟩⟩, ⟨f4, _, fun_mk l4 c4 k4, ⟨a4, i4, k4⟩⟩, ⟨f5, _, fun_mk l5 c5 k5, ⟨a5, i5, k5⟩⟩, ⟨f6, _, fun_mk l6 c6 k6, ⟨a6, i6, k6⟩⟩, ⟨f7, _, fun_mk l7 c7 k7, ⟨a7, i7, k7⟩⟩, ⟨f8, _, fun_mk l8 c8 k8, ⟨a8, i8, k8⟩⟩, ⟨f9, _, fun_mk l9 c9 k9, ⟨a9, i9, k9⟩⟩⟩
theorem nowork_mk {K : PySem.W.Frag} {mg : Str → Option Value} {h : Heap} {nw : Addr} {od : Option Addr} {t1 t2 : Tok} {n : Nat} {sl : Array (Option Value)} (X : K.In h) (G : h.Ns mainGlobals mg) (a : PySem.W.nsIn K mainGlobals "NO_WORK" = some (some (.ref nw)))
    (l : K.lookup nw = some ⟨.type "tuple", od, .seq #[.int 0 t1, .int 0 t2] n, sl⟩) : ∃ nw, NoWork K mg "NO_WORK" nw :=
  ⟨nw, PySem.W.mg_of X G a, _, _, _, l, rfl, rfl, by show 2 ≤ sizeLine; decide, .cons ⟨_, rfl⟩ (.cons ⟨_, rfl⟩ .nil)⟩
end
section
variable {P : Program} {w : World} {K : PySem.W.Frag} {mg : Str → Option Value} {base : Heap}
theorem puts_at (ds : List Deed) (i : Nat) : (stepsOf Hs.zero (ds.take i)).puts ≤ i := by
  have b := steps_bd Bd.zero (ds.take i)
  have hl : (ds.take i).length ≤ i := by rw [List.length_take]; omega
  exact Nat.le_trans b.p (by omega)
theorem cut_ok (l : Nat) (x : Int) : ∃ c : Nat, (l : Int) * (x % 5) / 4 = (c : Int) ∧ c ≤ l := by
  have h0 : 0 ≤ x % 5 := Int.emod_nonneg _ (by decide)
  have h5 : x % 5 < 5 := Int.emod_lt_of_pos _ (by decide)
  generalize x % 5 = r at *
  refine ⟨((l : Int) * r / 4).toNat, ?_, ?_⟩
  · rcases (show r = 0 ∨ r = 1 ∨ r = 2 ∨ r = 3 ∨ r = 4 by omega) with e | e | e | e | e <;> subst e <;> omega
  · rcases (show r = 0 ∨ r = 1 ∨ r = 2 ∨ r = 3 ∨ r = 4 by omega) with e | e | e | e | e <;> subst e <;> omega
theorem paired_take {α β : Type} {F : α → β → Prop} : ∀ (c : Nat) {xs : List α} {ys : List β}, Paired F xs ys → Paired F (xs.take c) (ys.take c)
  | 0, _, _, _ => .nil
  | _ + 1, _, _, .nil => .nil
  | c + 1, _, _, .cons h t => .cons h (paired_take c t)
theorem u_ab {h1 h2 : Hs} {new : List Ch} {j : Nat} (u : Und h1 h2 new j) : (undoL h2.s new).ab.length = h1.s.ab.length + j := by rw [u.s, addN_len]
theorem bag_short {h1 : Hs} {p : Pn} {j g : Nat} {b : List (Int × Int)} (e : ((p.lb.map fun l => p.bag l) ++ List.replicate j [])[g]? = some b) (r : R0 h1.puts h1.s p) (k1 : h1.Ok) (bp : h1.puts ≤ 63) : b.length ≤ 100 := by
  by_cases c : g < p.lb.length
  · rw [List.getElem?_append_left (by rw [List.length_map]; exact c), List.getElem?_map, List.getElem?_eq_getElem c] at e
    have eb : b = p.bag p.lb[g] := (Option.some.inj e).symm
    obtain ⟨hd, st, up⟩ := k1.good.up g (by rw [← r.ln]; exact c)
    have hm := r.bag up
    have el : p.lab g = p.lb[g] := by unfold Pn.lab; simp [List.getD, c]
    rw [el] at hm
    rw [eb, hm.length_eq, T.length_toL]
    have := hsum_one (pl := h1.s.pl) up.head (by rw [k1.good.lp]; exact get_lt up.head)
    have := k1.good.sum
    show (h1.s.pl.getD hd .nil).size ≤ 100
    omega
  · rw [List.getElem?_append_right (by rw [List.length_map]; omega), List.getElem?_replicate] at e
    by_cases d : g - (p.lb.map fun l => p.bag l).length < j
    · rw [if_pos d] at e
      cases e; exact Nat.zero_le _
    · rw [if_neg d] at e; cases e
theorem sc_law : FnScope ["_law_script", "_law_asked", "_law_cut", "_law_hall", "_law_deed", "_law_due", "_law_label", "_law_before", "_law_longer", "_law_words", "_law_group", "_law_found", "_law_told", "_law_k"] ["_law_script"] (defScope s_law) := ⟨rfl, rfl, rfl, by decide +kernel, rfl, by decide +kernel, by decide +kernel⟩
set_option maxHeartbeats 4000000 in
theorem ok_law {f : Addr} {fd : FuncData} (F : Fun K "law" "law" s_law f fd) (B : Bare mg) (g_law_mixed : Has P w K mg base 1 "_law_mixed" ["_law_script"] (spMixed K)) (g_law_deeds : Has P w K mg base 1 "_law_deeds" ["_law_cells"] (spDeeds K)) (g_law_at : Has P w K mg base 1 "_law_at" ["_law_script", "_law_k"] (spAt K))
    (g_law_start : Has P w K mg base 1 "_law_start" [] spStart) (g_law_plainly : Has P w K mg base 3 "_law_plainly" ["_law_hall", "_law_deed"] spPlainly) (g_contents : Has P w K mg base 10 "contents" ["deeds"] spContents9) (g_answers : Has P w K mg base 9 "answers" ["deeds"] (spAnswers9 K))
    (g_law_pairs_are : Has P w K mg base 2 "_law_pairs_are" ["_law_found", "_law_due"] spPairsAre) (g_law_told_so : Has P w K mg base 3 "_law_told_so" ["_law_found", "_law_due"] spTold) : FnOk P w K mg base CX0 11 f fd ["_law_script"] (spLaw K) := by
  refine F.ok sc_law (fun vs H Q E h => ?_) (fun cdv A outer s H vs Q E hr h => ?_)
  · obtain ⟨a, ns, rfl, _⟩ := h; rfl
  obtain ⟨a, ns, rfl, hS, h63, k⟩ := h
  refine ⟨_, (pss_cons (ps_set (i := 0) sc_law.nd rfl (Or.inl rfl) (pe_slice sl_list (pv 0) po_none (po_some pe_int)))
    (pss_cons (ps_set (i := 0) sc_law.nd rfl (Or.inl rfl) (pe_fn g_law_mixed hr (pa_cons (pv 0) pa_nil)))
    (pss_cons (ps_set (i := 1) sc_law.nd rfl (Or.inl rfl) (pe_fn g_law_deeds hr (pa_cons (pe_slice sl_list (pv 0) (po_some pe_int) po_none) pa_nil)))
    (pss_cons (ps_set (i := 2) sc_law.nd rfl (Or.inl rfl) (pe_op op_fdiv (pe_op op_mul (pe_callB call_len_seq rfl B.len PySem.boot_len (pa_cons (pv 1) pa_nil)) (pe_op op_mod (pe_fn g_law_at hr (pa_cons (pv 0) (pa_cons pe_int pa_nil))) pe_int)) pe_int))
    (pss_cons (ps_set (i := 3) sc_law.nd rfl (Or.inl rfl) (pe_fn0 g_law_start hr))
    (pss_cons (ps_for PassesOwn.never rfl (pi_list (pe_slice sl_list (pv 1) po_none (po_some (pv 2)))) (pg_name (i := 4) sc_law.nd rfl (Or.inl rfl))
      (pss_one (ps_expr (pe_fn g_law_plainly hr (pa_cons (pv 3) (pa_cons (pv 4) pa_nil))))))
    (pss_cons (ps_set (i := 5) sc_law.nd rfl (Or.inl rfl) (pe_lst pa_nil))
    (pss_cons (ps_for PassesOwn.never rfl (pi_list (pe_dget (hu_of hr) (pv 3) pe_str (fun _ _ => rfl))) (pg_name (i := 6) sc_law.nd rfl (Or.inl rfl))
      (pss_one (ps_expr (pe_bm PySem.F.plainAttrs_list PySem.F.slot_list_append PySem.F.type_list_append mt_append (pv 5) (pa_cons (pe_callB call_sorted rfl B.srt boot_srt (pa_cons (pe_dget (hu_of hr) (pe_dget (hu_of hr) (pv 3) pe_str (fun _ _ => rfl)) (pv 6) (fun _ _ => rfl)) pa_nil)) pa_nil)))))
    (pss_cons (ps_set (i := 7) sc_law.nd rfl (Or.inl rfl) (pe_callB call_len_seq rfl B.len PySem.boot_len (pa_cons (pe_dget (hu_of hr) (pv 3) pe_str (fun _ _ => rfl)) pa_nil)))
    (pss_cons (ps_set (i := 8) sc_law.nd rfl (Or.inl rfl) (pe_op op_cat (pe_slice sl_list (pv 1) po_none (po_some (pv 2))) (pe_compT ["_law_deed"] [] rfl (pi_list (pe_slice sl_list (pv 1) (po_some (pv 2)) po_none)) (by decide +kernel) rfl (by decide +kernel) (by decide +kernel) trivial (fun cl C s3 H3 fp => (pg_name (i := 0) (show (["_law_deed"] : List Str).Nodup from by decide +kernel) rfl (Or.inl rfl) (Or.inr rfl))) (fun cl C s3 H3 fp => (pt_cmpR op_ne (pe_ix (ix_tupK K) (pv 0) pe_int (fun _ _ => rfl)) pe_str (nomark _))) (fun cl C s3 H3 fp => (pv 0)))))
    (pss_cons (ps_for PassesOwn.never rfl (pi_list (pe_slice sl_list (pv 8) (po_some (pv 2)) po_none)) (pg_name (i := 4) sc_law.nd rfl (Or.inl rfl))
      (pss_one (ps_expr (pe_fn g_law_plainly hr (pa_cons (pv 3) (pa_cons (pv 4) pa_nil))))))
    (pss_cons (ps_setC (i := 9) sc_law.nd rfl rfl ["_law_row"] [] rfl (pi_list (pe_slice sl_list (pe_dget (hu_of hr) (pv 3) pe_str (fun _ _ => rfl)) (po_some (pv 7)) po_none)) (by decide +kernel) rfl (by decide +kernel) (by decide +kernel) trivial (fun cl C s3 H3 fp => (pg_name (i := 0) (show (["_law_row"] : List Str).Nodup from by decide +kernel) rfl (Or.inl rfl) (Or.inr rfl))) (fun cl C s3 H3 fp => (pe_ix (ix_tupK K) (pv 0) pe_int (fun _ _ => rfl))))
    (pss_cons (ps_for PassesOwn.never rfl (pi_range2 rfl B.range (pa_cons (pe_callB call_len_seq rfl B.len PySem.boot_len (pa_cons (pv 5) pa_nil)) (pa_cons (pe_callB call_len_seq rfl B.len PySem.boot_len (pa_cons (pe_dget (hu_of hr) (pv 3) pe_str (fun _ _ => rfl)) pa_nil)) pa_nil))) (pg_name (i := 10) sc_law.nd rfl (Or.inl rfl))
      (pss_one (ps_expr (pe_bm PySem.F.plainAttrs_list PySem.F.slot_list_append PySem.F.type_list_append mt_append (pv 5) (pa_cons (pe_lst pa_nil) pa_nil)))))
    (pss_cons (ps_set (i := 8) sc_law.nd rfl (Or.inl rfl) (pe_op op_cat (pv 8) (pe_op op_rep (pe_lst (pa_cons (pe_tup (pa_cons pe_str pa_nil)) pa_nil)) (pe_callB call_len_seq rfl B.len PySem.boot_len (pa_cons (pv 9) pa_nil)))))
    (pss_cons (ps_set (i := 11) sc_law.nd rfl (Or.inl rfl) (pe_fn g_contents hr (pa_cons (pe_callTy call_list_of rfl B.list boot_list' (pa_cons (pv 8) pa_nil)) pa_nil)))
    (pss_cons (ps_set (i := 12) sc_law.nd rfl (Or.inl rfl) (pe_fn g_answers hr (pa_cons (pe_callTy call_list_of rfl B.list boot_list' (pa_cons (pv 8) pa_nil)) pa_nil)))
    (pss_cons (ps_if (pt_or (pt_not (pt_truth (pe_callB call_isi rfl B.isi boot_isi (pa_cons (pv 11) (pa_cons (pe_bltn (v := .ty "list") rfl B.list boot_list' rfl) pa_nil))) (fun _ => rfl))) (pw_or1 (pt_cmpR op_ne (pe_callB call_len_seq rfl B.len PySem.boot_len (pa_cons (pv 11) pa_nil)) (pe_callB call_len_seq rfl B.len PySem.boot_len (pa_cons (pv 5) pa_nil)) (nomark _))))
      (pss_one (ps_ret pe_bl))
      pss_nil)
    (pss_cons (ps_for PassesOwn.never rfl (pi_range1 rfl B.range (pa_cons (pe_callB call_len_seq rfl B.len PySem.boot_len (pa_cons (pv 5) pa_nil)) pa_nil)) (pg_name (i := 10) sc_law.nd rfl (Or.inl rfl))
      (pss_one (ps_if (pt_not (pt_truth (pe_fn g_law_pairs_are hr (pa_cons (pe_ix ix_list (pv 11) (pv 10) (fun _ _ => rfl)) (pa_cons (pe_ix ix_list (pv 5) (pv 10) (fun _ _ => rfl)) pa_nil))) (fun _ => rfl)))
          (pss_one (ps_ret pe_bl))
          pss_nil)))
    (pss_cons (ps_if (pt_or (pt_not (pt_truth (pe_callB call_isi rfl B.isi boot_isi (pa_cons (pv 12) (pa_cons (pe_bltn (v := .ty "list") rfl B.list boot_list' rfl) pa_nil))) (fun _ => rfl))) (pw_or1 (pt_cmpR op_ne (pe_callB call_len_seq rfl B.len PySem.boot_len (pa_cons (pv 12) pa_nil)) (pe_callB call_len_seq rfl B.len PySem.boot_len (pa_cons (pv 8) pa_nil)) (nomark _))))
      (pss_one (ps_ret pe_bl))
      pss_nil)
    (pss_cons (ps_for PassesOwn.never rfl (pi_range1 rfl B.range (pa_cons (pe_callB call_len_seq rfl B.len PySem.boot_len (pa_cons (pv 9) pa_nil)) pa_nil)) (pg_name (i := 13) sc_law.nd rfl (Or.inl rfl))
      (pss_one (ps_if (pt_not (pt_truth (pe_fn g_law_told_so hr (pa_cons (pe_ix ix_list (pv 12) (pe_op op_sub (pe_op op_sub (pe_callB call_len_seq rfl B.len PySem.boot_len (pa_cons (pv 12) pa_nil)) pe_int) (pv 13)) (fun _ _ => rfl)) (pa_cons (pe_ix ix_list (pv 9) (pv 13) (fun _ _ => rfl)) pa_nil))) (fun _ => rfl)))
          (pss_one (ps_ret pe_bl))
          pss_nil)))
    (pss_one (ps_ret pe_bl)))))))))))))))))))))), ?_⟩
  refine ⟨_, rfl, 500, rfl, a, _, rfl, hS, fun p hp => ?_⟩
  rw [cut_all _ (by rw [List.length_map]; omega)]
  refine ⟨_, rfl, p, ns, rfl, SqL.of upd_same, h63, fun q ms H1 s1 hms hq => ?_⟩
  refine ⟨_, rfl, 1, rfl, q, _, rfl, SqL.of hq, fun l1 hl1 => ?_⟩
  have e1 : cutV (ms.map V.int) (some 1) none = (ms.drop 1).map V.int := by rw [show (1 : Int) = ((1 : Nat) : Int) from rfl, cut_from, List.map_drop]
  rw [e1]
  refine ⟨l1, ms.drop 1, rfl, SqL.of upd_same, by rw [List.length_drop]; omega, fun q2 ws ds H2 s2 hdl hq2 hds => ?_⟩
  have s12 : Same H1 H2 := (same_new hl1 _).trans s2
  have hq' := s12 _ _ hq
  have lw := paired_len hds
  have h62 : ds.length ≤ 62 := by rw [List.length_drop] at hdl; omega
  refine ⟨_, rfl, q2, _, rfl, .inl (SqL.of hq2), _, rfl, q, ms, 0, rfl, SqL.of hq', by decide, _, _, rfl, rfl, (by show (0 : Int) < 5; decide), _, _, rfl, rfl, .inl ⟨by omega, by omega⟩, _, _, rfl, rfl, (by show (0 : Int) < 4 ∧ (4 : Int) < 1073741824; decide), ?_⟩
  obtain ⟨c, ec, hc⟩ := cut_ok ws.length (ms.getD (0 : Int).toNat 0)
  first
    | rw [show (fun i j : Int => V.int (i / j)) ((ws.length : Int) * (ms.getD (Int.toNat 0) 0 % 5)) 4 = V.int (c : Int) from congrArg V.int ec]
    | rw [ec]
  rw [lw] at hc
  clear ec
  refine ⟨rfl, fun ap H3 A3 ess => ?_⟩
  have hq3 := A3.sm _ _ hq2
  refine ⟨_, rfl, _, rfl, (c : Int), rfl, q2, _, rfl, SqL.of hq3, fun l4 hl4 => ?_⟩
  rw [cut_to]
  have s34 := same_new hl4 (.lst (ws.take c))
  have A4 := A3.same s34
  have hl4' : (upd H3 l4 (.lst (ws.take c))) l4 = some (.lst (ws.take c)) := upd_same
  have n4 := A3.out hl4
  generalize upd H3 l4 (.lst (ws.take c)) = H4 at *
  have R4 := A4.rebase
  have sG := A4.smOff
  have gl4 := offM_some n4 hl4'
  generalize offM H4 (ap.mu []) = G0 at *
  have ltk : (ws.take c).length = c := by rw [List.length_take]; omega
  refine ⟨l4, rfl, ⟨_, SqL.of hl4'⟩, for_list (K := K) (a := l4) (xs := ws.take c) (fun i σ H' => ∃ k4 a' p', σ = [some (.ref q), some (.ref q2), some (.int c), some (.ref ap.d), k4, none, none, none, none, none, none, none, none, none] ∧ a'.d = ap.d ∧ PLAt G0 H' a' [] (stepsOf Hs.zero (ds.take i)).puts p' ∧ RelC (stepsOf Hs.zero (ds.take i)).puts (stepsOf Hs.zero (ds.take i)).s (stepsOf Hs.zero (ds.take i)).past p' a'.ws)
    ⟨none, ap, ⟨[], []⟩, rfl, rfl, R4, (by unfold PA.ws; rw [ess]; exact R0.zero)⟩ (fun i σ H' _ ⟨_, _, _, _, _, A', _⟩ => SqL.of (A'.sm _ _ gl4)) ?_ ?_⟩
  · rintro i x σ H5 hi ⟨k4, a5, p5, rfl, ed, A5, rc⟩
    have hic : i < c := by have := get_lt hi; omega
    rw [List.getElem?_take_of_lt hic] at hi
    have hid : i < ds.length := by omega
    obtain ⟨y, ey, fy⟩ := paired_get hds hi
    have ey' : y = ds[i] := by rw [List.getElem?_eq_getElem hid] at ey; exact (Option.some.inj ey).symm
    subst ey'
    have pt := puts_at ds i
    refine ⟨_, rfl, _, rfl, G0, a5, _, x, ds[i], p5, (by show [V.ref ap.d, x] = [V.ref a5.d, x]; rw [ed]), fy.mono (.of (sG.trans A5.sm)), A5, fine_at (by omega) i, by omega, rc, fun v6 a6 p6 H6 ed6 A6 rc6 _ => ?_⟩
    refine ⟨_, a6, p6, rfl, ed6.trans ed, ?_, ?_⟩
    · rw [List.take_succ_eq_append_getElem hid, steps_snoc]; exact A6
    · rw [List.take_succ_eq_append_getElem hid, steps_snoc]; exact rc6
  rintro σ H5 ⟨k4, a5, p1, rfl, ed, A5, rc⟩
  rw [ltk] at A5 rc
  have k1 : (stepsOf Hs.zero (ds.take c)).Ok := steps_ok Hs.Ok.zero _
  have b1 := steps_bd Bd.zero (ds.take c)
  have b1p : (stepsOf Hs.zero (ds.take c)).puts ≤ 63 := Nat.le_trans b1.p (by rw [List.length_take]; omega)
  have b1c : (stepsOf Hs.zero (ds.take c)).past.length ≤ 63 := Nat.le_trans b1.c (by rw [List.length_take]; omega)
  have b1n : (stepsOf Hs.zero (ds.take c)).s.ab.length ≤ 63 := Nat.le_trans b1.n (by rw [List.length_take]; omega)
  have s25 : Same H2 H5 := sG.trans A5.sm
  have hq5 := s25 _ _ hq2
  have hds5 := hds.mono (.of s25)
  have nq5 : q2 ∉ a5.mu [] := A5.keepB (sG _ _ hq2)
  generalize eh1 : stepsOf Hs.zero (ds.take c) = h1 at *
  have r0 := rc.r0
  have ll := labV_len p1.lb
  refine ⟨(by show 0 ≤ sizeLine; decide), fun D hD => ?_⟩
  have s56 := same_new hD (.lst [])
  have hL5 := A5.sn.1
  have nD5 : D ∉ a5.mu [] := A5.out hD
  have gL6 : DGet (upd H5 D (.lst [])) ap.d (.str "labels") (some (.ref a5.aL)) := by rw [← ed]; exact (A5.same s56).gL
  refine ⟨_, rfl, ap.d, _, rfl, gL6, a5.aL, rfl, ⟨_, SqL.of (s56 _ _ hL5)⟩, for_list (K := K) (a := a5.aL) (xs := labV p1.lb) (fun i σ H' => ∃ k6 us, σ = [some (.ref q), some (.ref q2), some (.int c), some (.ref ap.d), k4, some (.ref D), k6, none, none, none, none, none, none, none] ∧ Same H5 H' ∧ H' D = some (.lst us) ∧ Paired (LstM (D :: a5.mu []) H') us ((p1.lb.take i).map fun l => p1.bag l))
    ⟨none, [], rfl, s56, upd_same, .nil⟩ (fun i σ H' _ ⟨_, _, _, s', _⟩ => SqL.of (s' _ _ hL5)) ?_ ?_⟩
  · rintro i x σ H6 hi ⟨k6, us, rfl, s6, hD6, hus⟩
    have hil : i < p1.lb.length := by have := get_lt hi; omega
    have hx : x = .int (p1.lb[i] : Nat) := by
      unfold labV at hi
      rw [List.getElem?_map, List.getElem?_eq_getElem hil] at hi
      exact (Option.some.inj hi).symm
    subst hx
    have A6 := A5.same s6
    have him : i < h1.s.ab.length := by have := r0.ln; omega
    obtain ⟨hd, st, up⟩ := k1.good.up i him
    have hpl : hd < h1.s.pl.length := by rw [k1.good.lp]; exact get_lt up.head
    have elb : p1.lab i = p1.lb[i] := by unfold Pn.lab; simp [List.getD, hil]
    have hperm : (p1.bg.getD (p1.lb[i]) []).Perm (h1.s.pile hd).toL := by have := r0.bag up; rw [elb] at this; exact this
    have hsz : (h1.s.pile hd).size ≤ 63 := by
      have := hsum_one (pl := h1.s.pl) up.head hpl
      have := k1.good.sum
      show (h1.s.pl.getD hd .nil).size ≤ 63
      omega
    have hbl : (p1.bg.getD (p1.lb[i]) []).length ≤ 63 := by rw [hperm.length_eq, T.length_toL]; exact hsz
    obtain ⟨hL6, ub, hB6, hub⟩ := A6.sn
    obtain ⟨y, xs, ey, ny, hy, hpy⟩ := bag_at hub (i := p1.lb[i]) (by have := r0.lt i him; rw [elb] at this; have := r0.lg; omega)
    have gB6 : DGet H6 ap.d (.str "bags") (some (.ref a5.aB)) := by rw [← ed]; exact A6.gB
    have lus := paired_len hus
    rw [List.length_map, List.length_take] at lus
    refine ⟨_, rfl, .inl ⟨rfl, _, SqL.of hD6⟩, _, rfl, ap.d, _, rfl, gB6, _, rfl, a5.aB, _, rfl, (by rw [← ey]; exact bag_get hB6), y, xs, _, rfl, hy, hpy, by omega, fun dd wd qd hdd hwd hqd hsd => ?_⟩
    have s7 := same_new hdd (.lst wd)
    have hD7 := s7 _ _ hD6
    refine ⟨D, _, _, rfl, rfl, hD7, szl (by have := r0.ln; omega), ?_⟩
    refine ⟨_, us ++ [.ref dd], rfl, same_put hD (s6.trans s7) _, upd_same, ?_⟩
    rw [List.take_succ_eq_append_getElem hil, List.map_append]
    have nd : dd ∉ D :: a5.mu [] := by
      intro z
      rcases List.mem_cons.mp z with z | z
      · rw [z, hD6] at hdd; cases hdd
      · exact A6.out hdd z
    refine paired_app (Paired.imp' (fun u b z => LstM.put List.mem_cons_self hD7 (z.same s7)) hus) (.cons (LstM.put List.mem_cons_self hD7 ⟨dd, wd, qd, rfl, nd, upd_same, hwd.mono (.of s7), hqd, hsd⟩) .nil)
  rintro σ H6 ⟨k6, us, rfl, s6, hD6, hus⟩
  rw [ll, List.take_of_length_le (Nat.le_refl _)] at hus
  have A6 := A5.same s6
  have gP6 : DGet H6 ap.d (.str "past") (some (.ref a5.aP)) := by rw [← ed]; exact A6.gP
  obtain ⟨vp, hpa6, hpt6⟩ := A6.pa
  have lvp : vp.length = h1.past.length := by
    have := paired_len hpt6
    rw [List.length_reverse] at this
    have l2 := rc.len
    unfold PA.ws at l2
    rw [List.length_map] at l2
    omega
  refine ⟨_, rfl, ap.d, _, rfl, gP6, a5.aP, _, rfl, .inl (SqL.of hpa6), ?_⟩
  rw [lvp]
  have hq6 := s6 _ _ hq5
  refine ⟨_, rfl, _, rfl, (c : Int), rfl, q2, _, rfl, SqL.of hq6, fun l8 hl8 => ?_⟩
  rw [cut_to]
  have s68 := same_new hl8 (.lst (ws.take c))
  have h88 : (upd H6 l8 (.lst (ws.take c))) l8 = some (.lst (ws.take c)) := upd_same
  have A8 := A6.same s68
  have n8 := A6.out hl8
  have D8 : D ≠ l8 := ne_of_none hD6 hl8
  generalize upd H6 l8 (.lst (ws.take c)) = H8 at *
  have hq8 := s68 _ _ hq6
  refine ⟨_, rfl, _, rfl, (c : Int), rfl, q2, _, rfl, SqL.of hq8, fun l9 hl9 => ?_⟩
  rw [cut_from]
  have s89 := same_new hl9 (.lst (ws.drop c))
  have h99 : (upd H8 l9 (.lst (ws.drop c))) l9 = some (.lst (ws.drop c)) := upd_same
  have A9 := A8.same s89
  generalize upd H8 l9 (.lst (ws.drop c)) = H9 at *
  have s59 : Same H5 H9 := s6.trans (s68.trans s89)
  have hds9 := hds5.mono (.of s59)
  have ldr : (ws.drop c).length = (ds.drop c).length := by rw [List.length_drop, List.length_drop, lw]
  have ldc : (ds.drop c).length ≤ 62 := by rw [List.length_drop]; omega
  refine ⟨l9, rfl, ⟨_, SqL.of h99⟩, fun D2 hD2 => ?_⟩
  have n2 := A9.out hD2
  refine ⟨fun i m H' => i + m = (ds.drop c).length ∧ Same H9 H' ∧ ∃ vs, H' D2 = some (.lst vs) ∧ vs.length ≤ i ∧ DeedsAt H' vs (((ds.drop c).take i).filter fun d => !isU d), ⟨(ds.drop c).length, by omega, same_new hD2 _, [], upd_same, Nat.le_refl _, .nil⟩, ?_⟩
  rintro i m H10 ⟨him, s10, vs, hv10, hvl, hvs⟩
  have h910 := s10 _ _ h99
  by_cases hi : i < (ds.drop c).length
  · refine .inr ⟨⟨_, _, SqL.of h910, List.getElem?_eq_getElem (by omega)⟩, fun x H11 z => ?_⟩
    obtain ⟨rfl, hx⟩ := z
    have hx := hx _ (SqL.of h910)
    rw [List.getElem?_drop] at hx
    obtain ⟨d, edd, fd⟩ := paired_get (hds9.mono (.of s10)) hx
    rw [← List.getElem?_drop] at edd
    obtain ⟨qd, xd, rfl, hqd⟩ := deed_head fd
    refine ⟨Keeps.one _ _, ?_⟩
    refine ⟨_, rfl, qd, _, 0, V.str (dnm d), rfl, rfl, SqT.of hqd, at0 _ _, rfl, _, rfl, fun cc => ?_, fun cc => ?_⟩
    · have c1 : isU d = false := by
        have : (!decide (V.str (dnm d) = V.str "undo")) = true := cc
        rw [dnm_undo] at this
        cases hu : isU d with
        | false => rfl
        | true => rw [hu] at this; cases this
      refine ⟨_, rfl, vs, hv10, szl (by omega), m - 1, by omega, by omega, same_put hD2 s10 _, vs ++ [.ref qd], upd_same, by rw [List.length_append]; show _ + 1 ≤ _; omega, ?_⟩
      rw [take_filter _ edd, c1]
      exact paired_app (hvs.mono (.put hv10)) (.cons (fd.mono (.put hv10)) .nil)
    · have c1 : isU d = true := by
        have : (!decide (V.str (dnm d) = V.str "undo")) = false := cc
        rw [dnm_undo] at this
        cases hu : isU d with
        | true => rfl
        | false => rw [hu] at this; cases this
      refine ⟨m - 1, by omega, by omega, s10, vs, hv10, by omega, ?_⟩
      rw [take_filter _ edd, c1]
      show DeedsAt _ _ (_ ++ [])
      rw [List.append_nil]
      exact hvs
  refine .inl ⟨⟨_, SqL.of h910, by omega⟩, ?_⟩
  rw [List.take_of_length_le (by omega)] at hvs
  generalize eB : (ds.drop c).filter (fun d => !isU d) = Bs at *
  have hBn : ∀ d ∈ Bs, isU d = false := fun d hd => by
    rw [← eB] at hd
    have := (List.mem_filter.mp hd).2
    simpa using this
  have lB : Bs.length ≤ ds.length - c := by
    rw [← eB]
    exact Nat.le_trans (List.length_filter_le _ _) (by rw [List.length_drop]; exact Nat.le_refl _)
  have lvs := paired_len hvs
  have s810 : Same H8 H10 := s89.trans s10
  refine ⟨l8, D2, ws.take c, vs, rfl, rfl, s810 _ _ h88, hv10, Nat.le_of_lt (szl (by omega)), fun l11 hl11 => ?_⟩
  have s11 := same_new hl11 (.lst (ws.take c ++ vs))
  have h11 : (upd H10 l11 (.lst (ws.take c ++ vs))) l11 = some (.lst (ws.take c ++ vs)) := upd_same
  have A10 := A9.same s10
  have n11 := A10.out hl11
  have A11 := A10.same s11
  have s911 := s10.trans s11
  have hvs11 := hvs.mono (.of s11)
  generalize upd H10 l11 (.lst (ws.take c ++ vs)) = H11 at *
  refine ⟨_, rfl, _, rfl, (c : Int), rfl, l11, _, rfl, SqL.of h11, fun l12 hl12 => ?_⟩
  rw [cut_from, List.drop_left' ltk]
  have s12' := same_new hl12 (.lst vs)
  have h12 : (upd H11 l12 (.lst vs)) l12 = some (.lst vs) := upd_same
  have n12 := A11.out hl12
  have A12 := A11.same s12'
  have s1112 : Same H11 (upd H11 l12 (.lst vs)) := s12'
  generalize upd H11 l12 (.lst vs) = H12 at *
  have s612 : Same H6 H12 := s68.trans (s89.trans (s911.trans s1112))
  have R12 := A12.rebase
  have gl12 := offM_some n12 h12
  have gl11 := offM_some n11 (s1112 _ _ h11)
  have gD := offM_some nD5 (s612 _ _ hD6)
  have hus12 : Paired (LstM (D :: a5.mu []) (offM H12 (a5.mu []))) us (p1.lb.map fun l => p1.bag l) := Paired.imp' (fun u b z => by
    obtain ⟨y, xs, qs, e, m, h1', h2', h3'⟩ := z.same s612
    have nt : Tups H12 (offM H12 (a5.mu [])) := fun b xs e => offM_some (fun z => by obtain ⟨o, eo, no⟩ := A12.there z; rw [e] at eo; exact no xs (Option.some.inj eo).symm) e
    exact ⟨y, xs, qs, e, m, offM_some (fun z => m (List.mem_cons_of_mem _ z)) h1', h2'.mono nt, h3'⟩) hus
  have hdl12 : DeedsAt (offM H12 (a5.mu [])) vs Bs := by
    have nt : Tups H12 (offM H12 (a5.mu [])) := fun b xs e => offM_some (fun z => by obtain ⟨o, eo, no⟩ := A12.there z; rw [e] at eo; exact no xs (Option.some.inj eo).symm) e
    exact (hvs11.mono (.of s1112)).mono nt
  have hdA12 : DeedsAt (offM H12 (a5.mu [])) ws ds := by
    have nt : Tups H12 (offM H12 (a5.mu [])) := fun b xs e => offM_some (fun z => by obtain ⟨o, eo, no⟩ := A12.there z; rw [e] at eo; exact no xs (Option.some.inj eo).symm) e
    exact (hds5.mono (.of (s6.trans s612))).mono nt
  generalize offM H12 (a5.mu []) = G1 at *
  have dlen : (ds.take c ++ Bs).length ≤ 62 := by rw [List.length_append, List.length_take]; omega
  have dtake : ∀ i, (ds.take c ++ Bs).take (c + i) = ds.take c ++ Bs.take i := fun i => by
    rw [List.take_append, List.length_take, Nat.min_eq_left hc, List.take_of_length_le (by rw [List.length_take]; omega), Nat.add_sub_cancel_left]
  have dst : ∀ i, stepsOf Hs.zero ((ds.take c ++ Bs).take (c + i)) = stepsOf h1 (Bs.take i) := fun i => by rw [dtake, stepsOf_app, eh1]
  refine ⟨l12, rfl, ⟨_, SqL.of h12⟩, for_list (K := K) (a := l12) (xs := vs) (fun i σ H' => ∃ k4 a' p', σ = [some (.ref q), some (.ref q2), some (.int c), some (.ref ap.d), k4, some (.ref D), k6, some (.int h1.past.length), some (.ref l11), none, none, none, none, none] ∧ a'.d = ap.d ∧ PLAt G1 H' a' [] (stepsOf h1 (Bs.take i)).puts p' ∧ RelC (stepsOf h1 (Bs.take i)).puts (stepsOf h1 (Bs.take i)).s (stepsOf h1 (Bs.take i)).past p' a'.ws)
    ⟨k4, a5, p1, rfl, ed, R12, rc⟩ (fun i σ H' _ ⟨_, _, _, _, _, A', _⟩ => SqL.of (A'.sm _ _ gl12)) ?_ ?_⟩
  · rintro i x σ H13 hi ⟨k4', a13, p13, rfl, ed13, A13, rc13⟩
    have hib : i < Bs.length := by have := get_lt hi; omega
    obtain ⟨y, ey, fy⟩ := paired_get hdl12 hi
    have ey' : y = Bs[i] := by rw [List.getElem?_eq_getElem hib] at ey; exact (Option.some.inj ey).symm
    subst ey'
    have pt := puts_at (ds.take c ++ Bs) (c + i)
    have fi := fine_at (ds := ds.take c ++ Bs) (by omega) (c + i)
    rw [dst] at pt fi
    refine ⟨_, rfl, _, rfl, G1, a13, _, x, Bs[i], p13, (by show [V.ref ap.d, x] = [V.ref a13.d, x]; rw [ed13]), fy.mono (.of A13.sm), A13, fi, by omega, rc13, fun v14 a14 p14 H14 ed14 A14 rc14 _ => ?_⟩
    refine ⟨_, a14, p14, rfl, ed14.trans ed13, ?_, ?_⟩
    · rw [List.take_succ_eq_append_getElem hib, steps_snoc]; exact A14
    · rw [List.take_succ_eq_append_getElem hib, steps_snoc]; exact rc14
  rintro σ H13 ⟨k4', a13, p2, rfl, ed13, A13, rc13⟩
  rw [lvs, List.take_of_length_le (Nat.le_refl _)] at A13 rc13
  obtain ⟨new, j, un⟩ := steps_und (h1 := h1) Bs k1 (Und.zero h1) hBn
  have hst : stepsOf Hs.zero (ds.take c ++ Bs) = stepsOf h1 Bs := by rw [stepsOf_app, eh1]
  have b2 := steps_bd Bd.zero (ds.take c ++ Bs)
  rw [hst] at b2
  generalize eh2 : stepsOf h1 Bs = h2 at *
  have b2n : h2.s.ab.length ≤ 62 := Nat.le_trans b2.n (by omega)
  have b2c : h2.past.length ≤ 62 := Nat.le_trans b2.c (by omega)
  have lnew : new.length + h1.past.length = h2.past.length := by rw [un.past, List.length_append]
  have gP13 : DGet H13 ap.d (.str "past") (some (.ref a13.aP)) := by rw [← ed13]; exact A13.gP
  obtain ⟨vp2, hpa13, hpt13⟩ := A13.pa
  have hwd : (a13.ss.reverse.drop h1.past.length).map (fun s => s.w) = new.reverse.map fun ch => ch.w := by
    have e1 := rc13.words
    unfold PA.ws at e1
    rw [List.map_map, un.past] at e1
    have e2 : a13.ss.map (fun s => s.w) = (new ++ h1.past).map fun ch => ch.w := e1
    rw [List.map_drop, List.map_reverse, e2, List.map_append, List.reverse_append, List.drop_left' (by rw [List.length_reverse, List.length_map]), List.map_reverse]
  refine ⟨_, rfl, ap.d, _, rfl, gP13, _, rfl, (h1.past.length : Int), rfl, a13.aP, _, rfl, SqL.of hpa13, fun l14 hl14 => ?_⟩
  rw [cut_from]
  have s14 := same_new hl14 (.lst (vp2.drop h1.past.length))
  have h14 : (upd H13 l14 (.lst (vp2.drop h1.past.length))) l14 = some (.lst (vp2.drop h1.past.length)) := upd_same
  have A14 := A13.same s14
  have hpt14 := tps_mono (.of s14) hpt13
  generalize upd H13 l14 (.lst (vp2.drop h1.past.length)) = H14 at *
  have lvp2 := paired_len hpt13
  rw [List.length_reverse] at lvp2
  have lss : a13.ss.length = h2.past.length := by have := rc13.len; unfold PA.ws at this; rw [List.length_map] at this; omega
  refine ⟨l14, rfl, ⟨_, SqL.of h14⟩, fun W hW => ?_⟩
  refine ⟨fun i m H' => i + m = new.length ∧ Same H14 H' ∧ H' W = some (.lst (((a13.ss.reverse.drop h1.past.length).take i).map fun s => V.str (wdS s.w))), ⟨new.length, by omega, same_new hW _, upd_same⟩, ?_⟩
  rintro i m H15 ⟨him2, s15, hW15⟩
  have h1415 := s15 _ _ h14
  by_cases hi2 : i < new.length
  · have hlt : i < (vp2.drop h1.past.length).length := by rw [List.length_drop]; omega
    refine .inr ⟨⟨_, _, SqL.of h1415, List.getElem?_eq_getElem hlt⟩, fun x H16 z => ?_⟩
    obtain ⟨rfl, hx⟩ := z
    have hx := hx _ (SqL.of h1415)
    rw [List.getElem?_drop] at hx
    obtain ⟨sp, esp, fsp⟩ := paired_get (tps_mono (.of s15) hpt14) hx
    rw [← List.getElem?_drop] at esp
    obtain ⟨qt, rfl, hqt⟩ := fsp
    refine ⟨Keeps.one _ _, ?_⟩
    refine ⟨_, rfl, qt, _, _, _, rfl, rfl, SqT.of hqt, rfl, _, hW15, szl (by rw [List.length_map, List.length_take]; omega), m - 1, by omega, by omega, same_put hW s15 _, ?_⟩
    have hsl := get_lt esp
    have es : (a13.ss.reverse.drop h1.past.length)[i] = sp := by rw [List.getElem?_eq_getElem hsl] at esp; exact Option.some.inj esp
    rw [upd_same, List.take_succ_eq_append_getElem hsl, List.map_append, es]
    rfl
  refine .inl ⟨⟨_, SqL.of h1415, by rw [List.length_drop]; omega⟩, ?_⟩
  have hWf : H15 W = some (.lst ((new.reverse.map fun ch => ch.w).map fun x => V.str (wdS x))) := by
    rw [hW15, List.take_of_length_le (by rw [List.length_drop, List.length_reverse]; omega), ← hwd, List.map_map]; rfl
  have s1315 : Same H13 H15 := s14.trans s15
  have A15 := A13.same s1315
  have gL15 : DGet H15 ap.d (.str "labels") (some (.ref a13.aL)) := by rw [← ed13]; exact A15.gL
  have hD15 := s1315 _ _ (A13.sm _ _ gD)
  have r2 := rc13.r0
  have ll2 := labV_len p2.lb
  have lus := paired_len hus12
  rw [List.length_map] at lus
  have ln1 := r0.ln
  have ln2 := r2.ln
  have uab := un.ab
  refine ⟨_, rfl, D, _, rfl, .inl (SqL.of hD15), _, rfl, ap.d, _, rfl, gL15, a13.aL, _, rfl, .inl (SqL.of A15.sn.1), _, _, rfl, ⟨by omega, by omega, by omega, by omega⟩, ?_⟩
  have en : (((labV p2.lb).length : Nat) : Int) - ((us.length : Nat) : Int) = (j : Int) := by omega
  rw [en, Int.toNat_natCast]
  have sG15 : Same G1 H15 := A13.sm.trans s1315
  refine for_range (n := j) (fun i σ H' => ∃ k10 us', σ = [some (.ref q), some (.ref q2), some (.int c), some (.ref ap.d), k4', some (.ref D), k6, some (.int h1.past.length), some (.ref l11), some (.ref W), k10, none, none, none] ∧ (∀ b o, H15 b = some o → b ≠ D → H' b = some o) ∧ H' D = some (.lst us') ∧ Paired (LstM [D] H') us' ((p1.lb.map fun l => p1.bag l) ++ List.replicate i []))
    ⟨none, us, rfl, fun b o e _ => e, hD15, (by
      rw [List.replicate_zero, List.append_nil]
      exact Paired.imp' (fun u b z => by
        obtain ⟨y, xs, qs, e, m, h1', h2', h3'⟩ := z.same sG15
        exact ⟨y, xs, qs, e, fun z => m (List.mem_cons.mpr (.inl (List.mem_singleton.mp z))), h1', h2', h3'⟩) hus12)⟩ ?_ ?_
  · rintro i σ H16 hi16 ⟨k10, us', rfl, f16, hD16, hus16⟩
    have l16 := paired_len hus16
    rw [List.length_append, List.length_map, List.length_replicate] at l16
    refine ⟨_, rfl, .inl ⟨rfl, _, SqL.of hD16⟩, (by show 0 ≤ sizeLine; decide), fun e he => ?_⟩
    have s17 := same_new he (.lst [])
    have hD17 := s17 _ _ hD16
    refine ⟨D, _, _, rfl, rfl, hD17, szl (by omega), ?_⟩
    refine ⟨_, us' ++ [.ref e], rfl, fun b o eb nb => by rw [upd_ne nb]; exact s17 _ _ (f16 b o eb nb), upd_same, ?_⟩
    rw [List.replicate_succ', ← List.append_assoc]
    have ne : e ∉ [D] := fun z => by rw [List.mem_singleton.mp z, hD16] at he; cases he
    exact paired_app (Paired.imp' (fun u b z => LstM.put List.mem_cons_self hD17 (z.same s17)) hus16) (.cons (LstM.put List.mem_cons_self hD17 ⟨e, [], [], rfl, ne, upd_same, .nil, List.Perm.refl _, List.Pairwise.nil⟩) .nil)
  rintro σ H16 ⟨k10, us', rfl, f16, hD16, hus16⟩
  have l16 := paired_len hus16
  rw [List.length_append, List.length_map, List.length_replicate] at l16
  have neD : ∀ {b : Addr} {o : HO}, H15 b = some o → b ≠ D → H16 b = some o := fun e n => f16 _ _ e n
  have t16 : Tups H15 H16 := fun b xs e => f16 b _ e (fun z => by rw [z, hD15] at e; cases e)
  have nDW : W ≠ D := fun z => by
    have : H14 D = some _ := s14 _ _ (A13.sm _ _ gD)
    rw [z, this] at hW; cases hW
  have hW16 := neD hWf nDW
  have n11D : l11 ≠ D := fun z => by
    have e := (s68.trans (s89.trans s10)) _ _ hD6
    rw [← z, hl11] at e; cases e
  have hl16 : H16 l11 = some (.lst (ws.take c ++ vs)) := neD (sG15 _ _ gl11) n11D
  refine ⟨_, rfl, (by show 1 ≤ sizeLine; decide), fun t ht => ⟨(by show 1 ≤ sizeLine; decide), fun l17 hl17 => ?_⟩⟩
  have st17 := same_new ht (.tup [.str "undo"])
  have sl17 := same_new hl17 (.lst [.ref t])
  have s1617 := st17.trans sl17
  have lW : ((new.reverse.map fun ch => ch.w).map fun x => V.str (wdS x)).length = new.length := by rw [List.length_map, List.length_map, List.length_reverse]
  refine ⟨_, rfl, W, _, rfl, .inl (SqL.of (s1617 _ _ hW16)), l17, _, _, rfl, rfl, upd_same, by omega, by omega, ?_, fun l18 hl18 => ?_⟩
  · rw [lW, Int.toNat_natCast]
    exact Nat.le_of_lt (szl (by show 1 * new.length ≤ 1000; omega))
  rw [lW, Int.toNat_natCast, rep_one]
  have s18 := same_new hl18 (.lst (List.replicate new.length (V.ref t)))
  have s1618 := s1617.trans s18
  have h18 : (upd (upd (upd H16 t (.tup [.str "undo"])) l17 (.lst [.ref t])) l18 (.lst (List.replicate new.length (V.ref t)))) l18 = some (.lst (List.replicate new.length (V.ref t))) := upd_same
  have ht18 : (upd (upd (upd H16 t (.tup [.str "undo"])) l17 (.lst [.ref t])) l18 (.lst (List.replicate new.length (V.ref t)))) t = some (.tup [.str "undo"]) := s18 _ _ (sl17 _ _ upd_same)
  generalize upd (upd (upd H16 t (.tup [.str "undo"])) l17 (.lst [.ref t])) l18 (.lst (List.replicate new.length (V.ref t))) = H18 at *
  refine ⟨l11, l18, ws.take c ++ vs, _, rfl, rfl, s1618 _ _ hl16, h18, Nat.le_of_lt (szl (by rw [List.length_append, List.length_replicate]; omega)), fun l19 hl19 => ?_⟩
  have s19 := same_new hl19 (.lst ((ws.take c ++ vs) ++ List.replicate new.length (V.ref t)))
  have h19 : (upd H18 l19 (.lst ((ws.take c ++ vs) ++ List.replicate new.length (V.ref t)))) l19 = some (.lst ((ws.take c ++ vs) ++ List.replicate new.length (V.ref t))) := upd_same
  have hdl : DeedsAt (upd H18 l19 (.lst ((ws.take c ++ vs) ++ List.replicate new.length (V.ref t)))) ((ws.take c ++ vs) ++ List.replicate new.length (V.ref t)) ((ds.take c ++ Bs) ++ List.replicate new.length .undo) := by
    have tG : Tups G1 (upd H18 l19 (.lst ((ws.take c ++ vs) ++ List.replicate new.length (V.ref t)))) := fun b xs e => (s1618.trans s19) _ _ (t16 b xs (sG15 _ _ e))
    exact paired_app (paired_app (paired_take c (hdA12.mono tG)) (hdl12.mono tG)) (deeds_undos (s19 _ _ ht18) new.length)
  have hD19 := (s1618.trans s19) _ _ hD16
  have hW19 := (s1618.trans s19) _ _ hW16
  have hus19 : Paired (LstM [D] (upd H18 l19 (.lst ((ws.take c ++ vs) ++ List.replicate new.length (V.ref t))))) us' ((p1.lb.map fun l => p1.bag l) ++ List.replicate j []) := Paired.imp' (fun u b z => z.same (s1618.trans s19)) hus16
  generalize upd H18 l19 (.lst ((ws.take c ++ vs) ++ List.replicate new.length (V.ref t))) = H19 at *
  have lwl : ((ws.take c ++ vs) ++ List.replicate new.length (V.ref t)).length = (ds.take c ++ Bs).length + new.length := by
    rw [List.length_append, List.length_append, List.length_append, List.length_replicate, ltk, List.length_take, Nat.min_eq_left hc]; omega
  obtain ⟨us1, us2⟩ := undos new (h := h2) (r := h1.past) un.past
  have hfin : stepsOf Hs.zero ((ds.take c ++ Bs) ++ List.replicate new.length .undo) = { h2 with s := undoL h2.s new, past := h1.past } := by rw [stepsOf_app, hst]; exact us1
  have houts : outsOf Hs.zero ((ds.take c ++ Bs) ++ List.replicate new.length .undo) = outsOf Hs.zero (ds.take c ++ Bs) ++ new.map fun ch => (Ans.wd ch.w, (0, 0)) := by rw [outsOf_app, hst, us2]
  have dok : DsOk ((ds.take c ++ Bs) ++ List.replicate new.length .undo) := DsOk.of (by rw [List.length_append, List.length_replicate]; omega) (by rw [nU_app, nU_undos]; have := nU_le (ds.take c ++ Bs); omega)
  generalize (ds.take c ++ Bs) ++ List.replicate new.length .undo = dl at *
  generalize (ws.take c ++ vs) ++ List.replicate new.length (V.ref t) = wl at *
  refine ⟨_, rfl, l19, _, rfl, .inl (SqL.of h19), fun l20 hl20 => ?_⟩
  have s20 := same_new hl20 (.lst wl)
  refine ⟨l20, wl, dl, rfl, upd_same, hdl.mono (.of s20), dok, fun qf uf H21 fq21 s21 hqf huf => ?_⟩
  have s1921 := s20.trans s21
  have h1921 := s1921 _ _ h19
  refine ⟨_, rfl, l19, _, rfl, .inl (SqL.of h1921), fun l22 hl22 => ?_⟩
  have s22 := same_new hl22 (.lst wl)
  refine ⟨l22, wl, dl, rfl, upd_same, (hdl.mono (.of s1921)).mono (.of s22), dok, fun qt ut H23 fq23 s23 hqt hut => ?_⟩
  have s2123 := s22.trans s23
  have s1923 := s1921.trans s2123
  have hqf23 := s2123 _ _ hqf
  have huf23 : Paired (ThgAt H23) uf (pilesOf (stepsOf Hs.zero dl)) := Paired.imp' (fun _ _ z => z.same s2123) huf
  rw [hfin] at huf23
  rw [houts, List.map_append, List.map_map] at hut
  have hD23 := s1923 _ _ hD19
  have hW23 := s1923 _ _ hW19
  have h1923 := s1923 _ _ h19
  have hus23 : Paired (LstM [D] H23) us' ((p1.lb.map fun l => p1.bag l) ++ List.replicate j []) := Paired.imp' (fun _ _ z => z.same s1923) hus19
  have luf := paired_len huf23
  have lpo : (pilesOf { h2 with s := undoL h2.s new, past := h1.past }).length = h1.s.ab.length + j := by
    unfold pilesOf headsOf
    rw [List.length_map, List.length_map, List.length_range, u_ab un]
  have lut := paired_len hut
  rw [List.length_append, List.length_map, List.length_map, outsOf_len] at lut
  refine ⟨_, rfl, _, _, _, _, rfl, TyOf.lst hqf23, kit_ll K, _, rfl, iteF ?_⟩
  refine ⟨_, rfl, qf, _, rfl, .inl (SqL.of hqf23), _, rfl, D, _, rfl, .inl (SqL.of hD23), rfl, _, rfl, ?_⟩
  have e2 : uf.length = us'.length := by omega
  rw [e2]
  refine iteNS rfl ?_
  refine ⟨_, rfl, D, _, rfl, .inl (SqL.of hD23), _, rfl, by omega, by omega, ?_⟩
  have en2 : ((us'.length : Nat) : Int).toNat = h1.s.ab.length + j := by omega
  rw [en2]
  refine for_range (n := h1.s.ab.length + j) (fun i σ H' => ∃ k10, σ = [some (.ref q), some (.ref q2), some (.int c), some (.ref ap.d), k4', some (.ref D), k6, some (.int h1.past.length), some (.ref l19), some (.ref W), k10, some (.ref qf), some (.ref qt), none] ∧ H' = H23) ⟨_, rfl, rfl⟩ ?_ ?_
  · rintro g σ H24 hg ⟨k10', rfl, rfl⟩
    obtain ⟨tt, bb, et, eb, hpm⟩ := und_pile k1 un r0 hg
    obtain ⟨x, ex, yx, xx, px, rfl, hx1, hx2, hx3, hx4⟩ := paired_get' huf23 et
    obtain ⟨z, ez, yz, xz, pz, rfl, _, hz1, hz2, hz3, hz4⟩ := paired_get' hus23 eb
    have e0 : ((0 : Int) + (g : Int)) = (g : Int) := by omega
    have epq : px = pz := sorted2_same (hx3.trans (hpm.symm.trans hz3.symm)) hx4 hz4
    subst epq
    have lpx : px.length ≤ 100 := by
      rw [hz3.length_eq]
      exact bag_short eb r0 k1 b1p
    rw [e0]
    refine ⟨_, rfl, _, rfl, qf, _, _, _, rfl, rfl, SqL.of hqf23, atI_nat ex, _, rfl, _, rfl, D, _, _, _, rfl, rfl, SqL.of hD23, atI_nat ez, yx, yz, xx, xz, px, px, rfl, hx1, hz1, hx2, hz2, lpx, lpx, _, rfl, ?_⟩
    rw [decide_eq_true rfl]
    refine iteF ?_
    exact ⟨_, rfl, rfl⟩
  rintro σ H24 ⟨k10', rfl, rfl⟩
  refine ⟨_, rfl, _, _, _, _, rfl, TyOf.lst hqt, kit_ll K, _, rfl, iteF ?_⟩
  refine ⟨_, rfl, qt, _, rfl, .inl (SqL.of hqt), _, rfl, l19, _, rfl, .inl (SqL.of h1923), rfl, _, rfl, ?_⟩
  have e3 : ut.length = wl.length := by omega
  rw [e3]
  refine iteNS rfl ?_
  refine ⟨_, rfl, W, _, rfl, .inl (SqL.of hW23), _, rfl, by omega, by omega, ?_⟩
  have en3 : ((((new.reverse.map fun ch => ch.w).map fun x => V.str (wdS x)).length : Nat) : Int).toNat = new.length := by rw [lW]; omega
  rw [en3]
  refine for_range (n := new.length) (fun i σ H' => ∃ k13, σ = [some (.ref q), some (.ref q2), some (.int c), some (.ref ap.d), k4', some (.ref D), k6, some (.int h1.past.length), some (.ref l19), some (.ref W), k10', some (.ref qf), some (.ref qt), k13] ∧ Same H24 H') ⟨none, rfl, .refl _⟩ ?_ ?_
  · rintro i σ H25 hi25 ⟨k13, rfl, s25'⟩
    have e0 : ((0 : Int) + (i : Int)) = (i : Int) := by omega
    have eo : ((outsOf Hs.zero (ds.take c ++ Bs)).map (fun x => x.1) ++ new.map ((fun x => x.1) ∘ fun ch => (Ans.wd ch.w, ((0 : Nat), (0 : Nat)))))[ut.length - 1 - i]? = some (.wd (new[new.length - 1 - i]'(by omega)).w) := by
      rw [List.getElem?_append_right (by rw [List.length_map, outsOf_len]; omega), List.getElem?_map, List.length_map, outsOf_len, show ut.length - 1 - i - (ds.take c ++ Bs).length = new.length - 1 - i by omega, List.getElem?_eq_getElem (by omega)]
      rfl
    obtain ⟨x, ex, fx⟩ := paired_get' hut eo
    have ew : ((new.reverse.map fun ch => ch.w).map fun x => V.str (wdS x))[i]? = some (V.str (wdS (new[new.length - 1 - i]'(by omega)).w)) := by
      rw [List.getElem?_map, List.getElem?_map, List.getElem?_reverse hi25, List.getElem?_eq_getElem (by omega)]; rfl
    have ax : atI ut ((((ut.length : Nat) : Int) - 1) - (i : Int)) = some x := by
      rw [show (((ut.length : Nat) : Int) - 1) - (i : Int) = ((ut.length - 1 - i : Nat) : Int) by omega]
      exact atI_nat ex
    rw [e0]
    have hqt25 := s25' _ _ hqt
    refine ⟨_, rfl, _, rfl, qt, _, rfl, .inl (SqL.of hqt25), _, _, rfl, rfl, _, rfl, _, _, rfl, rfl, qt, _, _, _, rfl, rfl, SqL.of hqt25, ax, _, rfl, _, rfl, W, _, _, _, rfl, rfl, SqL.of (s25' _ _ hW23), atI_nat ew, x, _, .wd (new[new.length - 1 - i]'(by omega)).w, rfl, fx.mono (.of s25'), rfl, fun H26 s26 => ⟨_, rfl, iteF ?_⟩⟩
    exact ⟨_, rfl, s25'.trans s26⟩
  rintro σ H25 ⟨k13, rfl, s25'⟩
  exact k _
end
theorem fin {l : PySem.W.OpenLaw} {w : World} {K : PySem.W.Frag} {mg : Str → Option Value} {fa CG CH nw : Addr} (N : Nums mg) (NH : NumsH K mg nw) (B : Bare mg) (B3 : Bare3 mg) (PG : Pack_Groups K mg CG) (PH : Pack_Hall K mg CH) (hfa : mg "law" = some (.ref fa))
    (o0 : Own K mg "thing_on" s_thing_on) (o1 : Own K mg "reach_of" s_reach_of) (o2 : Own K mg "held_of" s_held_of) (o3 : Own K mg "comes_ahead" s_comes_ahead) (o4 : Own K mg "topped" s_topped) (o5 : Own K mg "leaning" s_leaning) (o6 : Own K mg "single" s_single) (o7 : Own K mg "joined" s_joined) (o8 : Own K mg "taken" s_taken) (o9 : Own K mg "emptied" s_emptied) (o10 : Own K mg "groups_named" s_groups_named) (o11 : Own K mg "done" s_done) (o12 : Own K mg "outcomes" s_outcomes) (o13 : Own K mg "answers" s_answers) (o14 : Own K mg "hall_behind" s_hall_behind) (o15 : Own K mg "contents" s_contents) (o16 : Own K mg "_law_whole" s_law_whole) (o17 : Own K mg "_law_at" s_law_at) (o18 : Own K mg "_law_pairs_are" s_law_pairs_are) (o19 : Own K mg "_law_told_so" s_law_told_so) (o20 : Own K mg "_law_deeds" s_law_deeds) (o21 : Own K mg "_law_start" s_law_start) (o22 : Own K mg "_law_change" s_law_change) (o23 : Own K mg "_law_back" s_law_back) (o24 : Own K mg "_law_joining" s_law_joining) (o25 : Own K mg "_law_on_pile" s_law_on_pile) (o26 : Own K mg "_law_plainly" s_law_plainly) (o27 : Own K mg "_law_mixed" s_law_mixed) (o28 : Own K mg "law" s_law) :
    ∃ fd : FuncData, (∀ (s : Shared) (v : Value), BindsTo s fd ⟨[v], []⟩ [("_law_script", v)]) ∧ ∀ base : Heap, K.In base → base.Ns mainGlobals mg → FnOk l.prog w K mg base CX0 11 fa fd ["_law_script"] (spLaw K) := by
  obtain ⟨f, fd, F, m⟩ := o28
  have e := hfa.symm.trans m
  cases e
  refine ⟨fd, ?_, fun base _ _ => ?_⟩
  · obtain ⟨oc, od, kV, doc, pm, an, cdv, ct, osl, rfl, _, _⟩ := F.ex
    exact fun s v => .of_eq rfl
  · have g0 := ok_thing (P := l.prog) (w := w) (base := base) o0 N
    have g1 := ok_reach (P := l.prog) (w := w) (base := base) o1 N
    have g2 := ok_held (P := l.prog) (w := w) (base := base) o2 N
    have g3 := ok_ahead o3 g0
    have g4 := ok_topped o4 N g1 g2
    have g5 := ok_leaning o5 g1 g4
    have g6 := ok_single o6 g4
    have g7 := ok_joined o7 N B g0 g3 g5
    have g8 := ok_taken o8 N g0 g7
    have g9 := ok_emptied o9 g8
    have iG := ok_ginit (P := l.prog) (w := w) (base := base) PG.i PG.tx
    have gadd := ok_gadd (P := l.prog) (w := w) (base := base) PG.m_add_group PG.tx B
    have ghas := ok_ghas (P := l.prog) (w := w) (base := base) PG.m_has PG.tx B
    have gway := ok_gway (P := l.prog) (w := w) (mg := mg) (base := base) PG.m_way_up PG.tx
    have glay := ok_glay (P := l.prog) (w := w) (mg := mg) (base := base) PG.m_lay PG.tx
    have gpart := ok_gpart (P := l.prog) (w := w) (mg := mg) (base := base) PG.m_part PG.tx
    have gheads := ok_gheads PG.m_heads PG.tx B NH gway
    have iH := ok_hinit PH.i PH.tx iG
    have hhas := ok_hhas PH.m_has PH.tx ghas
    have hopen := ok_hopen PH.m_add_group PH.tx NH gadd
    have hchg := ok_hchange (P := l.prog) (w := w) (mg := mg) (base := base) (CG := CG) PH.m_change PH.tx
    have hput := ok_hput PH.m_put PH.tx NH gway hchg g7 g6
    have htake := ok_htake PH.m_take PH.tx NH gway hchg g8
    have hleast := ok_hleast PH.m_least PH.tx NH gway g0
    have hsame := ok_hsame PH.m_are_one PH.tx NH gway
    have hjoin := ok_hjoin PH.m_unite PH.tx PG.tx NH gway glay hchg g7
    have hundo := ok_hundo PH.m_undo PH.tx NH gpart
    have g10 := ok_named (P := l.prog) (w := w) (base := base) o10
    have g11 := ok_done o11 PH.tx B NH g10 hhas hopen hput htake hleast hjoin hsame hundo
    have g12 := ok_outs o12 g11
    have g13 := ok_answers o13 iH g12
    have g14 := ok_behind o14 iH g12
    have g15 := ok_contents o15 PH.tx B B3 g14 gheads g9
    have g16 := ok_whole (P := l.prog) (w := w) (base := base) o16 B
    have g17 := ok_at (P := l.prog) (w := w) (base := base) o17 B
    have g20 := ok_pairsare o18 B g16
    have g19 := ok_told o19 B g16 g20
    have g21 := ok_deeds (P := l.prog) (w := w) (base := base) o20 B
    have g22 := ok_start (P := l.prog) (w := w) (mg := mg) (base := base) o21
    have g23 := ok_change (P := l.prog) (w := w) (base := base) o22 B
    have g24 := ok_back (P := l.prog) (w := w) (base := base) o23 B
    have g25 := ok_joining o24 B g23
    have g26 := ok_onpile o25 B ⟨B3.min⟩ g23
    have g27 := ok_plainly o26 B g24 g25 g26
    have g28 := ok_mixed (P := l.prog) (w := w) (base := base) o27 B
    exact ok_law F B g28 g21 g17 g22 g27 g15 g13 g20 g19
theorem walk {l : PySem.W.OpenLaw} {q : Program} {loose : List Str} {XP : (Str → Option Value) → Heap → Prop} {YP : World → Heap → Prop} {d : DefRec} {K : Params → PySem.W.Frag} (hn : l.most = some 63) (hdf : d.params.defaults = [])
    (hY : ∀ (w : World) (h : Heap), YP w h → (K w.params).In h)
    (F : ∀ (w : World) (mg : Str → Option Value) (fa : Addr) (h : Heap), (K w.params).In h → h.Ns mainGlobals mg → mg d.name = some (.ref fa) →
      ∃ fd : FuncData, (∀ (s : Shared) (u : Value), BindsTo s fd ⟨[u], []⟩ [("_law_script", u)]) ∧ ∀ base : Heap, (K w.params).In base → base.Ns mainGlobals mg → FnOk l.prog w (K w.params) mg base CX0 11 fa fd ["_law_script"] (spLaw (K w.params))) :
    PySem.W.WalkO q loose XP YP l.row.toRowW d [] (fun f vs => PySem.call f vs) :=
  L2.walk_of (n := 63) (k := 11) (x := "_law_script") (CX := fun _ => CX0) (sp := fun w => spLaw (K w.params)) hn (by decide) hdf ⟨rfl, by decide, by decide⟩ hY F (fun _ _ a ns hl _ hS => ⟨a, ns, rfl, hS, hl, fun _ => rfl⟩) fun _ _ _ _ _ z => z
section
variable {K : PySem.W.Frag} {mg : Str → Option Value}
theorem int_mk {h : Heap} {x : Str} {i : Int} {t : Tok} (X : K.In h) (G : h.Ns mainGlobals mg) (a : PySem.W.nsIn K mainGlobals x = some (some (.int i t))) : IntAt mg x i := ⟨t, PySem.W.mg_of X G a⟩
theorem bare_mk {h : Heap} {x : Str} (X : K.In h) (G : h.Ns mainGlobals mg) (a : PySem.W.nsIn K mainGlobals x = some none) : mg x = none := PySem.W.mg_none_of X G a
end
end Ph
open PySem PySem.W PyProof.Rows
set_option maxRecDepth 100000 in
set_option maxHeartbeats 0 in
theorem PySem.Challenge.cw_pilehall_k09_whole_undone_holds : PySem.Challenge.rw_pilehall_k09_whole_undone.Holds := by
  w_on; o_law; k_head; (case hw => w_witness2)
  k_fill
  refine Ph.walk (l := PySem.Challenge.rw_pilehall_k09_whole_undone) rfl rfl (fun w h Y => PySem.W.kIn_of Y) ?F
  case F =>
    intro w mg fa h KX G hmg
    have n0 : Ph.IntAt mg "RANK" 0 := by
      refine' Ph.int_mk KX G ?a
      (case a => k_is)
    have n1 : Ph.IntAt mg "AGE" 1 := by
      refine' Ph.int_mk KX G ?a
      (case a => k_is)
    have n2 : Ph.IntAt mg "LEFT" 2 := by
      refine' Ph.int_mk KX G ?a
      (case a => k_is)
    have n3 : Ph.IntAt mg "RIGHT" 3 := by
      refine' Ph.int_mk KX G ?a
      (case a => k_is)
    have n4 : Ph.IntAt mg "REACH" 4 := by
      refine' Ph.int_mk KX G ?a
      (case a => k_is)
    have n5 : Ph.IntAt mg "HELD" 5 := by
      refine' Ph.int_mk KX G ?a
      (case a => k_is)
    have n6 : Ph.IntAt mg "HEAD" 0 := by
      refine' Ph.int_mk KX G ?a
      (case a => k_is)
    have n7 : Ph.IntAt mg "STEPS" 1 := by
      refine' Ph.int_mk KX G ?a
      (case a => k_is)
    have n8 : Ph.IntAt mg "WORD" 0 := by
      refine' Ph.int_mk KX G ?a
      (case a => k_is)
    have n9 : Ph.IntAt mg "WHOSE" 1 := by
      refine' Ph.int_mk KX G ?a
      (case a => k_is)
    have n10 : Ph.IntAt mg "OLD_PILE" 2 := by
      refine' Ph.int_mk KX G ?a
      (case a => k_is)
    have n11 : Ph.IntAt mg "LAID" 3 := by
      refine' Ph.int_mk KX G ?a
      (case a => k_is)
    have b0 : mg "len" = none := by
      refine' Ph.bare_mk KX G ?a
      (case a => k_is)
    have b1 : mg "range" = none := by
      refine' Ph.bare_mk KX G ?a
      (case a => k_is)
    have b2 : mg "reversed" = none := by
      refine' Ph.bare_mk KX G ?a
      (case a => k_is)
    have b3 : mg "sorted" = none := by
      refine' Ph.bare_mk KX G ?a
      (case a => k_is)
    have b4 : mg "isinstance" = none := by
      refine' Ph.bare_mk KX G ?a
      (case a => k_is)
    have b5 : mg "int" = none := by
      refine' Ph.bare_mk KX G ?a
      (case a => k_is)
    have b6 : mg "bool" = none := by
      refine' Ph.bare_mk KX G ?a
      (case a => k_is)
    have b7 : mg "list" = none := by
      refine' Ph.bare_mk KX G ?a
      (case a => k_is)
    have b8 : mg "tuple" = none := by
      refine' Ph.bare_mk KX G ?a
      (case a => k_is)
    have b9 : mg "str" = none := by
      refine' Ph.bare_mk KX G ?a
      (case a => k_is)
    have b10 : mg "max" = none := by
      refine' Ph.bare_mk KX G ?a
      (case a => k_is)
    have b11 : mg "any" = none := by
      refine' Ph.bare_mk KX G ?a
      (case a => k_is)
    have b12 : mg "all" = none := by
      refine' Ph.bare_mk KX G ?a
      (case a => k_is)
    have b13 : mg "sum" = none := by
      refine' Ph.bare_mk KX G ?a
      (case a => k_is)
    have b14 : mg "min" = none := by
      refine' Ph.bare_mk KX G ?a
      (case a => k_is)
    have b15 : mg "set" = none := by
      refine' Ph.bare_mk KX G ?a
      (case a => k_is)
    have nw : ∃ nw, Ph.NoWork (L2.KOf KX) mg "NO_WORK" nw := by
      dsimp only [L2.KOf]
      refine' Ph.nowork_mk KX G ?a ?l
      (case a => k_is); (case l => k_is)
    have PG : ∃ C, Ph.Pack_Groups (L2.KOf KX) mg C := by
      dsimp only [L2.KOf]
      refine' Ph.pack_Groups KX G ?aC ?pg ?hd ?po ?sa ?mk ?kc ?n0 ?n1 ?a0 ?i0 ?l0 ?c0 ?k0 ?a1 ?i1 ?l1 ?c1 ?k1 ?a2 ?i2 ?l2 ?c2 ?k2 ?a3 ?i3 ?l3 ?c3 ?k3 ?a4 ?i4 ?l4 ?c4 ?k4 ?a5 ?i5 ?l5 ?c5 ?k5 ?a6 ?i6 ?l6 ?c6 ?k6
      (case aC => k_is)
      (case pg => k_is)
      (case hd => k_is)
      (case po => k_is)
      (case sa => k_is)
      (case mk => k_is)
      (case kc => k_is)
      (case n0 => k_is)
      (case n1 => k_is)
      (case a0 => k_is)
      (case i0 => k_is)
      (case l0 => k_is)
      (case c0 => k_is)
      (case k0 => k_is)
      (case a1 => k_is)
      (case i1 => k_is)
      (case l1 => k_is)
      (case c1 => k_is)
      (case k1 => k_is)
      (case a2 => k_is)
      (case i2 => k_is)
      (case l2 => k_is)
      (case c2 => k_is)
      (case k2 => k_is)
      (case a3 => k_is)
      (case i3 => k_is)
      (case l3 => k_is)
      (case c3 => k_is)
      (case k3 => k_is)
      (case a4 => k_is)
      (case i4 => k_is)
      (case l4 => k_is)
      (case c4 => k_is)
      (case k4 => k_is)
      (case a5 => k_is)
      (case i5 => k_is)
      (case l5 => k_is)
      (case c5 => k_is)
      (case k5 => k_is)
      (case a6 => k_is)
      (case i6 => k_is)
      (case l6 => k_is)
      (case c6 => k_is)
      (case k6 => k_is)
    have PH : ∃ C, Ph.Pack_Hall (L2.KOf KX) mg C := by
      dsimp only [L2.KOf]
      refine' Ph.pack_Hall KX G ?aC ?pg ?hd ?po ?sa ?mk ?kc ?n0 ?n1 ?n2 ?n3 ?a0 ?i0 ?l0 ?c0 ?k0 ?a1 ?i1 ?l1 ?c1 ?k1 ?a2 ?i2 ?l2 ?c2 ?k2 ?a3 ?i3 ?l3 ?c3 ?k3 ?a4 ?i4 ?l4 ?c4 ?k4 ?a5 ?i5 ?l5 ?c5 ?k5 ?a6 ?i6 ?l6 ?c6 ?k6 ?a7 ?i7 ?l7 ?c7 ?k7 ?a8 ?i8 ?l8 ?c8 ?k8 ?a9 ?i9 ?l9 ?c9 ?k9
      (case aC => k_is)
      (case pg => k_is)
      (case hd => k_is)
      (case po => k_is)
      (case sa => k_is)
      (case mk => k_is)
      (case kc => k_is)
      (case n0 => k_is)
      (case n1 => k_is)
      (case n2 => k_is)
      (case n3 => k_is)
      (case a0 => k_is)
      (case i0 => k_is)
      (case l0 => k_is)
      (case c0 => k_is)
      (case k0 => k_is)
      (case a1 => k_is)
      (case i1 => k_is)
      (case l1 => k_is)
      (case c1 => k_is)
      (case k1 => k_is)
      (case a2 => k_is)
      (case i2 => k_is)
      (case l2 => k_is)
      (case c2 => k_is)
      (case k2 => k_is)
      (case a3 => k_is)
      (case i3 => k_is)
      (case l3 => k_is)
      (case c3 => k_is)
      (case k3 => k_is)
      (case a4 => k_is)
      (case i4 => k_is)
      (case l4 => k_is)
      (case c4 => k_is)
      (case k4 => k_is)
      (case a5 => k_is)
      (case i5 => k_is)
      (case l5 => k_is)
      (case c5 => k_is)
      (case k5 => k_is)
      (case a6 => k_is)
      (case i6 => k_is)
      (case l6 => k_is)
      (case c6 => k_is)
      (case k6 => k_is)
      (case a7 => k_is)
      (case i7 => k_is)
      (case l7 => k_is)
      (case c7 => k_is)
      (case k7 => k_is)
      (case a8 => k_is)
      (case i8 => k_is)
      (case l8 => k_is)
      (case c8 => k_is)
      (case k8 => k_is)
      (case a9 => k_is)
      (case i9 => k_is)
      (case l9 => k_is)
      (case c9 => k_is)
      (case k9 => k_is)
    have o0 : Ph.Own (L2.KOf KX) mg "thing_on" Ph.s_thing_on := by
      dsimp only [L2.KOf]
      refine' Ph.own_mk KX G ?a ?l ?c ?k
      (case a => k_is); (case l => k_is); (case c => k_is); (case k => k_is)
    have o1 : Ph.Own (L2.KOf KX) mg "reach_of" Ph.s_reach_of := by
      dsimp only [L2.KOf]
      refine' Ph.own_mk KX G ?a ?l ?c ?k
      (case a => k_is); (case l => k_is); (case c => k_is); (case k => k_is)
    have o2 : Ph.Own (L2.KOf KX) mg "held_of" Ph.s_held_of := by
      dsimp only [L2.KOf]
      refine' Ph.own_mk KX G ?a ?l ?c ?k
      (case a => k_is); (case l => k_is); (case c => k_is); (case k => k_is)
    have o3 : Ph.Own (L2.KOf KX) mg "comes_ahead" Ph.s_comes_ahead := by
      dsimp only [L2.KOf]
      refine' Ph.own_mk KX G ?a ?l ?c ?k
      (case a => k_is); (case l => k_is); (case c => k_is); (case k => k_is)
    have o4 : Ph.Own (L2.KOf KX) mg "topped" Ph.s_topped := by
      dsimp only [L2.KOf]
      refine' Ph.own_mk KX G ?a ?l ?c ?k
      (case a => k_is); (case l => k_is); (case c => k_is); (case k => k_is)
    have o5 : Ph.Own (L2.KOf KX) mg "leaning" Ph.s_leaning := by
      dsimp only [L2.KOf]
      refine' Ph.own_mk KX G ?a ?l ?c ?k
      (case a => k_is); (case l => k_is); (case c => k_is); (case k => k_is)
    have o6 : Ph.Own (L2.KOf KX) mg "single" Ph.s_single := by
      dsimp only [L2.KOf]
      refine' Ph.own_mk KX G ?a ?l ?c ?k
      (case a => k_is); (case l => k_is); (case c => k_is); (case k => k_is)
    have o7 : Ph.Own (L2.KOf KX) mg "joined" Ph.s_joined := by
      dsimp only [L2.KOf]
      refine' Ph.own_mk KX G ?a ?l ?c ?k
      (case a => k_is); (case l => k_is); (case c => k_is); (case k => k_is)
    have o8 : Ph.Own (L2.KOf KX) mg "taken" Ph.s_taken := by
      dsimp only [L2.KOf]
      refine' Ph.own_mk KX G ?a ?l ?c ?k
      (case a => k_is); (case l => k_is); (case c => k_is); (case k => k_is)
    have o9 : Ph.Own (L2.KOf KX) mg "emptied" Ph.s_emptied := by
      dsimp only [L2.KOf]
      refine' Ph.own_mk KX G ?a ?l ?c ?k
      (case a => k_is); (case l => k_is); (case c => k_is); (case k => k_is)
    have o10 : Ph.Own (L2.KOf KX) mg "groups_named" Ph.s_groups_named := by
      dsimp only [L2.KOf]
      refine' Ph.own_mk KX G ?a ?l ?c ?k
      (case a => k_is); (case l => k_is); (case c => k_is); (case k => k_is)
    have o11 : Ph.Own (L2.KOf KX) mg "done" Ph.s_done := by
      dsimp only [L2.KOf]
      refine' Ph.own_mk KX G ?a ?l ?c ?k
      (case a => k_is); (case l => k_is); (case c => k_is); (case k => k_is)
    have o12 : Ph.Own (L2.KOf KX) mg "outcomes" Ph.s_outcomes := by
      dsimp only [L2.KOf]
      refine' Ph.own_mk KX G ?a ?l ?c ?k
      (case a => k_is); (case l => k_is); (case c => k_is); (case k => k_is)
    have o13 : Ph.Own (L2.KOf KX) mg "answers" Ph.s_answers := by
      dsimp only [L2.KOf]
      refine' Ph.own_mk KX G ?a ?l ?c ?k
      (case a => k_is); (case l => k_is); (case c => k_is); (case k => k_is)
    have o14 : Ph.Own (L2.KOf KX) mg "hall_behind" Ph.s_hall_behind := by
      dsimp only [L2.KOf]
      refine' Ph.own_mk KX G ?a ?l ?c ?k
      (case a => k_is); (case l => k_is); (case c => k_is); (case k => k_is)
    have o15 : Ph.Own (L2.KOf KX) mg "contents" Ph.s_contents := by
      dsimp only [L2.KOf]
      refine' Ph.own_mk KX G ?a ?l ?c ?k
      (case a => k_is); (case l => k_is); (case c => k_is); (case k => k_is)
    have o16 : Ph.Own (L2.KOf KX) mg "_law_whole" Ph.s_law_whole := by
      dsimp only [L2.KOf]
      refine' Ph.own_mk KX G ?a ?l ?c ?k
      (case a => k_is); (case l => k_is); (case c => k_is); (case k => k_is)
    have o17 : Ph.Own (L2.KOf KX) mg "_law_at" Ph.s_law_at := by
      dsimp only [L2.KOf]
      refine' Ph.own_mk KX G ?a ?l ?c ?k
      (case a => k_is); (case l => k_is); (case c => k_is); (case k => k_is)
    have o18 : Ph.Own (L2.KOf KX) mg "_law_pairs_are" Ph.s_law_pairs_are := by
      dsimp only [L2.KOf]
      refine' Ph.own_mk KX G ?a ?l ?c ?k
      (case a => k_is); (case l => k_is); (case c => k_is); (case k => k_is)
    have o19 : Ph.Own (L2.KOf KX) mg "_law_told_so" Ph.s_law_told_so := by
      dsimp only [L2.KOf]
      refine' Ph.own_mk KX G ?a ?l ?c ?k
      (case a => k_is); (case l => k_is); (case c => k_is); (case k => k_is)
    have o20 : Ph.Own (L2.KOf KX) mg "_law_deeds" Ph.s_law_deeds := by
      dsimp only [L2.KOf]
      refine' Ph.own_mk KX G ?a ?l ?c ?k
      (case a => k_is); (case l => k_is); (case c => k_is); (case k => k_is)
    have o21 : Ph.Own (L2.KOf KX) mg "_law_start" Ph.s_law_start := by
      dsimp only [L2.KOf]
      refine' Ph.own_mk KX G ?a ?l ?c ?k
      (case a => k_is); (case l => k_is); (case c => k_is); (case k => k_is)
    have o22 : Ph.Own (L2.KOf KX) mg "_law_change" Ph.s_law_change := by
      dsimp only [L2.KOf]
      refine' Ph.own_mk KX G ?a ?l ?c ?k
      (case a => k_is); (case l => k_is); (case c => k_is); (case k => k_is)
    have o23 : Ph.Own (L2.KOf KX) mg "_law_back" Ph.s_law_back := by
      dsimp only [L2.KOf]
      refine' Ph.own_mk KX G ?a ?l ?c ?k
      (case a => k_is); (case l => k_is); (case c => k_is); (case k => k_is)
    have o24 : Ph.Own (L2.KOf KX) mg "_law_joining" Ph.s_law_joining := by
      dsimp only [L2.KOf]
      refine' Ph.own_mk KX G ?a ?l ?c ?k
      (case a => k_is); (case l => k_is); (case c => k_is); (case k => k_is)
    have o25 : Ph.Own (L2.KOf KX) mg "_law_on_pile" Ph.s_law_on_pile := by
      dsimp only [L2.KOf]
      refine' Ph.own_mk KX G ?a ?l ?c ?k
      (case a => k_is); (case l => k_is); (case c => k_is); (case k => k_is)
    have o26 : Ph.Own (L2.KOf KX) mg "_law_plainly" Ph.s_law_plainly := by
      dsimp only [L2.KOf]
      refine' Ph.own_mk KX G ?a ?l ?c ?k
      (case a => k_is); (case l => k_is); (case c => k_is); (case k => k_is)
    have o27 : Ph.Own (L2.KOf KX) mg "_law_mixed" Ph.s_law_mixed := by
      dsimp only [L2.KOf]
      refine' Ph.own_mk KX G ?a ?l ?c ?k
      (case a => k_is); (case l => k_is); (case c => k_is); (case k => k_is)
    have o28 : Ph.Own (L2.KOf KX) mg "law" Ph.s_law := by
      dsimp only [L2.KOf]
      refine' Ph.own_mk KX G ?a ?l ?c ?k
      (case a => k_is); (case l => k_is); (case c => k_is); (case k => k_is)
    obtain ⟨nw, nw0⟩ := nw
    obtain ⟨CG, PG⟩ := PG
    obtain ⟨CH, PH⟩ := PH
    exact Ph.fin ⟨n0, n1, n2, n3, n4, n5⟩ ⟨n6, n7, n8, n9, n10, n11, nw0⟩ ⟨b0, b1, b2, b3, b4, b5, b6, b7, b8, b9, b10, b11, b12, b13⟩ ⟨b14, b15⟩ PG PH hmg o0 o1 o2 o3 o4 o5 o6 o7 o8 o9 o10 o11 o12 o13 o14 o15 o16 o17 o18 o19 o20 o21 o22 o23 o24 o25 o26 o27 o28
#print axioms PySem.Challenge.cw_pilehall_k09_whole_undone_holds
