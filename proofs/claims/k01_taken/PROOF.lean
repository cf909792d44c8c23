import PyProof.Rows.All
import Wide.All
import OpenK.AllK
import Wide.FinOn
import Lean
import PyProof.EqAt
import PyProof.EqKinds
import PyProof.TupleCall
import PyProof.NeKinds
import PyProof.CompFree
import KE.KRevIter
import KE.KSortTup
import KE.KUnpack
import PyProof.Rows.Range3
import PyProof.Rows.SumAny
import PyProof.ConsumeWalk
import PyProof.Rows.TupMore
import PyProof.RulesTry
import KE.KSorted
import KE.KSortedM
import KE.KSortedL
import KE.KSortAsk
import PySem.Challenge.RW_pilehall_k01_taken
set_option Elab.async false
set_option linter.all false
set_option maxRecDepth 100000
namespace L2
open PySem PySem.Spec PyProof.Rows
abbrev Key := Sum Int Str
def keyIs : Key → Value → Bool
  | .inl k, v => Value.isInt k v
  | .inr x, v => Value.isStrOf x v
def keyH (w : World) : Key → Int
  | .inl k => hashInt k
  | .inr x => hashStr w x
theorem keyIs_shape : ∀ {k : Key} {v : Value}, keyIs k v = true → (∃ i t, k = Sum.inl i ∧ v = Value.int i t) ∨ (∃ x t, k = Sum.inr x ∧ v = Value.str x t)
  | .inl i, v, h => by
    obtain ⟨t, e⟩ := Value.isInt_shape (k := i) (v := v) h
    exact .inl ⟨i, t, rfl, e⟩
  | .inr x, v, h => by
    obtain ⟨t, e⟩ := Value.isStrOf_shape (x := x) (v := v) h
    exact .inr ⟨x, t, rfl, e⟩
theorem keyIs_int (i : Int) (t : Tok) : keyIs (.inl i) (.int i t) = true := by simp [keyIs, Value.isInt]
theorem keyIs_str (x : Str) (t : Tok) : keyIs (.inr x) (.str x t) = true := by simp [keyIs, Value.isStrOf]
theorem key_ll (a b : Int) : decide ((Sum.inl a : Key) = Sum.inl b) = (a == b) := by
  by_cases e : a = b
  · subst e; simp
  · have h : ¬ (Sum.inl a : Key) = Sum.inl b := fun q => e (Sum.inl.inj q)
    rw [decide_eq_false h]
    exact (beq_eq_false_iff_ne.mpr e).symm
theorem key_rr (a b : Str) : decide ((Sum.inr a : Key) = Sum.inr b) = decide (a = b) := by
  by_cases e : a = b
  · subst e; simp
  · have h : ¬ (Sum.inr a : Key) = Sum.inr b := fun q => e (Sum.inr.inj q)
    rw [decide_eq_false h, decide_eq_false e]
theorem key_lr (a : Int) (b : Str) : decide ((Sum.inl a : Key) = Sum.inr b) = false := decide_eq_false (fun q => nomatch q)
theorem key_rl (a : Str) (b : Int) : decide ((Sum.inr a : Key) = Sum.inl b) = false := decide_eq_false (fun q => nomatch q)
def mixKind (prog : Program) (w : World) : PySem.KeyKind prog w Key where
  is := keyIs
  hash := keyH w
  inj := fun v a b ha hb => by
    rcases keyIs_shape ha with ⟨i, t, rfl, rfl⟩ | ⟨x, t, rfl, rfl⟩
    · rcases keyIs_shape hb with ⟨j, u, rfl, e⟩ | ⟨y, u, rfl, e⟩
      · injection e with e1 _; rw [e1]
      · exact nomatch e
    · rcases keyIs_shape hb with ⟨j, u, rfl, e⟩ | ⟨y, u, rfl, e⟩
      · exact nomatch e
      · injection e with e1 _; rw [e1]
  byValue := fun k v h => by
    rcases keyIs_shape h with ⟨i, t, rfl, rfl⟩ | ⟨x, t, rfl, rfl⟩ <;> rfl
  pyHash := fun hv h => by
    rcases keyIs_shape hv with ⟨i, t, rfl, rfl⟩ | ⟨x, t, rfl, rfl⟩
    · exact wpAny_pyHash_int h
    · exact wpAny_pyHash_str h
  eqBool := fun hu hv h => by
    rcases keyIs_shape hu with ⟨i, t, rfl, rfl⟩ | ⟨x, t, rfl, rfl⟩
    · rcases keyIs_shape hv with ⟨j, u, rfl, rfl⟩ | ⟨y, u, rfl, rfl⟩
      · rw [key_ll] at h; exact wpAny_eqBool_int h
      · rw [key_lr] at h; exact SeqAt.EqAt.int_str i t y u _ _ _ _ h
    · rcases keyIs_shape hv with ⟨j, u, rfl, rfl⟩ | ⟨y, u, rfl, rfl⟩
      · rw [key_rl] at h; exact SeqAt.EqAt.str_int x t j u _ _ _ _ h
      · rw [key_rr] at h; exact wpAny_eqBool_str h
  «strs» := fun k x t v h => by
    rcases keyIs_shape h with ⟨i, u, rfl, e⟩ | ⟨y, u, rfl, e⟩
    · exact nomatch e
    · injection e with e1 _
      subst e1
      cases v <;> rfl
theorem mixKind_is (prog : Program) (w : World) (k : Key) (v : Value) : (mixKind prog w).is k v = keyIs k v := rfl
theorem mixKind_int (prog : Program) (w : World) (i : Int) (t : Tok) : (mixKind prog w).is (.inl i) (.int i t) = true := keyIs_int i t
theorem mixKind_str (prog : Program) (w : World) (x : Str) (t : Tok) : (mixKind prog w).is (.inr x) (.str x t) = true := keyIs_str x t
end L2
namespace L2
open PySem PySem.Spec PyProof.Rows
inductive V where
  | non | bl (b : Bool) | int (i : Int) | str (x : Str) | byt (b : Array UInt8) | flt (b : UInt64) | ref (a : Addr) | ty (n : String)
  deriving DecidableEq
def RelV : V → Value → Prop
  | .non, u => u = Value.none
  | .bl b, u => u = Value.bool b
  | .int i, u => ∃ t, u = Value.int i t
  | .str x, u => ∃ t, u = Value.str x t
  | .byt b, u => ∃ t, u = Value.bytes b t
  | .flt b, u => ∃ t, u = Value.float b t
  | .ref a, u => u = Value.ref a
  | .ty n, u => u = Value.type n
abbrev Vals : List V → List Value → Prop := Paired RelV
theorem Vals.length {xs : List V} {us : List Value} (r : Vals xs us) : xs.length = us.length := Paired.length r
theorem Vals.get : ∀ {xs : List V} {us : List Value} {i : Nat} {x : V}, Vals xs us → xs[i]? = some x → ∃ u, us[i]? = some u ∧ RelV x u
  | _, _, _, _, .nil, e => by simp at e
  | _, _, 0, _, .cons r _, e => by simp at e; subst e; exact ⟨_, rfl, r⟩
  | _, _, i + 1, x, .cons _ t, e => by
    obtain ⟨u, h1, h2⟩ := Vals.get (i := i) (x := x) t (by simpa using e)
    exact ⟨u, by simpa using h1, h2⟩
theorem Vals.set {x : V} {u : Value} (r : RelV x u) : ∀ {xs : List V} {us : List Value} (i : Nat), Vals xs us → Vals (xs.set i x) (us.set i u)
  | _, _, _, .nil => .nil
  | _, _, 0, .cons _ t => .cons r t
  | _, _, i + 1, .cons q t => .cons q (Vals.set r i t)
theorem Vals.append : ∀ {xs ys : List V} {us ws : List Value}, Vals xs us → Vals ys ws → Vals (xs ++ ys) (us ++ ws)
  | _, _, _, _, .nil, s => s
  | _, _, _, _, .cons r t, s => .cons r (Vals.append t s)
theorem Vals.take : ∀ {xs : List V} {us : List Value} (n : Nat), Vals xs us → Vals (xs.take n) (us.take n)
  | _, _, 0, _ => .nil
  | _, _, _ + 1, .nil => .nil
  | _, _, n + 1, .cons r t => .cons r (Vals.take n t)
theorem Vals.drop : ∀ {xs : List V} {us : List Value} (n : Nat), Vals xs us → Vals (xs.drop n) (us.drop n)
  | _, _, 0, r => r
  | _, _, _ + 1, .nil => .nil
  | _, _, n + 1, .cons _ t => Vals.drop n t
theorem Vals.none_of : ∀ {xs : List V} {us : List Value} {i : Nat}, Vals xs us → xs[i]? = none → us[i]? = none := fun {xs us i} r e => by
  have h1 := r.length
  have h2 : xs.length ≤ i := List.getElem?_eq_none_iff.mp e
  exact List.getElem?_eq_none_iff.mpr (by omega)
def RelO : Option V → Option Value → Prop
  | some v, some u => RelV v u
  | none, none => True
  | _, _ => False
def KV {κ : Type} : List (κ × V) → List (κ × Value) → Prop := Paired fun (p : κ × V) (q : κ × Value) => p.1 = q.1 ∧ RelV p.2 q.2
def kV : Key → V
  | .inl i => .int i
  | .inr x => .str x
inductive HO where
  | lst (xs : List V)
  | tup (xs : List V)
  | dK (kvs : List (Key × V)) | dT (kvs : List (List Key × V))
  | set (S : Int → Bool) (n : Nat)
  | ins (C dx : Addr) (fs : List (Str × V))
  | own (x : Addr)
  | xd (fs : List (Str × V))
  | met (f x : Addr)
  | rng (lo hi : Int)
  | frz (o : Obj) (u : HO)
  | tbl (ps : Array Value)
  | ext (φ : Heap → Prop)
abbrev Hp := Addr → Option HO
def upd (H : Hp) (a : Addr) (o : HO) : Hp := fun b => if b = a then some o else H b
theorem upd_same {H : Hp} {a : Addr} {o : HO} : upd H a o a = some o := by unfold upd; rw [if_pos rfl]
theorem upd_ne {H : Hp} {a b : Addr} {o : HO} (h : b ≠ a) : upd H a o b = H b := by unfold upd; rw [if_neg h]
theorem upd_upd {H : Hp} {a : Addr} {o u : HO} : upd (upd H a o) a u = upd H a u := by
  funext b; unfold upd; split <;> rfl
theorem ne_of {H : Hp} {a b : Addr} {o u : HO} (h : H a = some o) (h' : H b = some u) (d : o ≠ u) : a ≠ b := by
  intro e; subst e; rw [h] at h'; exact d (Option.some.inj h')
theorem ne_of_none {H : Hp} {a b : Addr} {o : HO} (h : H a = some o) (h' : H b = none) : a ≠ b := by
  intro e; subst e; rw [h] at h'; cases h'
section
variable (P : Program) (w : World)
def ObjOk (H : Hp) (h : Heap) (a : Addr) : HO → Prop
  | .lst xs => xs.length ≤ sizeLine ∧ ∃ (its : List Value) (n : Nat), Vals xs its ∧ h.get? a = some { cls := .type "list", data := .seq its.toArray n }
  | .tup xs => xs.length ≤ sizeLine ∧ ∃ its : List Value, Vals xs its ∧ IsTup h a its.toArray
  | .dK kvs => kvs.length ≤ sizeLine ∧ (a == sysModules) = false ∧ ∃ vs, KV kvs vs ∧ h.DictOf (mixKind P w) a vs
  | .dT kvs => kvs.length ≤ sizeLine ∧ (a == sysModules) = false ∧ ∃ xs : List (List Key × Addr × Value),
      Paired (fun (p : List Key × V) (q : List Key × Addr × Value) => p.1 = q.1 ∧ H q.2.1 = some (.tup (p.1.map kV)) ∧ RelV p.2 q.2.2) kvs xs ∧
      ∃ o es ep, h.get? a = some o ∧ o.ExactDict ∧ o.data = .dict es ep ∧ es.toList = xs.map (entryOfKey (tupleKind (mixKind P w))) ∧ (xs.map (·.1)).Nodup
  | .set S n => h.SetOf (intKind P w) a S n
  | .ins C dx fs => H dx = some (.own a) ∧ fs.length ≤ 1000 ∧ dx ≠ a ∧ h.get? a = some (PySem.W.instObj C dx) ∧
      ∃ mA, h.Ns1 dx mA ∧ (∀ f, RelO (fs.lookup f) (mA f)) ∧ PySem.Within mA (fs.map (·.1))
  | .own _ => ∃ o, h.get? a = some o
  | .xd fs => ∃ mA, h.Ns1 a mA ∧ ∀ f, RelO (fs.lookup f) (mA f)
  | .rng lo hi => ∃ t u v, h.get? a = some { cls := .type "range", data := .fields #[.int lo t, .int hi u, .int 1 v] }
  | .frz o u => h.get? a = some o ∧ ObjOk H h a u
  | .tbl ps => h.get? a = some { cls := .none, data := .fields ps }
  | .met f x => h.get? a = some (PySem.W.methodObj (.ref f) (.ref x))
  | .ext φ => φ h ∧ (∃ o, h.get? a = some o) ∧ ∀ h1 h2 : Heap, φ h1 → (∀ o, h1.get? a = some o → h2.get? a = some o) → φ h2
def HOk (H : Hp) (h : Heap) : Prop := ∀ a o, H a = some o → ObjOk P w H h a o
end
section
variable {P : Program} {w : World} {H H' : Hp} {h h' : Heap} {a : Addr} {o : HO}
theorem ObjOk.lt (x : ObjOk P w H h a o) : a < h.objs.size := by
  cases o with
  | lst xs => obtain ⟨_, _, _, _, e⟩ := x; exact Heap.lt_size e
  | tup xs => obtain ⟨_, _, _, p⟩ := x; exact p.lt
  | dK kvs => obtain ⟨_, _, _, _, o, _, _, e, _⟩ := x; exact Heap.lt_size e
  | dT kvs => obtain ⟨_, _, _, _, o, _, _, e, _⟩ := x; exact Heap.lt_size e
  | set S n => obtain ⟨o, _, _, _, e, _⟩ := x; exact Heap.lt_size e
  | ins C dx fs => obtain ⟨_, _, _, e, _⟩ := x; exact Heap.lt_size e
  | own y => obtain ⟨_, e⟩ := x; exact Heap.lt_size e
  | xd fs => obtain ⟨_, ⟨_, _, _, e, _⟩, _⟩ := x; exact Heap.lt_size e
  | rng lo hi => obtain ⟨_, _, _, e⟩ := x; exact Heap.lt_size e
  | frz ob u => obtain ⟨e, _⟩ := x; exact Heap.lt_size e
  | tbl ps => exact Heap.lt_size (show h.get? a = some _ from x)
  | met f y => exact Heap.lt_size (show h.get? a = some _ from x)
  | ext φ => obtain ⟨_, ⟨_, e⟩, _⟩ := x; exact Heap.lt_size e
theorem Paired.mapP {α β : Type} {F G : α → β → Prop} : ∀ {l₁ : List α} {l₂ : List β}, Paired F l₁ l₂ → (∀ a b, F a b → G a b) → Paired G l₁ l₂
  | _, _, .nil, _ => .nil
  | _, _, .cons r t, f => .cons (f _ _ r) (Paired.mapP t f)
theorem Paired.imp' {α β : Type} {F G : α → β → Prop} (f : ∀ a b, F a b → G a b) {l₁ : List α} {l₂ : List β} (r : Paired F l₁ l₂) : Paired G l₁ l₂ := Paired.mapP r f
theorem ObjOk.stay (x : ObjOk P w H h a o) (k : ∀ b u, (b = a ∨ H b = some (.own a)) → h.get? b = some u → h'.get? b = some u)
    (ho : ∀ b, H b = some (.own a) → H' b = some (.own a)) (ht : ∀ b xs, H b = some (.tup xs) → H' b = some (.tup xs)) : ObjOk P w H' h' a o := by
  induction o with
  | lst xs => obtain ⟨z, its, n, r, e⟩ := x; exact ⟨z, its, n, r, k _ _ (.inl rfl) e⟩
  | tup xs => obtain ⟨z, its, r, ob, e, c⟩ := x; exact ⟨z, its, r, ob, k _ _ (.inl rfl) e, c⟩
  | dK kvs => obtain ⟨z, y, vs, r, ob, es, ep, e, c⟩ := x; exact ⟨z, y, vs, r, ob, es, ep, k _ _ (.inl rfl) e, c⟩
  | dT kvs =>
    obtain ⟨z, y, xs, r, ob, es, ep, e, c⟩ := x
    exact ⟨z, y, xs, Paired.mapP r fun p q z => ⟨z.1, ht _ _ z.2.1, z.2.2⟩, ob, es, ep, k _ _ (.inl rfl) e, c⟩
  | set S n => obtain ⟨ob, es, ep, t, e, c⟩ := x; exact ⟨ob, es, ep, t, k _ _ (.inl rfl) e, c⟩
  | ins C dx fs =>
    obtain ⟨d, z, ne, e, mA, ⟨od, es, ep, e2, c⟩, r⟩ := x
    exact ⟨ho _ d, z, ne, k _ _ (.inl rfl) e, mA, ⟨od, es, ep, k _ _ (.inr d) e2, c⟩, r⟩
  | own y => obtain ⟨ob, e⟩ := x; exact ⟨ob, k _ _ (.inl rfl) e⟩
  | xd fs => obtain ⟨mA, ⟨od, es, ep, e, c⟩, r⟩ := x; exact ⟨mA, ⟨od, es, ep, k _ _ (.inl rfl) e, c⟩, r⟩
  | rng lo hi => obtain ⟨t, u, v, e⟩ := x; exact ⟨t, u, v, k _ _ (.inl rfl) e⟩
  | frz ob u ih => obtain ⟨e, q⟩ := x; exact ⟨k _ _ (.inl rfl) e, ih q⟩
  | tbl ps =>
    have e : h.get? a = some { cls := .none, data := .fields ps } := x
    show h'.get? a = some { cls := .none, data := .fields ps }
    exact k a _ (.inl rfl) e
  | met f y =>
    have e : h.get? a = some (PySem.W.methodObj (.ref f) (.ref y)) := x
    show h'.get? a = some (PySem.W.methodObj (.ref f) (.ref y))
    exact k a _ (.inl rfl) e
  | ext φ => obtain ⟨p, ⟨o, e⟩, st⟩ := x; exact ⟨st _ _ p fun o q => k _ _ (.inl rfl) q, ⟨o, k _ _ (.inl rfl) e⟩, st⟩
theorem HOk.lt (x : HOk P w H h) (e : H a = some o) : a < h.objs.size := (x a o e).lt
theorem HOk.fresh (x : HOk P w H h) (e : h.objs.size ≤ a) : H a = none := by
  cases q : H a with
  | none => rfl
  | some u => exact absurd (Nat.lt_of_lt_of_le (x.lt q) e) (Nat.lt_irrefl _)
theorem HOk.kept (x : HOk P w H h) (k : ∀ b u, h.get? b = some u → h'.get? b = some u) : HOk P w H h' := fun a o e =>
  (x a o e).stay (fun b u _ q => k b u q) (fun _ q => q) fun _ _ q => q
theorem HOk.laid (x : HOk P w H h) (k : ∀ b u, h.get? b = some u → h'.get? b = some u) (hp : h.objs.size ≤ a) (new : ObjOk P w (upd H a o) h' a o) : HOk P w (upd H a o) h' := fun b u e => by
  have hn := x.fresh hp
  by_cases hb : b = a
  · subst hb; rw [upd_same] at e; cases e; exact new
  · rw [upd_ne hb] at e
    exact (x b u e).stay (fun c v _ q => k c v q) (fun c q => by rw [upd_ne (ne_of_none q hn)]; exact q) fun c xs q => by rw [upd_ne (ne_of_none q hn)]; exact q
end
def Rd (H : Hp) (a : Addr) (u : HO) : Prop := H a = some u ∨ ∃ o, H a = some (.frz o u)
theorem Rd.of {H : Hp} {a : Addr} {u : HO} (h : H a = some u) : Rd H a u := .inl h
theorem Rd.ok {P : Program} {w : World} {H : Hp} {h : Heap} {a : Addr} {u : HO} (r : Rd H a u) (x : HOk P w H h) : ObjOk P w H h a u := by
  rcases r with r | ⟨o, r⟩
  · exact x a u r
  · obtain ⟨_, q⟩ := x a _ r
    exact q
def Mut : Option HO → Prop
  | some (.lst _) => True
  | some (.dK _) => True
  | some (.dT _) => True
  | some (.set _ _) => True
  | some (.ins _ _ _) => True
  | some (.ext _) => True
  | _ => False
section
variable {P : Program} {w : World} {H : Hp} {h h' : Heap} {x e : Addr} {o' : HO}
theorem HOk.write (ok : HOk P w H h) (mu : Mut (H x)) (he : e = x ∨ H e = some (.own x)) (k : ∀ b u, b ≠ e → h.get? b = some u → h'.get? b = some u) (heo : ∃ u, h'.get? e = some u)
    (new : ObjOk P w (upd H x o') h' x o') : HOk P w (upd H x o') h' := fun b u q => by
  have nown : ∀ c y, H c = some (.own y) → c ≠ x := fun c y r z => by subst z; rw [r] at mu; exact mu
  have ntup : ∀ c xs, H c = some (.tup xs) → c ≠ x := fun c xs r z => by subst z; rw [r] at mu; exact mu
  by_cases hb : b = x
  · subst hb; rw [upd_same] at q; cases q; exact new
  · rw [upd_ne hb] at q
    by_cases hbe : b = e
    · have q' : H b = some (.own x) := by
        rcases he with z | z
        · exact absurd (hbe.trans z) hb
        · rw [hbe]; exact z
      rw [q] at q'; cases q'
      obtain ⟨v, hv⟩ := heo
      exact ⟨v, by rw [hbe]; exact hv⟩
    · refine (ok b u q).stay (fun c v hc r => k c v ?_ r) (fun c r => by rw [upd_ne (nown c b r)]; exact r) fun c xs r => by rw [upd_ne (ntup c xs r)]; exact r
      rcases hc with rfl | hc
      · exact hbe
      · rintro rfl
        rcases he with z | z
        · exact nown c b hc z
        · rw [hc] at z; cases z; exact hb rfl
end
structure Un (fs ex : List Addr) (H H' : Hp) (h h' : Heap) : Prop where
  keep : ∀ b o, h.get? b = some o → H b = none → b ∉ fs → b ∉ ex → h'.get? b = some o
  slot : ∀ b o, h.get? b = some o → H b = none → b ∈ fs → b ∉ ex → ∃ sl, h'.get? b = some { o with slots := sl }
  free : ∀ b o, h.get? b = some o → H b = none → b ∉ ex → H' b = none
  there : ∀ b o, h.get? b = some o → b ∉ ex → ∃ o', h'.get? b = some o'
  tups : ∀ b xs, H b = some (.tup xs) → H' b = some (.tup xs)
  frzs : ∀ b o u, H b = some (.frz o u) → H' b = some (.frz o u)
  tbls : ∀ b ps, H b = some (.tbl ps) → ∃ more, H' b = some (.tbl (ps ++ more))
section
variable {fs fs' ex ex' : List Addr} {H H1 H2 : Hp} {h h1 h2 h' : Heap} {a x e : Addr} {o : HO}
theorem Un.any (u : Un fs ex H H1 h h1) {b : Addr} {ob : Obj} (q : h.get? b = some ob) (n : H b = none) (hx : b ∉ ex) : ∃ sl, h1.get? b = some { ob with slots := sl } := by
  by_cases hb : b ∈ fs
  · exact u.slot b ob q n hb hx
  · exact ⟨ob.slots, u.keep b ob q n hb hx⟩
theorem Un.trans (a : Un fs ex H H1 h h1) (b : Un fs ex H1 H2 h1 h2) : Un fs ex H H2 h h2 where
  keep := fun c ob q n hc hx => b.keep c ob (a.keep c ob q n hc hx) (a.free c ob q n hx) hc hx
  slot := fun c ob q n hc hx => by
    obtain ⟨sl, e1⟩ := a.slot c ob q n hc hx
    obtain ⟨sl', e2⟩ := b.slot c _ e1 (a.free c ob q n hx) hc hx
    exact ⟨sl', e2⟩
  free := fun c ob q n hx => by
    obtain ⟨o', e1⟩ := a.there c ob q hx
    exact b.free c o' e1 (a.free c ob q n hx) hx
  there := fun c ob q hx => by
    obtain ⟨o', e1⟩ := a.there c ob q hx
    exact b.there c o' e1 hx
  tups := fun c xs q => b.tups c xs (a.tups c xs q)
  frzs := fun c ob xs q => b.frzs c ob xs (a.frzs c ob xs q)
  tbls := fun c ps q => by
    obtain ⟨m1, e1⟩ := a.tbls c ps q
    obtain ⟨m2, e2⟩ := b.tbls c _ e1
    exact ⟨m1 ++ m2, by rw [e2, Array.append_assoc]⟩
theorem Un.kept (k : ∀ b u, h.get? b = some u → h'.get? b = some u) : Un fs ex H H h h' :=
  ⟨fun b ob q _ _ _ => k b ob q, fun b ob q _ _ _ => ⟨ob.slots, k b ob q⟩, fun _ _ _ n _ => n, fun b ob q _ => ⟨ob, k b ob q⟩, fun _ _ q => q, fun _ _ _ q => q, fun _ ps q => ⟨#[], by rw [q]; simp⟩⟩
theorem Un.refl : Un fs ex H H h h := Un.kept fun _ _ q => q
theorem Un.laid (k : ∀ b u, h.get? b = some u → h'.get? b = some u) (hp : h.objs.size ≤ a) (hn : H a = none) : Un fs ex H (upd H a o) h h' where
  keep := fun b u q _ _ _ => k b u q
  slot := fun b u q _ _ _ => ⟨u.slots, k b u q⟩
  free := fun b u q n _ => by rw [upd_ne (Nat.ne_of_lt (Nat.lt_of_lt_of_le (Heap.lt_size q) hp))]; exact n
  there := fun b u q _ => ⟨u, k b u q⟩
  tups := fun b xs q => by rw [upd_ne (ne_of_none q hn)]; exact q
  frzs := fun b u xs q => by rw [upd_ne (ne_of_none q hn)]; exact q
  tbls := fun b ps q => ⟨#[], by rw [upd_ne (ne_of_none q hn), q]; simp⟩
theorem Un.write (mu : Mut (H x)) (he : e = x ∨ H e = some (.own x)) (k : ∀ b u, b ≠ e → h.get? b = some u → h'.get? b = some u) (heo : ∃ u, h'.get? e = some u) : Un fs ex H (upd H x o) h h' := by
  have hx : ∀ b, H b = none → b ≠ x := fun b n z => by subst z; rw [n] at mu; exact mu
  have hb : ∀ b, H b = none → b ≠ e := fun b n z => by
    subst z
    rcases he with r | r
    · exact hx b n r
    · rw [n] at r; cases r
  have hm : ∀ b u, H b = some u → ¬ Mut (some u) → b ≠ x := fun b u q nm z => by subst z; rw [q] at mu; exact nm mu
  refine ⟨fun b u q n _ _ => k b u (hb b n) q, fun b u q n _ _ => ⟨u.slots, k b u (hb b n) q⟩, fun b u q n _ => by rw [upd_ne (hx b n)]; exact n, fun b u q _ => ?_,
    fun b xs q => by rw [upd_ne (hm b _ q fun z => z)]; exact q, fun b u xs q => by rw [upd_ne (hm b _ q fun z => z)]; exact q, fun b ps q => ⟨#[], by rw [upd_ne (hm b _ q fun z => z), q]; simp⟩⟩
  by_cases hbe : b = e
  · subst hbe; exact heo
  · exact ⟨u, k b u hbe q⟩
theorem Un.mono (u : Un fs ex H H1 h h1) (hs : ∀ b ∈ fs, b ∈ fs') (hx : ∀ b ∈ ex, b ∈ ex') : Un fs' ex' H H1 h h1 :=
  ⟨fun b ob q n hb he => u.keep b ob q n (fun z => hb (hs b z)) fun z => he (hx b z), fun _ _ q n _ he => u.any q n fun z => he (hx _ z), fun b ob q n he => u.free b ob q n fun z => he (hx b z), fun b ob q he => u.there b ob q fun z => he (hx b z), u.tups, u.frzs, u.tbls⟩
end
def trk (h : Heap) (H : Hp) : List Addr := (List.range h.objs.size).filter fun a => (H a).isSome
def hidT (h : Heap) (H : Hp) : Heap := PySem.W.hideAll h (trk h H)
theorem hidT_size (h : Heap) (H : Hp) : (hidT h H).objs.size = h.objs.size := PySem.W.hideAll_size _ _
theorem hidT_get {h : Heap} {H : Hp} {b : Addr} {o : Obj} (e : h.get? b = some o) (n : H b = none) : (hidT h H).get? b = some o :=
  PySem.W.hideAll_get _ e fun hm => by
    have q : (H b).isSome = true := (List.mem_filter.mp hm).2
    rw [n] at q; simp at q
theorem of_hidT {h : Heap} {H : Hp} {b : Addr} {o : Obj} (e : (hidT h H).get? b = some o) : h.get? b = some o ∧ H b = none := by
  have e' : h.get? b = some o := PySem.W.of_hideAll (trk h H) e
  refine ⟨e', ?_⟩
  cases q : H b with
  | none => rfl
  | some x =>
    have hm : b ∈ trk h H := List.mem_filter.mpr ⟨List.mem_range.mpr (Heap.lt_size e'), by simp [q]⟩
    have z : (hidT h H).get? b = none := PySem.W.hideAll_none (trk h H) hm
    rw [z] at e; cases e
def allNews (g h : Heap) (L : Addr) : List (Addr × Obj) := (List.range h.objs.size).filterMap fun a => if a = L ∨ (g.get? a).isSome = true then none else (h.get? a).map fun o => (a, o)
theorem mem_allNews {g h : Heap} {L a : Addr} {o : Obj} (h1 : a ≠ L) (h2 : g.get? a = none) (h3 : h.get? a = some o) : (a, o) ∈ allNews g h L :=
  List.mem_filterMap.mpr ⟨a, List.mem_range.mpr (Heap.lt_size h3), by simp [h1, h2, h3]⟩
theorem of_mem_allNews {g h : Heap} {L : Addr} {p : Addr × Obj} (hp : p ∈ allNews g h L) : p.1 ≠ L ∧ g.get? p.1 = none ∧ h.get? p.1 = some p.2 := by
  obtain ⟨b, _, e⟩ := List.mem_filterMap.mp hp
  split at e
  · cases e
  · rename_i hn
    cases q : h.get? b with
    | none => rw [q] at e; simp at e
    | some u =>
      rw [q] at e
      simp only [Option.map_some, Option.some.injEq] at e
      subst e
      refine ⟨fun z => hn (.inl z), ?_, q⟩
      show g.get? b = none
      cases r : g.get? b with
      | none => rfl
      | some v => exact (hn (.inr (by simp [r]))).elim
def rest (g h : Heap) (L d : Addr) : List (Addr × Obj) := (allNews g h L).filter fun p => decide (p.1 ≠ d)
theorem rest_ne {g h : Heap} {L d : Addr} : ∀ p ∈ rest g h L d, p.1 ≠ d := fun p hp => of_decide_eq_true (List.mem_filter.mp hp).2
theorem mem_rest {g h : Heap} {L d a : Addr} {o : Obj} (h1 : a ≠ L) (h2 : g.get? a = none) (h3 : h.get? a = some o) (h4 : a ≠ d) : (a, o) ∈ rest g h L d :=
  List.mem_filter.mpr ⟨mem_allNews h1 h2 h3, decide_eq_true h4⟩
theorem news_all {g h : Heap} {L : Addr} : News g L h (allNews g h L) := fun p hp => let ⟨a, b, c⟩ := of_mem_allNews hp; ⟨c, a, b⟩
theorem news_at {g h : Heap} {L d : Addr} {o : Obj} (h1 : d ≠ L) (h2 : g.get? d = none) (h3 : h.get? d = some o) : News g L h ((d, o) :: rest g h L d) := fun p hp => by
  rcases List.mem_cons.mp hp with rfl | hp
  · exact ⟨h3, h1, h2⟩
  · exact news_all p (List.mem_filter.mp hp).1
theorem kept_of_news {g h h' : Heap} {L d : Addr} {m : Str → Option Value} (k : ∀ b o, g.get? b = some o → h.get? b = some o) (F : Fr g L h' m) (N : News g L h' (rest g h L d)) :
    ∀ b o, b ≠ L → b ≠ d → h.get? b = some o → h'.get? b = some o := fun b o h1 h2 e => by
  cases q : g.get? b with
  | some u =>
    have := k b u q
    rw [e] at this; cases this
    exact F.keep b _ q
  | none => exact (N (b, o) (mem_rest h1 q e h2)).1
end L2
namespace L2
open PySem PySem.Spec PyProof.Rows
structure Mod (K : PySem.W.Frag) (mg : Str → Option Value) (base : Heap) : Prop where
  kin : K.In base
  glob : base.Ns mainGlobals mg
  blt : ∃ mb, base.Ns builtinsNs mb ∧ ∀ x : Str, x ≠ "__name__" → mb x = bootBuiltins x
  nolimit : base.NoLimit
/-- the context: a def's body (or a comprehension's block) running. base: fixed through the whole law; s₀, H₀: the entry; outer: the frames whose slots others may change (a def's callers); stack: all frames that run;
   ex: iterators that were made ahead of the entry and are walked here (a comprehension's); fn: the names whose cells were made at the entry (a def: all; a comprehension's block: its own); calm: not within an except suite; pn: pins that every state bears; xe: what is wanted of an exception that leaves the code -/
structure Cx where
  prog : Program
  w : World
  K : PySem.W.Frag
  mg : Str → Option Value
  base : Heap
  A : Around
  N : List Str
  s₀ : Shared
  H₀ : Hp
  env : Env
  outer : List Env
  stack : List Env
  ex : List Addr
  fn : Str → Bool
  calm : Bool
  pn : List (Addr × Obj)
  xe : Value → Shared → Prop
def frs (l : List Env) : List Addr := l.filterMap (·.frame)
abbrev Cx.fs (X : Cx) : List Addr := frs X.outer
def Vis (sc : Scope) (x : Str) : Prop := sc.names.lookup x = some .local ∨ sc.names.lookup x = some .cell ∨ sc.names.lookup x = some .free
def Loc (sc : Scope) (x : Str) : Prop := sc.names.lookup x = some .local ∨ sc.names.lookup x = some .cell
def Look (env : Env) (h : Heap) (m : Str → Option Value) (x : Str) (u : Value) : Prop :=
  (env.kindOf x = some .local ∧ m x = some u) ∨ ((env.kindOf x = some .cell ∨ env.kindOf x = some .free) ∧ ∃ c, env.cells.lookup x = some c ∧ h.IsCell c (some u))
structure Cx.Ok (X : Cx) : Prop where
  mod : Mod X.K X.mg X.base
  kind : X.env.scope.kind = .function
  glob : X.env.globals = mainGlobals
  blt : X.env.builtins = builtinsNs
  above : X.s₀.heap.objs.size ≤ X.env.locals
  inj : ∀ x y c, X.env.cells.lookup x = some c → X.env.cells.lookup y = some c → x = y
  has : ∀ x, (X.env.kindOf x = some .cell ∨ X.env.kindOf x = some .free) → ∃ c, X.env.cells.lookup x = some c
  cab : ∀ x c, X.fn x = true → X.env.cells.lookup x = some c → X.s₀.heap.objs.size ≤ c
  hd : X.calm = true → X.A.handled = none
  frames : X.A.frames = some X.stack
  stk : X.stack = X.outer ∨ (X.stack = X.env :: X.outer ∧ X.env.frame = some X.env.locals)
  exf : ∀ b ∈ X.ex, b ≠ X.env.locals ∧ ∀ x c, X.env.cells.lookup x = some c → c ≠ b
  bs : ∀ b o, X.base.get? b = some o → X.s₀.heap.get? b = some o ∧ X.H₀ b = none
  bsz : X.base.objs.size ≤ X.s₀.heap.objs.size
  noex : ∀ b o, X.base.get? b = some o → b ∉ X.ex
  exfs : ∀ b ∈ X.ex, b ∉ X.fs
  funs : X.s₀.heap.FunFrames X.base X.outer
  frf : ∀ b ∈ X.fs, X.H₀ b = none
structure Inv (X : Cx) (pins : List (Addr × Obj)) (σ : List (Option V)) (H : Hp) (s : Shared) : Prop where
  ok : X.Ok
  os : s.os = X.s₀.os
  bare : AllBare s.gens
  base : Un X.fs X.ex X.H₀ H X.s₀.heap s.heap
  loc : ∃ m, s.heap.Ns X.env.locals m ∧ ∀ (i : Nat) (x : Str) (v : V), X.N[i]? = some x → σ[i]? = some (some v) → Vis X.env.scope x → ∃ u, RelV v u ∧ Look X.env s.heap m x u
  cell : ∀ x c, X.env.cells.lookup x = some c → ∃ v, s.heap.IsCell c v
  free : H X.env.locals = none
  freeC : ∀ x c, X.env.cells.lookup x = some c → H c = none
  pin : ∀ p ∈ X.pn ++ pins, s.heap.get? p.1 = some p.2 ∧ H p.1 = none ∧ p.1 ≠ X.env.locals ∧ p.1 ∉ X.fs ∧ ∀ v, p.2.data ≠ .cell v
  hok : HOk X.prog X.w H s.heap
  len : σ.length = X.N.length
section
variable {X : Cx} {pins : List (Addr × Obj)} {σ : List (Option V)} {H H' : Hp} {s : Shared} {h' : Heap}
theorem Cx.Ok.nofr (ok : X.Ok) {b : Addr} {o : Obj} (e : X.base.get? b = some o) : b ∉ X.fs := fun hb => by
  have := (ok.funs.mem hb).1
  rw [e] at this; cases this
theorem Inv.bs (I : Inv X pins σ H s) : ∀ b o, X.base.get? b = some o → s.heap.get? b = some o ∧ H b = none := fun b o e =>
  ⟨I.base.keep b o (I.ok.bs b o e).1 (I.ok.bs b o e).2 (I.ok.nofr e) (I.ok.noex b o e), I.base.free b o (I.ok.bs b o e).1 (I.ok.bs b o e).2 (I.ok.noex b o e)⟩
theorem Inv.bk (I : Inv X pins σ H s) : ∀ b o, X.base.get? b = some o → s.heap.get? b = some o := fun b o e => (I.bs b o e).1
theorem Inv.mod (I : Inv X pins σ H s) : Mod X.K X.mg X.base := I.ok.mod
theorem Inv.kIn (I : Inv X pins σ H s) : X.K.In s.heap := I.ok.mod.kin.keeps I.bk
theorem Inv.nolimit (I : Inv X pins σ H s) : s.heap.NoLimit := I.ok.mod.nolimit.keeps I.bk
theorem Inv.fr (I : Inv X pins σ H s) : ∃ m, Fr X.base X.env.locals s.heap m :=
  let ⟨m, hn, _⟩ := I.loc
  ⟨m, hn, I.bk, Nat.le_trans I.ok.bsz I.ok.above⟩
theorem Inv.lt (I : Inv X pins σ H s) : X.env.locals < s.heap.objs.size := let ⟨_, hn, _⟩ := I.loc; hn.lt
theorem Inv.sz (I : Inv X pins σ H s) : X.s₀.heap.objs.size ≤ s.heap.objs.size := Nat.le_trans I.ok.above (Nat.le_of_lt I.lt)
theorem Inv.nofs (I : Inv X pins σ H s) {a : Addr} (h : s.heap.objs.size ≤ a) : a ∉ X.fs := fun hb => by
  obtain ⟨_, o, ho, _⟩ := I.ok.funs.mem hb
  exact absurd (Nat.lt_of_lt_of_le (Heap.lt_size ho) (Nat.le_trans I.sz h)) (Nat.lt_irrefl _)
theorem Inv.cne (I : Inv X pins σ H s) : ∀ x c, X.env.cells.lookup x = some c → c ≠ X.env.locals := fun x c e z => by
  obtain ⟨v, o, ho, hd⟩ := I.cell x c e
  obtain ⟨m, ⟨o', es, ep, ho', hd', _⟩, _⟩ := I.loc
  rw [z, ho'] at ho; cases ho; rw [hd'] at hd; cases hd
theorem Inv.funs (I : Inv X pins σ H s) : s.heap.FunFrames X.base X.outer := by
  have all : ∀ (l : List Env), (∀ b ∈ frs l, b ∈ X.fs) → X.s₀.heap.FunFrames X.base l → s.heap.FunFrames X.base l := by
    intro l
    induction l with
    | nil => intro _ _; trivial
    | cons env r ih =>
      intro hs hl
      obtain ⟨hk, ⟨L, o, hf, hn, ho, hd⟩, hr⟩ := hl
      have hL : L ∈ X.fs := hs L (by unfold frs; rw [List.filterMap_cons, hf]; exact List.mem_cons_self)
      obtain ⟨sl, e⟩ := I.base.slot L o ho (I.ok.frf L hL) hL fun z => I.ok.exfs L z hL
      exact ⟨hk, ⟨L, _, hf, hn, e, hd⟩, ih (fun b hb => hs b (by unfold frs; rw [List.filterMap_cons, hf]; exact List.mem_cons_of_mem _ hb)) hr⟩
  exact all X.outer (fun _ hb => hb) I.ok.funs
theorem Inv.stack (I : Inv X pins σ H s) : s.heap.FunFrames X.base X.stack := by
  rcases I.ok.stk with e | ⟨e, hf⟩
  · rw [e]; exact I.funs
  · rw [e]
    obtain ⟨m, hn, _⟩ := I.loc
    refine .cons (by rw [I.ok.kind]; decide) hf hn ?_ I.funs
    exact Heap.get?_none_of_le (Nat.le_trans I.ok.bsz I.ok.above)
theorem Inv.stkSub (I : Inv X pins σ H s) : ∀ b ∈ frs X.stack, b ∈ X.env.locals :: X.fs := fun b hb => by
  rcases I.ok.stk with e | ⟨e, hf⟩
  · rw [e] at hb; exact List.mem_cons_of_mem _ hb
  · rw [e] at hb
    unfold frs at hb
    rw [List.filterMap_cons, hf] at hb
    exact hb
theorem Inv.stkFree (I : Inv X pins σ H s) : ∀ b ∈ frs X.stack, H b = none := fun b hb => by
  rcases List.mem_cons.mp (I.stkSub b hb) with e | hb
  · rw [e]; exact I.free
  · obtain ⟨_, o, ho, _⟩ := I.ok.funs.mem hb
    exact I.base.free b o ho (I.ok.frf b hb) fun z => I.ok.exfs b z hb
theorem Inv.step {g' : Array GenState} {t' : Nat} {d' : Drawn} {ch : List Addr} (I : Inv X pins σ H s)
    (hch : ∀ b ∈ ch, (b ∈ X.ex ∨ X.s₀.heap.objs.size ≤ b) ∧ b ≠ X.env.locals ∧ (∀ x c, X.env.cells.lookup x = some c → c ≠ b) ∧ ∀ p ∈ X.pn ++ pins, p.1 ≠ b)
    (keep : ∀ b o, b ≠ X.env.locals → b ∉ X.fs → b ∉ ch → s.heap.get? b = some o → H b = none → h'.get? b = some o)
    (slot : ∀ b o, b ≠ X.env.locals → b ∈ X.fs → b ∉ ch → s.heap.get? b = some o → H b = none → ∃ sl, h'.get? b = some { o with slots := sl }) (free : ∀ b o, b ∉ ch → s.heap.get? b = some o → H b = none → H' b = none)
    (there : ∀ b o, b ∉ ch → s.heap.get? b = some o → ∃ o', h'.get? b = some o')
    (tups : ∀ b xs, H b = some (.tup xs) → H' b = some (.tup xs)) (frzs : ∀ b o u, H b = some (.frz o u) → H' b = some (.frz o u)) (tbls : ∀ b ps, H b = some (.tbl ps) → ∃ more, H' b = some (.tbl (ps ++ more)))
    (ns : ∀ m, s.heap.Ns X.env.locals m → h'.Ns X.env.locals m) (hok : HOk X.prog X.w H' h') (hg : AllBare g') :
    Inv X pins σ H' { s with heap := h', gens := g', drawn := d', toks := t' } := by
  have neL : ∀ b o, X.s₀.heap.get? b = some o → b ≠ X.env.locals := fun b o e => Nat.ne_of_lt (Nat.lt_of_lt_of_le (Heap.lt_size e) I.ok.above)
  have neC : ∀ b o, X.s₀.heap.get? b = some o → b ∉ X.ex → b ∉ ch := fun b o e hx hb => by
    rcases (hch b hb).1 with z | z
    · exact hx z
    · exact absurd (Nat.lt_of_lt_of_le (Heap.lt_size e) z) (Nat.lt_irrefl _)
  have cellK : ∀ x c, X.env.cells.lookup x = some c → ∀ v, s.heap.IsCell c v → h'.IsCell c v := fun x c e v ⟨o, ho, hd⟩ => by
    have nch : c ∉ ch := fun z => (hch c z).2.2.1 x c e rfl
    by_cases hc : c ∈ X.fs
    · obtain ⟨sl, q⟩ := slot c o (I.cne x c e) hc nch ho (I.freeC x c e)
      exact ⟨_, q, hd⟩
    · exact ⟨o, keep c o (I.cne x c e) hc nch ho (I.freeC x c e), hd⟩
  refine ⟨I.ok, I.os, hg, ⟨fun b o e n hb hx => ?_, fun b o e n hb hx => ?_, fun b o e n hx => ?_, fun b o e hx => ?_, fun b xs e => tups b xs (I.base.tups b xs e), fun b o xs e => frzs b o xs (I.base.frzs b o xs e), fun b ps e => ?_⟩, ?_, fun x c e => ?_, ?_, fun x c e => ?_, fun p hp => ?_, hok, I.len⟩
  · exact keep b o (neL b o e) hb (neC b o e hx) (I.base.keep b o e n hb hx) (I.base.free b o e n hx)
  · obtain ⟨sl, e1⟩ := I.base.slot b o e n hb hx
    obtain ⟨sl', e2⟩ := slot b _ (neL b o e) hb (neC b o e hx) e1 (I.base.free b o e n hx)
    exact ⟨sl', e2⟩
  · obtain ⟨o', e1⟩ := I.base.there b o e hx
    exact free b o' (neC b o e hx) e1 (I.base.free b o e n hx)
  · obtain ⟨o', e1⟩ := I.base.there b o e hx
    exact there b o' (neC b o e hx) e1
  · obtain ⟨m1, e1⟩ := I.base.tbls b ps e
    obtain ⟨m2, e2⟩ := tbls b _ e1
    exact ⟨m1 ++ m2, by rw [e2, Array.append_assoc]⟩
  · obtain ⟨m, hn, hl⟩ := I.loc
    refine ⟨m, ns m hn, fun i x v e1 e2 e3 => ?_⟩
    obtain ⟨u, r, l⟩ := hl i x v e1 e2 e3
    refine ⟨u, r, ?_⟩
    rcases l with l | ⟨k, c, e, z⟩
    · exact .inl l
    · exact .inr ⟨k, c, e, cellK x c e _ z⟩
  · obtain ⟨v, z⟩ := I.cell x c e
    exact ⟨v, cellK x c e v z⟩
  · obtain ⟨m, ⟨o, _, _, ho, _⟩, _⟩ := I.loc
    exact free _ o (fun z => (hch _ z).2.1 rfl) ho I.free
  · obtain ⟨v, o, ho, hd⟩ := I.cell x c e
    exact free c o (fun z => (hch c z).2.2.1 x c e rfl) ho (I.freeC x c e)
  · obtain ⟨e, n, ne, nf, d⟩ := I.pin p hp
    have nch : p.1 ∉ ch := fun z => (hch p.1 z).2.2.2 p hp rfl
    exact ⟨keep p.1 p.2 ne nf nch e n, free p.1 p.2 nch e n, ne, nf, d⟩
theorem Inv.un {t' : Nat} (I : Inv X pins σ H s) (u : Un X.fs [] H H' s.heap h') (hok : HOk X.prog X.w H' h') : Inv X pins σ H' { s with heap := h', toks := t' } := by
  obtain ⟨m, ⟨o, es, ep, ho, r⟩, _⟩ := id I.loc
  obtain ⟨sl, hL⟩ := u.any ho I.free (by simp)
  exact I.step (g' := s.gens) (d' := s.drawn) (ch := []) (fun _ z => nomatch z) (fun b o _ hb _ e n => u.keep b o e n hb (by simp)) (fun b o _ hb _ e n => u.slot b o e n hb (by simp)) (fun b o _ e n => u.free b o e n (by simp)) (fun b o _ e => u.there b o e (by simp)) u.tups u.frzs u.tbls (fun m' hm => by
    obtain ⟨o', es', ep', ho', r'⟩ := hm
    rw [ho] at ho'; cases ho'
    exact ⟨_, es', ep', hL, r'⟩) hok I.bare
theorem Inv.call {g' : Array GenState} {t' : Nat} {d' : Drawn} {ch : List Addr} (I : Inv X pins σ H s) (u : Un (frs X.stack) ch H H' s.heap h') (hok : HOk X.prog X.w H' h') (hg : AllBare g')
    (hch : ∀ b ∈ ch, (b ∈ X.ex ∨ X.s₀.heap.objs.size ≤ b) ∧ b ≠ X.env.locals ∧ (∀ x c, X.env.cells.lookup x = some c → c ≠ b) ∧ ∀ p ∈ X.pn ++ pins, p.1 ≠ b) :
    Inv X pins σ H' { s with heap := h', gens := g', drawn := d', toks := t' } := by
  obtain ⟨m, ⟨o, es, ep, ho, r⟩, _⟩ := id I.loc
  obtain ⟨sl, hL⟩ := u.any ho I.free fun z => (hch _ z).2.1 rfl
  exact I.step (ch := ch) hch (fun b o hL hb hc e n => u.keep b o e n (fun z => (List.mem_cons.mp (I.stkSub b z)).elim hL hb) hc) (fun b o _ _ hc e n => u.any e n hc) (fun b o hc e n => u.free b o e n hc) (fun b o hc e => u.there b o e hc) u.tups u.frzs u.tbls (fun m' hm => by
    obtain ⟨o', es', ep', ho', r'⟩ := hm
    rw [ho] at ho'; cases ho'
    exact ⟨_, es', ep', hL, r'⟩) hok hg
theorem Inv.turned {t' : Nat} {it : Addr} (I : Inv X pins σ H s) (k : ∀ b o, b ≠ it → s.heap.get? b = some o → h'.get? b = some o) (hn : H it = none) (hL : it ≠ X.env.locals)
    (h1 : it ∈ X.ex ∨ X.s₀.heap.objs.size ≤ it) (h2 : ∀ x c, X.env.cells.lookup x = some c → c ≠ it) (h3 : ∀ p ∈ X.pn ++ pins, p.1 ≠ it) : Inv X pins σ H { s with heap := h', toks := t' } := by
  have nit : ∀ b u, H b = some u → b ≠ it := fun b u e z => by rw [z, hn] at e; cases e
  refine I.step (g' := s.gens) (d' := s.drawn) (ch := [it]) (fun b hb => ?_) (fun b o _ _ hc e _ => k b o (fun z => hc (by simp [z])) e) (fun b o _ _ hc e _ => ⟨o.slots, k b o (fun z => hc (by simp [z])) e⟩) (fun _ _ _ _ n => n)
    (fun b o hc e => ⟨o, k b o (fun z => hc (by simp [z])) e⟩) (fun _ _ e => e) (fun _ _ _ e => e) (fun b ps e => ⟨#[], by rw [e]; simp⟩) (fun m hm => ?_) (fun b u e => ?_) I.bare
  · have e : b = it := by simpa using hb
    subst e
    exact ⟨h1, hL, h2, h3⟩
  · obtain ⟨o, es, ep, ho, r⟩ := hm
    exact ⟨o, es, ep, k _ o (Ne.symm hL) ho, r⟩
  · refine (I.hok b u e).stay (fun c v hc q => k c v ?_ q) (fun _ q => q) fun _ _ q => q
    rcases hc with z | z
    · rw [z]; exact nit b u e
    · exact nit c _ z
theorem Inv.tok (I : Inv X pins σ H s) (t : Nat) : Inv X pins σ H { s with toks := t } := I.un (h' := s.heap) (t' := t) Un.refl I.hok
theorem Inv.kept {t' : Nat} (I : Inv X pins σ H s) (k : ∀ b u, s.heap.get? b = some u → h'.get? b = some u) : Inv X pins σ H { s with heap := h', toks := t' } := I.un (Un.kept k) (I.hok.kept k)
theorem Inv.laid {a : Addr} {o : HO} {t' : Nat} (I : Inv X pins σ H s) (k : ∀ b u, s.heap.get? b = some u → h'.get? b = some u) (hp : s.heap.objs.size ≤ a) (new : ObjOk X.prog X.w (upd H a o) h' a o) :
    Inv X pins σ (upd H a o) { s with heap := h', toks := t' } := I.un (Un.laid k hp (I.hok.fresh hp)) (I.hok.laid k hp new)
theorem Inv.write {x e : Addr} {o : HO} {t' : Nat} (I : Inv X pins σ H s) (mu : Mut (H x)) (he : e = x ∨ H e = some (.own x)) (k : ∀ b u, b ≠ e → s.heap.get? b = some u → h'.get? b = some u) (heo : ∃ u, h'.get? e = some u)
    (new : ObjOk X.prog X.w (upd H x o) h' x o) : Inv X pins σ (upd H x o) { s with heap := h', toks := t' } := I.un (Un.write mu he k heo) (I.hok.write mu he k heo new)
theorem Inv.weak {σ' : List (Option V)} (I : Inv X pins σ H s) (hl : σ'.length = σ.length) (w : ∀ (i : Nat) v, σ'[i]? = some (some v) → σ[i]? = some (some v)) : Inv X pins σ' H s :=
  ⟨I.ok, I.os, I.bare, I.base, let ⟨m, hn, hl'⟩ := I.loc; ⟨m, hn, fun i x v e1 e2 e3 => hl' i x v e1 (w i v e2) e3⟩, I.cell, I.free, I.freeC, I.pin, I.hok, hl.trans I.len⟩
theorem Inv.pins_of {pins' : List (Addr × Obj)} (I : Inv X pins σ H s) (h : ∀ p ∈ pins', s.heap.get? p.1 = some p.2 ∧ H p.1 = none ∧ p.1 ≠ X.env.locals ∧ p.1 ∉ X.fs ∧ ∀ v, p.2.data ≠ .cell v) : Inv X pins' σ H s :=
  ⟨I.ok, I.os, I.bare, I.base, I.loc, I.cell, I.free, I.freeC, fun p hp => (List.mem_append.mp hp).elim (fun z => I.pin p (List.mem_append_left _ z)) (h p), I.hok, I.len⟩
theorem nodup_ix {N : List Str} (hN : N.Nodup) {i j : Nat} {x : Str} (a : N[i]? = some x) (b : N[j]? = some x) : i = j := by
  obtain ⟨h1, e1⟩ := List.getElem?_eq_some_iff.mp a
  obtain ⟨h2, e2⟩ := List.getElem?_eq_some_iff.mp b
  exact (List.getElem_inj hN).mp (e1.trans e2.symm)
theorem store_ok2 {M : Model} {A : Around} {E : Value → Shared → Prop} {i : Nat} {x : Str} {v : V} {u : Value} {Q : Unit → Shared → Prop} (I : Inv X pins σ H s) (hN : X.N.Nodup) (hi : X.N[i]? = some x) (hx : Loc X.env.scope x) (r : RelV v u)
    (h : ∀ s', Inv X pins (σ.set i (some v)) H s' → (∃ a, Heap.SameBut a s.heap s'.heap ∧ (a = X.env.locals ∨ X.env.cells.lookup x = some a)) → Q () s') (hf : X.fn x = true ∨ X.env.scope.names.lookup x = some .local := by first | exact .inl rfl | exact .inr rfl | assumption) : wpAny M A (storeName X.env x u) Q E s := by
  obtain ⟨m, hn, hl⟩ := id I.loc
  have hcls : (X.env.scope.kind == .class || (X.env.scope.kind == .module && X.env.locals != X.env.globals)) = false := by rw [I.ok.kind]; rfl
  have hiσ : i < σ.length := by rw [I.len]; exact (List.getElem?_eq_some_iff.mp hi).1
  have cne := I.cne
  have tracked : ∀ {a : Addr} {h' : Heap}, (∃ o, s.heap.get? a = some o ∧ H a = none) → Heap.SameBut a s.heap h' → HOk X.prog X.w H h' := fun {a h'} ha hs b ob e => by
    obtain ⟨_, _, hfree⟩ := ha
    refine (I.hok b ob e).stay (fun c w' hc q => (hs.2 c ?_).trans q) (fun _ q => q) fun _ _ q => q
    rintro rfl
    rcases hc with rfl | hc
    · rw [hfree] at e; cases e
    · rw [hfree] at hc; cases hc
  rcases hx with hk | hk
  · refine wpAny_storeName_local hk hn (fun h' hn' hs => ?_) hcls
    obtain ⟨oL, _, _, hoL, _⟩ := id hn
    refine h _ ⟨I.ok, I.os, I.bare, ⟨fun b o e n hb hx => ?_, fun b o e n hb hx => ?_, I.base.free, fun b o e hx => ?_, I.base.tups, I.base.frzs, I.base.tbls⟩, ⟨_, hn', fun j y v' e1 e2 e3 => ?_⟩, fun y c e => ?_, I.free, I.freeC, fun p hp => ?_, tracked ⟨oL, hoL, I.free⟩ hs, by simpa using I.len⟩ ⟨_, hs, .inl rfl⟩
    · exact (hs.2 b (Nat.ne_of_lt (Nat.lt_of_lt_of_le (Heap.lt_size e) I.ok.above))).trans (I.base.keep b o e n hb hx)
    · obtain ⟨sl, e1⟩ := I.base.slot b o e n hb hx
      exact ⟨sl, (hs.2 b (Nat.ne_of_lt (Nat.lt_of_lt_of_le (Heap.lt_size e) I.ok.above))).trans e1⟩
    · obtain ⟨o', e1⟩ := I.base.there b o e hx
      exact ⟨o', (hs.2 b (Nat.ne_of_lt (Nat.lt_of_lt_of_le (Heap.lt_size e) I.ok.above))).trans e1⟩
    · by_cases hj : j = i
      · subst hj
        rw [hi] at e1; cases e1
        rw [List.getElem?_set_self hiσ] at e2
        cases e2
        exact ⟨u, r, .inl ⟨hk, by simp⟩⟩
      · rw [List.getElem?_set_ne (Ne.symm hj)] at e2
        obtain ⟨u', r', q⟩ := hl j y v' e1 e2 e3
        refine ⟨u', r', ?_⟩
        rcases q with ⟨k, e⟩ | ⟨k, c, e, z⟩
        · refine .inl ⟨k, ?_⟩
          have : y ≠ x := fun e => hj (nodup_ix hN e1 (e ▸ hi))
          simp [this, e]
        · exact .inr ⟨k, c, e, z.sameBut hs (cne y c e)⟩
    · obtain ⟨w', z⟩ := I.cell y c e
      exact ⟨w', z.sameBut hs (cne y c e)⟩
    · obtain ⟨e, n, ne, nf, d⟩ := I.pin p hp
      exact ⟨(hs.2 p.1 ne).trans e, n, ne, nf, d⟩
  · have hfn : X.fn x = true := by
      rcases hf with z | z
      · exact z
      · rw [z] at hk; cases hk
    obtain ⟨c, hc⟩ := I.ok.has x (.inl hk)
    obtain ⟨w', z⟩ := I.cell x c hc
    refine wpAny_storeName_cell I.ok.kind hk hc z (fun h' hc' hs => ?_)
    obtain ⟨oc, hoc, hocd⟩ := id z
    refine h { s with heap := h' } ⟨I.ok, I.os, I.bare, ⟨fun b o e n hb hx => ?_, fun b o e n hb hx => ?_, I.base.free, fun b o e hx => ?_, I.base.tups, I.base.frzs, I.base.tbls⟩, ⟨m, hn.sameBut hs (Ne.symm (cne x c hc)), fun j y v' e1 e2 e3 => ?_⟩, fun y c' e => ?_, I.free, I.freeC, fun p hp => ?_, tracked ⟨oc, hoc, I.freeC x c hc⟩ hs, by simpa using I.len⟩ ⟨c, hs, .inr hc⟩
    · exact (hs.2 b (Nat.ne_of_lt (Nat.lt_of_lt_of_le (Heap.lt_size e) (I.ok.cab x c hfn hc)))).trans (I.base.keep b o e n hb hx)
    · obtain ⟨sl, e1⟩ := I.base.slot b o e n hb hx
      exact ⟨sl, (hs.2 b (Nat.ne_of_lt (Nat.lt_of_lt_of_le (Heap.lt_size e) (I.ok.cab x c hfn hc)))).trans e1⟩
    · obtain ⟨o', e1⟩ := I.base.there b o e hx
      exact ⟨o', (hs.2 b (Nat.ne_of_lt (Nat.lt_of_lt_of_le (Heap.lt_size e) (I.ok.cab x c hfn hc)))).trans e1⟩
    · by_cases hj : j = i
      · subst hj
        rw [hi] at e1; cases e1
        rw [List.getElem?_set_self hiσ] at e2
        cases e2
        exact ⟨u, r, .inr ⟨.inl hk, c, hc, hc'⟩⟩
      · rw [List.getElem?_set_ne (Ne.symm hj)] at e2
        obtain ⟨u', r', q⟩ := hl j y v' e1 e2 e3
        refine ⟨u', r', ?_⟩
        rcases q with q | ⟨k, c', e, z'⟩
        · exact .inl q
        · refine .inr ⟨k, c', e, z'.sameBut hs ?_⟩
          rintro rfl
          exact hj (nodup_ix hN e1 (I.ok.inj _ _ _ e hc ▸ hi))
    · by_cases hcc : c' = c
      · subst hcc; exact ⟨_, hc'⟩
      · obtain ⟨w2, z2⟩ := I.cell y c' e
        exact ⟨w2, z2.sameBut hs hcc⟩
    · obtain ⟨e, n, ne, nf, d⟩ := I.pin p hp
      refine ⟨(hs.2 p.1 ?_).trans e, n, ne, nf, d⟩
      intro q
      rw [q, hoc] at e
      have q' : oc = p.2 := Option.some.inj e
      exact d w' (by rw [← q']; exact hocd)
theorem store_ok {M : Model} {A : Around} {E : Value → Shared → Prop} {i : Nat} {x : Str} {v : V} {u : Value} {Q : Unit → Shared → Prop} (I : Inv X pins σ H s) (hN : X.N.Nodup) (hi : X.N[i]? = some x) (hx : Loc X.env.scope x) (r : RelV v u)
    (h : ∀ s', Inv X pins (σ.set i (some v)) H s' → Q () s') (hf : X.fn x = true ∨ X.env.scope.names.lookup x = some .local := by first | exact .inl rfl | exact .inr rfl | assumption) : wpAny M A (storeName X.env x u) Q E s :=
  store_ok2 I hN hi hx r (fun s' I' _ => h s' I') hf
theorem Inv.call' {s' : Shared} {ch : List Addr} (I : Inv X pins σ H s) (ho : s'.os = s.os) (u : Un (frs X.stack) ch H H' s.heap s'.heap) (hok : HOk X.prog X.w H' s'.heap) (hg : AllBare s'.gens)
    (hch : ∀ b ∈ ch, (b ∈ X.ex ∨ X.s₀.heap.objs.size ≤ b) ∧ b ≠ X.env.locals ∧ (∀ x c, X.env.cells.lookup x = some c → c ≠ b) ∧ ∀ p ∈ X.pn ++ pins, p.1 ≠ b) : Inv X pins σ H' s' := by
  obtain ⟨h', g', d', t', o'⟩ := s'
  have e : o' = s.os := ho
  subst e
  exact I.call (g' := g') (t' := t') (d' := d') u hok hg hch
end
abbrev XK := Value → Option Addr → Hp → Prop
abbrev St := List (Option V)
abbrev VK := V → Hp → Prop
abbrev TE := St → Hp → VK → Prop
abbrev TT := St → Hp → (Bool → Hp → Prop) → Prop
abbrev TA := St → Hp → (List V → Hp → Prop) → Prop
structure Ends where
  nx : St → Hp → Prop
  rt : VK
  bk : St → Hp → Prop := fun _ _ => False
  ct : St → Hp → Prop := fun _ _ => False
abbrev TS := Ends → St → Hp → Prop
def EP (X : Cx) (pins : List (Addr × Obj)) (σ : St) (Q : VK) (u : Value) (s' : Shared) : Prop := ∃ v H', Inv X pins σ H' s' ∧ RelV v u ∧ Q v H'
def TP (X : Cx) (pins : List (Addr × Obj)) (σ : St) (Q : Bool → Hp → Prop) (b : Bool) (s' : Shared) : Prop := ∃ H', Inv X pins σ H' s' ∧ Q b H'
def AP (X : Cx) (pins : List (Addr × Obj)) (σ : St) (Q : List V → Hp → Prop) (us : List Value) (s' : Shared) : Prop := ∃ vs H', Inv X pins σ H' s' ∧ Vals vs us ∧ Q vs H'
def SP (X : Cx) (pins : List (Addr × Obj)) (D : Ends) (f : Flow) (s' : Shared) : Prop :=
  match f with
  | .next => ∃ σ' H', Inv X pins σ' H' s' ∧ D.nx σ' H'
  | .brk => ∃ σ' H', Inv X pins σ' H' s' ∧ D.bk σ' H'
  | .cont => ∃ σ' H', Inv X pins σ' H' s' ∧ D.ct σ' H'
  | .ret u => ∃ v σ' H', Inv X pins σ' H' s' ∧ RelV v u ∧ D.rt v H'
def PE (X : Cx) (e : Expr) (t : TE) : Prop :=
  ∀ (pins : List (Addr × Obj)) (s : Shared) (σ : St) (H : Hp) (Q : VK), Inv X pins σ H s → t σ H Q → wpAny (model X.prog X.w) X.A (eval e X.env) (EP X pins σ Q) X.xe s
def PT (X : Cx) (e : Expr) (t : TT) : Prop :=
  ∀ (pins : List (Addr × Obj)) (s : Shared) (σ : St) (H : Hp) (Q : Bool → Hp → Prop), Inv X pins σ H s → t σ H Q → wpAny (model X.prog X.w) X.A (isTrue e X.env (eval e X.env)) (TP X pins σ Q) X.xe s
def PW (X : Cx) (e : Expr) (t : TT) : Prop :=
  ∀ (whole : Sem Value) (pins : List (Addr × Obj)) (s : Shared) (σ : St) (H : Hp) (Q : Bool → Hp → Prop), Inv X pins σ H s → t σ H Q → wpAny (model X.prog X.w) X.A (isTrue e X.env whole) (TP X pins σ Q) X.xe s
theorem PW.pt {X : Cx} {e : Expr} {t : TT} (h : PW X e t) : PT X e t := h _
def PA (X : Cx) (es : List Expr) (t : TA) : Prop :=
  ∀ (pos : Pos) (pins : List (Addr × Obj)) (s : Shared) (σ : St) (H : Hp) (Q : List V → Hp → Prop), Inv X pins σ H s → t σ H Q → wpAny (model X.prog X.w) X.A (spliced (backTo pos (starEach es X.env))) (AP X pins σ Q) X.xe s
def PS (X : Cx) (st : Stmt) (t : TS) : Prop :=
  ∀ (pins : List (Addr × Obj)) (s : Shared) (σ : St) (H : Hp) (D : Ends), Inv X pins σ H s → t D σ H → wpAny (model X.prog X.w) X.A (exec st X.env) (SP X pins D) X.xe s
def PSs (X : Cx) (st : List Stmt) (t : TS) : Prop :=
  ∀ (pins : List (Addr × Obj)) (s : Shared) (σ : St) (H : Hp) (D : Ends), Inv X pins σ H s → t D σ H → wpAny (model X.prog X.w) X.A (execs st X.env) (SP X pins D) X.xe s
theorem thn {α : Type} {t : Sem α} {Q Q' : α → Shared → Prop} {M : Model} {A : Around} {E : Value → Shared → Prop} {s : Shared} (h : wpAny M A t Q E s) (hQ : ∀ a s, Q a s → Q' a s) : wpAny M A t Q' E s := wpAny_mono h hQ fun _ _ x => x
end L2
namespace L2
open PySem PySem.Spec PyProof.Rows
section
variable {X : Cx}
theorem bin {a b : Expr} {ta tb : TE} (ha : PE X a ta) (hb : PE X b tb) {pins : List (Addr × Obj)} {s : Shared} {σ : St} {H : Hp} {R : V → V → Hp → Prop} (I : Inv X pins σ H s) (h : ta σ H fun x H1 => tb σ H1 fun y H2 => R x y H2)
    {α : Type} {Q : α → Shared → Prop} {f : Value → Value → Sem α}
    (hf : ∀ v u s2 x y H2, Inv X pins σ H2 s2 → RelV x v → RelV y u → R x y H2 → wpAny (model X.prog X.w) X.A (f v u) Q X.xe s2) :
    wpAny (model X.prog X.w) X.A (eval a X.env) (fun v s₁ => wpAny (model X.prog X.w) X.A (eval b X.env) (fun u s₂ => wpAny (model X.prog X.w) X.A (f v u) Q X.xe s₂) X.xe s₁) X.xe s := by
  refine thn (ha pins s σ H _ I h) fun v s1 ⟨x, H1, I1, r1, q1⟩ => ?_
  refine thn (hb pins s1 σ H1 _ I1 q1) fun u s2 ⟨y, H2, I2, r2, q2⟩ => ?_
  exact hf v u s2 x y H2 I2 r1 r2 q2
def tVar (i : Nat) : TE := fun σ H Q => ∃ v, σ[i]? = some (some v) ∧ Q v H
def tC (v : V) : TE := fun _ H Q => Q v H
theorem pe_var {i : Nat} {x : Str} {pos : Pos} (hN : X.N[i]? = some x) (hv : Vis X.env.scope x) (hd : (x == ("__debug__" : Str)) = false := by decide) (hcd : (x == ("__classdict__" : Str)) = false := by decide) : PE X (.Name x pos) (tVar i) := by
  intro pins s σ H Q I h
  obtain ⟨v, e, h⟩ := h
  obtain ⟨m, hn, hl⟩ := I.loc
  obtain ⟨u, r, l⟩ := hl i x v hN e hv
  have fin : EP X pins σ Q u s := ⟨v, H, I, r, h⟩
  rcases l with ⟨hk, hm⟩ | ⟨hk, c, hc, hcell⟩
  · exact wpAny_Name (wpAny_loadName_local I.ok.kind hk hn hm fin) hd
  · rcases hk with hk | hk
    · exact wpAny_Name (wpAny_loadName_cell I.ok.kind hk hc hcell fin) hd
    · exact wpAny_Name (wpAny_loadName_free I.ok.kind hk hc hcell fin hcd) hd
theorem pe_int {i j pos} : PE X (.Constant (.int i) j pos) (tC (.int i)) := fun _ _ _ H _ I h => wpAny_Constant_int ⟨.int i, H, I.tok _, ⟨_, rfl⟩, h⟩
theorem pe_bl {b j pos} : PE X (.Constant (.bool b) j pos) (tC (.bl b)) := fun _ _ _ H _ I h => Constant_bool ⟨.bl b, H, I, rfl, h⟩
theorem pe_non {j pos} : PE X (.Constant .none j pos) (tC .non) := fun _ _ _ H _ I h => Constant_none ⟨.non, H, I, rfl, h⟩
theorem pe_str {x j pos} : PE X (.Constant (.str x) j pos) (tC (.str x)) := fun _ _ _ H _ I h => Calls.Constant_str ⟨.str x, H, I.tok _, ⟨_, rfl⟩, h⟩
def Gl (X : Cx) (x : Str) : Prop := X.env.kindOf x = some .globalImplicit
theorem ld_glob {E : Value → Shared → Prop} {pins : List (Addr × Obj)} {s : Shared} {σ : St} {H : Hp} {x : Str} {u : Value} {pos : Pos} {Q : Value → Shared → Prop} (I : Inv X pins σ H s) (hg : Gl X x) (hm : X.mg x = some u) (h : Q u s)
    (hd : (x == ("__debug__" : Str)) = false := by decide) : wpAny (model X.prog X.w) X.A (eval (.Name x pos) X.env) Q E s :=
  Calls.Name_function_global I.ok.kind hg (Calls.loadGlobal_global (by rw [I.ok.glob]; exact I.mod.glob.keeps I.bk) hm h) hd
theorem ld_blt {E : Value → Shared → Prop} {pins : List (Addr × Obj)} {s : Shared} {σ : St} {H : Hp} {x : Str} {u : Value} {pos : Pos} {Q : Value → Shared → Prop} (I : Inv X pins σ H s) (hg : Gl X x) (hm : X.mg x = none) (hv : bootBuiltins x = some u) (h : Q u s)
    (hn : x ≠ "__name__" := by decide) (hd : (x == ("__debug__" : Str)) = false := by decide) : wpAny (model X.prog X.w) X.A (eval (.Name x pos) X.env) Q E s := by
  obtain ⟨mb, h1, h2⟩ := I.mod.blt
  exact Calls.Name_function_global I.ok.kind hg (Calls.loadGlobal_builtin (by rw [I.ok.glob]; exact I.mod.glob.keeps I.bk) hm (by rw [I.ok.blt]; exact h1.keeps I.bk) ((h2 x hn).trans hv) h) hd
theorem pe_glob {x : Str} {v : V} {u : Value} {pos : Pos} (hg : Gl X x) (hm : X.mg x = some u) (r : RelV v u) (hd : (x == ("__debug__" : Str)) = false := by decide) : PE X (.Name x pos) (tC v) :=
  fun _ _ _ H _ I h => ld_glob I hg hm ⟨v, H, I, r, h⟩ hd
theorem pe_bltn {x : Str} {v : V} {u : Value} {pos : Pos} (hg : Gl X x) (hm : X.mg x = none) (hv : bootBuiltins x = some u) (r : RelV v u) (hn : x ≠ "__name__" := by decide) (hd : (x == ("__debug__" : Str)) = false := by decide) : PE X (.Name x pos) (tC v) :=
  fun _ _ _ H _ I h => ld_blt I hg hm hv ⟨v, H, I, r, h⟩ hn hd
def t2I (ta tb : TE) (k : Int → Int → Hp → Prop) : St → Hp → Prop := fun σ H => ta σ H fun x H1 => tb σ H1 fun y H2 => ∃ i j, x = .int i ∧ y = .int j ∧ k i j H2
def tAdd (ta tb : TE) : TE := fun σ H Q => t2I ta tb (fun i j H2 => Q (.int (i + j)) H2) σ H
def tSub (ta tb : TE) : TE := fun σ H Q => t2I ta tb (fun i j H2 => Q (.int (i - j)) H2) σ H
def tMul (ta tb : TE) : TE := fun σ H Q => t2I ta tb (fun i j H2 => (-(2 ^ 64) < i ∧ i < 2 ^ 64) ∧ Q (.int (i * j)) H2) σ H
variable {a b : Expr} {ta tb : TE} {pos : Pos}
theorem pe_add (ha : PE X a ta) (hb : PE X b tb) : PE X (.BinOp a .Add b pos) (tAdd ta tb) := by
  intro pins s σ H Q I h
  refine wpAny_BinOp (bin ha hb I h fun v u s2 x y H2 I2 rx ry q => ?_)
  obtain ⟨i, j, rfl, rfl, q⟩ := q
  obtain ⟨t, rfl⟩ := rx
  obtain ⟨t', rfl⟩ := ry
  exact add_int ⟨.int _, H2, I2.tok _, ⟨_, rfl⟩, q⟩
theorem pe_sub (ha : PE X a ta) (hb : PE X b tb) : PE X (.BinOp a .Sub b pos) (tSub ta tb) := by
  intro pins s σ H Q I h
  refine wpAny_BinOp (bin ha hb I h fun v u s2 x y H2 I2 rx ry q => ?_)
  obtain ⟨i, j, rfl, rfl, q⟩ := q
  obtain ⟨t, rfl⟩ := rx
  obtain ⟨t', rfl⟩ := ry
  exact sub_int ⟨.int _, H2, I2.tok _, ⟨_, rfl⟩, q⟩
theorem pe_mul (ha : PE X a ta) (hb : PE X b tb) : PE X (.BinOp a .Mult b pos) (tMul ta tb) := by
  intro pins s σ H Q I h
  refine wpAny_BinOp (bin ha hb I h fun v u s2 x y H2 I2 rx ry q => ?_)
  obtain ⟨i, j, rfl, rfl, ⟨q1, q2⟩, q⟩ := q
  obtain ⟨t, rfl⟩ := rx
  obtain ⟨t', rfl⟩ := ry
  exact mul_int ⟨.int _, H2, I2.tok _, ⟨_, rfl⟩, q⟩ (.of_left (intBits_le_64 q1 q2))
def PC (X : Cx) (op : CmpOp) (a b : Expr) (t : TE) : Prop :=
  ∀ (pins : List (Addr × Obj)) (s : Shared) (σ : St) (H : Hp) (Q : VK), Inv X pins σ H s → t σ H Q →
    wpAny (model X.prog X.w) X.A (eval a X.env) (fun v s₁ => wpAny (model X.prog X.w) X.A (eval b X.env) (fun u s₂ => wpAny (model X.prog X.w) X.A (compareOp op v u) (EP X pins σ Q) X.xe s₂) X.xe s₁) X.xe s
theorem nobehind (b : Expr) {op : CmpOp} (h : op ≠ .In) (h2 : op ≠ .NotIn) : behindInMarks op b = false := by
  have e1 : (op == CmpOp.In) = false := by cases op <;> first | rfl | exact absurd rfl h
  have e2 : (op == CmpOp.NotIn) = false := by cases op <;> first | rfl | exact absurd rfl h2
  cases b <;> simp [behindInMarks, e1, e2]
def tCmp (p : Int → Int → Bool) (ta tb : TE) : TE := fun σ H Q => t2I ta tb (fun i j H2 => Q (.bl (p i j)) H2) σ H
abbrev tLt : TE → TE → TE := tCmp fun i j => decide (i < j)
abbrev tLe : TE → TE → TE := tCmp fun i j => decide (i ≤ j)
abbrev tGt : TE → TE → TE := tCmp fun i j => decide (j < i)
abbrev tGe : TE → TE → TE := tCmp fun i j => decide (j ≤ i)
abbrev tEqI : TE → TE → TE := tCmp fun i j => decide (i = j)
abbrev tNeI : TE → TE → TE := tCmp fun i j => !decide (i = j)
theorem pc_int {op : CmpOp} {p : Int → Int → Bool} (ha : PE X a ta) (hb : PE X b tb)
    (rule : ∀ (i j : Int) (t u : Tok) (Q : Value → Shared → Prop) (s : Shared), Q (.bool (p i j)) s → wpAny (model X.prog X.w) X.A (compareOp op (.int i t) (.int j u)) Q X.xe s) : PC X op a b (tCmp p ta tb) := by
  intro pins s σ H Q I h
  refine bin ha hb I h fun v u s2 x y H2 I2 rx ry q => ?_
  obtain ⟨i, j, rfl, rfl, q⟩ := q
  obtain ⟨t, rfl⟩ := rx
  obtain ⟨t', rfl⟩ := ry
  exact rule i j t t' _ s2 ⟨.bl _, H2, I2, rfl, q⟩
theorem pc_lt (ha : PE X a ta) (hb : PE X b tb) : PC X .Lt a b (tLt ta tb) := pc_int ha hb fun _ _ _ _ _ _ h => lt_int h
theorem pc_le (ha : PE X a ta) (hb : PE X b tb) : PC X .LtE a b (tLe ta tb) := pc_int ha hb fun _ _ _ _ _ _ h => le_int h
theorem pc_gt (ha : PE X a ta) (hb : PE X b tb) : PC X .Gt a b (tGt ta tb) := pc_int ha hb fun _ _ _ _ _ _ h => gt_int h
theorem pc_ge (ha : PE X a ta) (hb : PE X b tb) : PC X .GtE a b (tGe ta tb) := pc_int ha hb fun _ _ _ _ _ _ h => ge_int h
theorem pc_eqI (ha : PE X a ta) (hb : PE X b tb) : PC X .Eq a b (tEqI ta tb) := pc_int ha hb fun _ _ _ _ _ _ h => eq_int (by rw [Bool.beq_eq_decide_eq]; exact h)
theorem pc_neI (ha : PE X a ta) (hb : PE X b tb) : PC X .NotEq a b (tNeI ta tb) := pc_int ha hb fun _ _ _ _ _ _ h => ne_int (by rw [bne, Bool.beq_eq_decide_eq]; exact h)
def tIsN (ta : TE) : TE := fun σ H Q => ta σ H fun x H1 => Q (.bl (decide (x = .non))) H1
def tNotN (ta : TE) : TE := fun σ H Q => ta σ H fun x H1 => Q (.bl (!decide (x = .non))) H1
theorem RelV.none_iff {x : V} {v : Value} (r : RelV x v) : (v == Value.none) = decide (x = .non) := by
  cases x with
  | non => cases r; rfl
  | bl _ => cases r; rfl
  | int _ => obtain ⟨t, rfl⟩ := r; rfl
  | str _ => obtain ⟨t, rfl⟩ := r; rfl
  | byt _ => obtain ⟨t, rfl⟩ := r; rfl
  | flt _ => obtain ⟨t, rfl⟩ := r; rfl
  | ref _ => cases r; rfl
  | ty _ => cases r; rfl
theorem pc_isN {j pos'} (ha : PE X a ta) : PC X .Is a (.Constant .none j pos') (tIsN ta) := by
  intro pins s σ H Q I h
  refine thn (ha pins s σ H _ I h) fun v s1 ⟨x, H1, I1, r1, q1⟩ => ?_
  exact Constant_none (is_none_gen ⟨.bl _, H1, I1, by rw [r1.none_iff]; rfl, q1⟩)
theorem pc_notN {j pos'} (ha : PE X a ta) : PC X .IsNot a (.Constant .none j pos') (tNotN ta) := by
  intro pins s σ H Q I h
  refine thn (ha pins s σ H _ I h) fun v s1 ⟨x, H1, I1, r1, q1⟩ => ?_
  exact Constant_none (isnot_none_gen ⟨.bl _, H1, I1, by rw [r1.none_iff]; rfl, q1⟩)
def tB (t : TE) : TT := fun σ H Q => t σ H fun x H1 => ∃ c, x = .bl c ∧ Q c H1
theorem pe_cmp {op : CmpOp} {t : TE} (h : PC X op a b t) (h1 : behindInMarks op b = false := by first | exact nobehind _ (by decide) (by decide) | rfl) : PE X (.Compare a [op] [b] pos) t := fun pins s σ H Q I hw => wpAny_Compare1 (h pins s σ H Q I hw) h1
theorem pt_cmp {op : CmpOp} {t : TE} (h : PC X op a b t) (h1 : behindInMarks op b = false := by first | exact nobehind _ (by decide) (by decide) | rfl) : PT X (.Compare a [op] [b] pos) (tB t) := by
  intro pins s σ H Q I hw
  refine wpAny_isTrue_Compare1 (thn (h pins s σ H _ I hw) fun v s1 h1 => thn h1 fun u s2 h2 => thn h2 fun c s3 ⟨x, H1, I1, r1, q1⟩ => ?_) h1
  obtain ⟨d, rfl, q⟩ := q1
  cases r1
  exact wpAny_truthy_bool ⟨H1, I1, q⟩
theorem pt_val {e : Expr} {t : TE} (h : PE X e t) (he : ∀ whole, isTrue e X.env whole = (do let v ← whole; standAt e.pos; holding [v] (truthy v)) := by intro _; rfl) : PT X e (tB t) := by
  intro pins s σ H Q I hw
  refine isTrue_plain (thn (h pins s σ H _ I hw) fun v s1 ⟨x, H1, I1, r1, q1⟩ => ?_) (he _)
  obtain ⟨d, rfl, q⟩ := q1
  cases r1
  exact wpAny_truthy_bool ⟨H1, I1, q⟩
variable {tA tB' : TT} {rest : List Expr}
def tAnd (t u : TT) : TT := fun σ H Q => t σ H fun c H1 => if c = true then u σ H1 Q else Q false H1
def tOr (t u : TT) : TT := fun σ H Q => t σ H fun c H1 => if c = true then Q true H1 else u σ H1 Q
def tNot (t : TT) : TT := fun σ H Q => t σ H fun c H1 => Q (!c) H1
theorem pw_and1 (ha : PT X a tA) : PW X (.BoolOp .And [a] pos) tA := by
  intro wh pins s σ H Q I h
  refine isTrue_and (thn (ha pins s σ H Q I h) fun c s1 e => ?_)
  cases c with
  | true => exact isTrue_and_nil e
  | false => exact e
theorem pw_or1 (ha : PT X a tA) : PW X (.BoolOp .Or [a] pos) tA := by
  intro wh pins s σ H Q I h
  refine isTrue_or (thn (ha pins s σ H Q I h) fun c s1 e => ?_)
  cases c with
  | false => exact isTrue_or_nil e
  | true => exact e
theorem pw_and (ha : PT X a tA) (hb : PW X (.BoolOp .And (b :: rest) pos) tB') : PW X (.BoolOp .And (a :: b :: rest) pos) (tAnd tA tB') := by
  intro wh pins s σ H Q I h
  refine isTrue_and (thn (ha pins s σ H _ I h) fun c s1 ⟨H1, I1, q1⟩ => ?_)
  cases c with
  | true => exact hb wh pins s1 σ H1 Q I1 q1
  | false => exact ⟨H1, I1, q1⟩
theorem pw_or (ha : PT X a tA) (hb : PW X (.BoolOp .Or (b :: rest) pos) tB') : PW X (.BoolOp .Or (a :: b :: rest) pos) (tOr tA tB') := by
  intro wh pins s σ H Q I h
  refine isTrue_or (thn (ha pins s σ H _ I h) fun c s1 ⟨H1, I1, q1⟩ => ?_)
  cases c with
  | true => exact ⟨H1, I1, q1⟩
  | false => exact hb wh pins s1 σ H1 Q I1 q1
theorem pt_not (ha : PT X a tA) : PT X (.UnaryOp .Not a pos) (tNot tA) := by
  intro pins s σ H Q I h
  exact isTrue_not (ha pins s σ H (fun c H1 => Q (!c) H1) I h)
def tAndV (ta tb : TE) : TE := fun σ H Q => ta σ H fun x H1 => ∃ c, x = .bl c ∧ if c = true then tb σ H1 Q else Q (.bl false) H1
def tOrV (ta tb : TE) : TE := fun σ H Q => ta σ H fun x H1 => ∃ c, x = .bl c ∧ if c = true then Q (.bl true) H1 else tb σ H1 Q
def tNotV (ta : TE) : TE := fun σ H Q => ta σ H fun x H1 => ∃ c, x = .bl c ∧ Q (.bl (!c)) H1
theorem pe_one {op} {t : TE} (h : PE X a t) : PE X (.BoolOp op [a] pos) t := fun pins s σ H Q I hw => BoolOp_one (h pins s σ H Q I hw)
theorem pe_and (ha : PE X a ta) (hb : PE X (.BoolOp .And (b :: rest) pos) tb) : PE X (.BoolOp .And (a :: b :: rest) pos) (tAndV ta tb) := by
  intro pins s σ H Q I h
  refine BoolOp_and (thn (ha pins s σ H _ I h) fun v s1 ⟨x, H1, I1, r1, q1⟩ => ?_)
  obtain ⟨c, rfl, q1⟩ := q1
  cases r1
  refine wpAny_truthy_bool ?_
  cases c with
  | true => exact hb pins s1 σ H1 Q I1 q1
  | false => exact ⟨.bl false, H1, I1, rfl, q1⟩
theorem pe_or (ha : PE X a ta) (hb : PE X (.BoolOp .Or (b :: rest) pos) tb) : PE X (.BoolOp .Or (a :: b :: rest) pos) (tOrV ta tb) := by
  intro pins s σ H Q I h
  refine BoolOp_or (thn (ha pins s σ H _ I h) fun v s1 ⟨x, H1, I1, r1, q1⟩ => ?_)
  obtain ⟨c, rfl, q1⟩ := q1
  cases r1
  refine wpAny_truthy_bool ?_
  cases c with
  | false => exact hb pins s1 σ H1 Q I1 q1
  | true => exact ⟨.bl true, H1, I1, rfl, q1⟩
theorem pe_not (ha : PE X a ta) : PE X (.UnaryOp .Not a pos) (tNotV ta) := by
  intro pins s σ H Q I h
  refine UnaryOp_ (thn (ha pins s σ H _ I h) fun v s1 ⟨x, H1, I1, r1, q1⟩ => ?_)
  obtain ⟨c, rfl, q1⟩ := q1
  cases r1
  exact not_of (wpAny_truthy_bool ⟨.bl (!c), H1, I1, rfl, q1⟩)
def tIf (t : TT) (ta tb : TE) : TE := fun σ H Q => t σ H fun c H1 => if c = true then ta σ H1 Q else tb σ H1 Q
theorem pe_ifExp {c : Expr} (hc : PT X c tA) (ha : PE X a ta) (hb : PE X b tb) : PE X (.IfExp c a b pos) (tIf tA ta tb) := by
  intro pins s σ H Q I h
  refine wpAny_IfExp (thn (hc pins s σ H _ I h) fun d s1 ⟨H1, I1, q1⟩ => ?_)
  cases d with
  | true => exact ha pins s1 σ H1 Q I1 q1
  | false => exact hb pins s1 σ H1 Q I1 q1
end
end L2
namespace L2
open PySem PySem.Spec PyProof.Rows
def SqL (K : PySem.W.Frag) (H : Hp) (a : Addr) (xs : List V) : Prop :=
  Rd H a (.lst xs) ∨
    ∃ (o : Obj) (its : Array Value) (n : Nat), K.lookup a = some o ∧ o.cls = .type "list" ∧ o.dict = none ∧ o.data = .seq its n ∧ its.size ≤ sizeLine ∧ Vals xs its.toList
def SqT (K : PySem.W.Frag) (H : Hp) (a : Addr) (xs : List V) : Prop :=
  Rd H a (.tup xs) ∨
    ∃ (o : Obj) (its : Array Value) (n : Nat), K.lookup a = some o ∧ o.cls = .type "tuple" ∧ o.data = .seq its n ∧ its.size ≤ sizeLine ∧ Vals xs its.toList
def absV : Value → Option V
  | .none => some .non
  | .bool b => some (.bl b)
  | .int i _ => some (.int i)
  | .str x _ => some (.str x)
  | .bytes b _ => some (.byt b)
  | .float b _ => some (.flt b)
  | .ref a => some (.ref a)
  | .type n => some (.ty n)
  | _ => none
theorem RelV.abs {x : V} {u : Value} (r : RelV x u) : absV u = some x := by
  cases x with
  | non => cases r; rfl
  | bl _ => cases r; rfl
  | int _ => obtain ⟨t, rfl⟩ := r; rfl
  | str _ => obtain ⟨t, rfl⟩ := r; rfl
  | byt _ => obtain ⟨t, rfl⟩ := r; rfl
  | flt _ => obtain ⟨t, rfl⟩ := r; rfl
  | ref _ => cases r; rfl
  | ty _ => cases r; rfl
theorem RelV.inj {x y : V} {u : Value} (r : RelV x u) (q : RelV y u) : x = y := Option.some.inj (r.abs.symm.trans q.abs)
theorem Vals.inj : ∀ {xs ys : List V} {us : List Value}, Vals xs us → Vals ys us → xs = ys
  | _, _, _, .nil, .nil => rfl
  | _, _, _, .cons r t, .cons r' t' => by rw [r.inj r', Vals.inj t t']
section
variable {X : Cx} {pins : List (Addr × Obj)} {σ : St} {H : Hp} {s : Shared} {a : Addr} {xs ys : List V}
theorem SqL.of {K : PySem.W.Frag} (h : H a = some (.lst xs)) : SqL K H a xs := .inl (.inl h)
theorem SqT.of {K : PySem.W.Frag} (h : H a = some (.tup xs)) : SqT K H a xs := .inl (.inl h)
theorem Inv.list (I : Inv X pins σ H s) (h : SqL X.K H a xs) : ∃ its : List Value, Vals xs its ∧ PlainL s.heap a its.toArray ∧ xs.length ≤ sizeLine := by
  rcases h with h | ⟨o, its, n, hk, hc, hd, hs, hz, r⟩
  · obtain ⟨z, its, n, r, e⟩ := h.ok I.hok
    exact ⟨its, r, ⟨_, n, e, rfl, rfl, rfl⟩, z⟩
  · refine ⟨its.toList, r, ⟨o, n, I.kIn a o hk, hc, hd, by simpa using hs⟩, ?_⟩
    have e := r.length
    simp only [Array.length_toList] at e
    omega
theorem Inv.tuple (I : Inv X pins σ H s) (h : SqT X.K H a xs) : ∃ its : List Value, Vals xs its ∧ IsTup s.heap a its.toArray ∧ xs.length ≤ sizeLine := by
  rcases h with h | ⟨o, its, n, hk, hc, hs, hz, r⟩
  · obtain ⟨z, its, r, p⟩ := h.ok I.hok
    exact ⟨its, r, p, z⟩
  · refine ⟨its.toList, r, ⟨o, I.kIn a o hk, hc, n, by simpa using hs⟩, ?_⟩
    have e := r.length
    simp only [Array.length_toList] at e
    omega
theorem Inv.list_inj (I : Inv X pins σ H s) (h : SqL X.K H a xs) (h' : SqL X.K H a ys) : xs = ys := by
  obtain ⟨its, r, ⟨o, n, e, _, _, d⟩, _⟩ := I.list h
  obtain ⟨its', r', ⟨o', n', e', _, _, d'⟩, _⟩ := I.list h'
  rw [e] at e'; cases e'
  rw [d] at d'
  injection d' with d1 _
  have : its = its' := by simpa using congrArg Array.toList d1
  subst this
  exact r.inj r'
theorem Inv.tuple_inj (I : Inv X pins σ H s) (h : SqT X.K H a xs) (h' : SqT X.K H a ys) : xs = ys := by
  obtain ⟨its, r, ⟨o, e, _, n, d⟩, _⟩ := I.tuple h
  obtain ⟨its', r', ⟨o', e', _, n', d'⟩, _⟩ := I.tuple h'
  rw [e] at e'; cases e'
  rw [d] at d'
  injection d' with d1 _
  have : its = its' := by simpa using congrArg Array.toList d1
  subst this
  exact r.inj r'
end
abbrev Cx.wish (X : Cx) (E : Value → Shared → Prop) : Cx := { X with xe := E }
abbrev Cx.nox (X : Cx) : Cx := X.wish fun _ _ => False
theorem Cx.Ok.wish {X : Cx} (ok : X.Ok) (E : Value → Shared → Prop) : (X.wish E).Ok :=
  ⟨ok.mod, ok.kind, ok.glob, ok.blt, ok.above, ok.inj, ok.has, ok.cab, ok.hd, ok.frames, ok.stk, ok.exf, ok.bs, ok.bsz, ok.noex, ok.exfs, ok.funs, ok.frf⟩
theorem Cx.Ok.unwish {X : Cx} {E : Value → Shared → Prop} (ok : (X.wish E).Ok) : X.Ok :=
  ⟨ok.mod, ok.kind, ok.glob, ok.blt, ok.above, ok.inj, ok.has, ok.cab, ok.hd, ok.frames, ok.stk, ok.exf, ok.bs, ok.bsz, ok.noex, ok.exfs, ok.funs, ok.frf⟩
section
variable {X : Cx} {pins : List (Addr × Obj)} {σ : St} {H : Hp} {s : Shared} {E : Value → Shared → Prop}
theorem Inv.wish (I : Inv X pins σ H s) (E : Value → Shared → Prop) : Inv (X.wish E) pins σ H s := ⟨I.ok.wish E, I.os, I.bare, I.base, I.loc, I.cell, I.free, I.freeC, I.pin, I.hok, I.len⟩
theorem Inv.unwish (I : Inv (X.wish E) pins σ H s) : Inv X pins σ H s := ⟨I.ok.unwish, I.os, I.bare, I.base, I.loc, I.cell, I.free, I.freeC, I.pin, I.hok, I.len⟩
theorem SP.unwish {D : Ends} {f : Flow} {s' : Shared} (h : SP (X.wish E) pins D f s') : SP X pins D f s' := by
  cases f with
  | next => obtain ⟨σ', H', I, q⟩ := h; exact ⟨σ', H', I.unwish, q⟩
  | brk => obtain ⟨σ', H', I, q⟩ := h; exact ⟨σ', H', I.unwish, q⟩
  | cont => obtain ⟨σ', H', I, q⟩ := h; exact ⟨σ', H', I.unwish, q⟩
  | ret u => obtain ⟨v, σ', H', I, r, q⟩ := h; exact ⟨v, σ', H', I.unwish, r, q⟩
theorem PE.nox {e : Expr} {t : TE} (h : PE X.nox e t) : PE X e t := fun pins s σ H Q I hw =>
  wpAny_mono (h pins s σ H Q (I.wish _) hw) (fun _ _ ⟨v, H', I', r, q⟩ => ⟨v, H', I'.unwish, r, q⟩) fun _ _ z => False.elim z
theorem PT.nox {e : Expr} {t : TT} (h : PT X.nox e t) : PT X e t := fun pins s σ H Q I hw =>
  wpAny_mono (h pins s σ H Q (I.wish _) hw) (fun _ _ ⟨H', I', q⟩ => ⟨H', I'.unwish, q⟩) fun _ _ z => False.elim z
theorem PSs.nox {st : List Stmt} {t : TS} (h : PSs X.nox st t) : PSs X st t := fun pins s σ H D I hw =>
  wpAny_mono (h pins s σ H D (I.wish _) hw) (fun _ _ q => q.unwish) fun _ _ z => False.elim z
end
section
variable {X : Cx} {st : Stmt} {rest : List Stmt} {t u : TS} {e : Expr} {te : TE} {pos : Pos}
def tNext : TS := fun D σ H => D.nx σ H
def tSeq (t u : TS) : TS := fun D σ H => t { D with nx := u D } σ H
theorem pss_nil : PSs X [] tNext := fun _ _ σ H _ I h => wpAny_execs_nil ⟨σ, H, I, h⟩
theorem pss_cons (h1 : PS X st t) (h2 : PSs X rest u) : PSs X (st :: rest) (tSeq t u) := by
  intro pins s σ H D I h
  refine wpAny_execs_cons (thn (h1 pins s σ H { D with nx := u D } I h) fun f s1 q => ?_)
  cases f with
  | next =>
    obtain ⟨σ', H', I', q⟩ := q
    exact h2 pins s1 σ' H' D I' q
  | ret v => exact q
  | brk => exact q
  | cont => exact q
theorem pss_one (h1 : PS X st t) : PSs X [st] t := by
  intro pins s σ H D I h
  refine wpAny_execs_cons (thn (h1 pins s σ H D I h) fun f s1 q => ?_)
  cases f with
  | next => exact wpAny_execs_nil q
  | ret v => exact q
  | brk => exact q
  | cont => exact q
def tBreak : TS := fun D σ H => D.bk σ H
def tCont : TS := fun D σ H => D.ct σ H
theorem ps_pass : PS X (.Pass pos) tNext := fun _ _ σ H _ I h => wpAny_Pass ⟨σ, H, I, h⟩
theorem ps_break : PS X (.Break pos) tBreak := fun _ _ σ H _ I h => wpAny_Break ⟨σ, H, I, h⟩
theorem ps_continue : PS X (.Continue pos) tCont := fun _ _ σ H _ I h => wpAny_Continue ⟨σ, H, I, h⟩
theorem Inv.quiet {pins : List (Addr × Obj)} {σ : St} {H : Hp} {s : Shared} (I : Inv X pins σ H s) : interactive X.env = false := by simp [interactive, I.ok.kind]
theorem ps_doc {x j pos pos'} : PS X (.Expr (.Constant (.str x) j pos) pos') tNext := fun _ s σ H _ I h => wpAny_Expr (Calls.Constant_str (show SP X _ _ .next { s with toks := s.toks + 1 } from ⟨σ, H, I.tok _, h⟩)) I.quiet
def tDrop (te : TE) : TS := fun D σ H => te σ H fun _ H1 => D.nx σ H1
theorem ps_expr (he : PE X e te) (hs : swapsWith e none pos.line X.env = pure false := by rfl) : PS X (.Expr e pos) (tDrop te) := by
  intro pins s σ H D I h
  exact wpAny_Expr_any (thn (he pins s σ H _ I h) fun v s1 ⟨x, H1, I1, r1, q1⟩ => ⟨σ, H1, I1, q1⟩) I.quiet hs
def tRet (te : TE) : TS := fun D σ H => te σ H D.rt
theorem ps_ret (he : PE X e te) : PS X (.Return (some e) pos) (tRet te) := by
  intro pins s σ H D I h
  exact wpAny_Return_some (thn (he pins s σ H _ I h) fun v s1 ⟨x, H1, I1, r1, q1⟩ => ⟨x, σ, H1, I1, r1, q1⟩)
def tRetN : TS := fun D _ H => D.rt .non H
theorem ps_retN : PS X (.Return none pos) tRetN := fun _ _ σ H _ I h => wpAny_Return_none ⟨.non, σ, H, I, rfl, h⟩
def tIfS (c : TT) (t u : TS) : TS := fun D σ H => c σ H fun b H1 => if b = true then t D σ H1 else u D σ H1
theorem ps_if {c : Expr} {a b : List Stmt} {tc : TT} (hc : PT X c tc) (ha : PSs X a t) (hb : PSs X b u) : PS X (.If c a b pos) (tIfS tc t u) := by
  intro pins s σ H D I h
  refine wpAny_If (thn (hc pins s σ H _ I h) fun d s1 ⟨H1, I1, q1⟩ => ?_)
  cases d with
  | true => exact ha pins s1 σ H1 D I1 q1
  | false => exact hb pins s1 σ H1 D I1 q1
def tNever : TS := fun _ _ _ => False
theorem ps_never : PS X st tNever := fun _ _ _ _ _ _ h => h.elim
theorem pss_never {sts : List Stmt} : PSs X sts tNever := fun _ _ _ _ _ _ h => h.elim
end
abbrev TG := V → St → Hp → (St → Hp → Prop) → Prop
abbrev TGs := List V → St → Hp → (St → Hp → Prop) → Prop
def PG (X : Cx) (target : Expr) (t : TG) : Prop :=
  ∀ (pins : List (Addr × Obj)) (s : Shared) (σ : St) (H : Hp) (v : V) (u : Value) (Q : St → Hp → Prop), Inv X pins σ H s → RelV v u → t v σ H Q →
    wpAny (model X.prog X.w) X.A (assign target X.env u) (fun _ s' => ∃ σ' H', Inv X pins σ' H' s' ∧ Q σ' H') X.xe s
def PGs (X : Cx) (ts : List Expr) (t : TGs) : Prop :=
  ∀ (pins : List (Addr × Obj)) (s : Shared) (σ : St) (H : Hp) (vs : List V) (us : List Value) (Q : St → Hp → Prop), Inv X pins σ H s → Vals vs us → t vs σ H Q →
    wpAny (model X.prog X.w) X.A (assignInOrder ((assignEach ts X.env).map (·.2)) us) (fun _ s' => ∃ σ' H', Inv X pins σ' H' s' ∧ Q σ' H') X.xe s
abbrev TSet := V → V → V → Hp → (Hp → Prop) → Prop
def PSet (X : Cx) (t : TSet) : Prop :=
  ∀ (pins : List (Addr × Obj)) (s : Shared) (σ : St) (H : Hp) (o i v : V) (ov iv u : Value) (Q : Hp → Prop), Inv X pins σ H s → RelV o ov → RelV i iv → RelV v u → t o i v H Q →
    wpAny (model X.prog X.w) X.A (setItem ov iv u) (fun _ s' => ∃ H', Inv X pins σ H' s' ∧ Q H') X.xe s
abbrev TIp := V → V → Hp → VK → Prop
def PIp (X : Cx) (op : Operator) (t : TIp) : Prop :=
  ∀ (pins : List (Addr × Obj)) (s : Shared) (σ : St) (H : Hp) (x y : V) (v u : Value) (Q : VK), Inv X pins σ H s → RelV x v → RelV y u → t x y H Q →
    wpAny (model X.prog X.w) X.A (inplaceOp op v u) (EP X pins σ Q) X.xe s
section
variable {X : Cx} {pos : Pos}
def gName (i : Nat) : TG := fun v σ H Q => Q (σ.set i (some v)) H
theorem pg_name {i : Nat} {x : Str} (hN : X.N.Nodup) (hi : X.N[i]? = some x) (hx : Loc X.env.scope x) (hf : X.fn x = true ∨ X.env.scope.names.lookup x = some .local := by first | exact .inl rfl | exact .inr rfl | assumption) : PG X (.Name x pos) (gName i) := by
  intro pins s σ H v u Q I r h
  exact wpAny_assign_Name (store_ok I hN hi hx r (fun s' I' => ⟨_, H, I', h⟩) hf)
def gNil : TGs := fun vs σ H Q => vs = [] ∧ Q σ H
def gCons (t : TG) (u : TGs) : TGs := fun vs σ H Q => ∃ v r, vs = v :: r ∧ t v σ H fun σ' H' => u r σ' H' Q
theorem pgs_nil : PGs X [] gNil := by
  intro pins s σ H vs us Q I r h
  obtain ⟨e, h⟩ := h
  subst e
  cases r
  exact assignInOrder_nil ⟨σ, H, I, h⟩
theorem pgs_cons {e : Expr} {es : List Expr} {t : TG} {u : TGs} (h1 : PG X e t) (h2 : PGs X es u)
    (hs : (assignEach (e :: es) X.env).map (·.2) = assign e X.env :: (assignEach es X.env).map (·.2) := by rfl) : PGs X (e :: es) (gCons t u) := by
  intro pins s σ H vs us Q I r h
  obtain ⟨v, vr, e1, h⟩ := h
  subst e1
  cases r with
  | cons r rr =>
    rw [hs]
    refine assignInOrder_cons (thn (h1 pins s σ H _ _ _ I r h) fun _ s1 ⟨σ1, H1, I1, q1⟩ => ?_)
    exact h2 pins s1 σ1 H1 _ _ Q I1 rr q1
def gTup (K : PySem.W.Frag) (n : Nat) (t : TGs) : TG := fun v σ H Q => ∃ a xs, v = .ref a ∧ SqT K H a xs ∧ xs.length = n ∧ t xs σ H Q
theorem pg_tup {es : List Expr} {k : Nat} {t : TGs} {n : Nat} (hc : X.calm = true) (h : PGs X es t)
    (hn : (assignEach es X.env).length = n := by rfl) (hst : (assignEach es X.env).findIdx? (·.1) = none := by rfl) : PG X (.Tuple es k pos) (gTup X.K n t) := by
  intro pins s σ H v u Q I r hw
  obtain ⟨a, xs, e1, hq, hl, hw⟩ := hw
  subst e1
  cases r
  obtain ⟨its, rv, ht, hz⟩ := I.tuple hq
  refine assign_Tuple_tuple (I.ok.hd hc) ht (by simp [hn, ← hl, rv.length]) hst fun h' hx => ?_
  have I1 : Inv X pins σ H { s with heap := h' } := I.kept (t' := s.toks) fun b o e => hx b o (Nat.ne_of_lt (Heap.lt_size e)) e
  exact h pins _ σ H xs _ Q I1 (by simpa using rv) hw
def gSub (to ti : TE) (t : TSet) : TG := fun v σ H Q => to σ H fun o H1 => ti σ H1 fun i H2 => t o i v H2 fun H3 => Q σ H3
theorem pg_sub {o i : Expr} {to ti : TE} {t : TSet} (ho : PE X o to) (hi : PE X i ti) (hs : PSet X t)
    (ha : ∀ v, assign (.Subscript o i pos) X.env v = (do
      let ov ← holding [v] (eval o X.env)
      let iv ← holding [v, ov] (eval i X.env)
      standAt pos
      holding [v, ov, iv] (setItem ov iv v)
      release [v, ov, iv] []) := by intro _; rfl) : PG X (.Subscript o i pos) (gSub to ti t) := by
  intro pins s σ H v u Q I r h
  rw [ha]
  refine wpAny_bind (wpAny_holding (thn (ho pins s σ H _ I h) fun ov s1 ⟨x, H1, I1, r1, q1⟩ => ?_))
  refine wpAny_bind (wpAny_holding (thn (hi pins s1 σ H1 _ I1 q1) fun iv s2 ⟨y, H2, I2, r2, q2⟩ => ?_))
  refine wpAny_bind (wpAny_standAt (wpAny_bind (wpAny_holding (thn (hs pins s2 σ H2 x y v ov iv u _ I2 r1 r2 r q2) fun _ s3 ⟨H3, I3, q3⟩ => ?_))))
  exact wpAny_release ⟨σ, H3, I3, q3⟩
def tAsg (te : TE) (g : TG) : TS := fun D σ H => te σ H fun x H1 => g x σ H1 D.nx
theorem ps_asg {tg e : Expr} {te : TE} {g : TG} (he : PE X e te) (hg : PG X tg g) (hs : swapsWithSole [tg] e pos.line X.env = pure false := by rfl) (hw : swappedStores [tg] e X.env = pure none := by rfl)
    (h1 : (assignEach [tg] X.env).map (·.2) = [assign tg X.env] := by rfl) : PS X (.Assign [tg] e pos) (tAsg te g) := by
  intro pins s σ H D I h
  refine wpAny_Assign_stores (thn (he pins s σ H _ I h) fun v s1 ⟨x, H1, I1, r1, q1⟩ => ?_) hs hw
  rw [h1]
  exact thn (hg pins s1 σ H1 x v _ I1 r1 q1) fun _ s2 q => q
theorem ps_set {i : Nat} {x : Str} {e : Expr} {te : TE} {pos' : Pos} (hN : X.N.Nodup) (hi : X.N[i]? = some x) (hx : Loc X.env.scope x) (he : PE X e te) (hs : swapsWith e (some (.Name x pos')) pos.line X.env = pure false := by rfl) (hf : X.fn x = true ∨ X.env.scope.names.lookup x = some .local := by first | exact .inl rfl | exact .inr rfl | assumption) :
    PS X (.Assign [.Name x pos'] e pos) (tAsg te (gName i)) := by
  intro pins s σ H D I h
  refine wpAny_Assign_Name (thn (he pins s σ H _ I h) fun v s1 ⟨y, H1, I1, r1, q1⟩ => ?_) hs
  exact store_ok I1 hN hi hx r1 (fun s2 I2 => ⟨_, H1, I2, q1⟩) hf
def tPar (i j : Nat) (ta : TA) : TS := fun D σ H => ta σ H fun vs H1 => ∃ v w, vs = [v, w] ∧ D.nx ((σ.set i (some v)).set j (some w)) H1
theorem ps_par {i j : Nat} {x y : Str} {a b : Expr} {ta : TA} {px py pt : Pos} {kt k2 pt2} (hc : X.calm = true) (hN : X.N.Nodup) (hi : X.N[i]? = some x) (hj : X.N[j]? = some y) (hij : i ≠ j)
    (hx : X.env.scope.names.lookup x = some .local) (hy : X.env.scope.names.lookup y = some .local) (ha : PA X [a, b] ta)
    (hw : swappedStores [.Tuple [.Name x px, .Name y py] kt pt] (.Tuple [a, b] k2 pt2) X.env = pure (some [x, y]))
    (hs : swapsWithSole [.Tuple [.Name x px, .Name y py] kt pt] (.Tuple [a, b] k2 pt2) pos.line X.env = pure false := by rfl) :
    PS X (.Assign [.Tuple [.Name x px, .Name y py] kt pt] (.Tuple [a, b] k2 pt2) pos) (tPar i j ta) := by
  intro pins s σ H D I h
  rw [exec_Assign_arm]
  refine wpAny_bind (wpAny_standAt ?_)
  rw [hs]
  refine wpAny_bind (wpAny_pure ?_)
  rw [if_neg (by decide)]
  refine wpAny_bind (Tuple_ (thn (ha _ pins s σ H _ I h) fun us s1 ⟨vs, H1, I1, r1, q1⟩ => ?_))
  obtain ⟨v, w, e1, q1⟩ := q1
  subst e1
  obtain ⟨u1, u2, rfl, rv, rw'⟩ : ∃ u1 u2, us = [u1, u2] ∧ RelV v u1 ∧ RelV w u2 := by
    cases r1 with
    | cons p q =>
      cases q with
      | cons p' q' =>
        cases q'
        exact ⟨_, _, rfl, p, p'⟩
  refine wpAny_newObj_type ?_ (by show 2 ≤ sizeLine; decide)
  have I2 : Inv X pins σ H1 { s1 with heap := s1.heap.push { cls := .type "tuple", data := .seq [u1, u2].toArray } } := I1.kept (t' := s1.toks) fun b o e => Heap.get?_push_of_some _ e
  rw [hw]
  refine wpAny_bind (wpAny_pure ?_)
  show wpAny (model X.prog X.w) X.A (do rule "assign.swapped-stores"; let items ← unpackItems (.ref s1.heap.objs.size) 2 none; assignInOrder [fun v => bindName X.env y v, fun v => bindName X.env x v] items.reverse; pure Flow.next) _ _ _
  refine wpAny_bind (wpAny_rule (wpAny_bind (unpackItems_tuple (items := #[u1, u2]) (I.ok.hd hc) (IsTup.new s1.heap _) fun h' hx' => ?_)))
  have I3 := I2.kept (h' := h') (t' := s1.toks) fun b o e => hx' b o (Nat.ne_of_lt (Heap.lt_size e)) e
  show wpAny _ _ (assignInOrder [fun v => bindName X.env y v, fun v => bindName X.env x v] [u2, u1] >>= fun _ => pure Flow.next) _ _ _
  refine wpAny_bind (assignInOrder_cons (wpAny_bindName (store_ok I3 hN hj (.inl hy) rw' (fun s2 I4 => ?_) (.inr hy))))
  refine assignInOrder_cons (wpAny_bindName (store_ok I4 hN hi (.inl hx) rv (fun s3 I5 => assignInOrder_nil (wpAny_pure ?_)) (.inr hx)))
  rw [List.set_comm _ _ (Ne.symm hij)] at I5
  exact ⟨_, H1, I5, q1⟩
def tAug (i : Nat) (te : TE) (ti : TIp) : TS := fun D σ H => ∃ x, σ[i]? = some (some x) ∧ te σ H fun y H1 => ti x y H1 fun z H2 => D.nx (σ.set i (some z)) H2
theorem ps_aug {i : Nat} {x : Str} {e : Expr} {te : TE} {op : Operator} {ti : TIp} {pos' : Pos} (hN : X.N.Nodup) (hi : X.N[i]? = some x) (hx : Loc X.env.scope x) (he : PE X e te) (ho : PIp X op ti) (hf : X.fn x = true ∨ X.env.scope.names.lookup x = some .local := by first | exact .inl rfl | exact .inr rfl | assumption) :
    PS X (.AugAssign (.Name x pos') op e pos) (tAug i te ti) := by
  intro pins s σ H D I h
  obtain ⟨v, e1, h⟩ := h
  obtain ⟨m, hn, hl⟩ := I.loc
  have vis : Vis X.env.scope x := by rcases hx with k | k; exact .inl k; exact .inr (.inl k)
  obtain ⟨u, r, l⟩ := hl i x v hi e1 vis
  refine wpAny_AugAssign_Name ?_
  have go : wpAny (model X.prog X.w) X.A (eval e X.env) (fun w s₂ => wpAny (model X.prog X.w) X.A (inplaceOp op u w) (fun r s₃ => wpAny (model X.prog X.w) X.A (storeName X.env x r) (fun _ => SP X pins D .next) X.xe s₃) X.xe s₂) X.xe s := by
    refine thn (he pins s σ H _ I h) fun w s1 ⟨y, H1, I1, r1, q1⟩ => ?_
    refine thn (ho pins s1 σ H1 v y u w _ I1 r r1 q1) fun z s2 ⟨zv, H2, I2, r2, q2⟩ => ?_
    exact store_ok I2 hN hi hx r2 (fun s3 I3 => ⟨_, H2, I3, q2⟩) hf
  rcases l with ⟨hk, hm⟩ | ⟨hk, c, hc, hcell⟩
  · exact wpAny_loadName_local I.ok.kind hk hn hm go
  · rcases hk with hk | hk
    · exact wpAny_loadName_cell I.ok.kind hk hc hcell go
    · rcases hx with k | k
      · have : X.env.scope.names.lookup x = some .free := hk
        rw [k] at this; cases this
      · have : X.env.scope.names.lookup x = some .free := hk
        rw [k] at this; cases this
def tAugS (to ti te : TE) (tget : V → V → Hp → VK → Prop) (tip : TIp) (tset : TSet) : TS := fun D σ H => to σ H fun o H1 => ti σ H1 fun i H2 => tget o i H2 fun x H3 => te σ H3 fun y H4 => tip x y H4 fun z H5 => tset o i z H5 fun H6 => D.nx σ H6
def PGet (X : Cx) (t : V → V → Hp → VK → Prop) : Prop :=
  ∀ (pins : List (Addr × Obj)) (s : Shared) (σ : St) (H : Hp) (o i : V) (ov iv : Value) (Q : VK), Inv X pins σ H s → RelV o ov → RelV i iv → t o i H Q →
    wpAny (model X.prog X.w) X.A (getItem ov iv) (EP X pins σ Q) X.xe s
theorem ps_augS {o i e : Expr} {to ti te : TE} {tget : V → V → Hp → VK → Prop} {tip : TIp} {tset : TSet} {op : Operator} {tpos : Pos} (ho : PE X o to) (hi : PE X i ti) (hg : PGet X tget) (he : PE X e te) (hp : PIp X op tip) (hs : PSet X tset)
    (ha : ∀ ov iv new, augStore i ov iv new = (do holding [new, ov, iv] (setItem ov iv new); release [new, ov, iv] []; pure .next) := by intros; rfl) : PS X (.AugAssign (.Subscript o i tpos) op e pos) (tAugS to ti te tget tip tset) := by
  intro pins s σ H D I h
  refine wpAny_AugAssign_SubscriptAny (thn (ho pins s σ H _ I h) fun ov s1 ⟨x1, H1, I1, r1, q1⟩ => ?_) ha
  refine thn (hi pins s1 σ H1 _ I1 q1) fun iv s2 ⟨x2, H2, I2, r2, q2⟩ => ?_
  refine thn (hg pins s2 σ H2 x1 x2 ov iv _ I2 r1 r2 q2) fun old s3 ⟨x3, H3, I3, r3, q3⟩ => ?_
  refine thn (he pins s3 σ H3 _ I3 q3) fun v s4 ⟨x4, H4, I4, r4, q4⟩ => ?_
  refine thn (hp pins s4 σ H4 x3 x4 old v _ I4 r3 r4 q4) fun new s5 ⟨x5, H5, I5, r5, q5⟩ => ?_
  exact thn (hs pins s5 σ H5 x1 x2 x5 ov iv new _ I5 r1 r2 r5 q5) fun _ s6 ⟨H6, I6, q6⟩ => ⟨σ, H6, I6, q6⟩
def ipI (f : Int → Int → Int) : TIp := fun x y H Q => ∃ i j, x = .int i ∧ y = .int j ∧ Q (.int (f i j)) H
theorem ip_add : PIp X .Add (ipI fun i j => i + j) := by
  intro pins s σ H x y v u Q I r1 r2 h
  obtain ⟨i, j, e1, e2, q⟩ := h
  subst e1; subst e2
  obtain ⟨t, rfl⟩ := r1
  obtain ⟨t', rfl⟩ := r2
  exact iadd_int ⟨.int _, H, I.tok _, ⟨_, rfl⟩, q⟩
theorem ip_sub : PIp X .Sub (ipI fun i j => i - j) := by
  intro pins s σ H x y v u Q I r1 r2 h
  obtain ⟨i, j, e1, e2, q⟩ := h
  subst e1; subst e2
  obtain ⟨t, rfl⟩ := r1
  obtain ⟨t', rfl⟩ := r2
  exact isub_int ⟨.int _, H, I.tok _, ⟨_, rfl⟩, q⟩
end
section
variable {X : Cx} {pos : Pos}
def tWhile (c : TT) (tb : TS) : TS := fun D σ H => ∃ W : Nat → St → Hp → Prop, (∃ m, W m σ H) ∧ ∀ m σ H, W m σ H →
  c σ H fun b H1 => if b = true then ∃ N : St → Hp → Prop, (∀ σ' H', N σ' H' → ∃ m', m' < m ∧ W m' σ' H') ∧ tb { D with nx := N, ct := N, bk := D.nx } σ H1 else D.nx σ H1
theorem ps_while {c : Expr} {body : List Stmt} {tc : TT} {tb : TS} (hp : PassesOwn (model X.prog X.w) X.A X.env X.xe) (hc : PT X c tc) (hb : PSs X body tb) : PS X (.While c body [] pos) (tWhile tc tb) := by
  intro pins s σ H D I h
  obtain ⟨W, ⟨m0, w0⟩, turn⟩ := h
  refine wpAny_While (codeAny_whileLoop (fun n s' => ∃ σ' H', Inv X pins σ' H' s' ∧ W n σ' H') ?_ m0 ⟨σ, H, I, w0⟩)
  rintro n s1 ⟨σ1, H1, I1, w1⟩
  refine wpAny_passesOwn hp (thn (hc pins s1 σ1 H1 _ I1 (turn n σ1 H1 w1)) fun b s2 ⟨H2, I2, q2⟩ => ?_)
  cases b with
  | true =>
    obtain ⟨N, hN, q2⟩ := q2
    rw [if_pos rfl]
    refine wpAny_passesOwn hp (thn (hb pins s2 σ1 H2 _ I2 q2) fun f s3 q3 => ?_)
    cases f with
    | next =>
      obtain ⟨σ3, H3, I3, n3⟩ := q3
      obtain ⟨m', hm, w3⟩ := hN σ3 H3 n3
      exact ⟨m', hm, σ3, H3, I3, w3⟩
    | cont =>
      obtain ⟨σ3, H3, I3, n3⟩ := q3
      obtain ⟨m', hm, w3⟩ := hN σ3 H3 n3
      exact ⟨m', hm, σ3, H3, I3, w3⟩
    | brk => exact q3
    | ret v => exact q3
  | false =>
    rw [if_neg Bool.false_ne_true]
    exact wpAny_execs_nil ⟨σ1, H2, I2, q2⟩
end
structure It where
  go : Nat → Hp → Prop
  yld : Nat → Hp → V → Hp → Prop
  stop : Nat → Hp → Prop
def FpOk (X : Cx) (pins : List (Addr × Obj)) (H : Hp) (b : Addr) : Prop :=
  H b = none ∧ b ≠ X.env.locals ∧ b ∉ X.fs ∧ (b ∈ X.ex ∨ X.s₀.heap.objs.size ≤ b) ∧ (∀ x c, X.env.cells.lookup x = some c → c ≠ b) ∧ ∀ p ∈ X.pn ++ pins, p.1 ≠ b
theorem Inv.fpOk {X : Cx} {pins : List (Addr × Obj)} {σ : St} {H H' : Hp} {s : Shared} {b : Addr} (I : Inv X pins σ H s) (hb : s.heap.objs.size ≤ b) (hn : H' b = none) : FpOk X pins H' b := by
  refine ⟨hn, Nat.ne_of_gt (Nat.lt_of_lt_of_le I.lt hb), I.nofs hb, .inr (Nat.le_trans I.sz hb), fun x c e z => ?_, fun p hp z => ?_⟩
  · obtain ⟨v, q⟩ := I.cell x c e
    exact absurd (Nat.lt_of_lt_of_le q.lt (by rw [z]; exact hb)) (Nat.lt_irrefl _)
  · exact absurd (Nat.lt_of_lt_of_le (Heap.lt_size (I.pin p hp).1) (by rw [z]; exact hb)) (Nat.lt_irrefl _)
structure Turn (P : Program) (w : World) (K : PySem.W.Frag) (tg : Expr) (J : It) (fp : List Addr) (it : Addr) (tn : Nat → Heap → Prop) : Prop where
  mem : it ∈ fp
  obj : ∀ i h, tn i h → ∀ b ∈ fp, ∃ o, h.get? b = some o ∧ ∀ v, o.data ≠ .cell v
  keep : ∀ i h h', tn i h → (∀ b ∈ fp, ∀ o, h.get? b = some o → h'.get? b = some o) → tn i h'
  item : ∀ (X : Cx), X.prog = P → X.w = w → X.K = K → X.calm = true → ∀ (i : Nat) (pins : List (Addr × Obj)) (s : Shared) (σ : St) (H : Hp) (E : Value → Shared → Prop), Inv X pins σ H s → (∀ b ∈ fp, FpOk X pins H b) → tn i s.heap → J.go i H →
    wpAny (model P w) X.A (pyNext (.ref it)) (fun r s1 => ∃ u, r = some u ∧
      wpAny (model P w) X.A (letOwnedTupleGo tg (.ref it) u) (fun _ s2 => ∃ x H', Inv X pins σ H' s2 ∧ RelV x u ∧ J.yld i H x H' ∧ tn (i + 1) s2.heap ∧ ∀ b ∈ fp, H' b = none) E s1) E s
  done : ∀ (X : Cx), X.prog = P → X.w = w → X.K = K → X.calm = true → ∀ (i : Nat) (pins : List (Addr × Obj)) (s : Shared) (σ : St) (H : Hp) (E : Value → Shared → Prop), Inv X pins σ H s → (∀ b ∈ fp, FpOk X pins H b) → tn i s.heap → J.stop i H →
    wpAny (model P w) X.A (pyNext (.ref it)) (fun r s1 => r = none ∧ Inv X pins σ H s1) E s
  self : ∀ (A : Around) (i : Nat) (s : Shared) (Q : Value → Shared → Prop) (E : Value → Shared → Prop), tn i s.heap → Q (.ref it) s → wpAny (model P w) A (pyIter (.ref it)) Q E s
abbrev TI := St → Hp → (It → Hp → Prop) → Prop
def PIE (X : Cx) (pins : List (Addr × Obj)) (σ : St) (tg : Expr) (R : It → Hp → Prop) (itv : Value) (s2 : Shared) : Prop :=
  ∃ (it : Addr) (fp : List Addr) (tn : Nat → Heap → Prop) (J : It) (H' : Hp), itv = .ref it ∧ Inv X pins σ H' s2 ∧ Turn X.prog X.w X.K tg J fp it tn ∧ tn 0 s2.heap ∧ (∀ b ∈ fp, FpOk X pins H' b) ∧ R J H'
def PI (X : Cx) (tg iter : Expr) (wi : TI) : Prop :=
  ∀ (pins : List (Addr × Obj)) (s : Shared) (σ : St) (H : Hp) (R : It → Hp → Prop), Inv X pins σ H s → wi σ H R →
    wpAny (model X.prog X.w) X.A (eval iter X.env) (fun v s1 => wpAny (model X.prog X.w) X.A (pyIter v) (PIE X pins σ tg R) X.xe s1) X.xe s
theorem go_of {M : Model} {A : Around} {E : Value → Shared → Prop} {s : Shared} {tg : Expr} {it : Addr} {u : Value} {o : Obj} {n : String} {vs : Array Value} {Q : Unit → Shared → Prop} (ho : s.heap.get? it = some o) (hc : o.cls = .type n) (hd : o.data = .fields vs)
    (hn : ["enumerate", "zip", "dict_itemiterator", "dict_reverseitemiterator", "odict_iterator", "itertools.zip_longest", "itertools.pairwise"].contains n = false) (hQ : Q () s) : wpAny M A (letOwnedTupleGo tg (.ref it) u) Q E s := by
  unfold letOwnedTupleGo
  cases tg <;> first
    | exact wpAny_pure hQ
    | (cases u <;> first
        | exact wpAny_pure hQ
        | (refine wpAny_bind (wpAny_load ho ?_)
           rw [hc, hd]
           show wpAny M A (if (["enumerate", "zip", "dict_itemiterator", "dict_reverseitemiterator", "odict_iterator", "itertools.zip_longest", "itertools.pairwise"].contains n && vs[0]? == some (rawInt _)) = true then _ else _) Q E s
           rw [if_neg (by intro h; rw [hn, Bool.false_and] at h; cases h)]
           exact wpAny_pure hQ))
def Itl (K : PySem.W.Frag) (a : Addr) : It :=
  ⟨fun i H => ∃ xs x, SqL K H a xs ∧ xs[i]? = some x, fun i H x H' => H' = H ∧ ∀ xs, SqL K H a xs → xs[i]? = some x, fun i H => ∃ xs, SqL K H a xs ∧ xs.length ≤ i⟩
def Itt (K : PySem.W.Frag) (a : Addr) : It :=
  ⟨fun i H => ∃ xs x, SqT K H a xs ∧ xs[i]? = some x, fun i H x H' => H' = H ∧ ∀ xs, SqT K H a xs → xs[i]? = some x, fun i H => ∃ xs, SqT K H a xs ∧ xs.length ≤ i⟩
def Itr (lo : Int) (n : Nat) : It := ⟨fun i _ => i < n, fun i H x H' => H' = H ∧ x = .int (lo + i), fun i _ => n ≤ i⟩
theorem turn_list {P : Program} {w : World} {K : PySem.W.Frag} {tg : Expr} (a it : Addr) : Turn P w K tg (Itl K a) [it] it (fun i h => h.IsListIter it a i) where
  mem := by simp
  obj := fun i h st b hb => by
    have e : b = it := by simpa using hb
    subst e
    obtain ⟨o, e, c, d⟩ := st
    exact ⟨o, e, fun v z => by rw [d] at z; cases z⟩
  keep := fun i h h' st k => st.at fun o e => k it (by simp) o e
  item := by
    intro X hP hw hK hc i pins s σ H E I hf st hg
    subst hP hw hK
    obtain ⟨xs, x, hq, hx⟩ := hg
    obtain ⟨its, rv, p, hz⟩ := I.list hq
    obtain ⟨u, hu, ru⟩ := rv.get hx
    obtain ⟨f0, f1, f2, f3, f4, f5⟩ := hf it (by simp)
    refine wpAny_pyNext_list_item st p.isList (x := u) (by simpa using hu) fun h' st' sb => ?_
    have I1 : Inv X pins σ H { s with heap := h' } := I.turned (t' := s.toks) (fun b o hb e => (sb.2 b hb).trans e) f0 f1 f3 f4 f5
    obtain ⟨o, e, c, d⟩ := id st'
    exact ⟨u, rfl, go_of (s := { s with heap := h' }) e c d (by decide) ⟨x, H, I1, ru, ⟨rfl, fun ys hy => by rw [I.list_inj hy hq]; exact hx⟩, st', fun b hb => (hf b hb).1⟩⟩
  done := by
    intro X hP hw hK hc i pins s σ H E I hf st hg
    subst hP hw hK
    obtain ⟨xs, hq, hx⟩ := hg
    obtain ⟨its, rv, p, hz⟩ := I.list hq
    obtain ⟨f0, f1, f2, f3, f4, f5⟩ := hf it (by simp)
    have hl := rv.length
    exact wpAny_pyNext_list_end (I.ok.hd hc) st p.isList (by simp; omega) fun h' eb => ⟨rfl, I.turned (t' := s.toks) (fun b o hb e => eb b o hb e) f0 f1 f3 f4 f5⟩
  self := fun _ _ _ _ _ st h => wpAny_pyIter_listiter st h
theorem turn_tuple {P : Program} {w : World} {K : PySem.W.Frag} {tg : Expr} (a it : Addr) : Turn P w K tg (Itt K a) [it] it (fun i h => h.IsTupleIter it a i) where
  mem := by simp
  obj := fun i h st b hb => by
    have e : b = it := by simpa using hb
    subst e
    obtain ⟨o, e, c, d⟩ := st
    exact ⟨o, e, fun v z => by rw [d] at z; cases z⟩
  keep := fun i h h' st k => st.at fun o e => k it (by simp) o e
  item := by
    intro X hP hw hK hc i pins s σ H E I hf st hg
    subst hP hw hK
    obtain ⟨xs, x, hq, hx⟩ := hg
    obtain ⟨its, rv, p, hz⟩ := I.tuple hq
    obtain ⟨u, hu, ru⟩ := rv.get hx
    obtain ⟨f0, f1, f2, f3, f4, f5⟩ := hf it (by simp)
    refine wpAny_pyNext_tuple_item st (show s.heap.IsTuple a its.toArray from p) (x := u) (by simpa using hu) fun h' st' sb => ?_
    have I1 : Inv X pins σ H { s with heap := h' } := I.turned (t' := s.toks) (fun b o hb e => (sb.2 b hb).trans e) f0 f1 f3 f4 f5
    obtain ⟨o, e, c, d⟩ := id st'
    exact ⟨u, rfl, go_of (s := { s with heap := h' }) e c d (by decide) ⟨x, H, I1, ru, ⟨rfl, fun ys hy => by rw [I.tuple_inj hy hq]; exact hx⟩, st', fun b hb => (hf b hb).1⟩⟩
  done := by
    intro X hP hw hK hc i pins s σ H E I hf st hg
    subst hP hw hK
    obtain ⟨xs, hq, hx⟩ := hg
    obtain ⟨its, rv, p, hz⟩ := I.tuple hq
    obtain ⟨f0, f1, f2, f3, f4, f5⟩ := hf it (by simp)
    have hl := rv.length
    exact wpAny_pyNext_tuple_end (I.ok.hd hc) st (show s.heap.IsTuple a its.toArray from p) (by simp; omega) fun h' eb => ⟨rfl, I.turned (t' := s.toks) (fun b o hb e => eb b o hb e) f0 f1 f3 f4 f5⟩
  self := fun _ _ _ _ _ st h => wpAny_pyIter_tupleiter st h
theorem turn_range {P : Program} {w : World} {K : PySem.W.Frag} {tg : Expr} (it : Addr) (lo : Int) (n : Nat) : Turn P w K tg (Itr lo n) [it] it (fun i h => IsRangeIter h it (lo + (i : Nat) * 1) ((n : Int) - (i : Nat)) 1) where
  mem := by simp
  obj := fun i h st b hb => by
    have e : b = it := by simpa using hb
    subst e
    exact ⟨_, st, fun v z => by
      have z' : Data.fields _ = Data.cell v := z
      cases z'⟩
  keep := fun i h h' st k => k it (by simp) _ st
  item := by
    intro X hP hw hK hc i pins s σ H E I hf st hg
    subst hP hw hK
    obtain ⟨f0, f1, f2, f3, f4, f5⟩ := hf it (by simp)
    have W := Walks.range (prog := X.prog) (w := X.w) (I.ok.hd hc) it lo 1 n
    refine W.item i s _ _ hg st fun v h' tk hv st' kk => ?_
    obtain ⟨t, rfl⟩ := hv
    have I1 : Inv X pins σ H { s with heap := h', toks := tk } := I.turned (fun b o hb e => kk b o (by simpa using hb) e) f0 f1 f3 f4 f5
    refine ⟨_, rfl, go_of (s := { s with heap := h', toks := tk }) (n := "range_iterator") st' rfl rfl (by decide) ⟨.int (lo + i), H, I1, ⟨t, ?_⟩, ⟨rfl, rfl⟩, st', fun b hb => (hf b hb).1⟩⟩
    rw [Int.mul_one]
  done := by
    intro X hP hw hK hc i pins s σ H E I hf st hg
    subst hP hw hK
    obtain ⟨f0, f1, f2, f3, f4, f5⟩ := hf it (by simp)
    exact wpAny_pyNext_range_end (I.ok.hd hc) st (by have : n ≤ i := hg; omega) fun h' eb => ⟨rfl, I.turned (t' := s.toks) (fun b o hb e => eb b o hb e) f0 f1 f3 f4 f5⟩
  self := fun _ _ _ _ _ st h => wpAny_pyIter_rangeiter st h
end L2
namespace L2
open PySem PySem.Spec PyProof.Rows
section
variable {X : Cx} {tg : Expr}
def iList (K : PySem.W.Frag) (tl : TE) : TI := fun σ H R => tl σ H fun x H1 => ∃ a, x = .ref a ∧ (∃ xs, SqL K H1 a xs) ∧ R (Itl K a) H1
def iTup (K : PySem.W.Frag) (tl : TE) : TI := fun σ H R => tl σ H fun x H1 => ∃ a, x = .ref a ∧ (∃ xs, SqT K H1 a xs) ∧ R (Itt K a) H1
theorem pi_list {l : Expr} {tl : TE} (hl : PE X l tl) : PI X tg l (iList X.K tl) := by
  intro pins s σ H R I h
  refine thn (hl pins s σ H _ I h) fun v s1 ⟨x, H1, I1, r1, q1⟩ => ?_
  obtain ⟨a, e, ⟨xs, hq⟩, q⟩ := q1
  subst e
  cases r1
  obtain ⟨its, rv, p, hz⟩ := I1.list hq
  refine wpAny_pyIter_list p.isList ?_
  refine ⟨s1.heap.objs.size, [s1.heap.objs.size], _, _, H1, rfl, I1.kept (t' := s1.toks) fun b o e => Heap.get?_push_of_some _ e, turn_list a _, ⟨_, Heap.get?_push_size _ rfl, rfl, rfl⟩, fun b hb => ?_, q⟩
  have e : b = s1.heap.objs.size := by simpa using hb
  subst e
  exact I1.fpOk (Nat.le_refl _) (I1.hok.fresh (Nat.le_refl _))
theorem pi_tup {l : Expr} {tl : TE} (hl : PE X l tl) : PI X tg l (iTup X.K tl) := by
  intro pins s σ H R I h
  refine thn (hl pins s σ H _ I h) fun v s1 ⟨x, H1, I1, r1, q1⟩ => ?_
  obtain ⟨a, e, ⟨xs, hq⟩, q⟩ := q1
  subst e
  cases r1
  obtain ⟨its, rv, p, hz⟩ := I1.tuple hq
  refine wpAny_pyIter_tuple (show s1.heap.IsTuple a its.toArray from p) ?_
  refine ⟨s1.heap.objs.size, [s1.heap.objs.size], _, _, H1, rfl, I1.kept (t' := s1.toks) fun b o e => Heap.get?_push_of_some _ e, turn_tuple a _, ⟨_, Heap.get?_push_size _ rfl, rfl, rfl⟩, fun b hb => ?_, q⟩
  have e : b = s1.heap.objs.size := by simpa using hb
  subst e
  exact I1.fpOk (Nat.le_refl _) (I1.hok.fresh (Nat.le_refl _))
theorem range_it {pins : List (Addr × Obj)} {σ : St} {H : Hp} {s : Shared} {R : It → Hp → Prop} {E : Value → Shared → Prop} {lo hi : Int} {t u v : Tok} {tk : Nat} (I : Inv X pins σ H s) (h1 : -(2 ^ 62) ≤ lo) (h2 : lo < 2 ^ 62) (h3 : -(2 ^ 62) ≤ hi) (h4 : hi < 2 ^ 62)
    (q : R (Itr lo (hi - lo).toNat) H) : wpAny (model X.prog X.w) X.A (pyIter (.ref s.heap.objs.size)) (PIE X pins σ tg R) E { s with heap := s.heap.push { cls := .type "range", data := .fields #[.int lo t, .int hi u, .int 1 v] }, toks := tk } := by
  refine wpAny_pyIter_range (IsRange.new ..) (small_one h1 h2 h3 h4) ?_
  have I1 : Inv X pins σ H { s with heap := s.heap.push { cls := .type "range", data := .fields #[.int lo t, .int hi u, .int 1 v] }, toks := tk } := I.kept fun b o e => Heap.get?_push_of_some _ e
  refine ⟨(s.heap.push { cls := .type "range", data := .fields #[.int lo t, .int hi u, .int 1 v] }).objs.size, [(s.heap.push { cls := .type "range", data := .fields #[.int lo t, .int hi u, .int 1 v] }).objs.size], _, _, H, rfl,
    I1.kept (t' := tk) fun b o e => Heap.get?_push_of_some _ e, turn_range _ lo (hi - lo).toNat, ?_, fun b hb => ?_, q⟩
  · have e1 : lo + ((0 : Nat) : Int) * 1 = lo := by simp
    have e2 : (((hi - lo).toNat : Nat) : Int) - ((0 : Nat) : Int) = Builtin.Range.rangeSize lo hi 1 := by rw [rangeSize_one]; split <;> omega
    show IsRangeIter _ _ (lo + ((0 : Nat) : Int) * 1) ((((hi - lo).toNat : Nat) : Int) - ((0 : Nat) : Int)) 1
    rw [e1, e2]
    exact Heap.get?_push_size _ rfl
  · have e : b = (s.heap.push { cls := .type "range", data := .fields #[.int lo t, .int hi u, .int 1 v] }).objs.size := by simpa using hb
    subst e
    exact I1.fpOk (Nat.le_refl _) (I1.hok.fresh (Nat.le_refl _))
def iRng1 (ta : TA) : TI := fun σ H R => ta σ H fun vs H1 => ∃ j : Int, vs = [.int j] ∧ -(2 ^ 62) ≤ j ∧ j < 2 ^ 62 ∧ R (Itr 0 j.toNat) H1
def iRng2 (ta : TA) : TI := fun σ H R => ta σ H fun vs H1 => ∃ i j : Int, vs = [.int i, .int j] ∧ (-(2 ^ 62) ≤ i ∧ i < 2 ^ 62 ∧ -(2 ^ 62) ≤ j ∧ j < 2 ^ 62) ∧ R (Itr i (j - i).toNat) H1
theorem pi_range1 {a : Expr} {ta : TA} {p pos : Pos} (hg : Gl X "range") (hm : X.mg "range" = none) (ha : PA X [a] ta) (hs : starEach [a] X.env = [(false, eval a X.env)] := by rfl) : PI X tg (.Call (.Name "range" p) [a] [] pos) (iRng1 ta) := by
  intro pins s σ H R I h
  refine Call_ (ld_blt I hg hm boot_range (PyProof.Rows.callWith_type1 (thn (ha pos pins s σ H _ I h) fun us s1 ⟨vs, H1, I1, r1, q1⟩ => ?_) hs rfl))
  obtain ⟨j, e, q1, q2, q⟩ := q1
  subst e
  cases r1 with
  | cons r rr =>
    cases rr
    obtain ⟨t, rfl⟩ := r
    exact call_range_1 (range_it I1 (by omega) (by omega) q1 q2 (by simpa using q))
theorem pi_range2 {a b : Expr} {ta : TA} {p pos : Pos} (hg : Gl X "range") (hm : X.mg "range" = none) (ha : PA X [a, b] ta) (hs : starEach [a, b] X.env = [(false, eval a X.env), (false, eval b X.env)] := by rfl) (hs2 : starEach [b] X.env = [(false, eval b X.env)] := by rfl) :
    PI X tg (.Call (.Name "range" p) [a, b] [] pos) (iRng2 ta) := by
  intro pins s σ H R I h
  refine Call_ (ld_blt I hg hm boot_range (PyProof.Rows.callWith_type1 (thn (ha pos pins s σ H _ I h) fun us s1 ⟨vs, H1, I1, r1, q1⟩ => ?_) (by rw [hs, hs2]) (by rw [hs2]; rfl)))
  obtain ⟨i, j, e, ⟨q1, q2, q3, q4⟩, q⟩ := q1
  subst e
  cases r1 with
  | cons r rr =>
    cases rr with
    | cons r' rr =>
      cases rr
      obtain ⟨t, rfl⟩ := r
      obtain ⟨t', rfl⟩ := r'
      exact call_range_2 (range_it I1 q1 q2 q3 q4 q)
def tFor (wi : TI) (g : TG) (tb : TS) : TS := fun D σ H => wi σ H fun J H1 => ∃ W : Nat → Nat → St → Hp → Prop, (∃ m, W 0 m σ H1) ∧ ∀ i m σ H, W i m σ H →
  (J.stop i H ∧ D.nx σ H) ∨ (J.go i H ∧ ∃ N : St → Hp → Prop, (∀ σ' H', N σ' H' → ∃ m', m' < m ∧ W (i + 1) m' σ' H') ∧ ∀ x H', J.yld i H x H' → g x σ H' fun σ2 H2 => tb { D with nx := N, ct := N, bk := D.nx } σ2 H2)
def pinsAt (fp : List Addr) (h : Heap) : List (Addr × Obj) := fp.filterMap fun b => (h.get? b).map fun o => (b, o)
theorem mem_pinsAt {fp : List Addr} {h : Heap} {b : Addr} {o : Obj} (hb : b ∈ fp) (e : h.get? b = some o) : (b, o) ∈ pinsAt fp h := List.mem_filterMap.mpr ⟨b, hb, by rw [e]; rfl⟩
theorem of_pinsAt {fp : List Addr} {h : Heap} {p : Addr × Obj} (hp : p ∈ pinsAt fp h) : p.1 ∈ fp ∧ h.get? p.1 = some p.2 := by
  obtain ⟨b, hb, e⟩ := List.mem_filterMap.mp hp
  cases q : h.get? b with
  | none => rw [q] at e; cases e
  | some o =>
    rw [q] at e
    have e' : (b, o) = p := Option.some.inj e
    subst e'
    exact ⟨hb, q⟩
theorem Inv.pinned {pins : List (Addr × Obj)} {σ : St} {H : Hp} {s : Shared} {fp : List Addr} (I : Inv X pins σ H s) (hf : ∀ b ∈ fp, FpOk X pins H b) (ho : ∀ b ∈ fp, ∃ o, s.heap.get? b = some o ∧ ∀ v, o.data ≠ .cell v) : Inv X (pins ++ pinsAt fp s.heap) σ H s :=
  I.pins_of fun p hp => (List.mem_append.mp hp).elim (fun z => I.pin p (List.mem_append_right _ z)) fun z => by
    obtain ⟨hb, e⟩ := of_pinsAt z
    obtain ⟨f0, f1, f2, _⟩ := hf p.1 hb
    obtain ⟨o, e', d⟩ := ho p.1 hb
    rw [e] at e'; cases e'
    exact ⟨e, f0, f1, f2, d⟩
theorem Inv.unpinned {pins pl : List (Addr × Obj)} {σ : St} {H : Hp} {s : Shared} (I : Inv X (pins ++ pl) σ H s) : Inv X pins σ H s := I.pins_of fun p hp => I.pin p (List.mem_append_right _ (List.mem_append_left _ hp))
theorem ps_for {iter : Expr} {body : List Stmt} {wi : TI} {g : TG} {tb : TS} {pos : Pos} (hp : PassesOwn (model X.prog X.w) X.A X.env X.xe) (hc : X.calm = true) (hi : PI X tg iter wi) (hg : PG X tg g) (hb : PSs X body tb)
    (hs : ∀ x, foldedSetIterable iter X.env x = pure x := by intro _; rfl) : PS X (.For tg iter body [] pos) (tFor wi g tb) := by
  intro pins s σ H D I h
  refine wpAny_For (thn (hi pins s σ H _ I h) fun v s1 h1 => thn h1 fun itv s2 h2 => ?_) hs
  obtain ⟨it, fp, tn, J, H2, e, I2, T, st2, f2, W, ⟨m0, w0⟩, turn⟩ := h2
  subst e
  have stat : ∀ {H' : Hp}, (∀ b ∈ fp, H' b = none) → ∀ b ∈ fp, FpOk X pins H' b := fun hn b hb => ⟨hn b hb, (f2 b hb).2⟩
  refine codeAny_forLoop_any (fun n s' => ∃ i σ' H', Inv X pins σ' H' s' ∧ tn i s'.heap ∧ (∀ b ∈ fp, H' b = none) ∧ W i n σ' H') ?_ m0 ⟨0, σ, H2, I2, st2, fun b hb => (f2 b hb).1, w0⟩
  rintro n s3 ⟨i, σ3, H3, I3, st3, fr3, w3⟩
  rcases turn i n σ3 H3 w3 with ⟨stop, qn⟩ | ⟨go, N, hN, step⟩
  · refine wpAny_passesOwn hp (thn (T.done X rfl rfl rfl hc i pins s3 σ3 H3 X.xe I3 (stat fr3) st3 stop) fun r s4 ⟨hr, I4⟩ => ?_)
    subst hr
    exact wpAny_execs_nil ⟨σ3, H3, I4, qn⟩
  · refine wpAny_passesOwn hp (thn (T.item X rfl rfl rfl hc i pins s3 σ3 H3 X.xe I3 (stat fr3) st3 go) fun r s4 ⟨u, hr, h4⟩ => ?_)
    subst hr
    refine wpAny_passesOwn hp (thn h4 fun _ s5 ⟨x, H5, I5, r5, y5, st5, fr5⟩ => ?_)
    have I5' := I5.pinned (stat fr5) (T.obj _ _ st5)
    refine wpAny_passesOwn hp (thn (hg _ s5 σ3 H5 x u _ I5' r5 (step x H5 y5)) fun _ s6 ⟨σ6, H6, I6, q6⟩ => ?_)
    refine wpAny_passesOwn hp (thn (hb _ s6 σ6 H6 _ I6 q6) fun f s7 q7 => ?_)
    have again : ∀ {σ7 : St} {H7 : Hp}, Inv X (pins ++ pinsAt fp s5.heap) σ7 H7 s7 → N σ7 H7 → ∃ m, m < n ∧ ∃ i σ' H', Inv X pins σ' H' s7 ∧ tn i s7.heap ∧ (∀ b ∈ fp, H' b = none) ∧ W i m σ' H' := fun {σ7 H7} I7 n7 => by
      obtain ⟨m', hm, w7⟩ := hN σ7 H7 n7
      refine ⟨m', hm, i + 1, σ7, H7, I7.unpinned, T.keep _ _ _ st5 fun b hb o e => (I7.pin (b, o) (List.mem_append_right _ (List.mem_append_right _ (mem_pinsAt hb e)))).1, fun b hb => ?_, w7⟩
      obtain ⟨o, e, d⟩ := T.obj _ _ st5 b hb
      exact (I7.pin (b, o) (List.mem_append_right _ (List.mem_append_right _ (mem_pinsAt hb e)))).2.1
    cases f with
    | next => obtain ⟨σ7, H7, I7, n7⟩ := q7; exact again I7 n7
    | cont => obtain ⟨σ7, H7, I7, n7⟩ := q7; exact again I7 n7
    | brk => obtain ⟨σ7, H7, I7, q7⟩ := q7; exact ⟨σ7, H7, I7.unpinned, q7⟩
    | ret v => obtain ⟨x7, σ7, H7, I7, r7, q7⟩ := q7; exact ⟨x7, σ7, H7, I7.unpinned, r7, q7⟩
end
theorem for_list {K : PySem.W.Frag} {a : Addr} {xs : List V} {g : TG} {tb : TS} {D : Ends} {σ : St} {H : Hp} (Pv : Nat → St → Hp → Prop) (h0 : Pv 0 σ H) (hl : ∀ i σ H, i ≤ xs.length → Pv i σ H → SqL K H a xs)
    (hs : ∀ i x σ H, xs[i]? = some x → Pv i σ H → g x σ H fun σ2 H2 => tb { D with nx := Pv (i + 1), ct := Pv (i + 1), bk := D.nx } σ2 H2) (hd : ∀ σ H, Pv xs.length σ H → D.nx σ H) :
    ∃ W : Nat → Nat → St → Hp → Prop, (∃ m, W 0 m σ H) ∧ ∀ i m σ H, W i m σ H →
      ((Itl K a).stop i H ∧ D.nx σ H) ∨ ((Itl K a).go i H ∧ ∃ N : St → Hp → Prop, (∀ σ' H', N σ' H' → ∃ m', m' < m ∧ W (i + 1) m' σ' H') ∧ ∀ x H', (Itl K a).yld i H x H' → g x σ H' fun σ2 H2 => tb { D with nx := N, ct := N, bk := D.nx } σ2 H2) := by
  refine ⟨fun i m σ H => m = xs.length - i ∧ i ≤ xs.length ∧ Pv i σ H, ⟨xs.length, by simp, Nat.zero_le _, h0⟩, ?_⟩
  rintro i m σ H ⟨rfl, hi, p⟩
  have q := hl i σ H hi p
  by_cases hlt : i < xs.length
  · refine .inr ⟨⟨xs, xs[i], q, by simp [hlt]⟩, Pv (i + 1), fun σ' H' p' => ⟨xs.length - (i + 1), by omega, rfl, hlt, p'⟩, fun x H' y => ?_⟩
    obtain ⟨e, y⟩ := y
    subst e
    exact hs i x σ _ (y xs q) p
  · have e : i = xs.length := by omega
    subst e
    exact .inl ⟨⟨xs, q, Nat.le_refl _⟩, hd σ H p⟩
theorem for_tup {K : PySem.W.Frag} {a : Addr} {xs : List V} {g : TG} {tb : TS} {D : Ends} {σ : St} {H : Hp} (Pv : Nat → St → Hp → Prop) (h0 : Pv 0 σ H) (hl : ∀ i σ H, i ≤ xs.length → Pv i σ H → SqT K H a xs)
    (hs : ∀ i x σ H, xs[i]? = some x → Pv i σ H → g x σ H fun σ2 H2 => tb { D with nx := Pv (i + 1), ct := Pv (i + 1), bk := D.nx } σ2 H2) (hd : ∀ σ H, Pv xs.length σ H → D.nx σ H) :
    ∃ W : Nat → Nat → St → Hp → Prop, (∃ m, W 0 m σ H) ∧ ∀ i m σ H, W i m σ H →
      ((Itt K a).stop i H ∧ D.nx σ H) ∨ ((Itt K a).go i H ∧ ∃ N : St → Hp → Prop, (∀ σ' H', N σ' H' → ∃ m', m' < m ∧ W (i + 1) m' σ' H') ∧ ∀ x H', (Itt K a).yld i H x H' → g x σ H' fun σ2 H2 => tb { D with nx := N, ct := N, bk := D.nx } σ2 H2) := by
  refine ⟨fun i m σ H => m = xs.length - i ∧ i ≤ xs.length ∧ Pv i σ H, ⟨xs.length, by simp, Nat.zero_le _, h0⟩, ?_⟩
  rintro i m σ H ⟨rfl, hi, p⟩
  have q := hl i σ H hi p
  by_cases hlt : i < xs.length
  · refine .inr ⟨⟨xs, xs[i], q, by simp [hlt]⟩, Pv (i + 1), fun σ' H' p' => ⟨xs.length - (i + 1), by omega, rfl, hlt, p'⟩, fun x H' y => ?_⟩
    obtain ⟨e, y⟩ := y
    subst e
    exact hs i x σ _ (y xs q) p
  · have e : i = xs.length := by omega
    subst e
    exact .inl ⟨⟨xs, q, Nat.le_refl _⟩, hd σ H p⟩
theorem for_range {lo : Int} {n : Nat} {g : TG} {tb : TS} {D : Ends} {σ : St} {H : Hp} (Pv : Nat → St → Hp → Prop) (h0 : Pv 0 σ H)
    (hs : ∀ i σ H, i < n → Pv i σ H → g (.int (lo + i)) σ H fun σ2 H2 => tb { D with nx := Pv (i + 1), ct := Pv (i + 1), bk := D.nx } σ2 H2) (hd : ∀ σ H, Pv n σ H → D.nx σ H) :
    ∃ W : Nat → Nat → St → Hp → Prop, (∃ m, W 0 m σ H) ∧ ∀ i m σ H, W i m σ H →
      ((Itr lo n).stop i H ∧ D.nx σ H) ∨ ((Itr lo n).go i H ∧ ∃ N : St → Hp → Prop, (∀ σ' H', N σ' H' → ∃ m', m' < m ∧ W (i + 1) m' σ' H') ∧ ∀ x H', (Itr lo n).yld i H x H' → g x σ H' fun σ2 H2 => tb { D with nx := N, ct := N, bk := D.nx } σ2 H2) := by
  refine ⟨fun i m σ H => m = n - i ∧ i ≤ n ∧ Pv i σ H, ⟨n, by simp, Nat.zero_le _, h0⟩, ?_⟩
  rintro i m σ H ⟨rfl, hi, p⟩
  by_cases hlt : i < n
  · refine .inr ⟨hlt, Pv (i + 1), fun σ' H' p' => ⟨n - (i + 1), by omega, rfl, hlt, p'⟩, fun x H' y => ?_⟩
    obtain ⟨e, y⟩ := y
    subst e y
    exact hs i σ _ hlt p
  · have e : i = n := by omega
    subst e
    exact .inl ⟨Nat.le_refl _, hd σ H p⟩
theorem while_by {c : TT} {tb : TS} {D : Ends} {σ : St} {H : Hp} (Pv : St → Hp → Prop) (μ : St → Hp → Nat) (h0 : Pv σ H)
    (hs : ∀ σ H, Pv σ H → c σ H fun b H1 => if b = true then tb { D with nx := fun σ' H' => Pv σ' H' ∧ μ σ' H' < μ σ H, ct := fun σ' H' => Pv σ' H' ∧ μ σ' H' < μ σ H, bk := D.nx } σ H1 else D.nx σ H1)
    (mono : ∀ σ H Q Q', (∀ b H1, Q b H1 → Q' b H1) → c σ H Q → c σ H Q') : tWhile c tb D σ H := by
  refine ⟨fun m σ H => m = μ σ H ∧ Pv σ H, ⟨_, rfl, h0⟩, ?_⟩
  rintro m σ H ⟨rfl, p⟩
  refine mono σ H _ _ (fun b H1 q => ?_) (hs σ H p)
  cases b with
  | true => exact ⟨_, fun σ' H' ⟨p', l⟩ => ⟨_, l, rfl, p'⟩, q⟩
  | false => exact q
end L2
namespace L2
open PySem PySem.Spec PyProof.Rows
abbrev R2 := V → V → Hp → VK → Prop
def OpR (X : Cx) (f : Value → Value → Sem Value) (r : R2) : Prop :=
  ∀ (pins : List (Addr × Obj)) (s : Shared) (σ : St) (H : Hp) (x y : V) (v u : Value) (Q : VK), Inv X pins σ H s → RelV x v → RelV y u → r x y H Q →
    wpAny (model X.prog X.w) X.A (f v u) (EP X pins σ Q) X.xe s
def UnR (X : Cx) (f : Value → Sem Value) (r : V → Hp → VK → Prop) : Prop :=
  ∀ (pins : List (Addr × Obj)) (s : Shared) (σ : St) (H : Hp) (x : V) (v : Value) (Q : VK), Inv X pins σ H s → RelV x v → r x H Q →
    wpAny (model X.prog X.w) X.A (f v) (EP X pins σ Q) X.xe s
def CallR (X : Cx) (f : Value) (r : List V → Hp → VK → Prop) : Prop :=
  ∀ (pins : List (Addr × Obj)) (s : Shared) (σ : St) (H : Hp) (xs : List V) (us : List Value) (Q : VK), Inv X pins σ H s → Vals xs us → r xs H Q →
    wpAny (model X.prog X.w) X.A (call f us) (EP X pins σ Q) X.xe s
def TruR (X : Cx) (r : V → Hp → (Bool → Hp → Prop) → Prop) : Prop :=
  ∀ (pins : List (Addr × Obj)) (s : Shared) (σ : St) (H : Hp) (x : V) (v : Value) (Q : Bool → Hp → Prop), Inv X pins σ H s → RelV x v → r x H Q →
    wpAny (model X.prog X.w) X.A (truthy v) (TP X pins σ Q) X.xe s
def tOp (r : R2) (ta tb : TE) : TE := fun σ H Q => ta σ H fun x H1 => tb σ H1 fun y H2 => r x y H2 Q
def tUn (r : V → Hp → VK → Prop) (ta : TE) : TE := fun σ H Q => ta σ H fun x H1 => r x H1 Q
def rI (C : Int → Int → Prop) (g : Int → Int → V) : R2 := fun x y H Q => ∃ i j, x = .int i ∧ y = .int j ∧ C i j ∧ Q (g i j) H
def rI0 (g : Int → Int → V) : R2 := fun x y H Q => ∃ i j, x = .int i ∧ y = .int j ∧ Q (g i j) H
def rU (g : Int → V) : V → Hp → VK → Prop := fun x H Q => ∃ i, x = .int i ∧ Q (g i) H
section
variable {X : Cx} {a b c : Expr} {ta tb tc : TE} {pos : Pos}
theorem binT (ha : PE X a ta) (hb : PE X b tb) {pins : List (Addr × Obj)} {s : Shared} {σ : St} {H : Hp} {R : V → V → Hp → Prop} (I : Inv X pins σ H s)
    (h : ta σ H fun x H1 => tb σ H1 fun y H2 => R x y H2) {Q : Value → Shared → Prop} {f : Value → Value → Sem Value}
    (hf : ∀ v u s2 x y H2, Inv X pins σ H2 s2 → RelV x v → RelV y u → R x y H2 → wpAny (model X.prog X.w) X.A (f v u) Q X.xe s2) :
    wpAny (model X.prog X.w) X.A (eval a X.env) (fun v s₁ => wpAny (model X.prog X.w) X.A (eval b X.env) (fun u s₂ => wpAny (model X.prog X.w) X.A (f v u) Q X.xe s₂) X.xe s₁) X.xe s := by
  refine thn (ha pins s σ H _ I h) fun v s1 ⟨x, H1, I1, r1, q1⟩ => ?_
  refine thn (hb pins s1 σ H1 _ I1 q1) fun u s2 ⟨y, H2, I2, r2, q2⟩ => ?_
  exact hf v u s2 x y H2 I2 r1 r2 q2
theorem pe_op {op : Operator} {r : R2} (ho : OpR X (binaryOp op) r) (ha : PE X a ta) (hb : PE X b tb) : PE X (.BinOp a op b pos) (tOp r ta tb) := by
  intro pins s σ H Q I h
  exact wpAny_BinOp (binT ha hb I h fun v u s2 x y H2 I2 rx ry q => ho pins s2 σ H2 x y v u Q I2 rx ry q)
theorem pe_un {op : UnaryOp} {r : V → Hp → VK → Prop} (ho : UnR X (unaryOp op) r) (ha : PE X a ta) : PE X (.UnaryOp op a pos) (tUn r ta) := by
  intro pins s σ H Q I h
  exact UnaryOp_ (thn (ha pins s σ H _ I h) fun v s1 ⟨x, H1, I1, r1, q1⟩ => ho pins s1 σ H1 x v Q I1 r1 q1)
theorem augR {op : Operator} {r : R2} (ho : OpR X (inplaceOp op) r) {pins : List (Addr × Obj)} {s : Shared} {σ : St} {H : Hp} {x y : V} {v u : Value} {Q : VK} (I : Inv X pins σ H s)
    (rx : RelV x v) (ry : RelV y u) (q : r x y H Q) : wpAny (model X.prog X.w) X.A (inplaceOp op v u) (EP X pins σ Q) X.xe s := ho pins s σ H x y v u Q I rx ry q
theorem opI {f : Value → Value → Sem Value} {C : Int → Int → Prop} {g : Int → Int → Int}
    (rule : ∀ (i j : Int) (t u : Tok) (s : Shared) (Q : Value → Shared → Prop) (E : Value → Shared → Prop), C i j → Q (.int (g i j) s.toks) { s with toks := s.toks + 1 } → wpAny (model X.prog X.w) X.A (f (.int i t) (.int j u)) Q E s) :
    OpR X f (rI C fun i j => .int (g i j)) := by
  intro pins s σ H x y v u Q I rx ry h
  obtain ⟨i, j, rfl, rfl, hc, q⟩ := h
  obtain ⟨t, rfl⟩ := rx
  obtain ⟨t', rfl⟩ := ry
  exact rule i j t t' s _ _ hc ⟨.int (g i j), H, I.tok _, ⟨_, rfl⟩, q⟩
theorem opI0 {f : Value → Value → Sem Value} {g : Int → Int → Int}
    (rule : ∀ (i j : Int) (t u : Tok) (s : Shared) (Q : Value → Shared → Prop) (E : Value → Shared → Prop), Q (.int (g i j) s.toks) { s with toks := s.toks + 1 } → wpAny (model X.prog X.w) X.A (f (.int i t) (.int j u)) Q E s) :
    OpR X f (rI0 fun i j => .int (g i j)) := by
  intro pins s σ H x y v u Q I rx ry h
  obtain ⟨i, j, rfl, rfl, q⟩ := h
  obtain ⟨t, rfl⟩ := rx
  obtain ⟨t', rfl⟩ := ry
  exact rule i j t t' s _ _ ⟨.int (g i j), H, I.tok _, ⟨_, rfl⟩, q⟩
theorem opB0 {f : Value → Value → Sem Value} {g : Int → Int → Bool}
    (rule : ∀ (i j : Int) (t u : Tok) (s : Shared) (Q : Value → Shared → Prop) (E : Value → Shared → Prop), Q (.bool (g i j)) s → wpAny (model X.prog X.w) X.A (f (.int i t) (.int j u)) Q E s) :
    OpR X f (rI0 fun i j => .bl (g i j)) := by
  intro pins s σ H x y v u Q I rx ry h
  obtain ⟨i, j, rfl, rfl, q⟩ := h
  obtain ⟨t, rfl⟩ := rx
  obtain ⟨t', rfl⟩ := ry
  exact rule i j t t' s _ _ ⟨.bl (g i j), H, I, rfl, q⟩
def CDiv (i j : Int) : Prop := 0 < j ∧ j < 1073741824
def CDivN (i j : Int) : Prop := j ≠ 0 ∧ j.natAbs < 1073741824
def CPow (i j : Int) : Prop := 0 ≤ j ∧ j ≤ 1000000 ∧ i.natAbs < 2 ^ 64
def CMul (i j : Int) : Prop := (-(2 ^ 64) < i ∧ i < 2 ^ 64) ∨ (-(2 ^ 64) < j ∧ j < 2 ^ 64)
theorem CMul.ok {i j : Int} (h : CMul i j) : IntMulOk i j := by
  rcases h with ⟨h1, h2⟩ | ⟨h1, h2⟩
  · exact .of_left (intBits_le_64 h1 h2)
  · exact .of_right (intBits_le_64 h1 h2)
theorem two_pow_nn (k : Nat) : (0 : Int) ≤ 2 ^ k := by
  rw [two_pow_cast]
  exact Int.natCast_nonneg _
theorem op_add : OpR X (binaryOp .Add) (rI0 fun i j => .int (i + j)) := opI0 fun _ _ _ _ _ _ _ q => add_int q
theorem op_sub : OpR X (binaryOp .Sub) (rI0 fun i j => .int (i - j)) := opI0 fun _ _ _ _ _ _ _ q => sub_int q
theorem op_mul : OpR X (binaryOp .Mult) (rI CMul fun i j => .int (i * j)) := opI fun _ _ _ _ _ _ _ hc q => mul_int q hc.ok
theorem op_fdiv : OpR X (binaryOp .FloorDiv) (rI CDiv fun i j => .int (i / j)) := opI fun i j _ _ _ _ _ hc q => by
  have h1 : (0 : Int) < j := hc.1
  have h2 : j < 1073741824 := hc.2
  exact floordiv_int (by omega) (by rw [Int.fdiv_eq_ediv_of_nonneg i (by omega)]; exact q) (.inl (PyProof.noPylong_small (by omega)))
theorem op_fdivN : OpR X (binaryOp .FloorDiv) (rI CDivN fun i j => .int (i.fdiv j)) := opI fun _ _ _ _ _ _ _ hc q => floordiv_int hc.1 q (.inl (PyProof.noPylong_small hc.2))
theorem op_mod : OpR X (binaryOp .Mod) (rI (fun _ j => 0 < j) fun i j => .int (i % j)) := opI fun i j _ _ _ _ _ hc q => by
  have h1 : (0 : Int) < j := hc
  exact mod_int' (by omega) (by rw [Int.fmod_eq_emod_of_nonneg i (by omega)]; exact q)
theorem op_modN : OpR X (binaryOp .Mod) (rI (fun _ j => j ≠ 0) fun i j => .int (i.fmod j)) := opI fun _ _ _ _ _ _ _ hc q => mod_int' hc q
theorem op_pow : OpR X (binaryOp .Pow) (rI CPow fun i j => .int (i ^ j.toNat)) := opI fun _ _ _ _ _ _ _ hc q => pow_int_small hc.1 hc.2.1 hc.2.2 q
theorem op_shl : OpR X (binaryOp .LShift) (rI CPow fun i j => .int (i * 2 ^ j.toNat)) := opI fun _ _ _ _ _ _ _ hc q => lshift_int_small hc.1 hc.2.1 hc.2.2 q
theorem op_shr : OpR X (binaryOp .RShift) (rI (fun _ j => 0 ≤ j) fun i j => .int (i / 2 ^ j.toNat)) := opI fun i j _ _ _ _ _ hc q =>
  rshift_int hc (by rw [Int.fdiv_eq_ediv_of_nonneg i (two_pow_nn _)]; exact q)
theorem op_and : OpR X (binaryOp .BitAnd) (rI0 fun i j => .int (Builtin.bitAnd i j)) := opI0 fun _ _ _ _ _ _ _ q => and_int q
theorem op_or : OpR X (binaryOp .BitOr) (rI0 fun i j => .int (Builtin.bitOr i j)) := opI0 fun _ _ _ _ _ _ _ q => or_int q
theorem op_xor : OpR X (binaryOp .BitXor) (rI0 fun i j => .int (Builtin.bitXor i j)) := opI0 fun _ _ _ _ _ _ _ q => xor_int q
theorem iop_add : OpR X (inplaceOp .Add) (rI0 fun i j => .int (i + j)) := opI0 fun _ _ _ _ _ _ _ q => iadd_int q
theorem iop_sub : OpR X (inplaceOp .Sub) (rI0 fun i j => .int (i - j)) := opI0 fun _ _ _ _ _ _ _ q => isub_int q
theorem iop_mul : OpR X (inplaceOp .Mult) (rI CMul fun i j => .int (i * j)) := opI fun _ _ _ _ _ _ _ hc q => imul_int q hc.ok
theorem iop_fdiv : OpR X (inplaceOp .FloorDiv) (rI CDiv fun i j => .int (i / j)) := opI fun i j _ _ _ _ _ hc q => by
  have h1 : (0 : Int) < j := hc.1
  have h2 : j < 1073741824 := hc.2
  exact ifloordiv_int (by omega) (by rw [Int.fdiv_eq_ediv_of_nonneg i (by omega)]; exact q) (.inl (PyProof.noPylong_small (by omega)))
theorem iop_mod : OpR X (inplaceOp .Mod) (rI (fun _ j => 0 < j) fun i j => .int (i % j)) := opI fun i j _ _ _ _ _ hc q => by
  have h1 : (0 : Int) < j := hc
  exact imod_int (by omega) (by rw [Int.fmod_eq_emod_of_nonneg i (by omega)]; exact q)
theorem iop_shl : OpR X (inplaceOp .LShift) (rI CPow fun i j => .int (i * 2 ^ j.toNat)) := opI fun _ _ _ _ _ _ _ hc q => ilshift_int_small hc.1 hc.2.1 hc.2.2 q
theorem iop_shr : OpR X (inplaceOp .RShift) (rI (fun _ j => 0 ≤ j) fun i j => .int (i / 2 ^ j.toNat)) := opI fun i j _ _ _ _ _ hc q =>
  irshift_int hc (by rw [Int.fdiv_eq_ediv_of_nonneg i (two_pow_nn _)]; exact q)
theorem iop_and : OpR X (inplaceOp .BitAnd) (rI0 fun i j => .int (Builtin.bitAnd i j)) := opI0 fun _ _ _ _ _ _ _ q => iand_int q
theorem iop_or : OpR X (inplaceOp .BitOr) (rI0 fun i j => .int (Builtin.bitOr i j)) := opI0 fun _ _ _ _ _ _ _ q => ior_int q
theorem iop_xor : OpR X (inplaceOp .BitXor) (rI0 fun i j => .int (Builtin.bitXor i j)) := opI0 fun _ _ _ _ _ _ _ q => ixor_int q
theorem unI {f : Value → Sem Value} {g : Int → Int}
    (rule : ∀ (i : Int) (t : Tok) (s : Shared) (Q : Value → Shared → Prop) (E : Value → Shared → Prop), Q (.int (g i) s.toks) { s with toks := s.toks + 1 } → wpAny (model X.prog X.w) X.A (f (.int i t)) Q E s) :
    UnR X f (rU fun i => .int (g i)) := by
  intro pins s σ H x v Q I rx h
  obtain ⟨i, rfl, q⟩ := h
  obtain ⟨t, rfl⟩ := rx
  exact rule i t s _ _ ⟨.int (g i), H, I.tok _, ⟨_, rfl⟩, q⟩
theorem un_neg : UnR X (unaryOp .USub) (rU fun i => .int (-i)) := unI fun _ _ _ _ _ q => neg_int q
theorem un_inv : UnR X (unaryOp .Invert) (rU fun i => .int (Builtin.bitNot i)) := unI fun _ _ _ _ _ q => invert_int q
theorem op_add_ib : OpR X (binaryOp .Add) (fun x y H Q => ∃ i k, x = .int i ∧ y = .bl k ∧ Q (.int (i + b2i k)) H) := by
  intro pins s σ H x y v u Q I rx ry h
  obtain ⟨i, k, rfl, rfl, q⟩ := h
  obtain ⟨t, rfl⟩ := rx
  cases ry
  exact add_int_bool ⟨.int (i + b2i k), H, I.tok _, ⟨_, rfl⟩, q⟩
end
def scal : V → V → Bool
  | .non, .non => true | .non, .int _ => true | .int _, .non => true | .non, .bl _ => true | .bl _, .non => true | .non, .str _ => true | .str _, .non => true
  | .int _, .int _ => true | .bl _, .bl _ => true | .str _, .str _ => true | .byt _, .byt _ => true
  | .int _, .str _ => true | .str _, .int _ => true | .bl _, .str _ => true | .str _, .bl _ => true
  | _, _ => false
def rEq : R2 := fun x y H Q => scal x y = true ∧ Q (.bl (decide (x = y))) H
def rNe : R2 := fun x y H Q => scal x y = true ∧ Q (.bl (!decide (x = y))) H
theorem dec_int {i j : Int} : decide (V.int i = V.int j) = (i == j) := by
  rw [Bool.eq_iff_iff]
  simp
theorem dec_bl {i j : Bool} : decide (V.bl i = V.bl j) = (i == j) := by
  rw [Bool.eq_iff_iff]
  simp
theorem dec_str {i j : Str} : decide (V.str i = V.str j) = (i == j) := by
  rw [Bool.eq_iff_iff]
  simp
theorem dec_byt {i j : Array UInt8} : decide (V.byt i = V.byt j) = (i.toList == j.toList) := by
  rw [Bool.eq_iff_iff]
  cases i
  cases j
  simp
section
variable {X : Cx} {a b c : Expr} {ta tb tc : TE} {pos : Pos}
theorem fin_bl {pins : List (Addr × Obj)} {σ : St} {H : Hp} {s : Shared} {Q : VK} {k k' : Bool} (I : Inv X pins σ H s) (q : Q (.bl k) H) (e : k = k') : EP X pins σ Q (.bool k') s := by
  subst e
  exact ⟨.bl k, H, I, rfl, q⟩
theorem op_eq : OpR X (compareOp .Eq) rEq := by
  intro pins s σ H x y v u Q I rx ry h
  obtain ⟨hs, q⟩ := h
  cases x with
  | non =>
    cases rx
    cases y with
    | non => cases ry; exact PySem.EqNone.eq_none_none (fin_bl I q (by simp))
    | bl j => cases ry; exact PySem.EqNone.eq_none_bool (fin_bl I q (by simp))
    | int j => obtain ⟨t', rfl⟩ := ry; exact PySem.EqNone.eq_none_int (fin_bl I q (by simp))
    | str j => obtain ⟨t', rfl⟩ := ry; exact PySem.EqNone.eq_none_str (fin_bl I q (by simp))
    | _ => exact absurd (show false = true from hs) Bool.false_ne_true
  | bl i =>
    cases rx
    cases y with
    | non => cases ry; exact PySem.EqNone.eq_bool_none (fin_bl I q (by simp))
    | bl j => cases ry; exact eq_bool (fin_bl I q dec_bl)
    | str j => obtain ⟨t', rfl⟩ := ry; exact PySem.EqMixed.eq_bool_str (fin_bl I q (by simp))
    | _ => exact absurd (show false = true from hs) Bool.false_ne_true
  | int i =>
    obtain ⟨t, rfl⟩ := rx
    cases y with
    | non => cases ry; exact PySem.EqNone.eq_int_none (fin_bl I q (by simp))
    | int j => obtain ⟨t', rfl⟩ := ry; exact eq_int (fin_bl I q dec_int)
    | str j => obtain ⟨t', rfl⟩ := ry; exact PySem.EqMixed.eq_int_str (fin_bl I q (by simp))
    | _ => exact absurd (show false = true from hs) Bool.false_ne_true
  | str i =>
    obtain ⟨t, rfl⟩ := rx
    cases y with
    | non => cases ry; exact PySem.EqNone.eq_str_none (fin_bl I q (by simp))
    | bl j => cases ry; exact PySem.EqMixed.eq_str_bool (fin_bl I q (by simp))
    | int j => obtain ⟨t', rfl⟩ := ry; exact PySem.EqMixed.eq_str_int (fin_bl I q (by simp))
    | str j => obtain ⟨t', rfl⟩ := ry; exact eq_str (fin_bl I q dec_str)
    | _ => exact absurd (show false = true from hs) Bool.false_ne_true
  | byt i =>
    obtain ⟨t, rfl⟩ := rx
    cases y with
    | byt j => obtain ⟨t', rfl⟩ := ry; exact PySem.W.eq_bytes (fin_bl I q dec_byt)
    | _ => exact absurd (show false = true from hs) Bool.false_ne_true
  | _ => cases y <;> exact absurd (show false = true from hs) Bool.false_ne_true
theorem op_ne : OpR X (compareOp .NotEq) rNe := by
  intro pins s σ H x y v u Q I rx ry h
  obtain ⟨hs, q⟩ := h
  cases x with
  | non =>
    cases rx
    cases y with
    | non => cases ry; exact PySem.EqNone.ne_none_none (fin_bl I q (by simp))
    | bl j => cases ry; exact PySem.EqNone.ne_none_bool (fin_bl I q (by simp))
    | int j => obtain ⟨t', rfl⟩ := ry; exact PySem.EqNone.ne_none_int (fin_bl I q (by simp))
    | str j => obtain ⟨t', rfl⟩ := ry; exact PySem.EqNone.ne_none_str (fin_bl I q (by simp))
    | _ => exact absurd (show false = true from hs) Bool.false_ne_true
  | bl i =>
    cases rx
    cases y with
    | non => cases ry; exact PySem.EqNone.ne_bool_none (fin_bl I q (by simp))
    | bl j => cases ry; exact ne_bool (fin_bl I q (congrArg not dec_bl))
    | str j => obtain ⟨t', rfl⟩ := ry; exact PySem.EqMixed.ne_bool_str (fin_bl I q (by simp))
    | _ => exact absurd (show false = true from hs) Bool.false_ne_true
  | int i =>
    obtain ⟨t, rfl⟩ := rx
    cases y with
    | non => cases ry; exact PySem.EqNone.ne_int_none (fin_bl I q (by simp))
    | int j => obtain ⟨t', rfl⟩ := ry; exact ne_int (fin_bl I q (congrArg not dec_int))
    | str j => obtain ⟨t', rfl⟩ := ry; exact PySem.EqMixed.ne_int_str (fin_bl I q (by simp))
    | _ => exact absurd (show false = true from hs) Bool.false_ne_true
  | str i =>
    obtain ⟨t, rfl⟩ := rx
    cases y with
    | non => cases ry; exact PySem.EqNone.ne_str_none (fin_bl I q (by simp))
    | bl j => cases ry; exact PySem.EqMixed.ne_str_bool (fin_bl I q (by simp))
    | int j => obtain ⟨t', rfl⟩ := ry; exact PySem.EqMixed.ne_str_int (fin_bl I q (by simp))
    | str j => obtain ⟨t', rfl⟩ := ry; exact ne_str (fin_bl I q (congrArg not dec_str))
    | _ => exact absurd (show false = true from hs) Bool.false_ne_true
  | byt i =>
    obtain ⟨t, rfl⟩ := rx
    cases y with
    | byt j => obtain ⟨t', rfl⟩ := ry; exact PySem.W.ne_bytes (fin_bl I q (congrArg not dec_byt))
    | _ => exact absurd (show false = true from hs) Bool.false_ne_true
  | _ => cases y <;> exact absurd (show false = true from hs) Bool.false_ne_true
theorem op_lt : OpR X (compareOp .Lt) (rI0 fun i j => .bl (decide (i < j))) := opB0 fun _ _ _ _ _ _ _ q => lt_int q
theorem op_le : OpR X (compareOp .LtE) (rI0 fun i j => .bl (decide (i ≤ j))) := opB0 fun _ _ _ _ _ _ _ q => le_int q
theorem op_gt : OpR X (compareOp .Gt) (rI0 fun i j => .bl (decide (j < i))) := opB0 fun _ _ _ _ _ _ _ q => gt_int q
theorem op_ge : OpR X (compareOp .GtE) (rI0 fun i j => .bl (decide (j ≤ i))) := opB0 fun _ _ _ _ _ _ _ q => ge_int q
theorem op_lt_str : OpR X (compareOp .Lt) (fun x y H Q => ∃ i j, x = .str i ∧ y = .str j ∧ Q (.bl (decide (i.cps.toList < j.cps.toList))) H) := by
  intro pins s σ H x y v u Q I rx ry h
  obtain ⟨i, j, rfl, rfl, q⟩ := h
  obtain ⟨t, rfl⟩ := rx
  obtain ⟨t', rfl⟩ := ry
  exact lt_str (fin_bl I q rfl)
theorem op_in_str : OpR X (compareOp .In) (fun x y H Q => ∃ i j, x = .str i ∧ y = .str j ∧ Q (.bl (!(Builtin.Str.occurrences j i 0 j.length 1).isEmpty)) H) := by
  intro pins s σ H x y v u Q I rx ry h
  obtain ⟨i, j, rfl, rfl, q⟩ := h
  obtain ⟨t, rfl⟩ := rx
  obtain ⟨t', rfl⟩ := ry
  exact in_str (fin_bl I q rfl)
theorem op_isN : OpR X (compareOp .Is) (fun x y H Q => y = .non ∧ Q (.bl (decide (x = .non))) H) := by
  intro pins s σ H x y v u Q I rx ry h
  obtain ⟨rfl, q⟩ := h
  cases ry
  refine is_none_gen (fin_bl I q ?_)
  cases x <;> first
    | (cases rx; rfl)
    | (obtain ⟨t, rfl⟩ := rx; rfl)
theorem op_notN : OpR X (compareOp .IsNot) (fun x y H Q => y = .non ∧ Q (.bl (!decide (x = .non))) H) := by
  intro pins s σ H x y v u Q I rx ry h
  obtain ⟨rfl, q⟩ := h
  cases ry
  refine isnot_none_gen (fin_bl I q ?_)
  cases x <;> first
    | (cases rx; rfl)
    | (obtain ⟨t, rfl⟩ := rx; rfl)
theorem op_notin_str : OpR X (compareOp .NotIn) (fun x y H Q => ∃ i j, x = .str i ∧ y = .str j ∧ Q (.bl (!(!(Builtin.Str.occurrences j i 0 j.length 1).isEmpty))) H) := by
  intro pins s σ H x y v u Q I rx ry h
  obtain ⟨i, j, rfl, rfl, q⟩ := h
  obtain ⟨t, rfl⟩ := rx
  obtain ⟨t', rfl⟩ := ry
  exact notIn_str (fin_bl I q rfl)
def isObj : HO → Bool
  | .lst _ => true
  | .ins _ _ _ => true
  | _ => false
theorem obj_there {pins : List (Addr × Obj)} {s : Shared} {σ : St} {H : Hp} {a : Addr} {o : HO} (I : Inv X pins σ H s) (h : H a = some o) (p : isObj o = true) : ∃ ob, s.heap.get? a = some ob ∧ ob.cls ≠ .type "tuple" := by
  cases o with
  | lst xs =>
    obtain ⟨_, its, n, _, e⟩ : xs.length ≤ sizeLine ∧ ∃ (its : List Value) (n : Nat), Vals xs its ∧ s.heap.get? a = some { cls := .type "list", data := .seq its.toArray n } := I.hok a _ h
    exact ⟨_, e, (by show Value.type "list" ≠ .type "tuple"; decide +kernel)⟩
  | ins C dx fs =>
    have x := I.hok a _ h
    obtain ⟨_, _, _, e, _⟩ := x
    exact ⟨_, e, (by show Value.ref C ≠ .type "tuple"; exact fun z => by cases z)⟩
  | _ => exact absurd (show false = true from p) Bool.false_ne_true
theorem op_is_ref : OpR X (compareOp .Is) (fun x y H Q => ∃ a b oa ob, x = .ref a ∧ y = .ref b ∧ H a = some oa ∧ isObj oa = true ∧ H b = some ob ∧ isObj ob = true ∧ Q (.bl (decide (a = b))) H) := by
  intro pins s σ H x y v u Q I rx ry h
  obtain ⟨a, b, oa, ob, rfl, rfl, ha, pa, hb, pb, q⟩ := h
  cases rx
  cases ry
  obtain ⟨o1, e1, n1⟩ := obj_there I ha pa
  obtain ⟨o2, e2, _⟩ := obj_there I hb pb
  by_cases z : a = b
  · subst z
    exact wpAny_is_ref_self (fin_bl I q (by simp))
  · exact wpAny_is_ref_other z e1 e2 n1 (fin_bl I q (by simp [z]))
theorem op_isnot_ref : OpR X (compareOp .IsNot) (fun x y H Q => ∃ a b oa ob, x = .ref a ∧ y = .ref b ∧ H a = some oa ∧ isObj oa = true ∧ H b = some ob ∧ isObj ob = true ∧ Q (.bl (!decide (a = b))) H) := by
  intro pins s σ H x y v u Q I rx ry h
  obtain ⟨a, b, oa, ob, rfl, rfl, ha, pa, hb, pb, q⟩ := h
  cases rx
  cases ry
  obtain ⟨o1, e1, n1⟩ := obj_there I ha pa
  obtain ⟨o2, e2, _⟩ := obj_there I hb pb
  by_cases z : a = b
  · subst z
    exact wpAny_isNot_ref_self (fin_bl I q (by simp))
  · exact wpAny_isNot_ref_other z e1 e2 n1 (fin_bl I q (by simp [z]))
theorem OpR.or {f : Value → Value → Sem Value} {r r' : R2} (h : OpR X f r) (h' : OpR X f r') : OpR X f (fun x y H Q => r x y H Q ∨ r' x y H Q) := by
  intro pins s σ H x y v u Q I rx ry q
  rcases q with q | q
  · exact h pins s σ H x y v u Q I rx ry q
  · exact h' pins s σ H x y v u Q I rx ry q
theorem nomark (b : Expr) {op : CmpOp} (h : op ≠ .In := by decide) (h2 : op ≠ .NotIn := by decide) : behindInMarks op b = false := by
  have e1 : (op == CmpOp.In) = false := by cases op <;> first | rfl | exact absurd rfl h
  have e2 : (op == CmpOp.NotIn) = false := by cases op <;> first | rfl | exact absurd rfl h2
  cases b <;> simp [behindInMarks, e1, e2]
theorem pe_cmpR {op : CmpOp} {r : R2} (ho : OpR X (compareOp op) r) (ha : PE X a ta) (hb : PE X b tb) (hm : behindInMarks op b = false) : PE X (.Compare a [op] [b] pos) (tOp r ta tb) := by
  intro pins s σ H Q I h
  exact wpAny_Compare1 (binT ha hb I h fun v u s2 x y H2 I2 rx ry q => ho pins s2 σ H2 x y v u Q I2 rx ry q) hm
def tTest (t : TE) : TT := fun σ H Q => t σ H fun x H' => ∃ k, x = .bl k ∧ Q k H'
theorem pt_cmpR {op : CmpOp} {r : R2} (ho : OpR X (compareOp op) r) (ha : PE X a ta) (hb : PE X b tb) (hm : behindInMarks op b = false) : PT X (.Compare a [op] [b] pos) (tTest (tOp r ta tb)) := by
  intro pins s σ H Q I h
  refine wpAny_isTrue_Compare1 (thn (ha pins s σ H _ I h) fun v s1 ⟨x, H1, I1, r1, q1⟩ => thn (hb pins s1 σ H1 _ I1 q1) fun u s2 ⟨y, H2, I2, r2, q2⟩ =>
    thn (ho pins s2 σ H2 x y v u _ I2 r1 r2 q2) fun c s3 ⟨z, H3, I3, r3, k, e, q3⟩ => ?_) hm
  subst e
  cases r3
  exact wpAny_truthy_bool ⟨H3, I3, q3⟩
def tChain (r r' : R2) (ta tb tc : TE) : TE := fun σ H Q => ta σ H fun x H1 => tb σ H1 fun y H2 => r x y H2 fun z H3 => ∃ k, z = .bl k ∧
  (if k = true then tc σ H3 fun w' H4 => r' y w' H4 Q else Q (.bl false) H3)
theorem pe_chain {op op' : CmpOp} {r r' : R2} (ho : OpR X (compareOp op) r) (ho' : OpR X (compareOp op') r') (ha : PE X a ta) (hb : PE X b tb) (hc : PE X c tc)
    (hm : lastMarks [op, op'] [b, c] = false := by with_unfolding_all rfl) : PE X (.Compare a [op, op'] [b, c] pos) (tChain r r' ta tb tc) := by
  intro pins s σ H Q I h
  refine Compare_chain (thn (ha pins s σ H _ I h) fun v s1 ⟨x, H1, I1, r1, q1⟩ => chain_link (thn (hb pins s1 σ H1 _ I1 q1) fun u s2 ⟨y, H2, I2, r2, q2⟩ =>
    thn (ho pins s2 σ H2 x y v u _ I2 r1 r2 q2) fun d s3 ⟨z, H3, I3, r3, k, e, q3⟩ => ?_)) hm
  subst e
  cases r3
  refine wpAny_truthy_bool ?_
  cases k with
  | false => exact ite_ff ⟨.bl false, H3, I3, rfl, q3⟩
  | true => exact ite_tt (chain_last (thn (hc pins s3 σ H3 _ I3 q3) fun w' s4 ⟨z', H4, I4, r4, q4⟩ => ho' pins s4 σ H4 y z' u w' Q I4 r2 r4 q4))
theorem pt_chain {op op' : CmpOp} {r r' : R2} (ho : OpR X (compareOp op) r) (ho' : OpR X (compareOp op') r') (ha : PE X a ta) (hb : PE X b tb) (hc : PE X c tc)
    (hm : lastMarks [op, op'] [b, c] = false := by with_unfolding_all rfl) : PT X (.Compare a [op, op'] [b, c] pos) (tTest (tChain r r' ta tb tc)) := by
  intro pins s σ H Q I h
  refine isTrue_chain (thn (ha pins s σ H _ I h) fun v s1 ⟨x, H1, I1, r1, q1⟩ => test_link (thn (hb pins s1 σ H1 _ I1 q1) fun u s2 ⟨y, H2, I2, r2, q2⟩ =>
    thn (ho pins s2 σ H2 x y v u _ I2 r1 r2 q2) fun d s3 ⟨z, H3, I3, r3, k, e, q3⟩ => ?_)) hm
  subst e
  cases r3
  refine wpAny_truthy_bool ?_
  cases k with
  | false =>
    obtain ⟨k', e', q'⟩ := q3
    cases e'
    exact ite_ff ⟨H3, I3, q'⟩
  | true =>
    refine ite_tt (test_last (thn (hc pins s3 σ H3 _ I3 q3) fun w' s4 ⟨z', H4, I4, r4, q4⟩ => thn (ho' pins s4 σ H4 y z' u w' _ I4 r2 r4 q4) fun d' s5 ⟨z2, H5, I5, r5, k2, e2, q5⟩ => ?_))
    subst e2
    cases r5
    exact wpAny_truthy_bool ⟨H5, I5, q5⟩
def TruV (K : PySem.W.Frag) (x : V) (H : Hp) (k : Bool) : Prop :=
  match x with
  | .non => k = false
  | .bl b => k = b
  | .int i => k = (i != 0)
  | .str y => y.length ≤ sizeLine ∧ k = ((y.length : Int) != 0)
  | .byt y => y.size ≤ sizeLine ∧ k = ((y.size : Int) != 0)
  | .ref p => (∃ xs, SqL K H p xs ∧ k = !xs.isEmpty) ∨ (∃ xs, SqT K H p xs ∧ k = !xs.isEmpty) ∨ ∃ kvs, H p = some (.dK kvs) ∧ k = !kvs.isEmpty
  | _ => False
theorem isEmpty_kv {κ : Type} {kvs : List (κ × V)} {vs : List (κ × Value)} (r : KV kvs vs) : (!vs.isEmpty) = !kvs.isEmpty := by
  cases r <;> rfl
theorem isEmpty_of {xs : List V} {its : List Value} (r : Vals xs its) : (!its.toArray.isEmpty) = !xs.isEmpty := by
  cases r <;> simp
theorem line63 : (sizeLine : Nat) < 2 ^ 63 := by rw [sizeLine_eq]; decide
theorem tru_ok : TruR X (fun x H Q => ∃ k, TruV X.K x H k ∧ Q k H) := by
  intro pins s σ H x v Q I rx h
  obtain ⟨k, e, q⟩ := h
  have hl := line63
  have hs : sizeLine = 16777216 := sizeLine_eq
  cases x with
  | non =>
    cases rx
    have e' : k = false := e
    subst e'
    exact truthy_none ⟨H, I, q⟩
  | bl b =>
    cases rx
    have e' : k = b := e
    subst e'
    exact wpAny_truthy_bool ⟨H, I, q⟩
  | int i =>
    obtain ⟨t, rfl⟩ := rx
    have e' : k = (i != 0) := e
    subst e'
    exact PySem.P.truthy_int ⟨H, I, q⟩
  | str y =>
    obtain ⟨t, rfl⟩ := rx
    obtain ⟨hy, e'⟩ : y.length ≤ sizeLine ∧ k = ((y.length : Int) != 0) := e
    subst e'
    exact PySem.P.truthy_str (by omega) ⟨H, I.tok _, q⟩
  | byt y =>
    obtain ⟨t, rfl⟩ := rx
    obtain ⟨hy, e'⟩ : y.size ≤ sizeLine ∧ k = ((y.size : Int) != 0) := e
    subst e'
    exact PySem.W.truthy_bytes (by omega) ⟨H, I.tok _, q⟩
  | ref p =>
    cases rx
    have e' : (∃ xs, SqL X.K H p xs ∧ k = !xs.isEmpty) ∨ (∃ xs, SqT X.K H p xs ∧ k = !xs.isEmpty) ∨ ∃ kvs, H p = some (.dK kvs) ∧ k = !kvs.isEmpty := e
    rcases e' with ⟨xs, hx, e'⟩ | ⟨xs, hx, e'⟩ | ⟨kvs, hx, e'⟩
    · subst e'
      obtain ⟨its, r, pl, hz⟩ := I.list hx
      have hlen := r.length
      exact wpAny_truthy_list pl.isList (by simp only [List.size_toArray]; omega) ⟨H, I.tok _, by rw [isEmpty_of r]; exact q⟩
    · subst e'
      obtain ⟨its, r, pl, hz⟩ := I.tuple hx
      have hlen := r.length
      exact truthy_tuple pl (by simp only [List.size_toArray]; omega) ⟨H, I.tok _, by rw [isEmpty_of r]; exact q⟩
    · subst e'
      obtain ⟨hz, hS, vs, r, m⟩ : kvs.length ≤ sizeLine ∧ (p == sysModules) = false ∧ ∃ vs, KV kvs vs ∧ s.heap.DictOf (mixKind X.prog X.w) p vs := I.hok p _ hx
      have hlen : kvs.length = vs.length := Paired.length r
      exact wpAny_truthy_dict hS m (by omega) ⟨H, I.tok _, by rw [isEmpty_kv r]; exact q⟩
  | _ => exact (show False from e).elim
theorem pt_truth (ha : PE X a ta) (he : ∀ whole, isTrue a X.env whole = (do let v ← whole; standAt a.pos; holding [v] (truthy v))) :
    PT X a (fun σ H Q => ta σ H fun x H' => ∃ k, TruV X.K x H' k ∧ Q k H') := by
  intro pins s σ H Q I h
  exact isTrue_plain (thn (ha pins s σ H _ I h) fun v s1 ⟨x, H1, I1, r1, q1⟩ => tru_ok pins s1 σ H1 x v Q I1 r1 q1) (he _)
theorem pe_byt {x : List UInt8} {k : Nat} : PE X (.Constant (.bytes x) k pos) (fun _ H Q => Q (.byt x.toArray) H) := fun _ _ _ H _ I h => PySem.W.Constant_bytes ⟨.byt x.toArray, H, I.tok _, ⟨_, rfl⟩, h⟩
theorem op_add_str : OpR X (binaryOp .Add) (fun x y H Q => ∃ i j, x = .str i ∧ y = .str j ∧ i.length + j.length ≤ sizeLine ∧ Q (.str (i ++ j)) H) := by
  intro pins s σ H x y v u Q I rx ry h
  obtain ⟨i, j, rfl, rfl, hz, q⟩ := h
  obtain ⟨t, rfl⟩ := rx
  obtain ⟨t', rfl⟩ := ry
  exact add_str (fun t' tk => ⟨.str (i ++ j), H, I.tok _, ⟨_, rfl⟩, q⟩) hz
theorem iop_add_str : OpR X (inplaceOp .Add) (fun x y H Q => ∃ i j, x = .str i ∧ y = .str j ∧ i.length + j.length ≤ sizeLine ∧ Q (.str (i ++ j)) H) := by
  intro pins s σ H x y v u Q I rx ry h
  obtain ⟨i, j, rfl, rfl, hz, q⟩ := h
  obtain ⟨t, rfl⟩ := rx
  obtain ⟨t', rfl⟩ := ry
  exact iadd_str (fun t' tk => ⟨.str (i ++ j), H, I.tok _, ⟨_, rfl⟩, q⟩) hz
theorem op_add_byt : OpR X (binaryOp .Add) (fun x y H Q => ∃ i j, x = .byt i ∧ y = .byt j ∧ i.size + j.size ≤ 16777216 ∧ Q (.byt (i ++ j)) H) := by
  intro pins s σ H x y v u Q I rx ry h
  obtain ⟨i, j, rfl, rfl, hz, q⟩ := h
  obtain ⟨t, rfl⟩ := rx
  obtain ⟨t', rfl⟩ := ry
  exact PySem.W.KBy.add_bytes hz (fun t' tk => ⟨.byt (i ++ j), H, I.tok _, ⟨_, rfl⟩, q⟩)
def PlainIxT (b : Expr) : Prop := ∀ o i, subscripted b false o i = operate [o, i] (getItem o i)
theorem pe_item_str (ha : PE X a ta) (hb : PE X b tb) (hs : PlainIxT b) :
    PE X (.Subscript a b pos) (tOp (fun x y H Q => ∃ z i c, x = .str z ∧ y = .int i ∧ 0 ≤ i ∧ i < 2 ^ 63 ∧ i < z.length ∧ z.cps[i.toNat]? = some c ∧ Q (.str ⟨#[c]⟩) H) ta tb) := by
  intro pins s σ H Q I h
  refine Subscript_ (binT ha hb I h fun v u s2 x y H2 I2 rx ry q => ?_)
  obtain ⟨z, i, c, rfl, rfl, h0, h63, h1, hc, q⟩ := q
  obtain ⟨t, rfl⟩ := rx
  obtain ⟨t', rfl⟩ := ry
  have e : seqIndex? i z.length = some i.toNat := PySem.StrLaws.seqIndex_nonneg h0 h1
  exact tail_any (typeIs_str s2 z t) slot_str_getitem.lookup (getItem_str (c := c) (by
    have e1 : decide (i < -(2 ^ 63 : Int)) = false := decide_eq_false (by omega)
    have e2 : decide (i ≥ 2 ^ 63) = false := decide_eq_false (by omega)
    rw [e1, e2] <;> rfl) (by rw [e]; exact hc) ⟨.str ⟨#[c]⟩, H2, I2.tok _, ⟨_, rfl⟩, q⟩) (hs _ _)
theorem pe_item_byt (ha : PE X a ta) (hb : PE X b tb) (hs : PlainIxT b) :
    PE X (.Subscript a b pos) (tOp (fun x y H Q => ∃ (z : List UInt8) (i : Int), x = .byt z.toArray ∧ y = .int i ∧ z.length ≤ sizeLine ∧ 0 ≤ i ∧ i < z.length ∧ Q (.int ((z.getD i.toNat 0).toNat : Nat)) H) ta tb) := by
  intro pins s σ H Q I h
  refine Subscript_ (binT ha hb I h fun v u s2 x y H2 I2 rx ry q => ?_)
  obtain ⟨z, i, rfl, rfl, hz, h0, h1, q⟩ := q
  obtain ⟨t, rfl⟩ := rx
  obtain ⟨t', rfl⟩ := ry
  have hl : sizeLine = 16777216 := sizeLine_eq
  exact tail_any (PySem.W.typeIs_bytes s2 z.toArray t) PySem.W.FB.slot_bytes_getitem.lookup (PySem.W.getItem_bytes (by omega) h0 h1 ⟨.int ((z.getD i.toNat 0).toNat : Nat), H2, I2.tok _, ⟨_, rfl⟩, q⟩) (hs _ _)
theorem vals1 {x : V} {us : List Value} (r : Vals [x] us) : ∃ u, us = [u] ∧ RelV x u := by
  cases r with
  | cons r1 r2 => cases r2; exact ⟨_, rfl, r1⟩
theorem vals2 {x y : V} {us : List Value} (r : Vals [x, y] us) : ∃ u w', us = [u, w'] ∧ RelV x u ∧ RelV y w' := by
  cases r with
  | cons r1 r2 =>
    cases r2 with
    | cons r3 r4 => cases r4; exact ⟨_, _, rfl, r1, r3⟩
theorem call_abs : CallR X (.builtin "abs") (fun xs H Q => ∃ i, xs = [.int i] ∧ Q (.int (if i < 0 then -i else i)) H) := by
  intro pins s σ H xs us Q I r h
  obtain ⟨i, rfl, q⟩ := h
  obtain ⟨u, rfl, t, rfl⟩ := vals1 r
  exact call_abs_int fun u tk => ⟨.int (if i < 0 then -i else i), H, I.tok _, ⟨_, rfl⟩, q⟩
theorem call_max2 (hc : X.calm = true) : CallR X (.builtin "max") (fun xs H Q => ∃ i j, xs = [.int i, .int j] ∧ Q (.int (if j > i then j else i)) H) := by
  intro pins s σ H xs us Q I r h
  obtain ⟨i, j, rfl, q⟩ := h
  obtain ⟨u, w', rfl, ⟨t, rfl⟩, ⟨t', rfl⟩⟩ := vals2 r
  refine max_two_ints (I.ok.hd hc) fun h' tk k => ⟨_, H, I.kept k, ?_, q⟩
  by_cases hj : j > i
  · rw [if_pos hj, if_pos hj]; exact ⟨_, rfl⟩
  · rw [if_neg hj, if_neg hj]; exact ⟨_, rfl⟩
theorem call_min2 (hc : X.calm = true) : CallR X (.builtin "min") (fun xs H Q => ∃ i j, xs = [.int i, .int j] ∧ Q (.int (if j < i then j else i)) H) := by
  intro pins s σ H xs us Q I r h
  obtain ⟨i, j, rfl, q⟩ := h
  obtain ⟨u, w', rfl, ⟨t, rfl⟩, ⟨t', rfl⟩⟩ := vals2 r
  refine min_two_ints (I.ok.hd hc) fun h' tk k => ⟨_, H, I.kept k, ?_, q⟩
  by_cases hj : j < i
  · rw [if_pos hj, if_pos hj]; exact ⟨_, rfl⟩
  · rw [if_neg hj, if_neg hj]; exact ⟨_, rfl⟩
theorem call_int1 : CallR X (.type "int") (fun xs H Q => (∃ i, xs = [.int i] ∧ Q (.int i) H) ∨ ∃ k, xs = [.bl k] ∧ Q (.int (if k then 1 else 0)) H) := by
  intro pins s σ H xs us Q I r h
  rcases h with ⟨i, rfl, q⟩ | ⟨k, rfl, q⟩
  · obtain ⟨u, rfl, t, rfl⟩ := vals1 r
    exact call_int_int ⟨.int i, H, I, ⟨_, rfl⟩, q⟩
  · obtain ⟨u, rfl, r1⟩ := vals1 r
    cases r1
    exact call_int_bool ⟨.int (if k then 1 else 0), H, I.tok _, ⟨_, rfl⟩, q⟩
theorem call_bool1 : CallR X (.type "bool") (fun xs H Q => (∃ i, xs = [.int i] ∧ Q (.bl (i != 0)) H) ∨ ∃ k, xs = [.bl k] ∧ Q (.bl k) H) := by
  intro pins s σ H xs us Q I r h
  rcases h with ⟨i, rfl, q⟩ | ⟨k, rfl, q⟩
  · obtain ⟨u, rfl, t, rfl⟩ := vals1 r
    exact call_bool_int ⟨.bl (i != 0), H, I, rfl, q⟩
  · obtain ⟨u, rfl, r1⟩ := vals1 r
    cases r1
    exact call_bool_bool ⟨.bl k, H, I, rfl, q⟩
theorem call_str_int : CallR X (.type "str") (fun xs H Q => ∃ i, xs = [.int i] ∧ i.natAbs.log2 < 1920 ∧ Q (.str (toString i)) H) := by
  intro pins s σ H xs us Q I r h
  obtain ⟨i, rfl, hz, q⟩ := h
  obtain ⟨u, rfl, t, rfl⟩ := vals1 r
  exact PySem.P.str_of_int hz ⟨.str _, H, I.tok _, ⟨_, rfl⟩, q⟩
theorem call_ord : CallR X (.builtin "ord") (fun xs H Q => ∃ x, xs = [.str x] ∧ x.length = 1 ∧ Q (.int (x.cps.getD 0 0 : Nat)) H) := by
  intro pins s σ H xs us Q I r h
  obtain ⟨x, rfl, hz, q⟩ := h
  obtain ⟨u, rfl, t, rfl⟩ := vals1 r
  exact ord_of_one hz ⟨.int _, H, I.tok _, ⟨_, rfl⟩, q⟩
theorem call_chr : CallR X (.builtin "chr") (fun xs H Q => ∃ i, xs = [.int i] ∧ 0 ≤ i ∧ i ≤ 1114111 ∧ Q (.str ⟨#[i.toNat]⟩) H) := by
  intro pins s σ H xs us Q I r h
  obtain ⟨i, rfl, h0, h1, q⟩ := h
  obtain ⟨u, rfl, t, rfl⟩ := vals1 r
  exact chr_of_range h0 h1 ⟨.str _, H, I.tok _, ⟨_, rfl⟩, q⟩
def LenV (K : PySem.W.Frag) (x : V) (H : Hp) (n : Nat) : Prop :=
  match x with
  | .str y => y.length ≤ sizeLine ∧ n = y.length
  | .byt y => y.size ≤ sizeLine ∧ n = y.size
  | .ref p => (∃ xs, SqL K H p xs ∧ n = xs.length) ∨ ∃ xs, SqT K H p xs ∧ n = xs.length
  | _ => False
theorem call_len : CallR X (.builtin "len") (fun xs H Q => ∃ x n, xs = [x] ∧ LenV X.K x H n ∧ Q (.int n) H) := by
  intro pins s σ H xs us Q I r h
  obtain ⟨x, n, rfl, e, q⟩ := h
  obtain ⟨u, rfl, rx⟩ := vals1 r
  have hl := line63
  have hs : sizeLine = 16777216 := sizeLine_eq
  cases x with
  | str y =>
    obtain ⟨t, rfl⟩ := rx
    obtain ⟨hy, e'⟩ : y.length ≤ sizeLine ∧ n = y.length := e
    subst e'
    exact len_str (by omega) ⟨.int _, H, I.tok _, ⟨_, rfl⟩, q⟩
  | byt y =>
    obtain ⟨t, rfl⟩ := rx
    obtain ⟨hy, e'⟩ : y.size ≤ sizeLine ∧ n = y.size := e
    subst e'
    exact PySem.W.len_bytes (by omega) ⟨.int _, H, I.tok _, ⟨_, rfl⟩, q⟩
  | ref p =>
    cases rx
    have e' : (∃ xs, SqL X.K H p xs ∧ n = xs.length) ∨ ∃ xs, SqT X.K H p xs ∧ n = xs.length := e
    rcases e' with ⟨xs, hx, e'⟩ | ⟨xs, hx, e'⟩
    · subst e'
      obtain ⟨its, r', pl, hz⟩ := I.list hx
      have hlen := r'.length
      exact Calls.call_len_list pl.isList (by simp only [List.size_toArray]; omega) ⟨.int xs.length, H, I.tok _, ⟨_, by simp only [List.size_toArray]; rw [hlen]⟩, q⟩
    · subst e'
      obtain ⟨its, r', pl, hz⟩ := I.tuple hx
      have hlen := r'.length
      exact len_tuple pl (by simp only [List.size_toArray]; omega) ⟨.int xs.length, H, I.tok _, ⟨_, by simp only [List.size_toArray]; rw [hlen]⟩, q⟩
  | _ => exact (show False from e).elim
theorem call_divmod : CallR X (.builtin "divmod") (fun xs H Q => ∃ i j, xs = [.int i, .int j] ∧ CDiv i j ∧ ∀ p, H p = none → Q (.ref p) (upd H p (.tup [.int (i / j), .int (i % j)]))) := by
  intro pins s σ H xs us Q I r h
  obtain ⟨i, j, rfl, ⟨h1, h2⟩, q⟩ := h
  obtain ⟨u, w', rfl, ⟨t, rfl⟩, ⟨t', rfl⟩⟩ := vals2 r
  refine divmod_int (by omega) ?_ (.inl (PyProof.noPylong_small (by omega)))
  rw [Int.fdiv_eq_ediv_of_nonneg i (by omega), Int.fmod_eq_emod_of_nonneg i (by omega)]
  have hn : H s.heap.objs.size = none := I.hok.fresh (Nat.le_refl _)
  refine ⟨.ref s.heap.objs.size, _, ?_, rfl, q _ hn⟩
  refine I.laid (fun b o e => Heap.get?_push_of_some _ e) (Nat.le_refl _) ⟨by simp only [List.length_cons, List.length_nil]; rw [sizeLine_eq]; decide, [.int (i / j) s.toks, .int (i % j) (s.toks + 1)], .cons ⟨_, rfl⟩ (.cons ⟨_, rfl⟩ .nil), ?_⟩
  exact ⟨_, Heap.get?_push_size s.heap rfl, rfl, 0, rfl⟩
end
end L2
namespace L2
open PySem PySem.Spec PyProof.Rows
structure ObjM (h : Heap) (x dx C : Addr) (mA : Str → Option Value) : Prop where
  obj : h.get? x = some (PySem.W.instObj C dx)
  ns : h.Ns1 dx mA
  ne : dx ≠ x
theorem lookIn_ns {h : Heap} {dx : Addr} {mA : Str → Option Value} (n : h.Ns1 dx mA) : ∃ od, h.get? dx = some od ∧ ∀ name, PySem.W.lookIn name od = some (mA name) := by
  obtain ⟨o, es, ep, ho, hd, hk, _, hm⟩ := n
  refine ⟨o, ho, fun name => ?_⟩
  have e := hm name
  unfold nsFind findBy at e
  rw [← Array.find?_toList] at e
  unfold PySem.W.lookIn
  rw [hd]
  dsimp only
  split
  · rename_i y q
    rw [q] at e
    exact congrArg some e
  · rename_i q
    rw [q] at e
    have a : es.toList.any (·.refKey) = false := by
      rw [List.any_eq_false]
      intro y hy
      obtain ⟨z, t, hkey⟩ := hk y (Array.mem_toList_iff.mp hy)
      simp [DictEntry.refKey, hkey]
    have a' : ¬ es.toList.any (·.refKey) = true := by rw [a]; exact Bool.false_ne_true
    rw [if_neg a']
    exact congrArg some e
theorem ObjM.look {h : Heap} {x dx C : Addr} {mA : Str → Option Value} (I : ObjM h x dx C mA) : ∃ od, PySem.W.InstAt h x (PySem.W.instObj C dx) C (some od) ∧ ∀ name, PySem.W.lookIn name od = some (mA name) :=
  let ⟨od, ho, hl⟩ := lookIn_ns I.ns
  ⟨od, ⟨I.obj, rfl, rfl, ho⟩, hl⟩
section
variable {prog : Program} {w : World} {A : Around} {E : Value → Shared → Prop} {s : Shared} {K : PySem.W.Frag} {x dx C f : Addr} {mA : Str → Option Value} {name : Str} {v : Value}
theorem get_map {expr : Bool} {Q : Value → Shared → Prop} (X : K.In s.heap) (I : ObjM s.heap x dx C mA) (hg : PySem.W.plainGet K C name = true) (hh : PySem.W.hasDictIn K C = true)
    (ha : PySem.W.findIn K (.ref C) name = some none) (hv : mA name = some v) (hv' : PySem.W.handedIn v = true) (h : Q v { s with toks := s.toks + 1 }) :
    wpAny (model prog w) A (getAttr (.ref x) name expr) Q E s := by
  obtain ⟨od, J, hl⟩ := I.look
  exact PySem.W.get_value X J (PySem.W.plainGet_of hg).1 (PySem.W.findObj_own hh ha rfl (by rw [hl, hv])) hv' h
theorem get_const {expr : Bool} {a : Value} {Q : Value → Shared → Prop} (X : K.In s.heap) (I : ObjM s.heap x dx C mA) (hg : PySem.W.plainGet K C name = true) (hh : PySem.W.hasDictIn K C = true)
    (ha : PySem.W.findIn K (.ref C) name = some (some a)) (hn : PySem.W.specialIn K a "__get__" = some none) (hc : PySem.W.copiedNames.contains name = false) (hv : mA name = none) (hv' : PySem.W.handedIn a = true)
    (h : Q a { s with toks := s.toks + 1 }) : wpAny (model prog w) A (getAttr (.ref x) name expr) Q E s := by
  obtain ⟨od, J, hl⟩ := I.look
  exact PySem.W.get_value X J (PySem.W.plainGet_of hg).1 (PySem.W.findObj_cls hh ha hn hv' hc (by rw [hl, hv])) hv' h
theorem get_meth {pl : Sem Bool} {Q : Value × List Value → Shared → Prop} (X : K.In s.heap) (I : ObjM s.heap x dx C mA) (hg : PySem.W.plainGet K C name = true)
    (hf : PySem.W.findIn K (.ref C) name = some (some (.ref f))) (ht : PySem.W.isFn K (.ref f) = true) (hv : mA name = none) (h : Q (.ref f, [.ref x]) s) :
    wpAny (model prog w) A (getMethod (.ref x) name pl) Q E s := by
  obtain ⟨od, J, hl⟩ := I.look
  exact PySem.W.method_fn X J (PySem.W.plainGet_of hg).1 (PySem.W.plainGet_of hg).2 hf (beq_iff_eq.mp ht) (by show (PySem.W.lookIn name od).map (·.isSome) = some false; rw [hl, hv]; rfl) h
theorem set_map {ns : List Str} {Q : Unit → Shared → Prop} (X : K.In s.heap) (I : ObjM s.heap x dx C mA)
    (hs : PySem.W.findIn K (.ref C) "__setattr__" = some (some (.builtin "object.__setattr__"))) (hp : PySem.W.plainOver K C = true) (ht : PySem.W.takerIn K C name = some none) (hh : PySem.W.hasDictIn K C = true)
    (hw : PySem.Within mA ns) (hsz : ns.length ≤ sizeLine)
    (h : ∀ h', ObjM h' x dx C (fun y => if y = name then some v else mA y) → Heap.SameBut dx s.heap h' → Q () { s with heap := h', toks := s.toks + 2 }) :
    wpAny (model prog w) A (setAttr (.ref x) name v) Q E s := by
  obtain ⟨od, J, hl⟩ := I.look
  refine PySem.W.set_plain X J hs (PySem.W.osa_open (s := { s with toks := s.toks + 1 }) (r := none) X J hp ht fun b => ?_)
  obtain ⟨cd, hc, hd'⟩ := PySem.W.any_some hh
  have hx : s.heap.get? x = some ⟨.ref C, some dx, .plain, #[]⟩ := I.obj
  refine wpAny_bind (wpAny_pure (wpAny_bind (wpAny_bind (wpAny_loadPart hx (wpAny_bind (PySem.W.Looks.here (s := { s with toks := s.toks + 1 }) (PySem.W.looks_clsIn X hc) ?_))))))
  rw [hd']
  refine wpAny_pure (a := some dx) (wpAny_bind (wpAny_pure (wpAny_bind ?_)))
  refine wpAny_nsSet1 (s := { s with toks := s.toks + 1 }) I.ns fun h' hn2 hs2 => ?_
  obtain ⟨oD, esD, epD, hoD, hdD, hcD⟩ := hn2.count (PySem.Within.cons name v hw)
  refine wpAny_bind (wpAny_lookBehind hoD (by rw [hdD]; exact pastItsLine_dict (Nat.le_trans hcD (by rw [List.length_cons]; omega))) ?_)
  exact wpAny_pure (h _ ⟨(hs2.2 _ (Ne.symm I.ne)).trans I.obj, hn2, I.ne⟩ hs2)
theorem make_map {R : Result → Shared → Prop} {vs : List Value} {kw : List (Str × Value)} (X : K.In s.heap) (hm : PySem.W.makesIn K C = true)
    (hi : PySem.W.findIn K (.ref C) "__init__" = some (some (.ref f))) (hf : PySem.W.typeIn K (.ref f) = some (.type "function"))
    (h : codeAny (model prog w) (A.under (.builtin "type.__call__" ⟨.ref C :: vs, kw⟩)) (.call (.ref f) ⟨.ref (s.heap.objs.size + 1) :: vs, kw⟩) (PySem.W.InitBack (s.heap.objs.size + 1) R)
      { s with heap := (s.heap.push PySem.W.emptyDict).push (PySem.W.instObj C s.heap.objs.size) }) :
    codeAny (model prog w) A (.call (.ref C) ⟨vs, kw⟩) R s := by
  obtain ⟨hh, g, d, t, os⟩ := s
  exact PySem.W.make_core (PySem.W.makes_of X hm) (PySem.W.looks_findIn X hi) (fun self => PySem.W.bind_fn X self hf) (.inl rfl) h
theorem make_map0 {R : Result → Shared → Prop} (X : K.In s.heap) (hm : PySem.W.makesIn K C = true)
    (hi : PySem.W.findIn K (.ref C) "__init__" = some (some (.builtin "object.__init__")))
    (hb : ∀ self, PySem.W.Looks (model prog w) s.heap (bindSpecial (.builtin "object.__init__") self) (.builtin "object.__init__", [self]))
    (h : codeAny (model prog w) (A.under (.builtin "type.__call__" ⟨[.ref C], []⟩)) (.call (.builtin "object.__init__") ⟨[.ref (s.heap.objs.size + 1)], []⟩) (PySem.W.InitBack (s.heap.objs.size + 1) R)
      { s with heap := (s.heap.push PySem.W.emptyDict).push (PySem.W.instObj C s.heap.objs.size) }) :
    codeAny (model prog w) A (.call (.ref C) ⟨[], []⟩) R s := by
  obtain ⟨hh, g, d, t, os⟩ := s
  exact PySem.W.make_core (PySem.W.makes_of X hm) (PySem.W.looks_findIn X hi) hb (.inr ⟨rfl, rfl⟩) h
end
def putF (f : Str) (v : V) : List (Str × V) → List (Str × V)
  | [] => [(f, v)]
  | (g, x) :: r => if g = f then (g, v) :: r else (g, x) :: putF f v r
theorem lookup_putF (f g : Str) (v : V) : ∀ fs : List (Str × V), (putF f v fs).lookup g = if g = f then some v else fs.lookup g
  | [] => by
    show List.lookup g [(f, v)] = _
    by_cases h : g = f
    · have hb : (g == f) = true := beq_iff_eq.mpr h
      simp only [List.lookup, hb, if_pos h]
    · have hb : (g == f) = false := beq_eq_false_iff_ne.mpr h
      simp only [List.lookup, hb, if_neg h]
  | (k, x) :: r => by
    have ih := lookup_putF f g v r
    rw [show putF f v ((k, x) :: r) = (if k = f then (k, v) :: r else (k, x) :: putF f v r) from rfl]
    by_cases hk : k = f
    · rw [if_pos hk]
      by_cases h : g = k
      · have hb : (g == k) = true := beq_iff_eq.mpr h
        simp only [List.lookup, hb, if_pos (h.trans hk)]
      · have hb : (g == k) = false := beq_eq_false_iff_ne.mpr h
        simp only [List.lookup, hb, if_neg (fun e : g = f => h (e.trans hk.symm))]
    · rw [if_neg hk]
      by_cases h : g = k
      · have hb : (g == k) = true := beq_iff_eq.mpr h
        simp only [List.lookup, hb, if_neg (fun e : g = f => hk (h.symm.trans e))]
      · have hb : (g == k) = false := beq_eq_false_iff_ne.mpr h
        simp only [List.lookup, hb]
        exact ih
theorem keys_putF (f : Str) (v : V) : ∀ fs : List (Str × V), f ∈ (putF f v fs).map (·.1) ∧ ∀ g, g ∈ fs.map (·.1) → g ∈ (putF f v fs).map (·.1)
  | [] => ⟨by simp [putF], fun g h => by simp at h⟩
  | (k, x) :: r => by
    obtain ⟨i1, i2⟩ := keys_putF f v r
    rw [show putF f v ((k, x) :: r) = (if k = f then (k, v) :: r else (k, x) :: putF f v r) from rfl]
    by_cases hk : k = f
    · rw [if_pos hk]
      subst hk
      exact ⟨by simp, fun g h => by simpa using h⟩
    · rw [if_neg hk]
      refine ⟨?_, fun g h => ?_⟩
      · rw [List.map_cons]
        exact List.mem_cons_of_mem _ i1
      · rw [List.map_cons] at h ⊢
        rcases List.mem_cons.mp h with e | e
        · exact List.mem_cons.mpr (.inl e)
        · exact List.mem_cons_of_mem _ (i2 g e)
theorem length_putF (f : Str) (v : V) : ∀ fs : List (Str × V), (putF f v fs).length ≤ fs.length + 1
  | [] => by simp [putF]
  | (k, x) :: r => by
    have ih := length_putF f v r
    rw [show putF f v ((k, x) :: r) = (if k = f then (k, v) :: r else (k, x) :: putF f v r) from rfl]
    by_cases hk : k = f
    · rw [if_pos hk, List.length_cons, List.length_cons]; omega
    · rw [if_neg hk, List.length_cons, List.length_cons]; omega
theorem RelO.some_of {v : V} {o : Option Value} (r : RelO (some v) o) : ∃ u, o = some u ∧ RelV v u := by
  cases o with
  | none => exact (show False from r).elim
  | some u => exact ⟨u, rfl, r⟩
theorem RelO.none_of {o : Option Value} (r : RelO none o) : o = none := by
  cases o with
  | none => rfl
  | some u => exact (show False from r).elim
theorem handed_of {v : V} {u : Value} (r : RelV v u) : PySem.W.handedIn u = true := by
  cases v with
  | non => cases (show u = Value.none from r); rfl
  | bl b => cases (show u = Value.bool b from r); rfl
  | int i => obtain ⟨t, e⟩ := (show ∃ t, u = Value.int i t from r); cases e; rfl
  | str x => obtain ⟨t, e⟩ := (show ∃ t, u = Value.str x t from r); cases e; rfl
  | byt b => obtain ⟨t, e⟩ := (show ∃ t, u = Value.bytes b t from r); cases e; rfl
  | flt b => obtain ⟨t, e⟩ := (show ∃ t, u = Value.float b t from r); cases e; rfl
  | ref a => cases (show u = Value.ref a from r); rfl
  | ty n => cases (show u = Value.type n from r); rfl
section
variable {P : Program} {w : World} {H H' : Hp} {h h' : Heap} {a C dx : Addr} {fs fs' : List (Str × V)}
theorem ins_get (hok : HOk P w H h) (e : H a = some (.ins C dx fs)) : ∃ mA, ObjM h a dx C mA ∧ (∀ f, RelO (fs.lookup f) (mA f)) ∧ PySem.Within mA (fs.map (·.1)) ∧ fs.length ≤ 1000 ∧ H dx = some (.own a) := by
  obtain ⟨d, z, ne, ob, mA, n, r, q⟩ := (show ObjOk P w H h a (.ins C dx fs) from hok a _ e)
  exact ⟨mA, ⟨ob, n, ne⟩, r, q, z, d⟩
end
structure Cls (K : PySem.W.Frag) (C : Addr) : Prop where
  pg : PySem.W.plainGet K C Str.empty = true
  hd : PySem.W.hasDictIn K C = true
  po : PySem.W.plainOver K C = true
  sa : PySem.W.findIn K (.ref C) "__setattr__" = some (some (.builtin "object.__setattr__"))
theorem Cls.get {K : PySem.W.Frag} {C : Addr} (c : Cls K C) (f : Str) : PySem.W.plainGet K C f = true := c.pg
def NoAttr (K : PySem.W.Frag) (C : Addr) (f : Str) : Prop := PySem.W.findIn K (.ref C) f = some none
theorem NoAttr.taker {K : PySem.W.Frag} {C : Addr} {f : Str} (n : NoAttr K C f) : PySem.W.takerIn K C f = some none := by
  unfold PySem.W.takerIn
  rw [show PySem.W.findIn K (.ref C) f = some none from n]
  rfl
structure Con (K : PySem.W.Frag) (C : Addr) (f : Str) (v : V) (u : Value) : Prop where
  at_ : PySem.W.findIn K (.ref C) f = some (some u)
  rel : RelV v u
  get : PySem.W.specialIn K u "__get__" = some none
  cp : PySem.W.copiedNames.contains f = false
structure Meth (K : PySem.W.Frag) (C : Addr) (m : Str) (f : Addr) : Prop where
  at_ : PySem.W.findIn K (.ref C) m = some (some (.ref f))
  fn : PySem.W.isFn K (.ref f) = true
  kp : PySem.W.keepIn K (.ref f) = true
section
variable {X : Cx} {pins : List (Addr × Obj)} {σ : St} {H : Hp} {s : Shared} {a C dx : Addr} {fs : List (Str × V)} {f : Str} {v : V} {A : Around} {E : Value → Shared → Prop}
theorem getattr_ok {b : Bool} {Q : Value → Shared → Prop} (I : Inv X pins σ H s) (e : H a = some (.ins C dx fs)) (c : Cls X.K C) (n : NoAttr X.K C f) (l : fs.lookup f = some v)
    (h : ∀ u s', Inv X pins σ H s' → RelV v u → Q u s') : wpAny (model X.prog X.w) A (getAttr (.ref a) f b) Q E s := by
  obtain ⟨mA, O, r, _, _, _⟩ := ins_get I.hok e
  obtain ⟨u, hu, ru⟩ := RelO.some_of (v := v) (o := mA f) (by rw [← l]; exact r f)
  exact get_map I.kIn O (c.get f) c.hd n hu (handed_of ru) (h u _ (I.tok _) ru)
theorem getcon_ok {b : Bool} {u : Value} {Q : Value → Shared → Prop} (I : Inv X pins σ H s) (e : H a = some (.ins C dx fs)) (c : Cls X.K C) (k : Con X.K C f v u) (l : fs.lookup f = none)
    (h : ∀ s', Inv X pins σ H s' → Q u s') : wpAny (model X.prog X.w) A (getAttr (.ref a) f b) Q E s := by
  obtain ⟨mA, O, r, _, _, _⟩ := ins_get I.hok e
  have hn : mA f = none := RelO.none_of (by rw [← l]; exact r f)
  exact get_const I.kIn O (c.get f) c.hd k.at_ k.get k.cp hn (handed_of k.rel) (h _ (I.tok _))
theorem getmeth_ok {m : Str} {g : Addr} {pl : Sem Bool} {Q : Value × List Value → Shared → Prop} (I : Inv X pins σ H s) (e : H a = some (.ins C dx fs)) (c : Cls X.K C) (k : Meth X.K C m g) (l : fs.lookup m = none)
    (h : Q (.ref g, [.ref a]) s) : wpAny (model X.prog X.w) A (getMethod (.ref a) m pl) Q E s := by
  obtain ⟨mA, O, r, _, _, _⟩ := ins_get I.hok e
  have hn : mA m = none := RelO.none_of (by rw [← l]; exact r m)
  exact get_meth I.kIn O (c.get m) k.at_ k.fn hn h
theorem setattr_ok {y : V} {u : Value} {Q : Unit → Shared → Prop} (I : Inv X pins σ H s) (e : H a = some (.ins C dx fs)) (c : Cls X.K C) (n : NoAttr X.K C f) (hl : fs.length < 1000) (ry : RelV y u)
    (h : ∀ s', Inv X pins σ (upd H a (.ins C dx (putF f y fs))) s' → Q () s') : wpAny (model X.prog X.w) A (setAttr (.ref a) f u) Q E s := by
  obtain ⟨mA, O, r, wi, _, ho⟩ := ins_get I.hok e
  have hz : (fs.map (·.1)).length ≤ sizeLine := by rw [List.length_map, sizeLine_eq]; omega
  refine set_map I.kIn O c.sa c.po n.taker c.hd wi hz fun h' O' sb => h _ ?_
  have hd : ∃ o, h'.get? dx = some o := let ⟨o, _, _, e', _⟩ := O'.ns; ⟨o, e'⟩
  refine I.write (x := a) (e := dx) (by rw [e]; exact True.intro) (.inr ho) (fun b q hb z => (sb.2 b hb).trans z) hd ?_
  refine ⟨by rw [upd_ne O.ne]; exact ho, ?_, O.ne, O'.obj, _, O'.ns, fun g => ?_, fun g hg => ?_⟩
  · have := length_putF f y fs; omega
  · show RelO ((putF f y fs).lookup g) (if g = f then some u else mA g)
    rw [lookup_putF]
    by_cases q : g = f
    · rw [if_pos q, if_pos q]; exact ry
    · rw [if_neg q, if_neg q]; exact r g
  · by_cases q : g = f
    · rw [q]; exact (keys_putF f y fs).1
    · refine (keys_putF f y fs).2 g (wi g fun z => hg ?_)
      show (if g = f then some u else mA g) = none
      rw [if_neg q]; exact z
theorem Inv.made (I : Inv X pins σ H s) : Inv X pins σ (upd (upd H s.heap.objs.size (.own (s.heap.objs.size + 1))) (s.heap.objs.size + 1) (.ins C s.heap.objs.size []))
    { s with heap := (s.heap.push PySem.W.emptyDict).push (PySem.W.instObj C s.heap.objs.size) } := by
  have e1 : (s.heap.push PySem.W.emptyDict).get? s.heap.objs.size = some PySem.W.emptyDict := Heap.get?_push_size s.heap rfl
  have e2 : ((s.heap.push PySem.W.emptyDict).push (PySem.W.instObj C s.heap.objs.size)).get? (s.heap.objs.size + 1) = some (PySem.W.instObj C s.heap.objs.size) := by
    have := Heap.get?_push_size (s.heap.push PySem.W.emptyDict) (o := PySem.W.instObj C s.heap.objs.size) rfl
    rwa [Heap.size_push] at this
  have e3 : (s.heap.push PySem.W.emptyDict).Ns s.heap.objs.size (fun _ => none) := ⟨PySem.W.emptyDict, #[], _, e1, rfl, (fun e he => absurd he (by simp)), fun _ => rfl⟩
  have I1 := I.laid (a := s.heap.objs.size) (o := .own (s.heap.objs.size + 1)) (h' := s.heap.push PySem.W.emptyDict) (t' := s.toks) (fun b u q => Heap.get?_push_of_some _ q) (Nat.le_refl _) ⟨_, e1⟩
  refine I1.laid (a := s.heap.objs.size + 1) (o := .ins C s.heap.objs.size []) (t' := s.toks) (fun b u q => Heap.get?_push_of_some _ q) (Nat.le_of_eq (Heap.size_push _ _)) ?_
  have ne : s.heap.objs.size ≠ s.heap.objs.size + 1 := Nat.ne_of_lt (Nat.lt_succ_self _)
  refine ⟨by rw [upd_ne ne, upd_same], Nat.zero_le _, ne, e2, fun _ => none, (Heap.Ns1.of_empty e3).at fun o q => Heap.get?_push_of_some _ q, fun _ => True.intro, fun y hy => absurd rfl hy⟩
theorem attr_of {prog : Program} {w : World} {env : Env} {e : Expr} {f : Str} {pos : Pos} {s : Shared} {Q : Value → Shared → Prop} (hb : attributeBase e f env (eval e env) = eval e env)
    (h : wpAny (model prog w) A (eval e env) (fun o s₁ => wpAny (model prog w) A (getAttr o f true) Q E s₁) E s) : wpAny (model prog w) A (eval (.Attribute e f pos) env) Q E s :=
  Attribute_any_ h (by rw [arm_eval_Attribute, hb])
end
def tFld (K : PySem.W.Frag) (ta : TE) (f : Str) : TE := fun σ H Q => ta σ H fun x H1 => ∃ a C dx fs v, x = .ref a ∧ H1 a = some (.ins C dx fs) ∧ Cls K C ∧ NoAttr K C f ∧ fs.lookup f = some v ∧ Q v H1
def tCon (K : PySem.W.Frag) (ta : TE) (f : Str) : TE := fun σ H Q => ta σ H fun x H1 => ∃ a C dx fs v u, x = .ref a ∧ H1 a = some (.ins C dx fs) ∧ Cls K C ∧ Con K C f v u ∧ fs.lookup f = none ∧ Q v H1
def sFld (K : PySem.W.Frag) (ta tv : TE) (f : Str) : TS := fun D σ H => tv σ H fun y H1 => ta σ H1 fun x H2 => ∃ a C dx fs, x = .ref a ∧ H2 a = some (.ins C dx fs) ∧ Cls K C ∧ NoAttr K C f ∧ fs.length < 1000 ∧
  D.nx σ (upd H2 a (.ins C dx (putF f y fs)))
def InOp (X : Cx) (op : Operator) (rd : V → V → Hp → VK → Prop) : Prop :=
  ∀ (pins : List (Addr × Obj)) (s : Shared) (σ : St) (H : Hp) (x y : V) (u v : Value) (Q : VK), Inv X pins σ H s → RelV x u → RelV y v → rd x y H Q → wpAny (model X.prog X.w) X.A (inplaceOp op u v) (EP X pins σ Q) X.xe s
def sFldAug (K : PySem.W.Frag) (ta tv : TE) (rd : V → V → Hp → VK → Prop) (f : Str) : TS := fun D σ H => ta σ H fun x H1 => ∃ a C dx fs v, x = .ref a ∧ H1 a = some (.ins C dx fs) ∧ Cls K C ∧ NoAttr K C f ∧ fs.lookup f = some v ∧
  tv σ H1 fun y H2 => rd v y H2 fun z H3 => ∃ dx' fs', H3 a = some (.ins C dx' fs') ∧ fs'.length < 1000 ∧ D.nx σ (upd H3 a (.ins C dx' (putF f z fs')))
section
variable {X : Cx} {o e value : Expr} {f : Str} {pos pos' tpos : Pos} {ta tv : TE}
theorem pe_fld (he : PE X e ta) (hb : attributeBase e f X.env (eval e X.env) = eval e X.env) : PE X (.Attribute e f pos) (tFld X.K ta f) := by
  intro pins s σ H Q I h
  refine attr_of hb (thn (he pins s σ H _ I h) fun u s1 ⟨x, H1, I1, rx, a, C, dx, fs, v, ex, ea, c, n, l, q⟩ => ?_)
  subst ex
  obtain rfl : u = Value.ref a := rx
  exact getattr_ok I1 ea c n l fun u' s2 I2 ru => ⟨v, H1, I2, ru, q⟩
theorem pe_con (he : PE X e ta) (hb : attributeBase e f X.env (eval e X.env) = eval e X.env) : PE X (.Attribute e f pos) (tCon X.K ta f) := by
  intro pins s σ H Q I h
  refine attr_of hb (thn (he pins s σ H _ I h) fun u s1 ⟨x, H1, I1, rx, a, C, dx, fs, v, u0, ex, ea, c, k, l, q⟩ => ?_)
  subst ex
  obtain rfl : u = Value.ref a := rx
  exact getcon_ok I1 ea c k l fun s2 I2 => ⟨v, H1, I2, k.rel, q⟩
theorem ps_fld (ha : PE X o ta) (hv : PE X value tv) (hs : swapsWith value (some (.Attribute o f pos')) pos.line X.env = pure false) : PS X (.Assign [.Attribute o f pos'] value pos) (sFld X.K ta tv f) := by
  intro pins s σ H D I h
  refine plainObj_wpAny_Assign_Attribute (thn (hv pins s σ H _ I h) fun u s1 ⟨y, H1, I1, ry, q⟩ => thn (ha pins s1 σ H1 _ I1 q) fun ov s2 ⟨x, H2, I2, rx, a, C, dx, fs, ex, ea, c, n, l, q2⟩ => ?_) hs
  subst ex
  obtain rfl : ov = Value.ref a := rx
  exact setattr_ok I2 ea c n l ry fun s3 I3 => ⟨σ, _, I3, q2⟩
theorem ps_fldaug {op : Operator} {rd : V → V → Hp → VK → Prop} (ha : PE X o ta) (hv : PE X value tv) (hop : InOp X op rd) : PS X (.AugAssign (.Attribute o f tpos) op value pos) (sFldAug X.K ta tv rd f) := by
  intro pins s σ H D I h
  refine wpAny_AugAssign_AttributeAny (thn (ha pins s σ H _ I h) fun ov s1 ⟨x, H1, I1, rx, a, C, dx, fs, v, ex, ea, c, n, l, q⟩ => ?_)
  subst ex
  obtain rfl : ov = Value.ref a := rx
  refine getattr_ok I1 ea c n l fun u s2 I2 ru => thn (hv pins s2 σ H1 _ I2 q) fun w3 s3 ⟨y, H2, I3, ry, q3⟩ => thn (hop pins s3 σ H2 v y u w3 _ I3 ru ry q3) fun w4 s4 ⟨z, H3, I4, rz, dx', fs', ea', l', q4⟩ => ?_
  exact setattr_ok I4 ea' c n l' rz fun s5 I5 => ⟨σ, _, I5, q4⟩
def rAdd : V → V → Hp → VK → Prop := fun x y H Q => ∃ i j, x = .int i ∧ y = .int j ∧ Q (.int (i + j)) H
def rSub : V → V → Hp → VK → Prop := fun x y H Q => ∃ i j, x = .int i ∧ y = .int j ∧ Q (.int (i - j)) H
theorem in_add : InOp X .Add rAdd := by
  rintro pins s σ H x y u v Q I rx ry ⟨i, j, rfl, rfl, q⟩
  obtain ⟨t, rfl⟩ := (show ∃ t, u = Value.int i t from rx)
  obtain ⟨t', rfl⟩ := (show ∃ t', v = Value.int j t' from ry)
  exact PyProof.Rows.iadd_int ⟨.int (i + j), H, I.tok _, ⟨_, rfl⟩, q⟩
theorem in_sub : InOp X .Sub rSub := by
  rintro pins s σ H x y u v Q I rx ry ⟨i, j, rfl, rfl, q⟩
  obtain ⟨t, rfl⟩ := (show ∃ t, u = Value.int i t from rx)
  obtain ⟨t', rfl⟩ := (show ∃ t', v = Value.int j t' from ry)
  exact PyProof.Rows.isub_int ⟨.int (i - j), H, I.tok _, ⟨_, rfl⟩, q⟩
theorem methcall_of {pl : Sem Bool} {m : Str} {apos : Pos} {args : List Expr} {pins : List (Addr × Obj)} {s : Shared} {σ : St} {H : Hp} {Q : Value → Shared → Prop} {te : TE} (he : PE X e te) (I : Inv X pins σ H s)
    (h : te σ H fun x H1 => ∃ a C dx fs g, x = .ref a ∧ H1 a = some (.ins C dx fs) ∧ Cls X.K C ∧ Meth X.K C m g ∧ fs.lookup m = none ∧
      ∀ s1, Inv X pins σ H1 s1 → wpAny (model X.prog X.w) X.A (callWith pos (.ref g) [.ref a] (backTo pos (starEach args X.env)) (backToKw pos (keywordEach [] X.env))) Q X.xe s1)
    (ht : eval (.Call (.Attribute e m apos) args [] pos) X.env = (do
      let ov ← eval e X.env
      standAt apos.atName
      let (f, first) ← holding [ov] (getMethod ov m pl)
      callWith pos f first (backTo pos (starEach args X.env)) (backToKw pos (keywordEach [] X.env)))) :
    wpAny (model X.prog X.w) X.A (eval (.Call (.Attribute e m apos) args [] pos) X.env) Q X.xe s := by
  refine PySem.W.methodCall_KW (pl := pl) (thn (he pins s σ H _ I h) fun u s1 ⟨x, H1, I1, rx, a, C, dx, fs, g, ex, ea, c, k, l, q⟩ => ?_) ht
  subst ex
  obtain rfl : u = Value.ref a := rx
  exact getmeth_ok I1 ea c k l (q s1 I1)
end
section
variable {X : Cx} {pins : List (Addr × Obj)} {σ : St} {H : Hp} {s : Shared} {A : Around} {E : Value → Shared → Prop} {Q : Value → Shared → Prop} {c : Value} {b : Bool}
inductive TyOf (K : PySem.W.Frag) (H : Hp) : V → Value → Prop where
  | non : TyOf K H .non (.type "NoneType")
  | bl (x : Bool) : TyOf K H (.bl x) (.type "bool")
  | int (i : Int) : TyOf K H (.int i) (.type "int")
  | str (x : Str) : TyOf K H (.str x) (.type "str")
  | flt (x : UInt64) : TyOf K H (.flt x) (.type "float")
  | lst {a : Addr} {xs : List V} (e : H a = some (.lst xs)) : TyOf K H (.ref a) (.type "list")
  | frz {a : Addr} {o : Obj} {xs : List V} (e : H a = some (.frz o (.lst xs))) : TyOf K H (.ref a) (.type "list")
  | tup {a : Addr} {xs : List V} (e : H a = some (.tup xs)) : TyOf K H (.ref a) (.type "tuple")
  | dK {a : Addr} {kvs : List (Key × V)} (e : H a = some (.dK kvs)) : TyOf K H (.ref a) (.type "dict")
  | dT {a : Addr} {kvs : List (List Key × V)} (e : H a = some (.dT kvs)) : TyOf K H (.ref a) (.type "dict")
  | ins {a C dx : Addr} {fs : List (Str × V)} (e : H a = some (.ins C dx fs)) (cl : Cls K C) (ha : PySem.W.findIn K (.ref C) "__class__" = some (some (.builtin "object.__class__")))
      (hn : PySem.W.specialIn K (.builtin "object.__class__") "__get__" = some (some (.builtin "getset_descriptor.__get__"))) (htk : PySem.W.takesIn K (.builtin "object.__class__") = some true)
      (hm : PySem.W.mroIn K C (.type "object") = some true) : TyOf K H (.ref a) (.ref C)
theorem isinst_ok {x : V} {u t : Value} (I : Inv X pins σ H s) (rx : RelV x u) (ty : TyOf X.K H x t) (e : PySem.W.kitOne X.K t c = some b) (h : ∀ tk, Q (.bool b) { s with toks := tk }) :
    wpAny (model X.prog X.w) A (call (.builtin "isinstance") [u, c]) Q E s := by
  cases ty with
  | non => cases (show u = Value.none from rx); exact PySem.W.kia_one PySem.W.kitx_none I.kIn True.intro e (fun z => nomatch z) h
  | bl y => cases (show u = Value.bool y from rx); exact PySem.W.kia_one PySem.W.kitx_bool I.kIn True.intro e (fun z => nomatch z) h
  | int i => obtain ⟨t, q⟩ := (show ∃ t, u = Value.int i t from rx); cases q; exact PySem.W.kia_one PySem.W.kitx_int I.kIn True.intro e (fun z => nomatch z) h
  | str y => obtain ⟨t, q⟩ := (show ∃ t, u = Value.str y t from rx); cases q; exact PySem.W.kia_one PySem.W.kitx_str I.kIn True.intro e (fun z => nomatch z) h
  | flt y => obtain ⟨t, q⟩ := (show ∃ t, u = Value.float y t from rx); cases q; exact PySem.W.kia_one PySem.W.kitx_float I.kIn True.intro e (fun z => nomatch z) h
  | @lst a xs ea =>
    cases (show u = Value.ref a from rx)
    obtain ⟨_, _, n, _, h1⟩ := (show ObjOk X.prog X.w H s.heap a (.lst xs) from I.hok a _ ea)
    exact PySem.W.kia_one PySem.W.kitx_list I.kIn ⟨_, h1, rfl⟩ e (fun z => nomatch z) h
  | @frz a ob xs ea =>
    cases (show u = Value.ref a from rx)
    obtain ⟨_, _, _, n, _, h1⟩ := (show ObjOk X.prog X.w H s.heap a (.frz ob (.lst xs)) from I.hok a _ ea)
    exact PySem.W.kia_one PySem.W.kitx_list I.kIn ⟨_, h1, rfl⟩ e (fun z => nomatch z) h
  | @tup a xs ea =>
    cases (show u = Value.ref a from rx)
    obtain ⟨_, _, _, p⟩ := (show ObjOk X.prog X.w H s.heap a (.tup xs) from I.hok a _ ea)
    obtain ⟨o, h1, h2, _⟩ := p
    exact PySem.W.kia_one PySem.W.kitx_tuple I.kIn ⟨o, h1, h2⟩ e (fun z => nomatch z) h
  | @dK a kvs ea =>
    cases (show u = Value.ref a from rx)
    obtain ⟨_, _, vs, _, p⟩ := (show ObjOk X.prog X.w H s.heap a (.dK kvs) from I.hok a _ ea)
    obtain ⟨o, es, ep, h1, h2, _⟩ := p
    exact PySem.W.kia_one PySem.W.kitx_dict I.kIn ⟨o, h1, h2.1⟩ e (fun z => nomatch z) h
  | @dT a kvs ea =>
    cases (show u = Value.ref a from rx)
    obtain ⟨_, _, xs, _, o, es, ep, h1, h2, _⟩ := (show ObjOk X.prog X.w H s.heap a (.dT kvs) from I.hok a _ ea)
    exact PySem.W.kia_one PySem.W.kitx_dict I.kIn ⟨o, h1, h2.1⟩ e (fun z => nomatch z) h
  | @ins a C dx fs ea cl ha hn htk hm =>
    cases (show u = Value.ref a from rx)
    obtain ⟨mA, O, _⟩ := ins_get I.hok ea
    obtain ⟨od, J, _⟩ := O.look
    exact PySem.W.kia_one (PySem.W.kitx_own (cl.get _) cl.hd ha hn htk hm) I.kIn J e (fun z => nomatch z) h
end
end L2
namespace L2
open PySem PySem.Spec PyProof.Rows
structure Room (k : Nat) (A : Around) : Prop where
  hd : A.handled = none
  dp : A.depth + 3 * k + 5 < recursionLimit
  un : A.units + 16 * k + 200 < cLine
theorem Room.mono {j k : Nat} {A : Around} (r : Room k A) (h : j ≤ k) : Room j A := ⟨r.hd, by have := r.dp; omega, by have := r.un; omega⟩
theorem Room.deeper {k : Nat} {A : Around} (r : Room (k + 1) A) (env : Env) : Room k (A.deeper env) :=
  ⟨r.hd, by have := r.dp; show A.depth + 1 + 3 * k + 5 < _; omega, by have := r.un; show A.units + 3 + 16 * k + 200 < _; omega⟩
theorem Room.in1 {k : Nat} {A : Around} (r : Room (k + 1) A) : Room k A.in1 :=
  ⟨r.hd, by have := r.dp; show A.depth + 3 * k + 5 < _; omega, by have := r.un; show A.units + 1 + 16 * k + 200 < _; omega⟩
theorem make_depth {A : Around} {C : Addr} {us : List Value} {kw : List (Str × Value)} : (A.under (.builtin "type.__call__" ⟨.ref C :: us, kw⟩)).depth = A.depth + 1 := by
  first | rfl | simp [Around.under, Code.weight, Code.isCreation, Code.isGuard, Code.isCaller, Code.frames, Code.isFrame, guardIds]
theorem make_units {A : Around} {C : Addr} {us : List Value} {kw : List (Str × Value)} : (A.under (.builtin "type.__call__" ⟨.ref C :: us, kw⟩)).units = A.units + 1 := by
  first | rfl | simp [Around.under, Code.cUnits, Code.frames, Code.isFrame]
theorem Room.make {k : Nat} {A : Around} (r : Room (k + 1) A) (C : Addr) (us : List Value) (kw : List (Str × Value)) : Room k (A.under (.builtin "type.__call__" ⟨.ref C :: us, kw⟩)) :=
  ⟨r.hd, by have := r.dp; rw [make_depth]; omega, by have := r.un; rw [make_units]; omega⟩
theorem Room.depth {k : Nat} {A : Around} (r : Room k A) : A.depth < recursionLimit := by have := r.dp; omega
theorem Room.units {k : Nat} {A : Around} (r : Room k A) : A.units + 64 < cLine := by have := r.un; omega
theorem Room.units0 {k : Nat} {A : Around} (r : Room k A) : A.units < cLine := by have := r.un; omega
def tNil : TA := fun _ H Q => Q [] H
def tCons (ta : TE) (tr : TA) : TA := fun σ H Q => ta σ H fun x H1 => tr σ H1 fun xs H2 => Q (x :: xs) H2
section
variable {X : Cx} {e : Expr} {es : List Expr} {te : TE} {t : TA} {pos : Pos}
theorem pa_nil : PA X [] tNil := fun _ _ _ _ H Q I h => Calls.spliced_nil ⟨[], H, I, .nil, h⟩
theorem pa_cons (ha : PE X e te) (hr : PA X es t) (hs : starEach (e :: es) X.env = (false, eval e X.env) :: starEach es X.env := by rfl) : PA X (e :: es) (tCons te t) := by
  intro pos pins s σ H Q I h
  rw [hs]
  show wpAny _ _ (spliced ((false, eval e X.env) :: backTo pos (starEach es X.env))) _ _ s
  refine Calls.spliced_cons (thn (ha pins s σ H _ I h) fun u s1 ⟨x, H1, I1, r1, q1⟩ => ?_)
  exact thn (hr pos pins s1 σ H1 _ I1 q1) fun us s2 ⟨xs, H2, I2, r2, q2⟩ => ⟨x :: xs, H2, I2, .cons r1 r2, q2⟩
def tTup (t : TA) : TE := fun σ H Q => t σ H fun xs H1 => xs.length ≤ sizeLine ∧ ∀ p, H1 p = none → Q (.ref p) (upd H1 p (.tup xs))
def tLst (t : TA) : TE := fun σ H Q => t σ H fun xs H1 => xs.length ≤ sizeLine ∧ ∀ p, H1 p = none → Q (.ref p) (upd H1 p (.lst xs))
theorem pe_tup {x1} (h : PA X es t) : PE X (.Tuple es x1 pos) (tTup t) := by
  intro pins s σ H Q I hq
  refine wpAny_Tuple_spliced (thn (h pos pins s σ H _ I hq) fun us s1 ⟨xs, H1, I1, r, z, q⟩ => ⟨by rw [← r.length]; exact z, ?_⟩)
  have hf : H1 s1.heap.objs.size = none := I1.hok.fresh (Nat.le_refl _)
  refine ⟨.ref s1.heap.objs.size, upd H1 s1.heap.objs.size (.tup xs), I1.laid (t' := s1.toks) (fun b u e => Heap.get?_push_of_some _ e) (Nat.le_refl _) ?_, rfl, q _ hf⟩
  exact ⟨z, us, r, ⟨_, Heap.get?_push_size _ rfl, rfl, _, rfl⟩⟩
theorem pe_lst (h : PA X es t) : PE X (.List es pos) (tLst t) := by
  intro pins s σ H Q I hq
  refine wpAny_List_spliced (thn (h pos pins s σ H _ I hq) fun us s1 ⟨xs, H1, I1, r, z, q⟩ => ⟨by rw [← r.length]; exact z, ?_⟩)
  have hf : H1 s1.heap.objs.size = none := I1.hok.fresh (Nat.le_refl _)
  refine ⟨.ref s1.heap.objs.size, upd H1 s1.heap.objs.size (.lst xs), I1.laid (t' := s1.toks) (fun b u e => Heap.get?_push_of_some _ e) (Nat.le_refl _) ?_, rfl, q _ hf⟩
  exact ⟨z, us, 0, r, Heap.get?_push_size _ rfl⟩
end
abbrev Sp := List V → Hp → VK → XK → Prop
abbrev CXT := List Env → Hp → Shared → XK → Value → Shared → Prop
structure Env0 (P : Program) (w : World) (K : PySem.W.Frag) (mg : Str → Option Value) (base : Heap) (A : Around) (outer : List Env) (s : Shared) (H : Hp) : Prop where
  frames : A.frames = some outer
  mod : Mod K mg base
  bs : ∀ b o, base.get? b = some o → s.heap.get? b = some o ∧ H b = none
  bsz : base.objs.size ≤ s.heap.objs.size
  funs : s.heap.FunFrames base outer
  frf : ∀ b ∈ frs outer, H b = none
  hok : HOk P w H s.heap
  bare : AllBare s.gens
def CE (outer : List Env) (P : Program) (w : World) (H : Hp) (s : Shared) (Q : VK) (u : Value) (s' : Shared) : Prop :=
  ∃ v H', s'.os = s.os ∧ AllBare s'.gens ∧ Un (frs outer) [] H H' s.heap s'.heap ∧ HOk P w H' s'.heap ∧ RelV v u ∧ Q v H'
def CR (CX : CXT) (outer : List Env) (P : Program) (w : World) (H : Hp) (s : Shared) (Q : VK) (E : XK) (r : Result) (s' : Shared) : Prop :=
  match r with
  | .ok (.ret u) => CE outer P w H s Q u s'
  | .ok _ => False
  | .error e => CX outer H s E e s'
structure FnOk (P : Program) (w : World) (K : PySem.W.Frag) (mg : Str → Option Value) (base : Heap) (CX : CXT) (k : Nat) (f : Addr) (fd : FuncData) (ps : List Str) (sp : Sp) : Prop where
  len : ∀ vs H Q E, sp vs H Q E → vs.length = ps.length
  run : ∀ (A : Around) (outer : List Env) (s : Shared) (H : Hp) (args : Args) (us : List Value) (vs : List V) (Q : VK) (E : XK), Room k A → Env0 P w K mg base A outer s H → BindsTo s fd args (ps.zip us) → Vals vs us → sp vs H Q E →
    codeAny (model P w) A (.call (.ref f) args) (CR CX outer P w H s Q E) s
theorem FnOk.mono {P : Program} {w : World} {K : PySem.W.Frag} {mg : Str → Option Value} {base : Heap} {CX : CXT} {j k : Nat} {f : Addr} {fd : FuncData} {ps : List Str} {sp : Sp} (F : FnOk P w K mg base CX j f fd ps sp) (h : j ≤ k) :
    FnOk P w K mg base CX k f fd ps sp := ⟨F.len, fun A outer s H args us vs Q E hr => F.run A outer s H args us vs Q E (hr.mono h)⟩
theorem FnOk.imp {P : Program} {w : World} {K : PySem.W.Frag} {mg : Str → Option Value} {base : Heap} {CX : CXT} {k : Nat} {f : Addr} {fd : FuncData} {ps : List Str} {sp sp' : Sp} (F : FnOk P w K mg base CX k f fd ps sp)
    (h : ∀ vs H Q E, sp' vs H Q E → sp vs H Q E) : FnOk P w K mg base CX k f fd ps sp' :=
  ⟨fun vs H Q E q => F.len vs H Q E (h _ _ _ _ q), fun A outer s H args us vs Q E hr he hb hv hs => F.run A outer s H args us vs Q E hr he hb hv (h _ _ _ _ hs)⟩
theorem Env0.make {P : Program} {w : World} {K : PySem.W.Frag} {mg : Str → Option Value} {base : Heap} {A : Around} {outer : List Env} {s : Shared} {H : Hp} (e : Env0 P w K mg base A outer s H) (C : Addr) (us : List Value) (kw : List (Str × Value)) :
    Env0 P w K mg base (A.under (.builtin "type.__call__" ⟨.ref C :: us, kw⟩)) outer s H := ⟨by first | exact e.frames | (simpa [Around.under, Code.envs, Code.isFrame, pushEnvs] using e.frames), e.mod, e.bs, e.bsz, e.funs, e.frf, e.hok, e.bare⟩
theorem Env0.in1 {P : Program} {w : World} {K : PySem.W.Frag} {mg : Str → Option Value} {base : Heap} {A : Around} {outer : List Env} {s : Shared} {H : Hp} (e : Env0 P w K mg base A outer s H) :
    Env0 P w K mg base A.in1 outer s H := ⟨e.frames, e.mod, e.bs, e.bsz, e.funs, e.frf, e.hok, e.bare⟩
section
variable {X : Cx} {pins : List (Addr × Obj)} {σ : St} {H : Hp} {s s' : Shared}
theorem Inv.env0 (I : Inv X pins σ H s) : Env0 X.prog X.w X.K X.mg X.base X.A X.stack s H :=
  ⟨I.ok.frames, I.ok.mod, I.bs, Nat.le_trans I.ok.bsz I.sz, I.stack, I.stkFree, I.hok, I.bare⟩
theorem Inv.after {Q : VK} {u : Value} (I : Inv X pins σ H s) (h : CE X.stack X.prog X.w H s Q u s') : EP X pins σ Q u s' := by
  obtain ⟨v, H', os, bare, un, hok, r, q⟩ := h
  obtain ⟨hh, g, d, t, os'⟩ := s'
  obtain rfl : os' = s.os := os
  exact ⟨v, H', I.call (h' := hh) (g' := g) (d' := d) (t' := t) (ch := []) un hok bare (fun b z => absurd z (by simp)), r, q⟩
end
def tCall (sp : Sp) (dvs : List V) (E : XK) (t : TA) : TE := fun σ H Q => t σ H fun vs H1 => sp (vs ++ dvs) H1 Q E
def tMeth (C : Addr) (m : Str) (sp : Sp) (dvs : List V) (E : XK) (ta : TE) (t : TA) : TE := fun σ H Q => ta σ H fun x H1 => ∃ a dx fs, x = .ref a ∧ H1 a = some (.ins C dx fs) ∧ fs.lookup m = none ∧
  t σ H1 fun vs H2 => sp (x :: (vs ++ dvs)) H2 Q E
def tMake (C : Addr) (sp : Sp) (dvs : List V) (E : XK) (t : TA) : TE := fun σ H Q => t σ H fun vs H1 => ∀ x dx, H1 x = none → H1 dx = none → dx ≠ x →
  sp (.ref x :: (vs ++ dvs)) (upd (upd H1 dx (.own x)) x (.ins C dx [])) (fun v H2 => v = .non ∧ Q (.ref x) H2) E
def Binds (K : PySem.W.Frag) (fd : FuncData) (ps : List Str) (ds : List Value) : Prop :=
  ∀ (s : Shared) (us : List Value), K.In s.heap → (us ++ ds).length = ps.length → BindsTo s fd ⟨us, []⟩ (ps.zip (us ++ ds))
theorem Binds.all {K : PySem.W.Frag} {fd : FuncData} {ps : List Str} (h : ∀ us : List Value, us.length = ps.length → bindArgs fd ⟨us, []⟩ = pure (ps.zip us)) : Binds K fd ps [] := fun s us _ hl => by
  rw [List.append_nil] at hl ⊢
  exact .of_eq (h us hl)
def Passes (CX : CXT) (X : Cx) (E : XK) : Prop := ∀ (pins : List (Addr × Obj)) (σ : St) (H : Hp) (s : Shared) (e : Value) (s' : Shared), Inv X pins σ H s → CX X.stack H s E e s' → X.xe e s'
section
variable {X : Cx} {CX : CXT} {k : Nat} {f C : Addr} {fd : FuncData} {ps : List Str} {sp : Sp} {dvs : List V} {ds : List Value} {E : XK} {x m : Str} {p pos apos : Pos} {e o : Expr} {es : List Expr} {ta : TE} {t : TA}
theorem run_fn {pins : List (Addr × Obj)} {σ : St} {H : Hp} {s : Shared} {Q : VK} {us : List Value} {vs : List V} (F : FnOk X.prog X.w X.K X.mg X.base CX k f fd ps sp) (hr : Room k X.A) (hb : Binds X.K fd ps ds) (hd : Vals dvs ds) (hx : Passes CX X E)
    (I : Inv X pins σ H s) (r : Vals vs us) (h : sp (vs ++ dvs) H Q E) : wpAny (model X.prog X.w) X.A (call (.ref f) us) (EP X pins σ Q) X.xe s := by
  have r2 : Vals (vs ++ dvs) (us ++ ds) := r.append hd
  have hl : (us ++ ds).length = ps.length := by rw [← r2.length]; exact F.len _ _ _ _ h
  refine wpAny_call (codeAny_mono (F.run X.A X.stack s H ⟨us, []⟩ (us ++ ds) (vs ++ dvs) Q E hr I.env0 (hb s us I.kIn hl) r2 h) fun r s' hq => ?_)
  cases r with
  | error e => exact hx pins σ H s e s' I hq
  | ok fl =>
    cases fl with
    | ret u => exact I.after hq
    | next => exact False.elim hq
    | brk => exact False.elim hq
    | cont => exact False.elim hq
theorem pe_call (F : FnOk X.prog X.w X.K X.mg X.base CX k f fd ps sp) (hr : Room k X.A) (hg : Gl X x) (hm : X.mg x = some (.ref f)) (hk : PySem.W.keepIn X.K (.ref f) = true) (hb : Binds X.K fd ps ds) (hd : Vals dvs ds) (hx : Passes CX X E)
    (ha : PA X (e :: es) t) (hdb : (x == ("__debug__" : Str)) = false := by decide) (he : starEach (e :: es) X.env = (false, eval e X.env) :: starEach es X.env := by rfl) (hpl : (backTo pos (starEach es X.env)).any (·.1) = false := by rfl) :
    PE X (.Call (.Name x p) (e :: es) [] pos) (tCall sp dvs E t) := by
  intro pins s σ H Q I h
  refine wpAny_Call_Name_kw (ld_glob I hg hm ?_ hdb)
  refine PySem.W.callWith_K (h₀ := X.base) I.ok.mod.kin hk (thn (ha pos pins s σ H _ I h) fun us s1 ⟨vs, H1, I1, r, q⟩ => ⟨I1.kIn, ?_⟩) he hpl
  exact run_fn F hr hb hd hx I1 r q
theorem pe_call0 (F : FnOk X.prog X.w X.K X.mg X.base CX k f fd ps sp) (hr : Room k X.A) (hg : Gl X x) (hm : X.mg x = some (.ref f)) (hk : PySem.W.keepIn X.K (.ref f) = true) (hb : Binds X.K fd ps ds) (hd : Vals dvs ds) (hx : Passes CX X E)
    (hdb : (x == ("__debug__" : Str)) = false := by decide) : PE X (.Call (.Name x p) [] [] pos) (tCall sp dvs E tNil) := by
  intro pins s σ H Q I h
  refine wpAny_Call_Name_kw (ld_glob I hg hm ?_ hdb)
  exact PySem.W.callWith_K0 I.kIn hk (run_fn (us := []) F hr hb hd hx I .nil h)
theorem pe_meth {pl : Sem Bool} (he : PE X o ta) (c : Cls X.K C) (hm : Meth X.K C m f) (F : FnOk X.prog X.w X.K X.mg X.base CX k f fd ps sp) (hr : Room k X.A) (hb : Binds X.K fd ps ds) (hd : Vals dvs ds) (hx : Passes CX X E) (ha : PA X (e :: es) t)
    (hst : starEach (e :: es) X.env = (false, eval e X.env) :: starEach es X.env := by rfl) (hpl : (backTo pos (starEach es X.env)).any (·.1) = false := by rfl)
    (ht : eval (.Call (.Attribute o m apos) (e :: es) [] pos) X.env = (do
      let ov ← eval o X.env
      standAt apos.atName
      let (f, first) ← holding [ov] (getMethod ov m pl)
      callWith pos f first (backTo pos (starEach (e :: es) X.env)) (backToKw pos (keywordEach [] X.env))) := by rfl) :
    PE X (.Call (.Attribute o m apos) (e :: es) [] pos) (tMeth C m sp dvs E ta t) := by
  intro pins s σ H Q I h
  refine PySem.W.methodCall_KW (pl := pl) (thn (he pins s σ H _ I h) fun u s1 ⟨x, H1, I1, rx, a, dx, fs, ex, ea, l, q⟩ => ?_) ht
  subst ex
  obtain rfl : u = Value.ref a := rx
  refine getmeth_ok I1 ea c hm l ?_
  refine PySem.W.callWith_K (first := [.ref a]) (h₀ := X.base) I.ok.mod.kin hm.kp (thn (ha pos pins s1 σ H1 _ I1 q) fun us s2 ⟨vs, H2, I2, r, q2⟩ => ⟨I2.kIn, ?_⟩) hst hpl
  exact run_fn (us := .ref a :: us) (vs := .ref a :: vs) F hr hb hd hx I2 (.cons rfl r) q2
theorem pe_meth0 {pl : Sem Bool} (he : PE X o ta) (c : Cls X.K C) (hm : Meth X.K C m f) (F : FnOk X.prog X.w X.K X.mg X.base CX k f fd ps sp) (hr : Room k X.A) (hb : Binds X.K fd ps ds) (hd : Vals dvs ds) (hx : Passes CX X E)
    (ht : eval (.Call (.Attribute o m apos) [] [] pos) X.env = (do
      let ov ← eval o X.env
      standAt apos.atName
      let (f, first) ← holding [ov] (getMethod ov m pl)
      callWith pos f first (backTo pos (starEach [] X.env)) (backToKw pos (keywordEach [] X.env))) := by rfl) :
    PE X (.Call (.Attribute o m apos) [] [] pos) (tMeth C m sp dvs E ta tNil) := by
  intro pins s σ H Q I h
  refine PySem.W.methodCall_KW (pl := pl) (thn (he pins s σ H _ I h) fun u s1 ⟨x, H1, I1, rx, a, dx, fs, ex, ea, l, q⟩ => ?_) ht
  subst ex
  obtain rfl : u = Value.ref a := rx
  refine getmeth_ok I1 ea c hm l ?_
  exact PySem.W.callWith_K0 (first := [.ref a]) I1.kIn hm.kp (run_fn (us := [.ref a]) (vs := [.ref a]) F hr hb hd hx I1 (.cons rfl .nil) q)
structure Mk (K : PySem.W.Frag) (C f : Addr) : Prop where
  makes : PySem.W.makesIn K C = true
  init : PySem.W.findIn K (.ref C) "__init__" = some (some (.ref f))
  fn : PySem.W.isFn K (.ref f) = true
  kp : PySem.W.keepIn K (.ref C) = true
theorem run_make {pins : List (Addr × Obj)} {σ : St} {H : Hp} {s : Shared} {Q : VK} {us : List Value} {vs : List V} (M : Mk X.K C f) (F : FnOk X.prog X.w X.K X.mg X.base CX k f fd ps sp) (hr : Room (k + 1) X.A) (hb : Binds X.K fd ps ds) (hd : Vals dvs ds)
    (hx : Passes CX X E) (I : Inv X pins σ H s) (r : Vals vs us)
    (h : ∀ x dx, H x = none → H dx = none → dx ≠ x → sp (.ref x :: (vs ++ dvs)) (upd (upd H dx (.own x)) x (.ins C dx [])) (fun v H2 => v = .non ∧ Q (.ref x) H2) E) :
    wpAny (model X.prog X.w) X.A (call (.ref C) us) (EP X pins σ Q) X.xe s := by
  have hq := h (s.heap.objs.size + 1) s.heap.objs.size (I.hok.fresh (Nat.le_succ _)) (I.hok.fresh (Nat.le_refl _)) (Nat.ne_of_lt (Nat.lt_succ_self _))
  have I2 := Inv.made (C := C) I
  have r2 : Vals (V.ref (s.heap.objs.size + 1) :: (vs ++ dvs)) (Value.ref (s.heap.objs.size + 1) :: (us ++ ds)) := .cons rfl (r.append hd)
  have hl : (Value.ref (s.heap.objs.size + 1) :: us ++ ds).length = ps.length := by
    have e := r2.length
    rw [F.len _ _ _ _ hq] at e
    exact e.symm
  refine wpAny_call (make_map (f := f) I.kIn M.makes M.init (beq_iff_eq.mp M.fn) (codeAny_mono (F.run _ X.stack _ _ ⟨Value.ref (s.heap.objs.size + 1) :: us, []⟩ (Value.ref (s.heap.objs.size + 1) :: (us ++ ds)) _ _ E (hr.make C us [])
    (I2.env0.make C us []) (hb _ (Value.ref (s.heap.objs.size + 1) :: us) I2.kIn hl) r2 hq) fun r s' hq' => ?_))
  cases r with
  | error e => exact hx pins σ _ _ e s' I2 hq'
  | ok fl =>
    cases fl with
    | ret u =>
      obtain ⟨v, H', I3, rv, ev, q3⟩ := I2.after hq'
      subst ev
      exact ⟨rv, ⟨V.ref (s.heap.objs.size + 1), H', I3, rfl, q3⟩⟩
    | next => exact False.elim hq'
    | brk => exact False.elim hq'
    | cont => exact False.elim hq'
theorem pe_make (M : Mk X.K C f) (F : FnOk X.prog X.w X.K X.mg X.base CX k f fd ps sp) (hr : Room (k + 1) X.A) (hg : Gl X x) (hm : X.mg x = some (.ref C)) (hb : Binds X.K fd ps ds) (hd : Vals dvs ds) (hx : Passes CX X E)
    (ha : PA X (e :: es) t) (hdb : (x == ("__debug__" : Str)) = false := by decide) (he : starEach (e :: es) X.env = (false, eval e X.env) :: starEach es X.env := by rfl) (hpl : (backTo pos (starEach es X.env)).any (·.1) = false := by rfl) :
    PE X (.Call (.Name x p) (e :: es) [] pos) (tMake C sp dvs E t) := by
  intro pins s σ H Q I h
  refine wpAny_Call_Name_kw (ld_glob I hg hm ?_ hdb)
  refine PySem.W.callWith_K (h₀ := X.base) I.ok.mod.kin M.kp (thn (ha pos pins s σ H _ I h) fun us s1 ⟨vs, H1, I1, r, q⟩ => ⟨I1.kIn, ?_⟩) he hpl
  exact run_make M F hr hb hd hx I1 r q
theorem pe_make0 (M : Mk X.K C f) (F : FnOk X.prog X.w X.K X.mg X.base CX k f fd ps sp) (hr : Room (k + 1) X.A) (hg : Gl X x) (hm : X.mg x = some (.ref C)) (hb : Binds X.K fd ps ds) (hd : Vals dvs ds) (hx : Passes CX X E)
    (hdb : (x == ("__debug__" : Str)) = false := by decide) : PE X (.Call (.Name x p) [] [] pos) (tMake C sp dvs E tNil) := by
  intro pins s σ H Q I h
  refine wpAny_Call_Name_kw (ld_glob I hg hm ?_ hdb)
  exact PySem.W.callWith_K0 I.kIn M.kp (run_make (us := []) M F hr hb hd hx I .nil h)
end
def PK (X : Cx) (kws : List Keyword) (t : TA) : Prop :=
  ∀ (pos : Pos) (pins : List (Addr × Obj)) (s : Shared) (σ : St) (H : Hp) (Q : List V → Hp → Prop), Inv X pins σ H s → t σ H Q → wpAny (model X.prog X.w) X.A (evalAll ((backToKw pos (keywordEach kws X.env)).map (·.2))) (AP X pins σ Q) X.xe s
section
variable {X : Cx} {CX : CXT} {k : Nat} {f C : Addr} {fd : FuncData} {ps ks : List Str} {sp : Sp} {E : XK} {x m : Str} {p pos apos kpos : Pos} {e o : Expr} {es : List Expr} {kws : List Keyword} {te ta : TE} {t tk : TA} {nm : Option Str}
theorem pk_nil : PK X [] tNil := fun _ _ _ _ H Q I h => wpAny_evalAll_nil ⟨[], H, I, .nil, h⟩
theorem pk_cons (ha : PE X e te) (hr : PK X kws t) : PK X (⟨nm, e, kpos⟩ :: kws) (tCons te t) := by
  intro pos pins s σ H Q I h
  show wpAny _ _ (evalAll ((do let v ← eval e X.env; standAt pos; pure v) :: (backToKw pos (keywordEach kws X.env)).map (·.2))) _ _ s
  refine wpAny_evalAll_cons (wpAny_bind (thn (ha pins s σ H _ I h) fun u s1 ⟨x, H1, I1, r1, q1⟩ => wpAny_bind (wpAny_standAt (wpAny_pure ?_))))
  exact thn (hr pos pins s1 σ H1 _ I1 q1) fun us s2 ⟨xs, H2, I2, r2, q2⟩ => ⟨x :: xs, H2, I2, .cons r1 r2, q2⟩
structure KBinds (K : PySem.W.Frag) (fd : FuncData) (ps ks : List Str) (g : List Value → List Value → List Value) (gV : List V → List V → List V) : Prop where
  to : ∀ (s : Shared) (us ws : List Value), K.In s.heap → (g us ws).length = ps.length → BindsTo s fd ⟨us, ks.zip ws⟩ (ps.zip (g us ws))
  rel : ∀ {vs : List V} {us : List Value} {zs : List V} {ws : List Value}, Vals vs us → Vals zs ws → Vals (gV vs zs) (g us ws)
def tCallK (sp : Sp) (gV : List V → List V → List V) (E : XK) (t tk : TA) : TE := fun σ H Q => t σ H fun vs H1 => tk σ H1 fun zs H2 => sp (gV vs zs) H2 Q E
variable {g : List Value → List Value → List Value} {gV : List V → List V → List V}
theorem run_fnk {pins : List (Addr × Obj)} {σ : St} {H : Hp} {s : Shared} {Q : VK} {us ws : List Value} {vs zs : List V} (F : FnOk X.prog X.w X.K X.mg X.base CX k f fd ps sp) (hr : Room k X.A) (hb : KBinds X.K fd ps ks g gV) (hx : Passes CX X E)
    (I : Inv X pins σ H s) (r : Vals vs us) (rz : Vals zs ws) (h : sp (gV vs zs) H Q E) : wpAny (model X.prog X.w) X.A (call (.ref f) us (ks.zip ws)) (EP X pins σ Q) X.xe s := by
  have r2 := hb.rel r rz
  have hl : (g us ws).length = ps.length := by rw [← r2.length]; exact F.len _ _ _ _ h
  refine wpAny_call (codeAny_mono (F.run X.A X.stack s H ⟨us, ks.zip ws⟩ (g us ws) (gV vs zs) Q E hr I.env0 (hb.to s us ws I.kIn hl) r2 h) fun r s' hq => ?_)
  cases r with
  | error e => exact hx pins σ H s e s' I hq
  | ok fl =>
    cases fl with
    | ret u => exact I.after hq
    | next => exact False.elim hq
    | brk => exact False.elim hq
    | cont => exact False.elim hq
theorem pe_callK (F : FnOk X.prog X.w X.K X.mg X.base CX k f fd ps sp) (hr : Room k X.A) (hg : Gl X x) (hm : X.mg x = some (.ref f)) (hk : PySem.W.keepIn X.K (.ref f) = true) (hb : KBinds X.K fd ps ks g gV) (hx : Passes CX X E)
    (ha : PA X (e :: es) t) (hkw : PK X kws tk) (hall : (backToKw pos (keywordEach kws X.env)).all (·.1.isSome) = true := by rfl) (hks : (backToKw pos (keywordEach kws X.env)).filterMap (·.1) = ks := by rfl)
    (hdb : (x == ("__debug__" : Str)) = false := by decide) (he : starEach (e :: es) X.env = (false, eval e X.env) :: starEach es X.env := by rfl)
    (hpl : ((backTo pos (starEach (e :: es) X.env)).any (·.1) || (backToKw pos (keywordEach kws X.env)).any (·.1.isNone)) = false := by rfl) :
    PE X (.Call (.Name x p) (e :: es) kws pos) (tCallK sp gV E t tk) := by
  intro pins s σ H Q I h
  refine wpAny_Call_Name_kw (ld_glob I hg hm ?_ hdb)
  refine PySem.W.callWith_KW (h₀ := X.base) I.ok.mod.kin hk hall (thn (ha pos pins s σ H _ I h) fun us s1 ⟨vs, H1, I1, r, q⟩ => ?_) hpl he
  refine thn (hkw pos pins s1 σ H1 _ I1 q) fun ws s2 ⟨zs, H2, I2, rz, q2⟩ => ⟨I2.kIn, ?_⟩
  rw [hks]
  exact run_fnk F hr hb hx I2 r rz q2
end
structure FnScope (N P : List Str) (sc : Scope) : Prop where
  kind : sc.kind = .function
  co : sc.isCoroutine = false
  gen : sc.isGenerator = false
  nd : N.Nodup
  pre : N.take P.length = P
  par : ∀ x ∈ P, sc.names.lookup x = some .local ∨ sc.names.lookup x = some .cell
  nofree : ∀ y ∈ sc.names, y.2 ≠ .free
theorem bindL_out {kindOf : Str → Option NameKind} {x : Str} : ∀ {binds : List (Str × Value)} {m : Str → Option Value}, (∀ v, (x, v) ∉ binds) → bindL kindOf binds m x = m x
  | [], _, _ => rfl
  | (n, v) :: r, m, h => by
    unfold bindL
    rw [bindL_out fun w hw => h w (List.mem_cons_of_mem _ hw)]
    split
    · have : x ≠ n := by rintro rfl; exact h v List.mem_cons_self
      simp [this]
    · rfl
theorem bindC_out {kindOf : Str → Option NameKind} {x : Str} : ∀ {binds : List (Str × Value)} {m : Str → Option Value}, (∀ v, (x, v) ∉ binds) → bindC kindOf binds m x = m x
  | [], _, _ => rfl
  | (n, v) :: r, m, h => by
    unfold bindC
    rw [bindC_out fun w hw => h w (List.mem_cons_of_mem _ hw)]
    split
    · rfl
    · have : x ≠ n := by rintro rfl; exact h v List.mem_cons_self
      simp [this]
theorem bindL_get {kindOf : Str → Option NameKind} {x : Str} {v : Value} : ∀ {P : List Str} {vs : List Value} {i : Nat} {m : Str → Option Value}, P.Nodup → P[i]? = some x → vs[i]? = some v → kindOf x = some .local →
    bindL kindOf (P.zip vs) m x = some v
  | [], _, _, _, _, h, _, _ => by simp at h
  | _ :: _, [], _, _, _, _, h, _ => by simp at h
  | p :: P, w :: vs, 0, m, nd, h1, h2, hk => by
    simp at h1 h2; subst h1; subst h2
    show bindL kindOf ((p, w) :: P.zip vs) m p = _
    unfold bindL
    rw [bindL_out fun v hv => (List.nodup_cons.mp nd).1 (List.of_mem_zip hv).1, if_pos hk]
    simp
  | p :: P, w :: vs, i + 1, m, nd, h1, h2, hk => by
    show bindL kindOf ((p, w) :: P.zip vs) m x = _
    unfold bindL
    exact bindL_get (i := i) (List.nodup_cons.mp nd).2 (by simpa using h1) (by simpa using h2) hk
theorem bindC_get {kindOf : Str → Option NameKind} {x : Str} {v : Value} : ∀ {P : List Str} {vs : List Value} {i : Nat} {m : Str → Option Value}, P.Nodup → P[i]? = some x → vs[i]? = some v → kindOf x ≠ some .local →
    bindC kindOf (P.zip vs) m x = some v
  | [], _, _, _, _, h, _, _ => by simp at h
  | _ :: _, [], _, _, _, _, h, _ => by simp at h
  | p :: P, w :: vs, 0, m, nd, h1, h2, hk => by
    simp at h1 h2; subst h1; subst h2
    show bindC kindOf ((p, w) :: P.zip vs) m p = _
    unfold bindC
    rw [bindC_out fun v hv => (List.nodup_cons.mp nd).1 (List.of_mem_zip hv).1, if_neg hk]
    simp
  | p :: P, w :: vs, i + 1, m, nd, h1, h2, hk => by
    show bindC kindOf ((p, w) :: P.zip vs) m x = _
    unfold bindC
    exact bindC_get (i := i) (List.nodup_cons.mp nd).2 (by simpa using h1) (by simpa using h2) hk
def start (N : List Str) (vs : List V) : St := vs.map some ++ List.replicate (N.length - vs.length) none
def cxOf (CX : CXT) (P : Program) (w : World) (K : PySem.W.Frag) (mg : Str → Option Value) (base : Heap) (N : List Str) (qual : Str) (scope : Scope) (f : Addr) (cd : Value) (A : Around) (outer : List Env) (s : Shared) (H : Hp) (E : XK) : Cx where
  prog := P
  w := w
  K := K
  mg := mg
  base := base
  A := A.deeper (envOfC qual scope s.heap.objs.size f cd)
  N := N
  s₀ := s
  H₀ := H
  env := envOfC qual scope s.heap.objs.size f cd
  outer := outer
  stack := envOfC qual scope s.heap.objs.size f cd :: outer
  ex := []
  calm := true
  fn := fun _ => true
  pn := []
  xe := fun e s' => wpAny (model P w) (A.deeper (envOfC qual scope s.heap.objs.size f cd)) (leaving (envOfC qual scope s.heap.objs.size f cd) e) (fun _ s'' => CX outer H s E e s'') (fun e' s'' => CX outer H s E e' s'') s'
theorem cell_has {sc : Scope} {n : Nat} {x : Str} (h : sc.names.lookup x = some .cell) : ∃ c, (cellsFrom n sc.names []).lookup x = some c := by
  have q := PySem.W.cellsFrom_some sc.names n [] (.inl h)
  exact Option.isSome_iff_exists.mp q
theorem inv_start {CX : CXT} {P : Program} {w : World} {K : PySem.W.Frag} {mg : Str → Option Value} {base : Heap} {N ps : List Str} {qual : Str} {scope : Scope} {f : Addr} {cd : Value} {A : Around} {outer : List Env} {s s1 : Shared} {H : Hp} {E : XK} {us : List Value} {vs : List V}
    (S : FnScope N ps scope) (hd : A.handled = none) (e0 : Env0 P w K mg base A outer s H) (hl : vs.length = ps.length) (r : Vals vs us)
    (x : InCallC s s.heap.objs.size (bindL (envOfC qual scope s.heap.objs.size f cd).kindOf (ps.zip us) fun _ => none) (cellsFrom (s.heap.objs.size + 1) scope.names []) (bindC (envOfC qual scope s.heap.objs.size f cd).kindOf (ps.zip us) fun _ => none) s1) :
    Inv (cxOf CX P w K mg base N qual scope f cd A outer s H E) [] (start N vs) H s1 := by
  have hpl : ps.length ≤ N.length := by have := congrArg List.length S.pre; rw [List.length_take] at this; omega
  obtain ⟨h1, tk, rfl, hk⟩ := x.done
  have noA : ∀ b : Addr, b ∉ (cxOf CX P w K mg base N qual scope f cd A outer s H E).ex := fun b z => absurd (show b ∈ ([] : List Addr) from z) (by simp)
  refine ⟨⟨e0.mod, S.kind, rfl, rfl, Nat.le_refl _, fun y z c h1 h2 => ?_, fun y hy => ?_, fun y c _ h => ?_, fun _ => hd, Around.frames_deeper e0.frames, .inr ⟨rfl, rfl⟩, fun b z => absurd z (noA b), e0.bs, e0.bsz, fun b _ _ => noA b, fun b z => absurd z (noA b), e0.funs, e0.frf⟩,
    rfl, e0.bare, Un.kept hk, ⟨_, x.toInCall.ns, fun i y v h1 h2 h3 => ?_⟩, fun y c h => ⟨_, x.cell y c h⟩, e0.hok.fresh (Nat.le_refl _), fun y c h => ?_, fun p hp => absurd (show p ∈ ([] : List (Addr × Obj)) from hp) (by simp), e0.hok.kept hk, ?_⟩
  · exact name_of_addr x.apart (PySem.mem_of_lookup h1) (PySem.mem_of_lookup h2)
  · have hy : scope.names.lookup y = some .cell ∨ scope.names.lookup y = some .free := hy
    rcases hy with hy | hy
    · exact cell_has hy
    · exact absurd rfl (S.nofree _ (PySem.mem_of_lookup hy))
  · exact Nat.le_of_lt (x.above y c (PySem.mem_of_lookup h))
  · have hi : i < vs.length := by
      unfold start at h2
      by_cases hi : i < vs.length
      · exact hi
      · rw [List.getElem?_append_right (by simpa using hi)] at h2
        rw [List.getElem?_replicate] at h2
        split at h2 <;> cases h2
    have ha : vs[i]? = some v := by
      unfold start at h2
      rw [List.getElem?_append_left (by simpa using hi), List.getElem?_map] at h2
      cases e : vs[i]? with
      | none => rw [e] at h2; cases h2
      | some a => rw [e] at h2; cases h2; rfl
    obtain ⟨u, hu, rv⟩ := r.get ha
    have hp : ps[i]? = some y := by
      rw [← S.pre, List.getElem?_take_of_lt (by omega)]; exact h1
    have ndP : ps.Nodup := by rw [← S.pre]; exact S.nd.sublist (List.take_sublist _ _)
    refine ⟨u, rv, ?_⟩
    rcases S.par y (List.mem_of_getElem? hp) with k | k
    · exact .inl ⟨k, bindL_get ndP hp hu k⟩
    · obtain ⟨c, e⟩ := cell_has (n := s.heap.objs.size + 1) k
      refine .inr ⟨.inl k, c, e, ?_⟩
      have q := x.cell y c e
      rw [bindC_get ndP hp hu (by show scope.names.lookup y ≠ _; rw [k]; decide)] at q
      exact q
  · exact e0.hok.fresh (Nat.le_of_lt (x.above y c (PySem.mem_of_lookup h)))
  · unfold start
    show _ = N.length
    rw [List.length_append, List.length_map, List.length_replicate]
    omega
theorem fn_of {CX : CXT} {P : Program} {w : World} {K : PySem.W.Frag} {mg : Str → Option Value} {base : Heap} {k : Nat} {f : Addr} {name qual : Str} {params : Arguments} {body : List Stmt} {scope : Scope} {dV kV doc pm cdv ct oc : Value} {an od : Option Addr}
    {osl : Array (Option Value)} {N ps : List Str} {sp : Sp} (lk : K.lookup f = some ⟨oc, od, .func (PySem.W.fnOf name qual params body scope dV kV doc pm an cdv ct), osl⟩) (hcd : PySem.W.codeIn K cdv qual = true) (S : FnScope N ps scope)
    (len : ∀ vs H Q E, sp vs H Q E → vs.length = ps.length)
    (hbody : ∀ (A : Around) (outer : List Env) (s : Shared) (H : Hp) (vs : List V) (Q : VK) (E : XK), Room k (A.deeper (envOfC qual scope s.heap.objs.size f cdv)) → sp vs H Q E →
      ∃ t, PSs (cxOf CX P w K mg base N qual scope f cdv A outer s H E) body t ∧ t { nx := fun _ H' => Q .non H', rt := Q } (start N vs) H) :
    FnOk P w K mg base CX (k + 1) f (PySem.W.fnOf name qual params body scope dV kV doc pm an cdv ct) ps sp := by
  refine ⟨len, fun A outer s H args us vs Q E hr e0 hb r hsp => ?_⟩
  have hl := len _ _ _ _ hsp
  have KX : K.In s.heap := e0.mod.kin.keeps fun b o e => (e0.bs b o e).1
  have lim : s.heap.NoLimit := e0.mod.nolimit.keeps fun b o e => (e0.bs b o e).1
  have hkind : ∀ y ∈ ps.zip us, scope.names.lookup y.1 = some .local ∨ (scope.names.lookup y.1 = some .cell ∧ ((cellsFrom (s.heap.objs.size + 1) scope.names []).lookup y.1).isSome = true) := fun ⟨n, v⟩ hy => by
    rcases S.par n (List.of_mem_zip hy).1 with q | q
    · exact .inl q
    · exact .inr ⟨q, PySem.W.cellsFrom_some _ _ _ (.inl q)⟩
  refine codeAny_call_function hr.depth (KX _ _ lk) rfl S.co S.gen rfl (PySem.W.codeRec_of KX hcd) (hb _ _ _ _ ?_)
  refine wpAny_newFunctionEnv_cells S.kind hkind fun env he s1 x => ?_
  subst he
  refine ⟨lim.keeps x.toInCall.keep, codeAny_func ?_⟩
  obtain ⟨t, ht, hq⟩ := hbody A outer s H vs Q E (hr.deeper _) hsp
  have I : Inv (cxOf CX P w K mg base N qual scope f cdv A outer s H E) [] (start N vs) H s1 := inv_start S hr.hd e0 hl r x
  refine wpAny_mono (ht [] s1 (start N vs) H _ I hq) (fun fl s' hs => ?_) fun e s' hs => hs
  have fin : ∀ {σ' : St} {H' : Hp} {v : V} {u : Value}, Inv (cxOf CX P w K mg base N qual scope f cdv A outer s H E) [] σ' H' s' → RelV v u → Q v H' → CE outer P w H s Q u s' :=
    fun {σ' H' v u} J rv q => ⟨v, H', J.os, J.bare, J.base, J.hok, rv, q⟩
  cases fl with
  | ret u =>
    obtain ⟨v, σ', H', J, rv, q⟩ := hs
    exact fin J rv q
  | next =>
    obtain ⟨σ', H', J, q⟩ := hs
    exact fin (v := V.non) (u := Value.none) J rfl q
  | brk =>
    obtain ⟨_, _, _, q⟩ := hs
    exact False.elim q
  | cont =>
    obtain ⟨_, _, _, q⟩ := hs
    exact False.elim q
end L2
namespace L2
open PySem PySem.Spec PyProof.Rows
section
variable {X : Cx} {x : Str} {p pos : Pos} {e : Expr} {es : List Expr} {t : TA} {id T : String} {r : List V → Hp → VK → Prop}
def tCB (r : List V → Hp → VK → Prop) (t : TA) : TE := fun σ H Q => t σ H fun vs H1 => r vs H1 Q
theorem pe_callB (hc : CallR X (.builtin id) r) (hg : Gl X x) (hm : X.mg x = none) (hv : bootBuiltins x = some (.builtin id)) (ha : PA X (e :: es) t) (hn : x ≠ "__name__" := by decide) (hdb : (x == ("__debug__" : Str)) = false := by decide)
    (he : starEach (e :: es) X.env = (false, eval e X.env) :: starEach es X.env := by rfl) (hpl : (backTo pos (starEach es X.env)).any (·.1) = false := by rfl) : PE X (.Call (.Name x p) (e :: es) [] pos) (tCB r t) := by
  intro pins s σ H Q I h
  refine wpAny_Call_Name_kw (ld_blt I hg hm hv ?_ hn hdb)
  exact PyProof.Rows.callWith_builtin1 (thn (ha pos pins s σ H _ I h) fun us s1 ⟨vs, H1, I1, r1, q1⟩ => hc pins s1 σ H1 vs us Q I1 r1 q1) he hpl
theorem pe_callTy (hc : CallR X (.type T) r) (hg : Gl X x) (hm : X.mg x = none) (hv : bootBuiltins x = some (.type T)) (ha : PA X (e :: es) t) (hn : x ≠ "__name__" := by decide) (hdb : (x == ("__debug__" : Str)) = false := by decide)
    (he : starEach (e :: es) X.env = (false, eval e X.env) :: starEach es X.env := by rfl) (hpl : (backTo pos (starEach es X.env)).any (·.1) = false := by rfl) : PE X (.Call (.Name x p) (e :: es) [] pos) (tCB r t) := by
  intro pins s σ H Q I h
  refine wpAny_Call_Name_kw (ld_blt I hg hm hv ?_ hn hdb)
  exact PyProof.Rows.callWith_type1 (thn (ha pos pins s σ H _ I h) fun us s1 ⟨vs, H1, I1, r1, q1⟩ => hc pins s1 σ H1 vs us Q I1 r1 q1) he hpl
theorem pe_callTy0 (hc : CallR X (.type T) r) (hg : Gl X x) (hm : X.mg x = none) (hv : bootBuiltins x = some (.type T)) (hn : x ≠ "__name__" := by decide) (hdb : (x == ("__debug__" : Str)) = false := by decide) :
    PE X (.Call (.Name x p) [] [] pos) (tCB r tNil) := by
  intro pins s σ H Q I h
  refine wpAny_Call_Name_kw (ld_blt I hg hm hv ?_ hn hdb)
  exact PyProof.Rows.callWith_type0 (hc pins s σ H [] [] Q I .nil h)
end
end L2
namespace HT
open PySem PyProof.Rows
def lexLt : List Int → List Int → Bool
  | [], [] => false
  | [], _ :: _ => true
  | _ :: _, [] => false
  | x :: xs, y :: ys => if x = y then lexLt xs ys else decide (x < y)
theorem lexLt_cons (x y : Int) (xs ys : List Int) : lexLt (x :: xs) (y :: ys) = if x = y then lexLt xs ys else decide (x < y) := rfl
theorem lexLt_nil_nil : lexLt [] [] = false := rfl
theorem lexLt_nil_cons (y : Int) (ys : List Int) : lexLt [] (y :: ys) = true := rfl
theorem lexLt_cons_nil (x : Int) (xs : List Int) : lexLt (x :: xs) [] = false := rfl
theorem eqAt_int (A : Around) (s : Shared) (a : Int) (t : Tok) (c : Int) (u : Tok) : ∃ e, SeqAt.EqAt A s (.int a t) (.int c u) e ∧ (e = true ↔ a = c) :=
  ⟨(a == c), SeqAt.EqAt.int_int a t c u, by simp⟩
theorem rcLt_int (A : Around) (s : Shared) (a : Int) (t : Tok) (c : Int) (u : Tok) (prog : Program) (w : World) (E : Value → Shared → Prop) (Q : Value → Shared → Prop) (h : Q (.bool (decide (a < c))) s) :
    wpAny (model prog w) A (richCompare .Lt (.int a t) (.int c u)) Q E s :=
  (PyProof.Rows.lt_int h : wpAny (model prog w) A (compareOp .Lt (.int a t) (.int c u)) Q E s)
section
open PySem.SeqAt
open PySem.AutoSeq1 (wpAny_loadPart')
open PySem.MeetsSeq PySem.MeetsSeq2 PySem.MeetsSeq3
theorem tuple_lt_ints (l b : Addr) (items items2 : Array Value) (n n2 : Nat) (dd dd2 : Option Addr) (sl sl2 : Array (Option Value)) (ns ms : List Int) (hi : IntsAre items.toList ns) (hj : IntsAre items2.toList ms) :
    Meets (Builtin.«tuple.__lt__» ⟨[.ref l, .ref b], []⟩)
      (fun _ R s => s.heap.get? l = some { cls := .type "tuple", dict := dd, data := .seq items n, slots := sl } ∧ s.heap.get? b = some { cls := .type "tuple", dict := dd2, data := .seq items2 n2, slots := sl2 } ∧
        R (.ok (.ret (.bool (lexLt ns ms)))) s) :=
  .of_wp fun prog w A R s h => by
    obtain ⟨hp, g, d, tk, os⟩ := s; obtain ⟨hl, hb, h⟩ := h
    have f2 := AutoSeq1.sub_tuple_tuple
    have z1 : items.size = ns.length := by rw [← hi.length]; simp
    have z2 : items2.size = ms.length := by rw [← hj.length]; simp
    wp_walk using wpAny_loadPart' hl, wpAny_loadPart' hb, wpAny_forIn_list _ (fun rest b s' => b.1 = none ∧ s' = ⟨hp, g, d, tk, os⟩ ∧ ∃ (vs ws : List Value) (ns' ms' : List Int), rest = vs.zip ws ∧
      IntsAre vs ns' ∧ IntsAre ws ms' ∧ ns'.length + items2.size = ms'.length + items.size ∧ R (.ok (.ret (.bool (lexLt ns' ms')))) ⟨hp, g, d, tk, os⟩) _
    case turn =>
      rintro ⟨y, x⟩ rest b s' ⟨hb', rfl, vs, ws, ns', ms', hz, hvi, hwi, hlen, hR⟩
      cases hvi with
      | nil => rw [List.zip_nil_left] at hz; cases hz
      | cons a t hvi' =>
        cases hwi with
        | nil => rw [List.zip_nil_right] at hz; cases hz
        | cons c u hwi' =>
          rw [List.zip_cons_cons] at hz
          injection hz with hyx hrest
          injection hyx with hy hx
          subst hy hx
          rw [lexLt_cons] at hR
          simp only [List.length_cons] at hlen
          obtain ⟨e, he, hiff⟩ := eqAt_int A.in1 ⟨hp, g, d, tk, os⟩ a t c u
          refine wpAny_bind (he prog w _ _ ?_)
          cases e with
          | true =>
            rw [if_pos (hiff.mp rfl)] at hR
            wp_walk
            exact ⟨rfl, rfl, _, _, _, _, hrest, hvi', hwi', by omega, hR⟩
          | false =>
            rw [if_neg (fun q => absurd (hiff.mpr q) Bool.false_ne_true)] at hR
            have hri := rcLt_int A.in1 ⟨hp, g, d, tk, os⟩ a t c u prog w
            wp_walk using hri
            exact ⟨_, rfl, by simpa using hR⟩
    case fin =>
      rintro ⟨b1, b2⟩ s' ⟨hb', rfl, vs, ws, ns', ms', hz, hvi, hwi, hlen, hR⟩
      simp only at hb'
      subst hb'
      have hv : lexLt ns' ms' = decide (items.size < items2.size) := by
        cases hvi with
        | nil =>
          cases hwi with
          | nil =>
            simp only [List.length_nil] at hlen
            rw [lexLt_nil_nil]
            exact (decide_eq_false (by omega)).symm
          | cons c u hw =>
            simp only [List.length_nil, List.length_cons] at hlen
            rw [lexLt_nil_cons]
            exact (decide_eq_true (by omega)).symm
        | cons a t hv =>
          cases hwi with
          | nil =>
            simp only [List.length_nil, List.length_cons] at hlen
            rw [lexLt_cons_nil]
            exact (decide_eq_false (by omega)).symm
          | cons c u hw =>
            rw [List.zip_cons_cons] at hz
            cases hz
      rw [hv] at hR
      wp_walk
      exact ⟨_, rfl, by simpa [Builtin.Tuple.tupleCompareSizes] using hR⟩
    case h =>
      exact ⟨rfl, rfl, items.toList, items2.toList, ns, ms, rfl, hi, hj, by omega, h⟩
end
section
variable {prog : Program} {w : World} {A : Around} {E : Value → Shared → Prop} {s : Shared}
theorem lt_tupInts {l b : Addr} {items items2 : Array Value} {ns ms : List Int} {Q : Value → Shared → Prop} (hl : IsTup s.heap l items) (hb : IsTup s.heap b items2) (hi : IntsAre items.toList ns) (hj : IntsAre items2.toList ms)
    (hu : A.units < cLine) (h : Q (.bool (lexLt ns ms)) s) : wpAny (model prog w) A (compareOp .Lt (.ref l) (.ref b)) Q E s := by
  obtain ⟨⟨cls, dd, data, sl⟩, ho, hc, n, hd⟩ := id hl
  obtain ⟨⟨cls2, dd2, data2, sl2⟩, ho2, hc2, n2, hd2⟩ := id hb
  simp only at hc hd hc2 hd2
  subst hc hd hc2 hd2
  exact richCompare_meets_room (op := .Lt) ⟨_, ho, rfl⟩ ⟨_, ho2, rfl⟩ PySem.F.slot_tuple_lt PySem.F.entry_tuple_lt (PySem.F.args_tuple_lt_2 _ _) (tuple_lt_ints l b items items2 n n2 dd dd2 sl sl2 ns ms hi hj)
    ⟨ho, ho2, show Value.bool (lexLt ns ms) ≠ Value.notImplemented ∧ Q (.bool (lexLt ns ms)) s from ⟨(fun x => nomatch x), h⟩⟩ hu
theorem cat_tup {t b : Addr} {vs ws : List Value} {Q : Value → Shared → Prop} (ht : IsTup s.heap t vs.toArray) (hb : IsTup s.heap b ws.toArray) (hv : vs ≠ [])
    (h1 : ws = [] → Q (.ref t) s) (h2 : ws ≠ [] → Q (.ref s.heap.objs.size) { s with heap := s.heap.push { cls := .type "tuple", data := .seq (vs ++ ws).toArray } })
    (hsz : vs.length + ws.length ≤ sizeLine) : wpAny (model prog w) A (binaryOp .Add (.ref t) (.ref b)) Q E s := by
  obtain ⟨⟨cls, dd, data, sl⟩, ho, hc, n, hd⟩ := id ht
  obtain ⟨⟨cls2, dd2, data2, sl2⟩, ho2, hc2, n2, hd2⟩ := id hb
  simp only at hc hd hc2 hd2
  subst hc hd hc2 hd2
  have e : vs.toArray ++ ws.toArray = (vs ++ ws).toArray := by simp
  by_cases hw : ws = []
  · exact concat_meets ⟨_, ho, rfl⟩ ⟨_, ho2, rfl⟩ noFill_tuple_add seq_tuple_add PySem.F.slot_tuple_add PySem.F.entry_tuple_add (PySem.F.args_tuple_add_2 _ _)
      (tuple_addW1 t b vs.toArray ws.toArray n n2 dd dd2 sl sl2 (by simpa using hv) (by simp [hw])) ⟨ho, ho2, h1 hw⟩
  · refine concat_meets ⟨_, ho, rfl⟩ ⟨_, ho2, rfl⟩ noFill_tuple_add seq_tuple_add PySem.F.slot_tuple_add PySem.F.entry_tuple_add (PySem.F.args_tuple_add_2 _ _)
      (tuple_addW2 t b vs.toArray ws.toArray n n2 dd dd2 sl sl2 (by simpa using hv) (by simpa using hw) (by rw [List.size_toArray, List.size_toArray]; exact hsz)) ⟨ho, ho2, ?_⟩
    rw [e]
    exact h2 hw
def sIx (n d : Nat) : Option Int → Nat
  | none => d
  | some v => if v < 0 then (v + (n : Int)).toNat else min v.toNat n
theorem sIx_none (n d : Nat) : sIx n d none = d := rfl
theorem sIx_nat (n d k : Nat) : sIx n d (some (k : Int)) = min k n := by
  show (if (k : Int) < 0 then ((k : Int) + (n : Int)).toNat else min (k : Int).toNat n) = min k n
  rw [if_neg (by omega), Int.toNat_natCast]
theorem sIx_le (n d : Nat) (hd : d ≤ n) (o : Option Int) : sIx n d o ≤ n := by
  cases o with
  | none => exact hd
  | some v =>
    show (if v < 0 then (v + (n : Int)).toNat else min v.toNat n) ≤ n
    by_cases hv : v < 0
    · rw [if_pos hv]; omega
    · rw [if_neg hv]; exact Nat.min_le_right _ _
theorem clip_eq (v : Int) (n d : Nat) : (if v < 0 then max (v + (n : Int)) 0 else min v (n : Int)) = ((sIx n d (some v) : Nat) : Int) := by
  show (if v < 0 then max (v + (n : Int)) 0 else min v (n : Int)) = (((if v < 0 then (v + (n : Int)).toNat else min v.toNat n) : Nat) : Int)
  by_cases hv : v < 0
  · simp only [if_pos hv]; omega
  · simp only [if_neg hv]; omega
theorem adjust_gen (lo hi : Option Int) (n : Nat) : Builtin.Slice.sliceAdjust lo hi 1 (n : Int) = (((sIx n 0 lo : Nat) : Int), ((sIx n n hi : Nat) : Int)) := by
  have h1 : ¬ ((1 : Int) < 0) := by omega
  unfold Builtin.Slice.sliceAdjust
  simp only [h1, if_false]
  refine Prod.ext ?_ ?_
  · cases lo with
    | none => rfl
    | some v => exact clip_eq v n 0
  · cases hi with
    | none => rfl
    | some v => exact clip_eq v n n
theorem places_gen (i j : Nat) : Builtin.Slice.slicePlaces (i : Int) (j : Int) 1 = j - i := by
  unfold Builtin.Slice.slicePlaces
  have h1 : (1 : Int) > 0 := by omega
  simp only [h1, if_true, Int.ediv_one]
  split <;> omega
theorem slicePart_ {v : Value} {o : Option Int} {Q : Option Int → Shared → Prop} (p : IsPart v o) (h : Q o s) : wpAny (model prog w) A (Builtin.Slice.slicePartIndex v) Q E s := by
  cases p with
  | none => exact slicePart_none h
  | int i t => exact slicePart_int h
theorem sliceApplied_gen {sl : Addr} {vl vu : Value} {lo hi : Option Int} {n : Nat} {Q : Int × Int × Nat → Shared → Prop} (hs : s.heap.IsSliceOf sl vl vu .none) (pl : IsPart vl lo) (pu : IsPart vu hi)
    (h : Q (((sIx n 0 lo : Nat) : Int), 1, sIx n n hi - sIx n 0 lo) s) : wpAny (model prog w) A (Builtin.Slice.sliceApplied (.ref sl) (pure (n : Int))) Q E s := by
  obtain ⟨os, hos, hcs, hds⟩ := id hs
  unfold Builtin.Slice.sliceApplied Builtin.Slice.sliceFields
  refine wpAny_bind (wpAny_bind (wpAny_field hos hds (x := vl) rfl (wpAny_bind (wpAny_field hos hds (x := vu) rfl (wpAny_bind (wpAny_field hos hds (x := .none) rfl (wpAny_pure ?_)))))))
  refine wpAny_bind (slicePart_none ?_)
  show wpAny _ _ (if ((1 : Int) == 0) = true then _ else _) _ _ s
  rw [if_neg (by decide)]
  refine wpAny_bind (slicePart_ pl (wpAny_bind (slicePart_ pu (wpAny_bind (wpAny_pure ?_)))))
  show wpAny _ _ (match Builtin.Slice.sliceAdjust lo hi 1 (n : Int) with | (lo, hi) => pure (lo, (1 : Int), Builtin.Slice.slicePlaces lo hi 1)) _ _ s
  rw [adjust_gen lo hi n]
  show wpAny _ _ (pure (((sIx n 0 lo : Nat) : Int), (1 : Int), Builtin.Slice.slicePlaces ((sIx n 0 lo : Nat) : Int) ((sIx n n hi : Nat) : Int) 1)) _ _ s
  rw [places_gen]
  exact wpAny_pure h
theorem pick_gen (xs : Array Value) (i k : Nat) : ((List.range k).filterMap fun (m : Nat) => xs[((i : Int) + (m : Int) * 1).toNat]?).toArray = ((xs.toList.drop i).take k).toArray := by
  have e : (fun (m : Nat) => xs[((i : Int) + (m : Int) * 1).toNat]?) = fun m => xs[i + m]? := by
    funext m
    have : ((i : Int) + (m : Int) * 1).toNat = i + m := by omega
    rw [this]
  rw [e]
  have := pick_run xs i k
  rw [List.filterMap_map] at this
  have e2 : ((fun x => xs[x]?) ∘ fun x => i + x) = fun m => xs[i + m]? := rfl
  rw [e2] at this
  rw [this]
theorem getItem_tuple_cut {t sl : Addr} {items : Array Value} {vl vu : Value} {lo hi : Option Int} {Q : Value → Shared → Prop} (ht : IsTup s.heap t items) (hs : s.heap.IsSliceOf sl vl vu .none) (pl : IsPart vl lo) (pu : IsPart vu hi)
    (hw : ¬ (sIx items.size 0 lo = 0 ∧ sIx items.size items.size hi = items.size))
    (h : Q (.ref s.heap.objs.size) { s with heap := s.heap.push { cls := .type "tuple", data := .seq ((items.toList.drop (sIx items.size 0 lo)).take (sIx items.size items.size hi - sIx items.size 0 lo)).toArray } })
    (hsz : items.size ≤ sizeLine) : wpAny (model prog w) A (getItem (.ref t) (.ref sl)) Q E s := by
  have htake : sizeOk (.seq ((items.toList.drop (sIx items.size 0 lo)).take (sIx items.size items.size hi - sIx items.size 0 lo)).toArray) := by
    show ((items.toList.drop (sIx items.size 0 lo)).take (sIx items.size items.size hi - sIx items.size 0 lo)).toArray.size ≤ sizeLine
    rw [List.size_toArray, List.length_take, List.length_drop, Array.length_toList]
    omega
  have hj : sIx items.size items.size hi ≤ items.size := sIx_le _ _ (Nat.le_refl _) hi
  obtain ⟨os, hos, hcs, hds⟩ := id hs
  have hTs : s.TypeIs (.ref sl) "slice" := ⟨os, hos, hcs⟩
  unfold getItem
  try with_reducible refine wpAny_holding ?_
  first | refine wpAny_bind (wpAny_pure ?_) | skip
  refine wpAny_bind (wpAny_sequenceKey ht.typeIs (by decide) ?_)
  refine wpAny_bind (wpAny_callSpecial?_slot (name := Str.ofString "__getitem__") ht.typeIs PyProof.Rows.slot_tuple_getitem
    (wpAny_call_entry PyProof.Rows.slot_tuple_getitem ht.typeIs entry_tuple_getitem ?_ (args_tuple_getitem _ _)))
  show wpAny _ _ (Builtin.Tuple.tupleItemsOf (.ref t) >>= _) _ _ s
  refine wpAny_bind (tupleItemsOf_ ht ?_)
  refine wpAny_bind (wpAny_typeOf hTs ?_)
  rw [if_pos (by decide)]
  refine wpAny_bind (sliceApplied_gen hs pl pu ?_)
  have hno : ¬ ((((sIx items.size 0 lo : Nat) : Int) == 0 && (1 : Int) == 1 && (sIx items.size items.size hi - sIx items.size 0 lo) == items.size) = true) := by
    intro q
    rw [Bool.and_eq_true, Bool.and_eq_true] at q
    have q1 : ((sIx items.size 0 lo : Nat) : Int) = 0 := eq_of_beq q.1.1
    have q2 : sIx items.size items.size hi - sIx items.size 0 lo = items.size := eq_of_beq q.2
    exact hw ⟨by omega, by omega⟩
  show wpAny _ _ (if (((sIx items.size 0 lo : Nat) : Int) == 0 && (1 : Int) == 1 && (sIx items.size items.size hi - sIx items.size 0 lo) == items.size) = true then _ else _) _ _ s
  rw [if_neg hno, pick_gen]
  first
    | exact wpAny_bind (m := Builtin.Tuple.tupleExact _) (wpAny_newObj_type (wpAny_pure ⟨_, rfl, wpAny_pure h⟩) htake)
    | exact wpAny_bind (m := Builtin.Tuple.tupleExact _) (wpAny_newObj_type (wpAny_bind (wpAny_pure (wpAny_pure ⟨_, rfl, wpAny_pure h⟩))) htake)
    | exact wpAny_bind (wpAny_bind (m := Builtin.Tuple.tupleExact _) (wpAny_newObj_type (wpAny_pure (wpAny_pure ⟨_, rfl, wpAny_pure h⟩)) htake))
    | exact wpAny_bind (wpAny_bind (m := Builtin.Tuple.tupleExact _) (wpAny_newObj_type (wpAny_pure ⟨_, rfl, wpAny_pure h⟩) htake))
end
end HT
namespace L2
open PySem PySem.Spec PyProof.Rows
abbrev TO := St → Hp → (Option Int → Hp → Prop) → Prop
def PO (X : Cx) (e : Option Expr) (t : TO) : Prop :=
  ∀ (pins : List (Addr × Obj)) (s : Shared) (σ : St) (H : Hp) (Q : Option Int → Hp → Prop), Inv X pins σ H s → t σ H Q →
    wpAny (model X.prog X.w) X.A (evalPart e X.env) (fun u s' => ∃ o H', Inv X pins σ H' s' ∧ IsPart u o ∧ Q o H') X.xe s
def tNoPart : TO := fun _ H Q => Q none H
def tPart (t : TE) : TO := fun σ H Q => t σ H fun x H1 => ∃ i, x = .int i ∧ Q (some i) H1
theorem intsAre_of {ns : List Int} : ∀ {us : List Value}, Vals (ns.map V.int) us → IntsAre us ns := by
  induction ns with
  | nil => intro us r; rw [List.map_nil] at r; cases r; exact .nil
  | cons n ns ih =>
    intro us r
    rw [List.map_cons] at r
    cases r with
    | cons r1 r2 =>
      obtain ⟨t, e⟩ := r1
      subst e
      exact .cons n t (ih r2)
section
variable {X : Cx} {e : Expr} {te : TE} {lo hi : Option Expr} {tl th : TO} {pos p2 : Pos}
theorem po_none : PO X none tNoPart := by
  intro pins s σ H Q I h
  rw [evalPart_none]
  exact wpAny_pure ⟨none, H, I, .none, h⟩
theorem po_some (h : PE X e te) : PO X (some e) (tPart te) := by
  intro pins s σ H Q I hw
  rw [evalPart_some]
  refine thn (h pins s σ H _ I hw) fun u s1 ⟨x, H1, I1, r1, q1⟩ => ?_
  obtain ⟨i, rfl, q⟩ := q1
  obtain ⟨t, rfl⟩ := r1
  exact ⟨some i, H1, I1, .int i t, q⟩
def SlR (X : Cx) (r : V → Option Int → Option Int → Hp → VK → Prop) : Prop :=
  ∀ (pins : List (Addr × Obj)) (s : Shared) (σ : St) (H : Hp) (x : V) (v vl vu : Value) (lo hi : Option Int) (sl : Addr) (Q : VK), Inv X pins σ H s → RelV x v → s.heap.IsSliceOf sl vl vu .none → IsPart vl lo → IsPart vu hi → r x lo hi H Q →
    ∃ T id, typeLookup (.type T) "__getitem__" = pure (some (.builtin id)) ∧ s.TypeIs v T ∧ wpAny (model X.prog X.w) X.A (getItem v (.ref sl)) (EP X pins σ Q) X.xe s
theorem SlR.or {r r' : V → Option Int → Option Int → Hp → VK → Prop} (h : SlR X r) (h' : SlR X r') : SlR X (fun x lo hi H Q => r x lo hi H Q ∨ r' x lo hi H Q) := by
  intro pins s σ H x v vl vu lo hi sl Q I rx hs pl pu q
  rcases q with q | q
  · exact h pins s σ H x v vl vu lo hi sl Q I rx hs pl pu q
  · exact h' pins s σ H x v vl vu lo hi sl Q I rx hs pl pu q
def tSl (r : V → Option Int → Option Int → Hp → VK → Prop) (te : TE) (tl th : TO) : TE := fun σ H Q => te σ H fun x H1 => tl σ H1 fun l H2 => th σ H2 fun u H3 => r x l u H3 Q
theorem pe_slice {r : V → Option Int → Option Int → Hp → VK → Prop} (hr : SlR X r) (he : PE X e te) (hl : PO X lo tl) (hu : PO X hi th) : PE X (.Subscript e (.Slice lo hi none p2) pos) (tSl r te tl th) := by
  intro pins s σ H Q I h
  refine Subscript_ (thn (he pins s σ H _ I h) fun v s1 ⟨x, H1, I1, r1, q1⟩ => ?_)
  refine wpAny_Slice (thn (hl pins s1 σ H1 _ I1 q1) fun vl s2 ⟨l, H2, I2, pl, q2⟩ => thn (hu pins s2 σ H2 _ I2 q2) fun vu s3 ⟨u, H3, I3, pu, q3⟩ => ?_)
  rw [evalPart_none]
  refine wpAny_pure ?_
  have I4 : Inv X pins σ H3 { s3 with heap := s3.heap.push { cls := .type "slice", data := .fields #[vl, vu, .none] } } := I3.kept (t' := s3.toks) fun b ob q => Heap.get?_push_of_some _ q
  obtain ⟨T, id, hT, ht, hg⟩ := hr pins { s3 with heap := s3.heap.push { cls := .type "slice", data := .fields #[vl, vu, .none] } } σ H3 x v vl vu l u s3.heap.objs.size Q I4 r1 (Heap.IsSliceOf.new ..) pl pu q3
  show wpAny (model X.prog X.w) X.A (subscriptTail e (.Slice lo hi none p2) v (.ref s3.heap.objs.size)) (EP X pins σ Q) X.xe { s3 with heap := s3.heap.push { cls := .type "slice", data := .fields #[vl, vu, .none] } }
  exact tail_any (ops := [.ref s3.heap.objs.size, v]) ht hT hg (by with_unfolding_all rfl)
def cutV (xs : List V) (lo hi : Option Int) : List V := (xs.drop (HT.sIx xs.length 0 lo)).take (HT.sIx xs.length xs.length hi - HT.sIx xs.length 0 lo)
theorem cutV_length (xs : List V) (lo hi : Option Int) : (cutV xs lo hi).length ≤ xs.length := by
  unfold cutV
  rw [List.length_take, List.length_drop]
  omega
def rSlT (K : PySem.W.Frag) : V → Option Int → Option Int → Hp → VK → Prop := fun x lo hi H Q => ∃ a xs, x = .ref a ∧ SqT K H a xs ∧
  ¬ (HT.sIx xs.length 0 lo = 0 ∧ HT.sIx xs.length xs.length hi = xs.length) ∧ ∀ p, H p = none → Q (.ref p) (upd H p (.tup (cutV xs lo hi)))
theorem sl_tup : SlR X (rSlT X.K) := by
  intro pins s σ H x v vl vu lo hi sl Q I rx hs pl pu h
  obtain ⟨a, xs, rfl, hx, hw, q⟩ := h
  cases rx
  obtain ⟨its, r, ht, hz⟩ := I.tuple hx
  have hlen : its.toArray.size = xs.length := by rw [List.size_toArray]; exact r.length.symm
  refine ⟨"tuple", _, PyProof.Rows.slot_tuple_getitem.lookup, ht.typeIs, ?_⟩
  refine HT.getItem_tuple_cut ht hs pl pu (by rw [hlen]; exact hw) ?_ (by rw [hlen]; exact hz)
  rw [hlen]
  refine ⟨.ref s.heap.objs.size, _, I.laid (t' := s.toks) (o := .tup (cutV xs lo hi)) (fun b ob q => Heap.get?_push_of_some _ q) (Nat.le_refl _) ?_, rfl, q _ (I.hok.fresh (Nat.le_refl _))⟩
  exact ⟨Nat.le_trans (cutV_length xs lo hi) hz, _, (r.drop (HT.sIx xs.length 0 lo)).take (HT.sIx xs.length xs.length hi - HT.sIx xs.length 0 lo), IsTup.new _ _⟩
def rLtT (K : PySem.W.Frag) : R2 := fun x y H Q => ∃ a b ns ms, x = .ref a ∧ y = .ref b ∧ SqT K H a (ns.map V.int) ∧ SqT K H b (ms.map V.int) ∧ Q (.bl (HT.lexLt ns ms)) H
theorem op_ltT (hu : X.A.units < cLine) : OpR X (compareOp .Lt) (rLtT X.K) := by
  intro pins s σ H x y v u Q I rx ry h
  obtain ⟨a, b, ns, ms, rfl, rfl, ha, hb, q⟩ := h
  cases rx
  cases ry
  obtain ⟨its, r1, p1, _⟩ := I.tuple ha
  obtain ⟨its2, r2, p2, _⟩ := I.tuple hb
  have i1 : IntsAre its.toArray.toList ns := intsAre_of r1
  have i2 : IntsAre its2.toArray.toList ms := intsAre_of r2
  exact HT.lt_tupInts p1 p2 i1 i2 hu ⟨.bl (HT.lexLt ns ms), H, I, rfl, q⟩
def rCatT (K : PySem.W.Frag) : R2 := fun x y H Q => ∃ a b xs ys, x = .ref a ∧ y = .ref b ∧ SqT K H a xs ∧ SqT K H b ys ∧ xs ≠ [] ∧ xs.length + ys.length ≤ sizeLine ∧
  (ys = [] → Q (.ref a) H) ∧ (ys ≠ [] → ∀ p, H p = none → Q (.ref p) (upd H p (.tup (xs ++ ys))))
theorem Vals.nil_iff {xs : List V} {us : List Value} (r : Vals xs us) : us = [] ↔ xs = [] := by
  cases r with
  | nil => simp
  | cons _ _ => simp
theorem op_catT : OpR X (binaryOp .Add) (rCatT X.K) := by
  intro pins s σ H x y v u Q I rx ry h
  obtain ⟨a, b, xs, ys, rfl, rfl, ha, hb, hx, hz, q1, q2⟩ := h
  cases rx
  cases ry
  obtain ⟨its, r1, p1, _⟩ := I.tuple ha
  obtain ⟨its2, r2, p2, _⟩ := I.tuple hb
  refine HT.cat_tup p1 p2 (fun z => hx (r1.nil_iff.mp z)) (fun z => ⟨.ref a, H, I, rfl, q1 (r2.nil_iff.mp z)⟩) (fun z => ?_) (by rw [← r1.length, ← r2.length]; exact hz)
  refine ⟨.ref s.heap.objs.size, _, I.laid (t' := s.toks) (o := .tup (xs ++ ys)) (fun b ob q => Heap.get?_push_of_some _ q) (Nat.le_refl _) ?_, rfl, q2 (fun w => z (r2.nil_iff.mpr w)) _ (I.hok.fresh (Nat.le_refl _))⟩
  exact ⟨by rw [List.length_append]; exact hz, _, r1.append r2, IsTup.new _ _⟩
theorem call_tupleT : CallR X (.type "tuple") (fun xs H Q => ∃ a ys, xs = [.ref a] ∧ SqT X.K H a ys ∧ Q (.ref a) H) := by
  intro pins s σ H xs us Q I r h
  obtain ⟨a, ys, rfl, ha, q⟩ := h
  obtain ⟨u, rfl, ru⟩ := vals1 r
  cases ru
  obtain ⟨its, _, p1, _⟩ := I.tuple ha
  exact call_tuple_same (items := its.toArray) p1 ⟨.ref a, H, I, rfl, q⟩
end
end L2
namespace L2
open PySem PySem.Spec PyProof.Rows
def ixN (n : Nat) (i : Int) : Option Nat := if 0 ≤ i then (if i < n then some i.toNat else none) else if -(n : Int) ≤ i then some (i + n).toNat else none
def atI {α : Type} (xs : List α) (i : Int) : Option α := (ixN xs.length i).bind fun j => xs[j]?
theorem ixN_seq {n : Nat} {i : Int} {j : Nat} (h : ixN n i = some j) : seqIndex? i n = some j ∧ j < n ∧ -(n : Int) ≤ i ∧ i < n := by
  unfold ixN at h
  by_cases h0 : 0 ≤ i
  · rw [if_pos h0] at h
    by_cases h1 : i < n
    · rw [if_pos h1] at h
      have e : i.toNat = j := Option.some.inj h
      exact ⟨by rw [seqIndex_of h0 h1, e], by omega, by omega, h1⟩
    · rw [if_neg h1] at h; cases h
  · rw [if_neg h0] at h
    by_cases h1 : -(n : Int) ≤ i
    · rw [if_pos h1] at h
      have e : (i + n).toNat = j := Option.some.inj h
      exact ⟨by rw [seqIndex_neg (by omega) h1, e], by omega, h1, by omega⟩
    · rw [if_neg h1] at h; cases h
theorem atI_get {α : Type} {xs : List α} {i : Int} {v : α} (h : atI xs i = some v) : ∃ j, seqIndex? i xs.length = some j ∧ xs[j]? = some v ∧ j < xs.length ∧ -(xs.length : Int) ≤ i ∧ i < xs.length := by
  unfold atI at h
  cases e : ixN xs.length i with
  | none => rw [e] at h; cases h
  | some j =>
    rw [e] at h
    obtain ⟨h1, h2, h3, h4⟩ := ixN_seq e
    exact ⟨j, h1, h, h2, h3, h4⟩
theorem atI_nat {α : Type} {xs : List α} {j : Nat} {v : α} (h : xs[j]? = some v) : atI xs (j : Int) = some v := by
  have hj : j < xs.length := (List.getElem?_eq_some_iff.mp h).1
  have e : ixN xs.length (j : Int) = some j := by
    unfold ixN
    rw [if_pos (by omega), if_pos (by omega)]; simp
  unfold atI; rw [e]; exact h
theorem atI_last {α : Type} (xs : List α) (v : α) : atI (xs ++ [v]) (-1) = some v := by
  have hl : (xs ++ [v]).length = xs.length + 1 := by simp
  have e : ixN (xs ++ [v]).length (-1) = some xs.length := by
    unfold ixN
    rw [hl, if_neg (by decide), if_pos (by omega)]
    congr 1
    omega
  unfold atI
  rw [e]
  show (xs ++ [v])[xs.length]? = some v
  simp
def PlainIx (b : Expr) : Prop := ∀ o i, subscripted b false o i = operate [o, i] (getItem o i)
def IxR (X : Cx) (r : R2) : Prop :=
  ∀ (value slice : Expr) (pins : List (Addr × Obj)) (s : Shared) (σ : St) (H : Hp) (x y : V) (v u : Value) (Q : VK), Inv X pins σ H s → RelV x v → RelV y u → r x y H Q →
    subscripted slice false v u = operate [v, u] (getItem v u) → wpAny (model X.prog X.w) X.A (subscriptTail value slice v u) (EP X pins σ Q) X.xe s
def MtR (X : Cx) (id : String) (r : V → List V → Hp → VK → Prop) : Prop :=
  ∀ (pins : List (Addr × Obj)) (s : Shared) (σ : St) (H : Hp) (x : V) (xs : List V) (v : Value) (us : List Value) (Q : VK), Inv X pins σ H s → RelV x v → Vals xs us → r x xs H Q →
    wpAny (model X.prog X.w) X.A (call (.builtin id) (v :: us)) (EP X pins σ Q) X.xe s
section
variable {X : Cx} {a b : Expr} {ta tb : TE} {pos : Pos}
theorem IxR.or {r r' : R2} (h : IxR X r) (h' : IxR X r') : IxR X (fun x y H Q => r x y H Q ∨ r' x y H Q) := by
  intro value slice pins s σ H x y v u Q I rx ry q hs
  rcases q with q | q
  · exact h value slice pins s σ H x y v u Q I rx ry q hs
  · exact h' value slice pins s σ H x y v u Q I rx ry q hs
theorem MtR.or {id : String} {r r' : V → List V → Hp → VK → Prop} (h : MtR X id r) (h' : MtR X id r') : MtR X id (fun x xs H Q => r x xs H Q ∨ r' x xs H Q) := by
  intro pins s σ H x xs v us Q I rx rs q
  rcases q with q | q
  · exact h pins s σ H x xs v us Q I rx rs q
  · exact h' pins s σ H x xs v us Q I rx rs q
theorem pe_ix {r : R2} (hr : IxR X r) (ha : PE X a ta) (hb : PE X b tb) (hs : PlainIx b) : PE X (.Subscript a b pos) (tOp r ta tb) := by
  intro pins s σ H Q I h
  exact Subscript_ (binT ha hb I h fun v u s2 x y H2 I2 rx ry q => hr a b pins s2 σ H2 x y v u Q I2 rx ry q (hs _ _))
def rIxL (K : PySem.W.Frag) : R2 := fun x y H Q => ∃ p xs i v, x = .ref p ∧ y = .int i ∧ SqL K H p xs ∧ atI xs i = some v ∧ Q v H
def rIxT (K : PySem.W.Frag) : R2 := fun x y H Q => ∃ p xs i v, x = .ref p ∧ y = .int i ∧ SqT K H p xs ∧ atI xs i = some v ∧ Q v H
def rIxS : R2 := fun x y H Q => ∃ z i c, x = .str z ∧ y = .int i ∧ z.length ≤ sizeLine ∧ atI z.cps.toList i = some c ∧ Q (.str ⟨#[c]⟩) H
theorem ix_list : IxR X (rIxL X.K) := by
  intro value slice pins s σ H x y v u Q I rx ry h hs
  obtain ⟨p, xs, i, z, rfl, rfl, hq, he, q⟩ := h
  cases rx
  obtain ⟨t, rfl⟩ := ry
  obtain ⟨its, r, pl, hz⟩ := I.list hq
  obtain ⟨j, h1, h2, h3, h4, h5⟩ := atI_get he
  obtain ⟨w, ew, rw'⟩ := r.get h2
  have hl := r.length
  have hn := line63
  have fin : EP X pins σ Q w s := ⟨z, H, I, rw', q⟩
  by_cases h0 : 0 ≤ i
  · have hj : i.toNat = j := by
      rw [seqIndex_of h0 h5] at h1
      exact Option.some.inj h1
    exact item_listR pl.isList h0 (by omega) (by rw [hj]; simpa using ew) fin hs
  · have hj : (i + (its.toArray.size : Int)).toNat = j := by
      rw [seqIndex_neg (by omega) h4] at h1
      rw [List.size_toArray, ← hl]
      exact Option.some.inj h1
    exact subscriptTail_builtinR (x := w) pl.isList.typeIs slot_list_getitem.lookup
      (wpAny_getItem_list_neg (Q := fun r s' => r = w ∧ EP X pins σ Q r s') pl.isList (by omega) (by rw [List.size_toArray] <;> omega) (by omega) (by rw [hj]; simpa using ew) ⟨rfl, fin⟩) hs
theorem ix_tup : IxR X (rIxT X.K) := by
  intro value slice pins s σ H x y v u Q I rx ry h hs
  obtain ⟨p, xs, i, z, rfl, rfl, hq, he, q⟩ := h
  cases rx
  obtain ⟨t, rfl⟩ := ry
  obtain ⟨its, r, pl, hz⟩ := I.tuple hq
  obtain ⟨j, h1, h2, h3, h4, h5⟩ := atI_get he
  obtain ⟨w, ew, rw'⟩ := r.get h2
  have hl := r.length
  have hn := line63
  have fin : EP X pins σ Q w s := ⟨z, H, I, rw', q⟩
  exact subscriptTail_builtinR (x := w) pl.typeIs slot_tuple_getitem.lookup
    (getItem_tuple (j := j) (Q := fun r s' => r = w ∧ EP X pins σ Q r s') pl (by omega) (by omega) (by rw [List.size_toArray, ← hl]; exact h1) (by simpa using ew) ⟨rfl, fin⟩) hs
theorem ix_str : IxR X rIxS := by
  intro value slice pins s σ H x y v u Q I rx ry h hs
  obtain ⟨z, i, c, rfl, rfl, hz, he, q⟩ := h
  obtain ⟨t, rfl⟩ := rx
  obtain ⟨t', rfl⟩ := ry
  obtain ⟨j, h1, h2, h3, h4, h5⟩ := atI_get he
  have hl : z.cps.toList.length = z.length := by simp [Str.length]
  rw [hl] at h1 h4 h5
  have hn := line63
  exact tail_any (typeIs_str s z t) slot_str_getitem.lookup (getItem_str (c := c) (by
    have e1 : decide (i < -(2 ^ 63 : Int)) = false := decide_eq_false (by omega)
    have e2 : decide (i ≥ 2 ^ 63) = false := decide_eq_false (by omega)
    rw [e1, e2, Bool.or_false]) (by rw [h1]; simpa using h2) ⟨.str ⟨#[c]⟩, H, I.tok _, ⟨_, rfl⟩, q⟩) hs
def rIx (K : PySem.W.Frag) : R2 := fun x y H Q => rIxL K x y H Q ∨ rIxT K x y H Q ∨ rIxS x y H Q
theorem ix_seq : IxR X (rIx X.K) := ix_list.or (ix_tup.or ix_str)
theorem mapSeq_set (its : List Value) (n j : Nat) (u : Value) : Obj.mapSeq (·.setIfInBounds j u) { cls := .type "list", data := .seq its.toArray n } = { cls := .type "list", data := .seq (its.set j u).toArray n } := by
  simp [Obj.mapSeq]
theorem Inv.lst {pins : List (Addr × Obj)} {σ : St} {H : Hp} {s : Shared} {p : Addr} {xs : List V} (I : Inv X pins σ H s) (h : H p = some (.lst xs)) :
    ∃ (its : List Value) (n : Nat), Vals xs its ∧ s.heap.get? p = some { cls := .type "list", data := .seq its.toArray n } ∧ xs.length ≤ sizeLine := by
  obtain ⟨z, its, n, r, e⟩ := I.hok p _ h
  exact ⟨its, n, r, e, z⟩
theorem Inv.lstUpd {pins : List (Addr × Obj)} {σ : St} {H : Hp} {s : Shared} {p : Addr} {xs ys : List V} {its its' : List Value} {n n' : Nat} {f : Obj → Obj} (I : Inv X pins σ H s) (h : H p = some (.lst xs))
    (ho : s.heap.get? p = some { cls := .type "list", data := .seq its.toArray n }) (hf : f { cls := .type "list", data := .seq its.toArray n } = { cls := .type "list", data := .seq its'.toArray n' }) (r : Vals ys its') (hz : ys.length ≤ sizeLine) (t : Nat) :
    Inv X pins σ (upd H p (.lst ys)) { s with heap := s.heap.update p f, toks := t } := by
  have e : (s.heap.update p f).get? p = some { cls := .type "list", data := .seq its'.toArray n' } := by
    rw [Heap.get?_update_self f ho (by rw [hf] <;> rfl), hf]
  refine I.write (x := p) (e := p) (by rw [h]; trivial) (.inl rfl) (fun b u hb q => (Heap.get?_update_other _ _ (Ne.symm hb)).trans q) ⟨_, e⟩ ?_
  exact ⟨hz, its', n', r, e⟩
def rSetL : V → V → V → Hp → (Hp → Prop) → Prop := fun o i v H Q => ∃ p xs k j, o = .ref p ∧ i = .int k ∧ H p = some (.lst xs) ∧ ixN xs.length k = some j ∧ Q (upd H p (.lst (xs.set j v)))
theorem set_list : PSet X rSetL := by
  intro pins s σ H o i v ov iv u Q I ro ri rv h
  obtain ⟨p, xs, k, j, rfl, rfl, hp, hj, q⟩ := h
  cases ro
  obtain ⟨t, rfl⟩ := ri
  obtain ⟨its, n, r, ho, hz⟩ := I.lst hp
  obtain ⟨h1, h2, h3, h4⟩ := ixN_seq hj
  have hl := r.length
  have hn := line63
  have I' : Inv X pins σ (upd H p (.lst (xs.set j v))) { s with heap := s.heap.update p (Obj.mapSeq (·.setIfInBounds j u)) } :=
    I.lstUpd hp ho (mapSeq_set its n j u) (r.set rv j) (by rw [List.length_set]; exact hz) s.toks
  by_cases h0 : 0 ≤ k
  · have hk : k.toNat = j := by
      rw [seqIndex_of h0 h4] at h1
      exact Option.some.inj h1
    exact PySem.W.ki_setAt ho h0 (by omega) (by rw [List.size_toArray, ← hl]; exact h4) (by rw [hk]; exact ⟨_, I', q⟩)
  · have hk : (k + (its.toArray.size : Int)).toNat = j := by
      rw [seqIndex_neg (by omega) h3] at h1
      rw [List.size_toArray, ← hl]
      exact Option.some.inj h1
    exact PySem.W.ki_setBack ho (by omega) (by rw [List.size_toArray, ← hl]; exact h3) (by omega) (by rw [hk]; exact ⟨_, I', q⟩)
theorem slice_bounds (lo hi : Option Int) (n : Nat) : (sliceBounds lo hi none n).1 = ((HT.sIx n 0 lo : Nat) : Int) ∧ (sliceBounds lo hi none n).2.1 = ((HT.sIx n n hi : Nat) : Int) ∧ (sliceBounds lo hi none n).2.2 = 1 := by
  refine ⟨?_, ?_, rfl⟩
  · cases lo with
    | none => simp [sliceBounds, HT.sIx]
    | some i =>
      simp only [sliceBounds, HT.sIx, Option.getD_none, show (1 : Int) > 0 by decide, if_true]
      by_cases h : i < 0
      · simp only [h, if_true] <;> omega
      · simp only [h, if_false] <;> omega
  · cases hi with
    | none => simp [sliceBounds, HT.sIx]
    | some i =>
      simp only [sliceBounds, HT.sIx, Option.getD_none, show (1 : Int) > 0 by decide, if_true]
      by_cases h : i < 0
      · simp only [h, if_true] <;> omega
      · simp only [h, if_false] <;> omega
theorem slicePick_cut (its : List Value) (lo hi : Option Int) : slicePick its.toArray lo hi none = ((its.drop (HT.sIx its.length 0 lo)).take (HT.sIx its.length its.length hi - HT.sIx its.length 0 lo)).toArray := by
  obtain ⟨h1, h2, h3⟩ := slice_bounds lo hi its.toArray.size
  unfold slicePick
  rw [h1, h2, h3]
  simp only [sliceRange_one, pick_run, List.size_toArray] <;> rfl
def rSlL (K : PySem.W.Frag) : V → Option Int → Option Int → Hp → VK → Prop := fun x lo hi H Q => ∃ a xs, x = .ref a ∧ SqL K H a xs ∧ ∀ p, H p = none → Q (.ref p) (upd H p (.lst (cutV xs lo hi)))
theorem sl_list : SlR X (rSlL X.K) := by
  intro pins s σ H x v vl vu lo hi sl Q I rx hs pl pu h
  obtain ⟨a, xs, rfl, hx, q⟩ := h
  cases rx
  obtain ⟨its, r, ht, hz⟩ := I.list hx
  have hlen := r.length
  refine ⟨"list", _, slot_list_getitem.lookup, ht.isList.typeIs, ?_⟩
  refine wpAny_getItem_list_slice ht.isList hs pl pu .none (by simp) ?_ (by rw [List.size_toArray] <;> omega)
  rw [slicePick_cut, ← hlen]
  refine ⟨.ref s.heap.objs.size, _, I.laid (t' := s.toks) (o := .lst (cutV xs lo hi)) (fun b ob q => Heap.get?_push_of_some _ q) (Nat.le_refl _) ?_, rfl, q _ (I.hok.fresh (Nat.le_refl _))⟩
  exact ⟨Nat.le_trans (cutV_length xs lo hi) hz, _, 0, (r.drop (HT.sIx xs.length 0 lo)).take (HT.sIx xs.length xs.length hi - HT.sIx xs.length 0 lo), Heap.get?_push_size _ rfl⟩
def flatV : V → Bool
  | .non => true
  | .bl _ => true
  | .int _ => true
  | .str _ => true
  | _ => false
def eqV : V → V → Bool
  | .non, .non => true
  | .bl a, .bl b => a == b
  | .bl a, .int b => (if a then 1 else 0) == b
  | .int a, .bl b => a == (if b then 1 else 0)
  | .int a, .int b => a == b
  | .str a, .str b => a == b
  | _, _ => false
theorem eqAt_V {A : Around} {s : Shared} {y x : V} {u v : Value} (ry : RelV y u) (rx : RelV x v) (fy : flatV y = true) (fx : flatV x = true) : SeqAt.EqAt A s u v (eqV y x) := by
  cases y with
  | non =>
    cases ry
    cases x with
    | non => cases rx; exact SeqAt.EqAt.same _
    | bl b => cases rx; exact SeqAt.EqAt.none_bool b
    | int b => obtain ⟨t, rfl⟩ := rx; exact SeqAt.EqAt.none_int b t
    | str b => obtain ⟨t, rfl⟩ := rx; exact SeqAt.EqAt.none_str b t
    | _ => exact absurd (show false = true from fx) Bool.false_ne_true
  | bl a =>
    cases ry
    cases x with
    | non => cases rx; exact SeqAt.EqAt.bool_none a
    | bl b => cases rx; exact SeqAt.EqAt.bool_bool a b
    | int b => obtain ⟨t, rfl⟩ := rx; exact SeqAt.EqAt.bool_int a b t
    | str b => obtain ⟨t, rfl⟩ := rx; exact SeqAt.EqAt.bool_str a b t
    | _ => exact absurd (show false = true from fx) Bool.false_ne_true
  | int a =>
    obtain ⟨t', rfl⟩ := ry
    cases x with
    | non => cases rx; exact SeqAt.EqAt.int_none a t'
    | bl b => cases rx; exact SeqAt.EqAt.int_bool a t' b
    | int b => obtain ⟨t, rfl⟩ := rx; exact SeqAt.EqAt.int_int a t' b t
    | str b => obtain ⟨t, rfl⟩ := rx; exact SeqAt.EqAt.int_str a t' b t
    | _ => exact absurd (show false = true from fx) Bool.false_ne_true
  | str a =>
    obtain ⟨t', rfl⟩ := ry
    cases x with
    | non => cases rx; exact SeqAt.EqAt.str_none a t'
    | bl b => cases rx; exact SeqAt.EqAt.str_bool a t' b
    | int b => obtain ⟨t, rfl⟩ := rx; exact SeqAt.EqAt.str_int a t' b t
    | str b => obtain ⟨t, rfl⟩ := rx; exact SeqAt.EqAt.str_str a t' b t
    | _ => exact absurd (show false = true from fx) Bool.false_ne_true
  | _ => exact absurd (show false = true from fy) Bool.false_ne_true
def eqU (x : V) (u : Value) : Bool := match u with
  | .none => eqV .non x
  | .bool b => eqV (.bl b) x
  | .int i _ => eqV (.int i) x
  | .str z _ => eqV (.str z) x
  | _ => false
theorem eqU_of {x y : V} {u : Value} (r : RelV y u) (f : flatV y = true) : eqU x u = eqV y x := by
  cases y with
  | non => cases r; rfl
  | bl b => cases r; rfl
  | int i => obtain ⟨t, rfl⟩ := r; rfl
  | str z => obtain ⟨t, rfl⟩ := r; rfl
  | _ => exact absurd (show false = true from f) Bool.false_ne_true
theorem any_eqU {x : V} : ∀ {xs : List V} {us : List Value}, Vals xs us → xs.all flatV = true → us.any (eqU x) = xs.any fun y => eqV y x
  | _, _, .nil, _ => rfl
  | y :: xs, u :: us, .cons r t, f => by
    rw [List.all_cons, Bool.and_eq_true] at f
    rw [List.any_cons, List.any_cons, eqU_of r f.1, any_eqU t f.2]
theorem mem_eqAt {A : Around} {s : Shared} {x : V} {v : Value} (rx : RelV x v) (fx : flatV x = true) : ∀ {xs : List V} {us : List Value}, Vals xs us → xs.all flatV = true → ∀ u ∈ us, SeqAt.EqAt A s u v (eqU x u)
  | _, _, .nil, _ => fun u hu => by cases hu
  | y :: xs, u :: us, .cons r t, f => fun u' hu => by
    rw [List.all_cons, Bool.and_eq_true] at f
    rcases List.mem_cons.mp hu with rfl | hu
    · rw [eqU_of r f.1]; exact eqAt_V r rx f.1 fx
    · exact mem_eqAt rx fx t f.2 u' hu
def inV (x : V) (xs : List V) : Bool := xs.any fun y => eqV y x
def rIn (K : PySem.W.Frag) (neg : Bool) : R2 := fun x y H Q => ∃ p xs, y = .ref p ∧ (SqL K H p xs ∨ SqT K H p xs) ∧ flatV x = true ∧ xs.all flatV = true ∧ Q (.bl (if neg then !inV x xs else inV x xs)) H
theorem op_in_seq : OpR X (compareOp .In) (rIn X.K false) := by
  intro pins s σ H x y v u Q I rx ry h
  obtain ⟨p, xs, rfl, hq, fx, fs, q⟩ := h
  cases ry
  rcases hq with hq | hq
  · obtain ⟨its, r, pl, hz⟩ := I.list hq
    refine SeqAt.in_listAt (eqU x) pl.isList (fun w hw => mem_eqAt rx fx r fs w (by simpa using hw)) ⟨.bl _, H, I, rfl, ?_⟩
    rw [show its.toArray.any (eqU x) = its.any (eqU x) by simp, any_eqU r fs]
    exact q
  · obtain ⟨its, r, pl, hz⟩ := I.tuple hq
    refine SeqAt.in_tupleAt (eqU x) pl (fun w hw => mem_eqAt rx fx r fs w (by simpa using hw)) ⟨.bl _, H, I, rfl, ?_⟩
    rw [show its.toArray.any (eqU x) = its.any (eqU x) by simp, any_eqU r fs]
    exact q
theorem op_notIn_seq : OpR X (compareOp .NotIn) (rIn X.K true) := by
  intro pins s σ H x y v u Q I rx ry h
  obtain ⟨p, xs, rfl, hq, fx, fs, q⟩ := h
  cases ry
  rcases hq with hq | hq
  · obtain ⟨its, r, pl, hz⟩ := I.list hq
    refine SeqAt.notIn_listAt (eqU x) pl.isList (fun w hw => mem_eqAt rx fx r fs w (by simpa using hw)) ⟨.bl _, H, I, rfl, ?_⟩
    rw [show its.toArray.any (eqU x) = its.any (eqU x) by simp, any_eqU r fs]
    exact q
  · obtain ⟨its, r, pl, hz⟩ := I.tuple hq
    refine SeqAt.notIn_tupleAt (eqU x) pl (fun w hw => mem_eqAt rx fx r fs w (by simpa using hw)) ⟨.bl _, H, I, rfl, ?_⟩
    rw [show its.toArray.any (eqU x) = its.any (eqU x) by simp, any_eqU r fs]
    exact q
theorem op_notIn_str : OpR X (compareOp .NotIn) (fun x y H Q => ∃ i j, x = .str i ∧ y = .str j ∧ Q (.bl (!(!(Builtin.Str.occurrences j i 0 j.length 1).isEmpty))) H) := by
  intro pins s σ H x y v u Q I rx ry h
  obtain ⟨i, j, rfl, rfl, q⟩ := h
  obtain ⟨t, rfl⟩ := rx
  obtain ⟨t', rfl⟩ := ry
  exact notIn_str ⟨.bl _, H, I, rfl, q⟩
theorem call_len_seq : CallR X (.builtin "len") (fun xs H Q => ∃ p ys, xs = [.ref p] ∧ (SqL X.K H p ys ∨ SqT X.K H p ys) ∧ Q (.int ys.length) H) := by
  intro pins s σ H xs us Q I r h
  obtain ⟨p, ys, rfl, hq, q⟩ := h
  obtain ⟨u, rfl, rx⟩ := vals1 r
  cases rx
  have hn := line63
  rcases hq with hq | hq
  · obtain ⟨its, r', pl, hz⟩ := I.list hq
    have hlen := r'.length
    exact Calls.call_len_list pl.isList (by simp only [List.size_toArray] <;> omega) ⟨.int ys.length, H, I.tok _, ⟨s.toks + 1, by rw [List.size_toArray, hlen]⟩, q⟩
  · obtain ⟨its, r', pl, hz⟩ := I.tuple hq
    have hlen := r'.length
    exact len_tuple pl (by simp only [List.size_toArray] <;> omega) ⟨.int ys.length, H, I.tok _, ⟨s.toks + 1, by rw [List.size_toArray, hlen]⟩, q⟩
theorem call_len_str : CallR X (.builtin "len") (fun xs H Q => ∃ z, xs = [.str z] ∧ z.length ≤ sizeLine ∧ Q (.int z.length) H) := by
  intro pins s σ H xs us Q I r h
  obtain ⟨z, rfl, hz, q⟩ := h
  obtain ⟨u, rfl, t, rfl⟩ := vals1 r
  have hn := line63
  exact len_str (by omega) ⟨.int z.length, H, I.tok _, ⟨_, rfl⟩, q⟩
theorem CallR.or {f : Value} {r r' : List V → Hp → VK → Prop} (h : CallR X f r) (h' : CallR X f r') : CallR X f (fun xs H Q => r xs H Q ∨ r' xs H Q) := by
  intro pins s σ H xs us Q I rs q
  rcases q with q | q
  · exact h pins s σ H xs us Q I rs q
  · exact h' pins s σ H xs us Q I rs q
theorem call_list_of : CallR X (.type "list") (fun xs H Q => ∃ p ys, xs = [.ref p] ∧ (SqL X.K H p ys ∨ SqT X.K H p ys) ∧ ∀ l, H l = none → Q (.ref l) (upd H l (.lst ys))) := by
  intro pins s σ H xs us Q I r h
  obtain ⟨p, ys, rfl, hq, q⟩ := h
  obtain ⟨u, rfl, rx⟩ := vals1 r
  cases rx
  have fin : ∀ (its : List Value), Vals ys its → ys.length ≤ sizeLine → ∀ (h' : Heap) (c' : Nat), (∀ b o', s.heap.get? b = some o' → h'.get? b = some o') →
      h'.get? s.heap.objs.size = some { cls := .type "list", dict := none, data := .seq its.toArray c', slots := #[] } → EP X pins σ Q (.ref s.heap.objs.size) { s with heap := h' } := fun its r' hz h' c' kp e =>
    ⟨.ref s.heap.objs.size, _, I.laid (t' := s.toks) kp (Nat.le_refl _) (show ObjOk X.prog X.w _ h' _ (.lst ys) from ⟨hz, its, c', r', e⟩), rfl, q _ (I.hok.fresh (Nat.le_refl _))⟩
  rcases hq with hq | hq
  · obtain ⟨its, r', pl, hz⟩ := I.list hq
    have hlen := r'.length
    obtain ⟨o, ho, hc, n, hd⟩ := pl.isList
    exact call_list_seq p (.inl rfl) ho hc hd (fun h' c' kp e => fin its r' hz h' c' kp e) (by simp only [List.size_toArray] <;> omega)
  · obtain ⟨its, r', pl, hz⟩ := I.tuple hq
    have hlen := r'.length
    obtain ⟨o, ho, hc, n, hd⟩ := pl
    exact call_list_seq p (.inr rfl) ho hc hd (fun h' c' kp e => fin its r' hz h' c' kp e) (by simp only [List.size_toArray] <;> omega)
theorem call_tuple_of : CallR X (.type "tuple") (fun xs H Q => ∃ p ys, xs = [.ref p] ∧ ((SqL X.K H p ys ∧ ∀ l, H l = none → Q (.ref l) (upd H l (.tup ys))) ∨ (SqT X.K H p ys ∧ Q (.ref p) H))) := by
  intro pins s σ H xs us Q I r h
  obtain ⟨p, ys, rfl, h⟩ := h
  obtain ⟨u, rfl, rx⟩ := vals1 r
  cases rx
  rcases h with ⟨hq, q⟩ | ⟨hq, q⟩
  · obtain ⟨its, r', pl, hz⟩ := I.list hq
    have hlen := r'.length
    refine call_tuple_list pl.isList (fun h' kp => ?_) (by simp only [List.size_toArray] <;> omega)
    have I1 : Inv X pins σ H { s with heap := h' } := I.kept (t' := s.toks) kp
    have I2 : Inv X pins σ (upd H h'.objs.size (.tup ys)) { s with heap := h'.push { cls := .type "tuple", data := .seq its.toArray } } :=
      I1.laid (t' := s.toks) (fun b o e => Heap.get?_push_of_some _ e) (Nat.le_refl _) (show ObjOk X.prog X.w _ _ _ (.tup ys) from ⟨hz, its, r', IsTup.new _ _⟩)
    exact ⟨.ref h'.objs.size, _, I2, rfl, q _ (I1.hok.fresh (Nat.le_refl _))⟩
  · obtain ⟨its, r', pl, hz⟩ := I.tuple hq
    exact call_tuple_same pl ⟨.ref p, H, I, rfl, q⟩
def tyV (K : PySem.W.Frag) (T : String) (x : V) (H : Hp) : Prop := match x with
  | .str _ => T = "str"
  | .int _ => T = "int"
  | .ref p => (T = "list" ∧ ∃ xs, SqL K H p xs) ∨ (T = "tuple" ∧ ∃ o, K.lookup p = some o ∧ o.cls = .type "tuple" ∧ o.dict = none) ∨
      (T = "dict" ∧ ((∃ kvs, H p = some (.dK kvs)) ∨ ∃ kvs, H p = some (.dT kvs))) ∨ (T = "set" ∧ ∃ S n, H p = some (.set S n))
  | _ => False
theorem tyV_is {pins : List (Addr × Obj)} {σ : St} {H : Hp} {s : Shared} {T : String} {x : V} {v : Value} (I : Inv X pins σ H s) (r : RelV x v) (ty : tyV X.K T x H) :
    s.TypeIs v T ∧ ∀ a, v = .ref a → ∃ ob, s.heap.get? a = some ob ∧ ob.dict = none := by
  cases x with
  | str z =>
    obtain ⟨t, rfl⟩ := r
    cases (show T = "str" from ty)
    exact ⟨typeIs_str s z t, fun _ e => nomatch e⟩
  | int i =>
    obtain ⟨t, rfl⟩ := r
    cases (show T = "int" from ty)
    exact ⟨typeIs_int s i t, fun _ e => nomatch e⟩
  | ref p =>
    cases r
    rcases ty with ⟨rfl, xs, hq⟩ | ⟨rfl, o, hk, hc, hd⟩ | ⟨rfl, hk⟩ | ⟨rfl, S, n, hk⟩
    · obtain ⟨its, _, pl, _⟩ := I.list hq
      refine ⟨pl.isList.typeIs, fun a e => ?_⟩
      cases e
      obtain ⟨o, n, e, c, hd, _⟩ := pl
      exact ⟨o, e, hd⟩
    · refine ⟨⟨o, I.kIn p o hk, hc⟩, fun a e => ?_⟩
      cases e
      exact ⟨o, I.kIn _ o hk, hd⟩
    · have z : ∃ o, s.heap.get? p = some o ∧ o.ExactDict := by
        rcases hk with ⟨kvs, hk⟩ | ⟨kvs, hk⟩
        · obtain ⟨_, _, _, _, o, _, _, e, ex, _⟩ := I.hok p _ hk
          exact ⟨o, e, ex⟩
        · obtain ⟨_, _, _, _, o, _, _, e, ex, _⟩ := I.hok p _ hk
          exact ⟨o, e, ex⟩
      obtain ⟨o, e, ex⟩ := z
      refine ⟨⟨o, e, ex.1⟩, fun a e2 => ?_⟩
      cases e2
      exact ⟨o, e, ex.2.1⟩
    · obtain ⟨o, _, _, _, e, ex, _⟩ := I.hok p _ hk
      refine ⟨⟨o, e, ex.1⟩, fun a e2 => ?_⟩
      cases e2
      exact ⟨o, e, ex.2.1⟩
  | _ => exact False.elim ty
def tBM0 (K : PySem.W.Frag) (T : String) (r : V → List V → Hp → VK → Prop) (to : TE) : TE := fun σ H Q => to σ H fun x H1 => tyV K T x H1 ∧ r x [] H1 Q
def tBM (K : PySem.W.Frag) (T : String) (r : V → List V → Hp → VK → Prop) (to : TE) (t : TA) : TE := fun σ H Q => to σ H fun x H1 => tyV K T x H1 ∧ t σ H1 fun xs H2 => r x xs H2 Q
variable {o e : Expr} {es : List Expr} {to : TE} {t : TA} {name : Str} {apos cpos : Pos} {T id : String} {r : V → List V → Hp → VK → Prop}
theorem pe_bm0 (pa : PlainAttrs T) (slot : Slot T name id) (hty : typeOf (.builtin id) = pure (.type "method_descriptor")) (hm : MtR X id r) (ho : PE X o to)
    (hbase : attributeBase o name X.env (eval o X.env) = eval o X.env := by rfl) (hline : (apos.endLine == cpos.line) = true := by rfl) : PE X (.Call (.Attribute o name apos) [] [] cpos) (tBM0 X.K T r to) := by
  intro pins s σ H Q I h
  refine wpAny_Call_method0_late hbase hline (thn (ho pins s σ H _ I h) fun v s1 ⟨x, H1, I1, r1, ty, q1⟩ => ?_)
  obtain ⟨h1, h2⟩ := tyV_is I1 r1 ty
  exact ⟨T, id, pa, slot, hty, h1, h2, Calls.callWith_builtin rfl (PySem.evalArgs_none (hm pins s1 σ H1 x [] v [] Q I1 r1 .nil q1))⟩
theorem pe_bm (pa : PlainAttrs T) (slot : Slot T name id) (hty : typeOf (.builtin id) = pure (.type "method_descriptor")) (hm : MtR X id r) (ho : PE X o to) (ha : PA X (e :: es) t)
    (hbase : attributeBase o name X.env (eval o X.env) = eval o X.env := by rfl)
    (hfew : ((backTo cpos (starEach (e :: es) X.env)).all (fun x => !x.1) && (backToKw cpos (keywordEach [] X.env)).all (fun x => x.1.isSome)
      && decide ((e :: es).length + ([] : List Keyword).length + (if ([] : List Keyword).isEmpty then 0 else 1) < 30)) = true := by rfl)
    (hline : (apos.endLine == cpos.line) = true := by rfl) (hs : starEach (e :: es) X.env = (false, eval e X.env) :: starEach es X.env := by rfl) (hplain : (backTo cpos (starEach es X.env)).any (·.1) = false := by rfl) :
    PE X (.Call (.Attribute o name apos) (e :: es) [] cpos) (tBM X.K T r to t) := by
  intro pins s σ H Q I h
  refine wpAny_Call_method_late hbase hfew hline rfl (thn (ho pins s σ H _ I h) fun v s1 ⟨x, H1, I1, r1, ty, q1⟩ => ?_)
  obtain ⟨h1, h2⟩ := tyV_is I1 r1 ty
  refine ⟨T, id, pa, slot, hty, h1, h2, ?_⟩
  have hA := ha cpos pins s1 σ H1 _ I1 q1
  rw [hs] at hA ⊢
  refine Calls.callWith_builtin (by show (false || (backTo cpos (starEach es X.env)).any (·.1)) = false; rw [hplain] <;> rfl) (Calls.evalArgs_plain ?_)
  exact thn hA fun us s2 ⟨vs, H2, I2, r2, q2⟩ => hm pins s2 σ H2 x vs v us Q I2 r1 r2 q2
/- xs.append(e), list.index on a module's tuple .. are MtR facts of 06m -/
end
end L2
namespace L2
open PySem PySem.Spec PyProof.Rows
def MtM (X : Cx) (id : String) (r : V → List V → Hp → VK → Prop) : Prop :=
  ∀ (pins : List (Addr × Obj)) (s : Shared) (σ : St) (H : Hp) (x : V) (xs : List V) (v : Value) (us : List Value) (Q : VK), Inv X pins σ H s → RelV x v → Vals xs us → r x xs H Q →
    wpAny (model X.prog X.w) X.A (call (.builtin id) (v :: us)) (EP X pins σ Q) X.xe s
theorem Vals.one : ∀ {x : V} {us : List Value}, Vals [x] us → ∃ u, us = [u] ∧ RelV x u
  | _, _, .cons r .nil => ⟨_, rfl, r⟩
theorem Vals.two : ∀ {x y : V} {us : List Value}, Vals [x, y] us → ∃ u v, us = [u, v] ∧ RelV x u ∧ RelV y v
  | _, _, _, .cons r (.cons q .nil) => ⟨_, _, rfl, r, q⟩
theorem Vals.zero : ∀ {us : List Value}, Vals [] us → us = []
  | _, .nil => rfl
theorem Vals.dropLast {xs : List V} {us : List Value} (h : Vals xs us) : Vals xs.dropLast us.dropLast := by
  induction h with
  | nil => exact .nil
  | cons r t ih =>
    cases t with
    | nil => exact .nil
    | cons q t' => exact .cons r ih
theorem Vals.eraseIdx : ∀ {xs : List V} {us : List Value} (i : Nat), Vals xs us → Vals (xs.eraseIdx i) (us.eraseIdx i)
  | _, _, _, .nil => .nil
  | _, _, 0, .cons _ t => t
  | _, _, i + 1, .cons r t => .cons r (Vals.eraseIdx i t)
theorem Vals.reverse {xs : List V} {us : List Value} (h : Vals xs us) : Vals xs.reverse us.reverse := by
  induction h with
  | nil => exact .nil
  | cons r t ih => rw [List.reverse_cons, List.reverse_cons]; exact Vals.append ih (.cons r .nil)
theorem Vals.rep {xs : List V} {us : List Value} (h : Vals xs us) : ∀ k : Nat, Vals (List.replicate k xs).flatten (List.replicate k us).flatten
  | 0 => .nil
  | k + 1 => by
    rw [List.replicate_succ, List.replicate_succ, List.flatten_cons, List.flatten_cons]
    exact Vals.append h (Vals.rep h k)
theorem erase_last {α : Type} (l : List α) : l.eraseIdx (l.length - 1) = l.dropLast := by
  induction l with
  | nil => rfl
  | cons a r ih =>
    cases r with
    | nil => rfl
    | cons b r =>
      have e : (a :: b :: r).length - 1 = ((b :: r).length - 1) + 1 := by
        have h1 : (a :: b :: r).length = r.length + 2 := rfl
        have h2 : (b :: r).length = r.length + 1 := rfl
        omega
      rw [e, List.eraseIdx_cons_succ, ih]
      all_goals rfl
theorem len_erase {α : Type} : ∀ (l : List α) (i : Nat), (l.eraseIdx i).length ≤ l.length
  | [], _ => Nat.le_refl _
  | _ :: _, 0 => Nat.le_succ _
  | _ :: r, i + 1 => Nat.succ_le_succ (len_erase r i)
theorem foldl_rep (its : List Value) : ∀ (k : Nat) (acc : List Value),
    List.foldl (fun x1 x2 => x1 ++ x2) acc.toArray (List.replicate k its.toArray) = (acc ++ (List.replicate k its).flatten).toArray
  | 0, acc => by simp
  | k + 1, acc => by
    have e : acc.toArray ++ its.toArray = (acc ++ its).toArray := by simp
    have e2 : (acc ++ its) ++ (List.replicate k its).flatten = acc ++ (List.replicate (k + 1) its).flatten := by
      rw [List.replicate_succ, List.flatten_cons, List.append_assoc]
    rw [← e2, ← foldl_rep its k (acc ++ its), ← e, List.replicate_succ, List.foldl_cons]
section
variable {X : Cx} {pins : List (Addr × Obj)} {σ : St} {H : Hp} {s : Shared} {l b : Addr} {xs ys zs : List V}
theorem Inv.lset {its its' : List Value} {n : Nat} {f : Array Value → Array Value} {t' : Nat} (I : Inv X pins σ H s) (hH : H l = some (.lst xs))
    (e : s.heap.get? l = some { cls := .type "list", data := .seq its.toArray n }) (hf : f its.toArray = its'.toArray) (hv : Vals ys its') (hz : ys.length ≤ sizeLine) :
    Inv X pins σ (upd H l (.lst ys)) { s with heap := s.heap.update l (Obj.mapSeq f), toks := t' } := by
  have q := PySem.IsL.update e f
  rw [hf] at q
  refine I.write (x := l) (e := l) (by rw [hH]; exact trivial) (.inl rfl) (fun b' u hb hu => (Heap.get?_update_other s.heap (Obj.mapSeq f) (Ne.symm hb)).trans hu) ⟨_, q⟩ ?_
  exact ⟨hz, its', _, hv, q⟩
theorem Inv.lnew {its : List Value} {t' : Nat} (I : Inv X pins σ H s) (hv : Vals ys its) (hz : ys.length ≤ sizeLine) :
    Inv X pins σ (upd H s.heap.objs.size (.lst ys)) { s with heap := s.heap.push { cls := .type "list", data := .seq its.toArray }, toks := t' } :=
  I.laid (fun _ _ q => Heap.get?_push_of_some _ q) (Nat.le_refl _) ⟨hz, its, 0, hv, Heap.get?_push_size _ rfl⟩
theorem Inv.fresh (I : Inv X pins σ H s) : H s.heap.objs.size = none := I.hok.fresh (Nat.le_refl _)
theorem Inv.lstM (I : Inv X pins σ H s) (hH : H l = some (.lst xs)) : xs.length ≤ sizeLine ∧ ∃ (its : List Value) (n : Nat), Vals xs its ∧ xs.length = its.length ∧ s.heap.get? l = some { cls := .type "list", data := .seq its.toArray n } := by
  obtain ⟨z, its, n, r, e⟩ := I.hok l _ hH
  exact ⟨z, its, n, r, r.length, e⟩
theorem notLongL {n : Nat} (h : n ≤ sizeLine) : Builtin.List.listTooLong n = false := by
  unfold Builtin.List.listTooLong
  exact decide_eq_false (by omega)
end
section
variable {X : Cx}
def rAppend : V → List V → Hp → VK → Prop := fun x vs H Q => ∃ l xs y, x = .ref l ∧ vs = [y] ∧ H l = some (.lst xs) ∧ xs.length < sizeLine ∧ Q .non (upd H l (.lst (xs ++ [y])))
theorem mt_append : MtM X "list.append" rAppend := by
  intro pins s σ H x vs v us Q I rx rv h
  obtain ⟨l, xs, y, rfl, rfl, hH, hz, q⟩ := h
  cases rx
  obtain ⟨u, rfl, ru⟩ := rv.one
  obtain ⟨z, its, n, r, hl, e⟩ := I.lstM hH
  refine call_meets F.slot_list_append ⟨_, e, rfl⟩ F.entry_list_append (F.args_list_append_2 _ _) (PySem.list_append l its.toArray n u (by rw [List.size_toArray]; omega)) ⟨e, ?_⟩
  refine ⟨.non, _, I.lset (its' := its ++ [u]) hH e (by simp) (r.append (.cons ru .nil)) ?_, rfl, q⟩
  rw [List.length_append, List.length_singleton]
  omega
def rExtend : V → List V → Hp → VK → Prop := fun x vs H Q => ∃ l b xs zs, x = .ref l ∧ vs = [.ref b] ∧ H l = some (.lst xs) ∧ H b = some (.lst zs) ∧ xs.length + zs.length ≤ sizeLine ∧ Q .non (upd H l (.lst (xs ++ zs)))
theorem mt_extend : MtM X "list.extend" rExtend := by
  intro pins s σ H x vs v us Q I rx rv h
  obtain ⟨l, b, xs, zs, rfl, rfl, hH, hB, hz, q⟩ := h
  cases rx
  obtain ⟨u, rfl, ru⟩ := rv.one
  cases ru
  obtain ⟨z, its, n, r, hl, e⟩ := I.lstM hH
  obtain ⟨z2, its2, n2, r2, hl2, e2⟩ := I.lstM hB
  have hsz : its.toArray.size + its2.toArray.size ≤ sizeLine := by rw [List.size_toArray, List.size_toArray]; omega
  have hlong : ¬ (!its.toArray.isEmpty && Builtin.List.listTooLong (its.toArray.size + its2.toArray.size)) = true := by
    rw [notLongL hsz, Bool.and_false]
    exact Bool.false_ne_true
  refine call_meets F.slot_list_extend ⟨_, e, rfl⟩ F.entry_list_extend (F.args_list_extend_2 _ _)
    (AutoSeq1.list_extend_list_list_0 l its.toArray n b its2.toArray n2 hlong (by rw [List.size_toArray]; omega) (by omega)) ⟨e, e2, ?_⟩
  refine ⟨.non, _, I.lset (its' := its ++ its2) hH e (by simp) (r.append r2) ?_, rfl, q⟩
  rw [List.length_append]
  omega
def rPop : V → List V → Hp → VK → Prop := fun x vs H Q => ∃ l xs y, x = .ref l ∧ vs = [] ∧ H l = some (.lst xs) ∧ xs[xs.length - 1]? = some y ∧ Q y (upd H l (.lst xs.dropLast))
theorem mt_pop : MtM X "list.pop" rPop := by
  intro pins s σ H x vs v us Q I rx rv h
  obtain ⟨l, xs, y, rfl, rfl, hH, hy, q⟩ := h
  cases rx
  have hus := rv.zero
  subst hus
  obtain ⟨z, its, n, r, hl, e⟩ := I.lstM hH
  obtain ⟨u, hu, ru⟩ := r.get hy
  have hy' : its.toArray[its.toArray.size - 1]? = some u := by
    show its.toArray[its.length - 1]? = some u
    rw [← Array.getElem?_toList, ← hl]
    exact hu
  refine call_meets F.slot_list_pop ⟨_, e, rfl⟩ F.entry_list_pop (F.args_list_pop_1 _) (MeetsSeq.list_pop_last l its.toArray n u hy' (by rw [List.size_toArray]; omega)) ⟨e, ?_⟩
  refine ⟨y, _, I.lset (its' := its.dropLast) hH e ?_ r.dropLast ?_, ru, q⟩
  · show its.toArray.eraseIdxIfInBounds (its.toArray.size - 1) = its.dropLast.toArray
    rw [List.size_toArray, List.eraseIdxIfInBounds_toArray, erase_last]
  · rw [List.length_dropLast]
    omega
def rPopAt : V → List V → Hp → VK → Prop := fun x vs H Q => ∃ l xs i k y, x = .ref l ∧ vs = [.int i] ∧ H l = some (.lst xs) ∧ -(2 ^ 63) ≤ i ∧ i < 2 ^ 63 ∧ seqIndex? i xs.length = some k ∧ xs[k]? = some y ∧ Q y (upd H l (.lst (xs.eraseIdx k)))
theorem mt_popAt : MtM X "list.pop" rPopAt := by
  intro pins s σ H x vs v us Q I rx rv h
  obtain ⟨l, xs, i, k, y, rfl, rfl, hH, h1, h2, hk, hy, q⟩ := h
  cases rx
  obtain ⟨u, rfl, ru⟩ := rv.one
  obtain ⟨t, rfl⟩ := ru
  obtain ⟨z, its, n, r, hl, e⟩ := I.lstM hH
  obtain ⟨w, hw, rw'⟩ := r.get hy
  refine call_meets F.slot_list_pop ⟨_, e, rfl⟩ F.entry_list_pop (F.args_list_pop_2 _ _)
    (MeetsSeq.list_pop_at l its.toArray n i t k w (fitsIndex_both h1 h2) (by rw [List.size_toArray, ← hl]; exact hk) (by rw [← Array.getElem?_toList]; exact hw) (by rw [List.size_toArray]; omega)) ⟨e, ?_⟩
  refine ⟨y, _, I.lset (its' := its.eraseIdx k) hH e ?_ (r.eraseIdx k) ?_, rw', q⟩
  · show its.toArray.eraseIdxIfInBounds k = (its.eraseIdx k).toArray
    rw [List.eraseIdxIfInBounds_toArray]
  · have := len_erase xs k
    omega
def rReverse : V → List V → Hp → VK → Prop := fun x vs H Q => ∃ l xs, x = .ref l ∧ vs = [] ∧ H l = some (.lst xs) ∧ Q .non (upd H l (.lst xs.reverse))
theorem mt_reverse : MtM X "list.reverse" rReverse := by
  intro pins s σ H x vs v us Q I rx rv h
  obtain ⟨l, xs, rfl, rfl, hH, q⟩ := h
  cases rx
  have hus := rv.zero
  subst hus
  obtain ⟨z, its, n, r, hl, e⟩ := I.lstM hH
  refine call_meets F.slot_list_reverse ⟨_, e, rfl⟩ F.entry_list_reverse (F.args_list_reverse_1 _) (AutoSeq1.list_reverse_list_0 l its.toArray n (by rw [List.size_toArray]; omega)) ⟨e, ?_⟩
  refine ⟨.non, _, I.lset (its' := its.reverse) hH e (by simp) r.reverse ?_, rfl, q⟩
  rw [List.length_reverse]
  omega
def rClear : V → List V → Hp → VK → Prop := fun x vs H Q => ∃ l xs, x = .ref l ∧ vs = [] ∧ H l = some (.lst xs) ∧ Q .non (upd H l (.lst []))
theorem mt_clear : MtM X "list.clear" rClear := by
  intro pins s σ H x vs v us Q I rx rv h
  obtain ⟨l, xs, rfl, rfl, hH, q⟩ := h
  cases rx
  have hus := rv.zero
  subst hus
  obtain ⟨z, its, n, r, hl, e⟩ := I.lstM hH
  refine call_meets F.slot_list_clear ⟨_, e, rfl⟩ F.entry_list_clear (F.args_list_clear_1 _) (AutoSeq1.list_clear_list_0 l its.toArray n (by rw [List.size_toArray]; omega)) ⟨e, ?_⟩
  exact ⟨.non, _, I.lset (its' := []) (ys := []) hH e rfl .nil (Nat.zero_le _), rfl, q⟩
def rCat : R2 := fun x y H Q => ∃ l b xs zs, x = .ref l ∧ y = .ref b ∧ H l = some (.lst xs) ∧ H b = some (.lst zs) ∧ xs.length + zs.length ≤ sizeLine ∧ ∀ p, H p = none → Q (.ref p) (upd H p (.lst (xs ++ zs)))
theorem op_cat : OpR X (binaryOp .Add) rCat := by
  intro pins s σ H x y v u Q I rx ry h
  obtain ⟨l, b, xs, zs, rfl, rfl, hH, hB, hz, q⟩ := h
  cases rx
  cases ry
  obtain ⟨z, its, n, r, hl, e⟩ := I.lstM hH
  obtain ⟨z2, its2, n2, r2, hl2, e2⟩ := I.lstM hB
  refine PySem.P.add_list e e2 ?_ (by rw [List.size_toArray, List.size_toArray]; omega)
  have ea : its.toArray ++ its2.toArray = (its ++ its2).toArray := by simp
  rw [ea]
  exact ⟨.ref _, _, I.lnew (t' := s.toks) (r.append r2) (by rw [List.length_append]; omega), rfl, q _ I.fresh⟩
def rRep : R2 := fun x y H Q => ∃ l k xs, x = .ref l ∧ y = .int k ∧ H l = some (.lst xs) ∧ -(2 ^ 63) ≤ k ∧ k < 2 ^ 63 ∧ xs.length * k.toNat ≤ sizeLine ∧
  ∀ p, H p = none → Q (.ref p) (upd H p (.lst (List.replicate k.toNat xs).flatten))
theorem len_rep {α : Type} (xs : List α) (k : Nat) : (List.replicate k xs).flatten.length = k * xs.length := by
  induction k with
  | zero => simp
  | succ k ih => rw [List.replicate_succ, List.flatten_cons, List.length_append, ih, Nat.succ_mul, Nat.add_comm]
theorem op_rep : OpR X (binaryOp .Mult) rRep := by
  intro pins s σ H x y v u Q I rx ry h
  obtain ⟨l, k, xs, rfl, rfl, hH, h1, h2, hz, q⟩ := h
  cases rx
  obtain ⟨t, rfl⟩ := ry
  obtain ⟨z, its, n, r, hl, e⟩ := I.lstM hH
  have hlen : its.toArray.size * k.toNat ≤ sizeLine := by rw [List.size_toArray, ← hl]; exact hz
  have hcap : ¬ its.toArray.size * k.toNat > (2 ^ 63 - 1) / 8 := by
    have : (sizeLine : Nat) ≤ (2 ^ 63 - 1) / 8 := by decide
    omega
  have hfit : ¬ (!Builtin.List.listFitsIndex k) = true := by
    rw [fitsIndex_both h1 h2]
    exact Bool.false_ne_true
  have hlong : ¬ Builtin.List.listTooLong (its.toArray.size * k.toNat) = true := by
    rw [notLongL hlen]
    exact Bool.false_ne_true
  have hnew : List.foldl (fun x1 x2 => x1 ++ x2) #[] (List.replicate (if its.toArray.isEmpty = true then 0 else k.toNat) its.toArray) = (List.replicate k.toNat its).flatten.toArray := by
    have f0 : ∀ m : Nat, List.foldl (fun x1 x2 => x1 ++ x2) #[] (List.replicate m its.toArray) = (List.replicate m its).flatten.toArray := fun m => by
      have := foldl_rep its m []
      rw [List.nil_append] at this
      exact this
    rw [f0]
    cases its with
    | nil => simp
    | cons a r' => rw [if_neg (by simp)]
  refine wpAny_binaryOp_repeat_ref (T := "list") (U := "int") (by decide) ⟨_, e, rfl⟩ (fun s' => typeIs_int s' k t) noFill_list_mul F.fills_int_mul F.slot_int_rmul repeat_list F.slot_int_index.lookup
    (call_meets F.slot_int_rmul (typeIs_int s k t) F.entry_int_rmul (F.args_int_rmul_2 _ _) (int___rmul___int_list k t l its.toArray n)
      ⟨e, rfl, ⟨_, e, rfl⟩, call_meets F.slot_list_mul ⟨_, e, rfl⟩ F.entry_list_mul (F.args_list_mul_2 _ _) (AutoListH.list___mul___list_int_3 l its.toArray n k t hfit hcap hlong) ⟨e, ?_⟩⟩)
  rw [hnew]
  exact ⟨.ref _, _, I.lnew (t' := s.toks) (r.rep k.toNat) (by rw [len_rep, Nat.mul_comm]; exact hz), rfl, q _ I.fresh⟩
theorem del_list {pins : List (Addr × Obj)} {s : Shared} {σ : St} {H : Hp} {l : Addr} {xs : List V} {i : Int} {t : Tok} {k : Nat} {Q : Unit → Shared → Prop} (I : Inv X pins σ H s) (hH : H l = some (.lst xs))
    (h1 : -(2 ^ 63) ≤ i) (h2 : i < 2 ^ 63) (hk : seqIndex? i xs.length = some k) (h : ∀ s', Inv X pins σ (upd H l (.lst (xs.eraseIdx k))) s' → Q () s') :
    wpAny (model X.prog X.w) X.A (delItem (.ref l) (.int i t)) Q X.xe s := by
  obtain ⟨z, its, n, r, hl, e⟩ := I.lstM hH
  refine PySem.P.delItem_list (k := k) e (fitsIndex_both h1 h2) (by rw [List.size_toArray, ← hl]; exact hk) (h _ ?_) (by rw [List.size_toArray]; omega)
  refine I.lset (its' := its.eraseIdx k) (t' := s.toks) hH e ?_ (r.eraseIdx k) ?_
  · show its.toArray.eraseIdxIfInBounds k = (its.eraseIdx k).toArray
    rw [List.eraseIdxIfInBounds_toArray]
  · have := len_erase xs k
    omega
end
section
variable {prog : Program} {w : World} {A : Around} {E : Value → Shared → Prop} {s : Shared}
theorem splice_eq (its its2 : List Value) (a c : Nat) : its.toArray.extract 0 a ++ its2.toArray ++ its.toArray.extract c its.toArray.size = (its.take a ++ its2 ++ its.drop c).toArray := by
  apply Array.toList_inj.mp
  first
    | (simp
       exact List.take_of_length_le (by simp))
    | simp [List.take_of_length_le]
    | simp
theorem bounds_run {a c n : Nat} (hac : a ≤ c) (hc : c ≤ n) : sliceBounds (some (a : Int)) (some (c : Int)) none n = ((a : Int), (c : Int), 1) := by
  simp only [sliceBounds, Option.getD_none]
  have h1 : ¬ ((a : Int) < 0) := by omega
  have h2 : ¬ ((c : Int) < 0) := by omega
  simp only [h1, h2, if_false, show (1 : Int) > 0 by decide, if_true]
  congr 1
  · omega
  · congr 1; omega
set_option maxRecDepth 100000 in
theorem setItem_slice {l b sl : Addr} {items new : Array Value} {n n2 : Nat} {vl vu : Value} {a c : Nat} {Q : Unit → Shared → Prop}
    (e : s.heap.get? l = some { cls := .type "list", data := .seq items n }) (e2 : s.heap.get? b = some { cls := .type "list", data := .seq new n2 }) (hne : l ≠ b)
    (hs : s.heap.IsSliceOf sl vl vu .none) (pl : IsPart vl (some (a : Int))) (pu : IsPart vu (some (c : Int))) (hac : a ≤ c) (hc : c ≤ items.size)
    (hsz : items.size + new.size ≤ sizeLine) (h : Q () { s with heap := s.heap.update l (Obj.mapSeq fun xs => xs.extract 0 a ++ new ++ xs.extract c xs.size) }) :
    wpAny (model prog w) A (setItem (.ref l) (.ref sl) (.ref b)) Q E s := by
  have hl : s.heap.IsList l items := PySem.IsL.isList e
  have hb : s.heap.IsList b new := PySem.IsL.isList e2
  obtain ⟨os, hos, hcs, hds⟩ := id hs
  have hTs : s.TypeIs (.ref sl) "slice" := ⟨os, hos, hcs⟩
  have hstep : ¬ ((rawPart none == rawInt 0) = true) := Bool.false_ne_true
  have hsame : Builtin.List.listSameRef (.ref l) (.ref b) = false := by
    unfold Builtin.List.listSameRef
    exact beq_eq_false_iff_ne.mpr hne
  have hmax : (max (a : Int) (c : Int)).toNat = c := by omega
  have hz' : ((fun xs : Array Value => xs.extract 0 a ++ new ++ xs.extract c xs.size) items).size ≤ sizeLine + 1 := by
    simp only [Array.size_append, Array.size_extract]
    omega
  unfold setItem
  try with_reducible refine wpAny_holding ?_
  first | refine wpAny_bind (wpAny_pure ?_) | skip
  refine wpAny_bind (wpAny_sequenceKey hl.typeIs (by decide) ?_)
  refine wpAny_bind (wpAny_callSpecial?_slot (name := Str.ofString "__setitem__") hl.typeIs slot_list_setitem
    (wpAny_call_entry slot_list_setitem hl.typeIs entry_list_setitem ?_ (args_list_setitem _ _ _)))
  show wpAny _ _ (Builtin.List.listSubscript? (.ref sl) >>= _) _ _ s
  refine wpAny_bind ?_
  unfold Builtin.List.listSubscript?
  refine wpAny_bind (wpAny_specialOf hTs slice_no_index ?_)
  simp only [Option.isNone_none, if_true]
  refine wpAny_pure ?_
  show wpAny _ _ (typeOf (.ref sl) >>= _) _ _ s
  refine wpAny_bind (wpAny_typeOf hTs ?_)
  first
    | rw [if_neg (by decide)]
    | refine PySem.W.KFB.if_not (by decide) ?_
  rw [listSliceParts_eq]
  refine wpAny_bind (wpAny_bind (wpAny_field hos hds (x := .none) rfl (wpAny_bind (wpAny_listPart .none ?_))))
  rw [if_neg hstep]
  refine wpAny_bind (wpAny_field hos hds (x := vl) rfl (wpAny_bind (wpAny_listPart pl ?_)))
  refine wpAny_bind (wpAny_field hos hds (x := vu) rfl (wpAny_bind (wpAny_listPart pu (wpAny_pure ?_))))
  first
    | simp only [hsame, Bool.false_eq_true, if_false]
    | refine PySem.W.KFB.if_not hsame ?_
    | (dsimp only
       rw [if_neg (by rw [hsame]; exact Bool.false_ne_true)])
  refine wpAny_bind (m := Builtin.List.listAllItems (.ref b) "must assign iterable to extended slice") ?_
  unfold Builtin.List.listAllItems
  refine wpAny_bind (wpAny_typeOf hb.typeIs ?_)
  first
    | refine PySem.W.KFB.if_so (by decide) ?_
    | rw [if_pos (by decide)]
    | simp only [beq_self_eq_true, Bool.true_or, if_true]
  unfold Builtin.List.listItems
  refine wpAny_bind (wpAny_seqItems e2 rfl (wpAny_pure ?_))
  refine wpAny_bind (wpAny_bind (wpAny_seqItems e rfl (wpAny_pure ?_)))
  refine wpAny_bind (wpAny_of_eq ((sliceIndices_raw (some (a : Int)) (some (c : Int)) none items.size (by simp)).trans (congrArg (pure : Int × Int × Int → Sem (Int × Int × Int)) (bounds_run hac hc))) ?_)
  show wpAny _ _ (if ((1 : Int) == 1) = true then _ else _) _ _ s
  rw [if_pos (by decide)]
  refine wpAny_bind (wpAny_rule ?_)
  first
    | simp only [notLongL hsz, Bool.false_eq_true, if_false]
    | refine PySem.W.KFB.if_not (notLongL hsz) ?_
  first | refine wpAny_bind (wpAny_pure ?_) | skip
  show wpAny _ _ (updateSeq l (fun xs => xs.extract 0 ((a : Int)).toNat ++ new ++ xs.extract (max (a : Int) (c : Int)).toNat xs.size) >>= _) _ _ s
  rw [hmax, Int.toNat_natCast]
  refine wpAny_bind (wpAny_updateSeq (hz := Nat.le_trans (Nat.le_add_right _ _) hsz) (_hz' := hz') e rfl ?_)
  refine wpAny_bind (wpAny_letGo ?_)
  first
    | exact wpAny_bind (wpAny_pure (wpAny_pure ⟨.none, rfl, wpAny_pure h⟩))
    | exact wpAny_pure ⟨.none, rfl, wpAny_pure h⟩
end
section
variable {X : Cx}
theorem set_slice {pins : List (Addr × Obj)} {s : Shared} {σ : St} {H : Hp} {l b sl : Addr} {xs ys : List V} {a c : Int} {vl vu : Value} {Q : Unit → Shared → Prop} (I : Inv X pins σ H s)
    (hH : H l = some (.lst xs)) (hB : H b = some (.lst ys)) (hne : l ≠ b) (hs : s.heap.IsSliceOf sl vl vu .none) (ra : RelV (.int a) vl) (rc : RelV (.int c) vu) (h0 : 0 ≤ a) (hac : a ≤ c) (hc : c ≤ xs.length)
    (hz : xs.length + ys.length ≤ sizeLine) (h : ∀ s', Inv X pins σ (upd H l (.lst (xs.take a.toNat ++ ys ++ xs.drop c.toNat))) s' → Q () s') :
    wpAny (model X.prog X.w) X.A (setItem (.ref l) (.ref sl) (.ref b)) Q X.xe s := by
  obtain ⟨ta, rfl⟩ := ra
  obtain ⟨tc, rfl⟩ := rc
  obtain ⟨z, its, n, r, hl, e⟩ := I.lstM hH
  obtain ⟨z2, its2, n2, r2, hl2, e2⟩ := I.lstM hB
  obtain ⟨a', rfl⟩ := Int.eq_ofNat_of_zero_le h0
  obtain ⟨c', rfl⟩ := Int.eq_ofNat_of_zero_le (Int.le_trans h0 hac)
  simp only [Int.toNat_natCast] at h
  refine setItem_slice (a := a') (c := c') e e2 hne hs (.int _ _) (.int _ _) (by omega) (by rw [List.size_toArray]; omega) (by rw [List.size_toArray, List.size_toArray]; omega) (h _ ?_)
  refine I.lset (its' := its.take a' ++ its2 ++ its.drop c') (t' := s.toks) hH e ?_ (Vals.append (Vals.append (r.take _) r2) (r.drop _)) ?_
  · exact splice_eq its its2 a' c'
  · rw [List.length_append, List.length_append, List.length_take, List.length_drop]
    omega
end
end L2
namespace Att
open PySem PySem.W PySem.Calls PyProof.Rows
theorem ints_of_wellAll {P : Params} {h : Heap} : ∀ (ns : List Int) (vs : List Value), WellAll P h vs (ns.map WData.int) → IntsAre vs ns := by
  intro ns
  induction ns with
  | nil =>
    intro vs w
    rw [List.map_nil] at w
    cases w
    exact .nil
  | cons n ns ih =>
    intro vs w
    rw [List.map_cons] at w
    cases w with
    | cons a b =>
      cases a
      exact .cons _ _ (ih _ b)
theorem script_of {l : OpenLaw} {n : Nat} (hn : l.most = some n) {P : Params} {h : Heap} {args : List WData} {vals : List Value}
    (hpre : l.row.toRowW.claim.pre args = true) (hwl : WellAll P h vals args) :
    ∃ a vs ns, vals = [Value.ref a] ∧ args = [WData.list (ns.map WData.int)] ∧ h.get? a = some { cls := .type "list", data := .seq vs.toArray } ∧ IntsAre vs ns ∧ ns.length ≤ n := by
  have hsh : WShape.hasAll [] args [.list .int] = true := (pre_splitW hpre).1
  have hc : l.pre.holds [] { args := args } = true := (pre_splitW hpre).2
  obtain ⟨d, r, rfl, h1, h2⟩ := hasAllW_cons hsh
  obtain rfl := hasAllW_nil h2
  obtain ⟨xs, rfl, h3⟩ := hasW_list h1
  obtain ⟨ns, rfl⟩ := items_int h3
  have hlen : ns.length ≤ n := by
    unfold OpenLaw.pre at hc
    have h4 : (WTm.not (.lt (.lit (.int (n : Int))) (.len (.arg 0)))).holds [] { args := [.list (ns.map .int)] } = true := by
      have h4 := (holds_andW hc).1
      rw [hn] at h4
      exact h4
    have h5 := condW_of h4 (w_not (w_lt w_lit (w_len_list (w_arg rfl))))
    rw [List.length_map] at h5
    refine Nat.le_of_not_lt fun q => ?_
    have q' : (n : Int) < ((ns.length : Nat) : Int) := by omega
    first
      | (rw [decide_eq_true q'] at h5; exact absurd h5 (by decide))
      | (simp at h5; omega)
  cases hwl with
  | cons w1 w2 =>
    cases w2
    cases w1 with
    | list ho hall => exact ⟨_, _, ns, rfl, rfl, ho, ints_of_wellAll ns _ hall, hlen⟩
theorem post_true (l : OpenLaw) (args : List WData) : l.row.toRowW.claim.post args (.bool true) args = true :=
  postW_of (r := l.row.toRowW) (X := (true == true))
    (show WShape.has [] (.bool true) .bool = true by first | rfl | decide | simp [WShape.has, WShape.arms, WShape.armsAll])
    (show (WTm.eq .res (.lit (.bool true))).value [] { args := args, res := some (.bool true), after := args } = some (.bool (true == true)) from w_eq_bool (w_res rfl) w_lit) rfl
theorem attach {l : OpenLaw} {n : Nat} {q : Program} {loose : List Str} {XP : (Str → Option Value) → Heap → Prop} {YP : World → Heap → Prop} {d : DefRec} {x : Str}
    (hn : l.most = some n) (hdf : d.params.defaults = [])
    (hbind : ∀ pm cd doc v : Value, bindArgs (docDef d.name d.params d.body d.scope pm cd doc) ⟨[v], []⟩ = pure [(x, v)])
    (hx : d.scope.names.lookup x = some .local ∨ d.scope.names.lookup x = some .cell)
    (hk : d.scope.kind = .function) (hco : d.scope.isCoroutine = false) (hgen : d.scope.isGenerator = false)
    (body : ∀ (w : World) (s₀ s₁ s : Shared) (mg mb : Str → Option Value) (fa : Addr) (o : Obj) (pm cd doc : Value) (a : Addr) (vs : List Value) (ns : List Int),
      Ground q loose [] XP w s₀ mg mb s₁.heap → YP w s₁.heap →
      s₁.heap.get? fa = some o → o.data = .func (docDef d.name d.params d.body d.scope pm cd doc) → s₁.heap.CodeRec cd d.name → mg d.name = some (.ref fa) →
      s₁.heap.get? a = some { cls := .type "list", data := .seq vs.toArray } → IntsAre vs ns → ns.length ≤ n →
      s.gens = #[] → s.os = s₁.os →
      Fr s₁.heap s₁.heap.objs.size s.heap (bindL (envOfC d.name d.scope s₁.heap.objs.size fa cd).kindOf [(x, .ref a)] fun _ => none) →
      Cl s₁.heap.objs.size (cellsFrom (s₁.heap.objs.size + 1) d.scope.names []) s.heap (bindC (envOfC d.name d.scope s₁.heap.objs.size fa cd).kindOf [(x, .ref a)] fun _ => none) →
      wpAny (model l.prog w) (callerA.deeper (envOfC d.name d.scope s₁.heap.objs.size fa cd)) (execs d.body (envOfC d.name d.scope s₁.heap.objs.size fa cd))
        (fun f s' => f = .ret (.bool true) ∧ OldK s₁.heap s'.heap ∧ s'.os = s₁.os ∧ AllBare s'.gens) (fun _ _ => False) s) :
    WalkO q loose XP YP l.row.toRowW d [] (fun f vs => PySem.call f vs) := by
  intro w s₀ s₁ mg mb G Y fa o pm cd doc dV kV ho hd hcd hD hmg hg args vals as hpre hlay hrd hwl hlo
  obtain rfl : dV = .none := Dflts.none hD hdf
  obtain rfl : kV = .none := Dflts.noKw hD
  obtain ⟨a, vs, ns, rfl, rfl, hobj, hints, hlen⟩ := script_of hn hpre hwl
  refine enter_call ?_
  refine call_cells_ret (o := o) (by rw [depth_caller]; decide) ho (fd_plain hd) G.T.nolimit hcd (hbind pm cd doc (.ref a)) (fun y hy => ?_) (fun h₁ tk F X => ?_) hco hgen hk
  · obtain rfl : y = (x, Value.ref a) := List.mem_singleton.mp hy
    rcases hx with e | e
    · exact .inl e
    · exact .inr ⟨e, cellsFrom_some _ _ _ (.inl e)⟩
  · refine wpAny_mono (body w s₀ s₁ { s₁ with heap := h₁, toks := tk } mg mb fa o pm cd doc a vs ns G Y ho (fd_plain hd) hcd hmg hobj hints hlen hg rfl F X) (fun f s' hq => ?_) (fun _ _ hq => hq)
    obtain ⟨rfl, h2, h3, h4⟩ := hq
    exact ⟨.inl ⟨.bool true, .bool true, [], rfl, fun _ => rfl, .bool true, post_true l _, fun _ => ⟨List.Pairwise.nil, fun _ hm => (nomatch hm)⟩⟩, h2, h3, h4⟩
theorem attach_call {l : OpenLaw} {n : Nat} {q : Program} {loose : List Str} {XP : (Str → Option Value) → Heap → Prop} {YP : World → Heap → Prop} {d : DefRec}
    (hn : l.most = some n) (hdf : d.params.defaults = [])
    (call : ∀ (w : World) (s₀ s₁ : Shared) (mg mb : Str → Option Value) (fa : Addr) (o : Obj) (pm cd doc : Value) (a : Addr) (vs : List Value) (ns : List Int),
      Ground q loose [] XP w s₀ mg mb s₁.heap → YP w s₁.heap →
      s₁.heap.get? fa = some o → o.data = .func (docDef d.name d.params d.body d.scope pm cd doc) → s₁.heap.CodeRec cd d.name → mg d.name = some (.ref fa) →
      s₁.heap.get? a = some { cls := .type "list", data := .seq vs.toArray } → IntsAre vs ns → ns.length ≤ n → s₁.gens = #[] →
      codeAny (model l.prog w) callerA (.call (.ref fa) ⟨[.ref a], []⟩) (fun r s' => r = .ok (.ret (.bool true)) ∧ OldK s₁.heap s'.heap ∧ s'.os = s₁.os ∧ AllBare s'.gens) s₁) :
    WalkO q loose XP YP l.row.toRowW d [] (fun f vs => PySem.call f vs) := by
  intro w s₀ s₁ mg mb G Y fa o pm cd doc dV kV ho hd hcd hD hmg hg args vals as hpre hlay hrd hwl hlo
  obtain rfl : dV = .none := Dflts.none hD hdf
  obtain rfl : kV = .none := Dflts.noKw hD
  obtain ⟨a, vs, ns, rfl, rfl, hobj, hints, hlen⟩ := script_of hn hpre hwl
  refine enter_call (codeAny_mono (call w s₀ s₁ mg mb fa o pm cd doc a vs ns G Y ho (fd_plain hd) hcd hmg hobj hints hlen hg) fun r s' hq => ?_)
  obtain ⟨rfl, h2, h3, h4⟩ := hq
  exact ⟨.inl ⟨.bool true, .bool true, [], rfl, fun _ => rfl, .bool true, post_true l _, fun _ => ⟨List.Pairwise.nil, fun _ hm => (nomatch hm)⟩⟩, h2, h3, h4⟩
theorem attachN {l : OpenLaw} {n : Nat} {q : Program} {loose : List Str} {XP : (Str → Option Value) → Heap → Prop} {YP : World → Heap → Prop} {d : DefRec} {x : Str}
    (hn : l.most = some n) (hdf : d.params.defaults = [])
    (hbind : ∀ pm cd doc v : Value, bindArgs (docDef d.name d.params d.body d.scope pm cd doc) ⟨[v], []⟩ = pure [(x, v)])
    (hx : d.scope.names.lookup x = some .local ∨ d.scope.names.lookup x = some .cell)
    (hk : d.scope.kind = .function) (hco : d.scope.isCoroutine = false) (hgen : d.scope.isGenerator = false)
    (body : ∀ (w : World) (s₀ s₁ s : Shared) (mg mb : Str → Option Value) (fa : Addr) (o : Obj) (pm cd doc : Value) (a : Addr) (vs : List Value) (ns : List Int),
      Ground q loose [] XP w s₀ mg mb s₁.heap → YP w s₁.heap →
      s₁.heap.get? fa = some o → o.data = .func (docDef d.name d.params d.body d.scope pm cd doc) → s₁.heap.CodeRec cd d.name → mg d.name = some (.ref fa) →
      s₁.heap.get? a = some { cls := .type "list", data := .seq vs.toArray } → IntsAre vs ns → ns.length ≤ n →
      s.gens = #[] → s.os = s₁.os →
      Fr s₁.heap s₁.heap.objs.size s.heap (bindL (envOfC d.name d.scope s₁.heap.objs.size fa cd).kindOf [(x, .ref a)] fun _ => none) →
      Cl s₁.heap.objs.size (cellsFrom (s₁.heap.objs.size + 1) d.scope.names []) s.heap (bindC (envOfC d.name d.scope s₁.heap.objs.size fa cd).kindOf [(x, .ref a)] fun _ => none) →
      wpAny (model l.prog w) (callerA.deeper (envOfC d.name d.scope s₁.heap.objs.size fa cd)) (execs d.body (envOfC d.name d.scope s₁.heap.objs.size fa cd))
        (fun f s' => f = .ret (.bool true) ∧ (∀ b o, s₁.heap.get? b = some o → s'.heap.get? b = some o) ∧ s'.os = s₁.os ∧ s'.gens = #[]) (fun _ _ => False) s) :
    WalkN q loose XP YP l.row.toRowW d [] (fun f vs => PySem.call f vs) := by
  intro w s₀ s₁ mg mb G Y fa o pm cd doc dV kV ho hd hcd hD hmg hg args vals as hpre hlay hrd hwl hlo
  obtain rfl : dV = .none := Dflts.none hD hdf
  obtain rfl : kV = .none := Dflts.noKw hD
  obtain ⟨a, vs, ns, rfl, rfl, hobj, hints, hlen⟩ := script_of hn hpre hwl
  refine enter_callW ?_
  refine call_cells_ret (o := o) (by rw [depth_caller]; decide) ho (fd_plain hd) G.T.nolimit hcd (hbind pm cd doc (.ref a)) (fun y hy => ?_) (fun h₁ tk F X => ?_) hco hgen hk
  · obtain rfl : y = (x, Value.ref a) := List.mem_singleton.mp hy
    rcases hx with e | e
    · exact .inl e
    · exact .inr ⟨e, cellsFrom_some _ _ _ (.inl e)⟩
  · refine wpAny_mono (body w s₀ s₁ { s₁ with heap := h₁, toks := tk } mg mb fa o pm cd doc a vs ns G Y ho (fd_plain hd) hcd hmg hobj hints hlen hg rfl F X) (fun f s' hq => ?_) (fun _ _ hq => hq)
    obtain ⟨rfl, h2, h3, h4⟩ := hq
    exact ⟨.inl ⟨.bool true, .bool true, [], rfl, fun _ => rfl, .bool true, post_true l _, fun _ => ⟨List.Pairwise.nil, fun _ hm => (nomatch hm)⟩⟩, h2, h3, h4⟩
section
variable {prog : Program} {w : World} {A : Around} {E : Value → Shared → Prop} {s : Shared} {K : Frag}
theorem call_fn {R : Result → Shared → Prop} {name qual : Str} {params : Arguments} {body : List Stmt} {scope : Scope} {dV kV doc pm cdv ct oc : Value} {an od : Option Addr} {osl : Array (Option Value)} {f : Addr} {args : Args} {binds : List (Str × Value)}
    (X : K.In s.heap) (hlim : s.heap.NoLimit) (ho : K.lookup f = some ⟨oc, od, .func (fnOf name qual params body scope dV kV doc pm an cdv ct), osl⟩) (hcd : codeIn K cdv qual = true) (hroom : A.depth < recursionLimit)
    (hbind : BindsTo s (fnOf name qual params body scope dV kV doc pm an cdv ct) args binds)
    (hkind : (binds.all fun y => scope.names.lookup y.1 == some .local || scope.names.lookup y.1 == some .cell) = true)
    (h : ∀ s₁, InCallC s s.heap.objs.size (bindL (envOfC qual scope s.heap.objs.size f cdv).kindOf binds fun _ => none) (cellsFrom (s.heap.objs.size + 1) scope.names [])
        (bindC (envOfC qual scope s.heap.objs.size f cdv).kindOf binds fun _ => none) s₁ →
      wpAny (model prog w) (A.deeper (envOfC qual scope s.heap.objs.size f cdv)) (execs body (envOfC qual scope s.heap.objs.size f cdv))
        (fun fl s' => R (.ok (.ret (match fl with | .ret v => v | _ => .none))) s')
        (fun e s' => wpAny (model prog w) (A.deeper (envOfC qual scope s.heap.objs.size f cdv)) (leaving (envOfC qual scope s.heap.objs.size f cdv) e) (fun _ s'' => R (.error e) s'') (fun e' s'' => R (.error e') s'') s') s₁)
    (hco : scope.isCoroutine = false) (hgen : scope.isGenerator = false) (hk : scope.kind = .function) : codeAny (model prog w) A (.call (.ref f) args) R s := by
  refine codeAny_call_function hroom (X _ _ ho) rfl hco hgen rfl (codeRec_of X hcd) (hbind _ _ _ _ ?_)
  refine wpAny_newFunctionEnv_cells hk (kindsX hkind _) fun env he s₁ x => ?_
  subst he
  exact ⟨hlim.keeps x.toInCall.keep, codeAny_func (h s₁ x)⟩
theorem make_obj {R : Result → Shared → Prop} {C fI : Addr} {rest : List Value} {kw : List (Str × Value)}
    (X : K.In s.heap) (hm : makesIn K C = true) (hi : findIn K (.ref C) "__init__" = some (some (.ref fI))) (hf : isFn K (.ref fI) = true)
    (h : codeAny (model prog w) (A.under (.builtin "type.__call__" ⟨.ref C :: rest, kw⟩)) (.call (.ref fI) ⟨.ref (s.heap.objs.size + 1) :: rest, kw⟩) (InitBack (s.heap.objs.size + 1) R)
      { s with heap := (s.heap.push emptyDict).push (instObj C s.heap.objs.size) }) : codeAny (model prog w) A (.call (.ref C) ⟨rest, kw⟩) R s := by
  obtain ⟨hh, g, d, t, os⟩ := s
  exact make_core (makes_of X hm) (looks_findIn X hi) (fun self => bind_fn X self (beq_iff_eq.mp hf)) (.inl rfl) h
theorem get_field {x C : Addr} {ox : Obj} {es : List DictEntry} {n : Nat} {name : Str} {expr : Bool} {v : Value} {Q : Value → Shared → Prop}
    (X : K.In s.heap) (I : PySem.W.InstAt s.heap x ox C (some (dictOf es n))) (hg : plainGet K C name = true) (hh : hasDictIn K C = true) (ha : findIn K (.ref C) name = some none)
    (hl : getL name es = some (some v)) (hv : handedIn v = true) (h : Q v { s with toks := s.toks + 1 }) : wpAny (model prog w) A (getAttr (.ref x) name expr) Q E s :=
  get_value X I (plainGet_of hg).1 (findObj_own hh ha rfl hl) hv h
theorem get_method {x C f : Addr} {ox : Obj} {es : List DictEntry} {n : Nat} {name : Str} {pl : Sem Bool} {Q : Value × List Value → Shared → Prop}
    (X : K.In s.heap) (I : PySem.W.InstAt s.heap x ox C (some (dictOf es n))) (hg : plainGet K C name = true) (hf : findIn K (.ref C) name = some (some (.ref f))) (ht : isFn K (.ref f) = true)
    (hl : getL name es = some none) (h : Q (.ref f, [.ref x]) s) : wpAny (model prog w) A (getMethod (.ref x) name pl) Q E s :=
  method_fn X I (plainGet_of hg).1 (plainGet_of hg).2 hf (beq_iff_eq.mp ht) (by show (lookIn name (dictOf es n)).map _ = _; rw [lookIn_dict, hl]; rfl) h
def noObjs (h : Heap) : Heap := { h with objs := #[] }
theorem noObjs_get (h : Heap) (b : Addr) : (noObjs h).get? b = none := by
  cases e : (noObjs h).get? b with
  | none => rfl
  | some o => exact absurd (Heap.lt_size e) (Nat.not_lt_zero _)
def ledger (h : Heap) (L d : Addr) : List (Addr × Obj) := (List.range h.objs.size).filterMap fun a => if a = L ∨ a = d then none else (h.get? a).map fun o => (a, o)
theorem mem_ledger {h : Heap} {L d a : Addr} {o : Obj} : (a, o) ∈ ledger h L d ↔ a ≠ L ∧ a ≠ d ∧ h.get? a = some o := by
  unfold ledger
  rw [List.mem_filterMap]
  constructor
  · rintro ⟨b, _, e⟩
    split at e
    · cases e
    · rename_i hb
      obtain ⟨o', ho, e'⟩ := Option.map_eq_some_iff.mp e
      cases e'
      exact ⟨fun q => hb (.inl q), fun q => hb (.inr q), ho⟩
  · rintro ⟨n1, n2, ho⟩
    refine ⟨a, List.mem_range.mpr (Heap.lt_size ho), ?_⟩
    rw [if_neg (show ¬ (a = L ∨ a = d) from fun q => q.elim n1 n2), ho] <;> rfl
theorem news_ledger {h : Heap} {L d : Addr} {od : Obj} (hne : d ≠ L) (ho : h.get? d = some od) : News (noObjs h) L h ([] ++ (d, od) :: ledger h L d) := by
  rintro ⟨a, o⟩ hp
  rcases List.mem_cons.mp hp with e | hp
  · cases e
    exact ⟨ho, hne, noObjs_get _ _⟩
  · obtain ⟨n1, n2, e⟩ := mem_ledger.mp hp
    exact ⟨e, n1, noObjs_get _ _⟩
theorem fr_all {h : Heap} {L : Addr} {m : Str → Option Value} (n : h.Ns L m) : Fr (noObjs h) L h m :=
  ⟨n, fun b o e => (by rw [noObjs_get] at e; cases e), Nat.zero_le _⟩
theorem upd_ledger {h : Heap} {L d : Addr} {o o' : Obj} : Upd d o o' ((d, o) :: ledger h L d) ((d, o') :: ledger h L d) :=
  .head fun ⟨_, _⟩ hp => (mem_ledger.mp hp).2.1
theorem set_field {x C dx L : Addr} {ox : Obj} {m : Str → Option Value} {es es' : List DictEntry} {n n' : Nat} {name : Str} {v : Value} {Q : Unit → Shared → Prop}
    (X : K.In s.heap) (I : PySem.W.InstAt s.heap x ox C (some (dictOf es n))) (hd : ox.dict = some dx) (hL : s.heap.Ns L m) (hne : dx ≠ L)
    (hs : findIn K (.ref C) "__setattr__" = some (some (.builtin "object.__setattr__"))) (hp : plainOver K C = true) (ht : takerIn K C name = some none) (hh : hasDictIn K C = true) (hl : (getL name es).isSome = true)
    (e : (putL name (PyData.keyHash w.params name) (.str name (s.toks + 1)) v es, putN name es n) = (es', n')) (hz : es'.length ≤ 1000)
    (h : ∀ h' : Heap, h'.Ns L m → h'.get? dx = some (dictOf es' n') → (∀ b o, b ≠ dx → b ≠ L → s.heap.get? b = some o → h'.get? b = some o) → Q () { s with heap := h', toks := s.toks + 2 }) :
    wpAny (model prog w) A (setAttr (.ref x) name v) Q E s := by
  obtain ⟨e1, e2⟩ := Prod.mk.inj e
  have hdx : s.heap.get? dx = some (dictOf es n) := by
    have := I.dict
    rw [hd] at this
    exact this
  refine set_plain X I hs (osa_dict (s := { s with toks := s.toks + 1 }) (h₀ := noObjs s.heap) (L := L) (m := m) (od := dictOf es n) (od' := dictOf es' n') (es := es') (n := n') (pre := []) (post := ledger s.heap L dx)
    (fr_all hL) (news_ledger hne hdx) X I hd hp ht hh hl (fun _ q => nomatch q) (fun ⟨_, _⟩ q => (mem_ledger.mp q).2.1) (by rw [putName_dict, e1, e2]) rfl hz fun h' F' N' => ?_)
  exact h h' F'.ns (N'.get (List.Mem.head _)) fun b o n1 n2 ho => N'.get (List.Mem.tail _ (mem_ledger.mpr ⟨n2, n1, ho⟩))
end
end Att
namespace L2
open PySem PySem.Spec PyProof.Rows
theorem vals_ints : ∀ {vs : List Value} {ns : List Int}, IntsAre vs ns → Vals (ns.map V.int) vs
  | _, _, .nil => .nil
  | _, _, .cons n t h => .cons ⟨t, rfl⟩ (vals_ints h)
def Only (H : Hp) : Prop := ∀ b, H b = none ∨ ∃ o xs, H b = some (.frz o (.lst xs))
theorem law_call {P : Program} {w : World} {K : PySem.W.Frag} {mg mb : Str → Option Value} {CX : CXT} {k : Nat} {fa a : Addr} {fd : FuncData} {x : Str} {sp : Sp} {s₁ : Shared} {vs : List Value} {ns : List Int}
    (KX : K.In s₁.heap) (hns : s₁.heap.Ns mainGlobals mg) (hb : s₁.heap.Ns builtinsNs mb) (hbb : ∀ x : Str, x ≠ "__name__" → mb x = bootBuiltins x) (hlim : s₁.heap.NoLimit) (hg : s₁.gens = #[])
    (ha : s₁.heap.get? a = some { cls := .type "list", data := .seq vs.toArray }) (hi : IntsAre vs ns) (hl : ns.length ≤ sizeLine) (hr : Room k callerA)
    (F : ∀ base : Heap, K.In base → base.Ns mainGlobals mg → FnOk P w K mg base CX k fa fd [x] sp) (hbind : ∀ (s : Shared) (u : Value), BindsTo s fd ⟨[u], []⟩ [(x, u)])
    (hsp : ∀ H : Hp, Only H → SqL K H a (ns.map V.int) → sp [.ref a] H (fun v _ => v = .bl true) fun _ _ _ => False)
    (hCX : ∀ H e s', CX [] H s₁ (fun _ _ _ => False) e s' → False) :
    codeAny (model P w) callerA (.call (.ref fa) ⟨[.ref a], []⟩) (fun r s' => r = .ok (.ret (.bool true)) ∧ OldK s₁.heap s'.heap ∧ s'.os = s₁.os ∧ AllBare s'.gens) s₁ := by
  have rv := vals_ints hi
  have lenV := hi.length
  have core : ∀ H : Hp, Only H → SqL K H a (ns.map V.int) → HOk P w H s₁.heap → (∀ b, H b ≠ none → b = a) → (H a ≠ none → K.lookup a = none) →
      codeAny (model P w) callerA (.call (.ref fa) ⟨[.ref a], []⟩) (fun r s' => r = .ok (.ret (.bool true)) ∧ OldK s₁.heap s'.heap ∧ s'.os = s₁.os ∧ AllBare s'.gens) s₁ := by
    intro H hO hS hok hA hK
    have base_of : ∀ {b : Addr} {o : Obj}, s₁.heap.get? b = some o → H b = none → (hidT s₁.heap H).get? b = some o := fun e n => hidT_get e n
    have noA : ∀ {b : Addr} {o : Obj} {es : Array DictEntry} {ep : Nat}, s₁.heap.get? b = some o → o.data = .dict es ep → H b = none := fun {b o es ep} e d => by
      cases q : H b with
      | none => rfl
      | some u =>
        have e' : b = a := hA b (by rw [q]; simp)
        subst e'
        rw [ha] at e; cases e
        have d' : Data.seq vs.toArray _ = Data.dict es ep := d
        cases d'
    have nsK : ∀ {b : Addr} {m : Str → Option Value}, s₁.heap.Ns b m → (hidT s₁.heap H).Ns b m := fun {b m} ⟨o, es, ep, e, d, r⟩ => ⟨o, es, ep, base_of e (noA e d), d, r⟩
    have hKb : K.In (hidT s₁.heap H) := fun b o e => base_of (KX b o e) (by
      cases q : H b with
      | none => rfl
      | some u =>
        have e' : b = a := hA b (by rw [q]; simp)
        subst e'
        rw [hK (by rw [q]; simp)] at e; cases e)
    have hM : Mod K mg (hidT s₁.heap H) := ⟨hKb, nsK hns, ⟨mb, nsK hb, hbb⟩, let ⟨mc, h1, h2⟩ := hlim; ⟨mc, nsK h1, h2⟩⟩
    have e0 : Env0 P w K mg (hidT s₁.heap H) callerA [] s₁ H := ⟨rfl, hM, fun b o e => of_hidT e, Nat.le_of_eq (hidT_size _ _), trivial, fun b hb => absurd (show b ∈ ([] : List Addr) from hb) (by simp), hok, .of_eq hg⟩
    refine codeAny_mono ((F _ hKb (nsK hns)).run callerA [] s₁ H ⟨[.ref a], []⟩ [.ref a] [.ref a] _ _ hr e0 (hbind s₁ (.ref a)) (.cons rfl .nil) (hsp H hO hS)) fun r s' h => ?_
    cases r with
    | error e => exact (hCX H e s' h).elim
    | ok fl =>
      cases fl with
      | next => exact False.elim h
      | brk => exact False.elim h
      | cont => exact False.elim h
      | ret u =>
        obtain ⟨v, H', os, bare, un, hok', r', q⟩ := h
        have q' : v = .bl true := q
        subst q'
        obtain rfl : u = Value.bool true := r'
        refine ⟨rfl, OldK.of_keep fun b o e => ?_, os, bare⟩
        cases q : H b with
        | none => exact un.keep b o e q (by intro z; exact absurd (show b ∈ ([] : List Addr) from z) (by simp)) (by simp)
        | some u =>
          rcases hO b with z | ⟨ob, xs, z⟩
          · rw [q] at z; cases z
          · have z2 := un.frzs b ob _ z
            obtain ⟨e1, _⟩ := hok b _ z
            obtain ⟨e2, _⟩ := hok' b _ z2
            rw [e] at e1; cases e1
            exact e2
  cases hk : K.lookup a with
  | some o =>
    have e := KX a o hk
    rw [ha] at e
    cases e
    refine core (fun _ => none) (fun _ => .inl rfl) (.inr ⟨_, vs.toArray, _, hk, rfl, rfl, rfl, by rw [List.size_toArray, lenV]; exact hl, by simpa using rv⟩) (fun b u z => by have z' : (none : Option HO) = some u := z; cases z') (fun b z => absurd rfl z) fun z => absurd rfl z
  | none =>
    refine core (fun b => if b = a then some (.frz { cls := .type "list", data := .seq vs.toArray } (.lst (ns.map V.int))) else none) (fun b => ?_) (.inl (.inr ⟨{ cls := .type "list", data := .seq vs.toArray }, if_pos rfl⟩)) (fun b u z => ?_) (fun b z => ?_) fun _ => hk
    · by_cases hb : b = a
      · exact .inr ⟨_, _, if_pos hb⟩
      · exact .inl (if_neg hb)
    · by_cases hb : b = a
      · have z' := (if_pos hb).symm.trans z
        cases z'
        subst hb
        exact ⟨ha, by rw [List.length_map]; exact hl, vs, _, rv, ha⟩
      · have z' := (if_neg hb).symm.trans z
        cases z'
    · by_cases hb : b = a
      · exact hb
      · exact absurd (if_neg hb) z
end L2
namespace L2
open PySem PySem.Spec PyProof.Rows
abbrev KOf {K : PySem.W.Frag} {h : Heap} (_ : K.In h) : PySem.W.Frag := K
theorem walk_of {l : PySem.W.OpenLaw} {n k : Nat} {q : Program} {loose : List Str} {XP : (Str → Option Value) → Heap → Prop} {YP : World → Heap → Prop} {d : DefRec} {K : Params → PySem.W.Frag} {CX : World → CXT} {sp : World → Sp} {x : Str}
    (hn : l.most = some n) (hn2 : n ≤ sizeLine) (hdf : d.params.defaults = []) (hr : Room k callerA)
    (hY : ∀ (w : World) (h : Heap), YP w h → (K w.params).In h)
    (F : ∀ (w : World) (mg : Str → Option Value) (fa : Addr) (h : Heap), (K w.params).In h → h.Ns mainGlobals mg → mg d.name = some (.ref fa) →
      ∃ fd : FuncData, (∀ (s : Shared) (u : Value), BindsTo s fd ⟨[u], []⟩ [(x, u)]) ∧
        ∀ base : Heap, (K w.params).In base → base.Ns mainGlobals mg → FnOk l.prog w (K w.params) mg base (CX w) k fa fd [x] (sp w))
    (hsp : ∀ (w : World) (H : Hp) (a : Addr) (ns : List Int), ns.length ≤ n → Only H → SqL (K w.params) H a (ns.map V.int) → sp w [.ref a] H (fun v _ => v = .bl true) fun _ _ _ => False)
    (hCX : ∀ (w : World) (H : Hp) (s : Shared) (e : Value) (s' : Shared), CX w [] H s (fun _ _ _ => False) e s' → False) :
    PySem.W.WalkO q loose XP YP l.row.toRowW d [] (fun f vs => PySem.call f vs) := by
  refine Att.attach_call hn hdf fun w s₀ s₁ mg mb fa o pm cd doc a vs ns G Y ho hd hcd hmg hobj hints hlen hg => ?_
  have KX := hY w _ Y
  obtain ⟨fd, hb, hF⟩ := F w mg fa _ KX G.T.g hmg
  exact law_call KX G.T.g G.T.b G.T.builtins G.T.nolimit hg hobj hints (Nat.le_trans hlen hn2) hr hF hb (fun H hO hS => hsp w H a ns hlen hO hS) fun H e s' => hCX w H s₁ e s'
theorem walk_ofK {l : PySem.W.OpenLaw} {n k : Nat} {q : Program} {loose : List Str} {XP : (Str → Option Value) → Heap → Prop} {YP : World → Heap → Prop} {d : DefRec} {K : Params → PySem.W.Frag} {CX : CXT} {sp : PySem.W.Frag → Sp} {x : Str}
    (hn : l.most = some n) (hn2 : n ≤ sizeLine) (hdf : d.params.defaults = []) (hr : Room k callerA)
    (hY : ∀ (w : World) (h : Heap), YP w h → (K w.params).In h)
    (F : ∀ (w : World) (mg : Str → Option Value) (fa : Addr) (h : Heap), (K w.params).In h → h.Ns mainGlobals mg → mg d.name = some (.ref fa) →
      ∃ fd : FuncData, (∀ (s : Shared) (u : Value), BindsTo s fd ⟨[u], []⟩ [(x, u)]) ∧
        ∀ base : Heap, (K w.params).In base → base.Ns mainGlobals mg → FnOk l.prog w (K w.params) mg base CX k fa fd [x] (sp (K w.params)))
    (hsp : ∀ (K : PySem.W.Frag) (H : Hp) (a : Addr) (ns : List Int), ns.length ≤ n → Only H → SqL K H a (ns.map V.int) → sp K [.ref a] H (fun v _ => v = .bl true) fun _ _ _ => False)
    (hCX : ∀ (H : Hp) (s : Shared) (e : Value) (s' : Shared), CX [] H s (fun _ _ _ => False) e s' → False) :
    PySem.W.WalkO q loose XP YP l.row.toRowW d [] (fun f vs => PySem.call f vs) :=
  walk_of (K := K) (CX := fun _ => CX) (sp := fun w => sp (K w.params)) hn hn2 hdf hr hY F (fun w H a ns h1 h2 h3 => hsp (K w.params) H a ns h1 h2 h3) fun _ H s e s' => hCX H s e s'
end L2
/- THE LAST THEOREM (shape; LID, My.* are yours):
   My.Adr: a structure of the addresses that your layer names (classes, functions); My.Txt K t: a structure (Prop) of the equations over K;
   My.txt_mk : {K} {implicit addresses ..} (e1 : nsIn K mainGlobals "law" = some (some (.ref f))) (e2 : K.lookup f = some ⟨oc, od, .func (fnOf "law" "law" params body scope dV kV doc pm an cdv ct), sl⟩) (e3 : codeIn K cdv "law" = true) .. : ∃ t, My.Txt K t
set_option maxRecDepth 100000 in
set_option maxHeartbeats 0 in
theorem PySem.Challenge.cw_LID_holds : PySem.Challenge.rw_LID.Holds := by
  w_on; o_law; k_head; (case hw => w_witness2)
  k_fill
  refine L2.walk_of (l := PySem.Challenge.rw_LID) (n := 63) (k := 40) (x := "script") (CX := fun w => ..) (sp := fun _ => My.sp_law) rfl (by decide) rfl ⟨rfl, by decide, by decide⟩ (fun w h Y => PySem.W.kIn_of Y) ?F ?S ?C
  case F =>
    intro w mg fa h KX G hmg
    have T : ∃ t, My.Txt (L2.KOf KX) t := by
      dsimp only [L2.KOf]                          -- K must stand as «<heap const> w.params» for k_is
      refine' My.txt_mk ?e1 ?e2 ?e3 ..
      (case e1 => PySem.W.k_is)                    -- in the order: a name -> its address -> its object -> its parts
      (case e2 => PySem.W.k_is)
      ..
    obtain ⟨t, T⟩ := T
    have e0 := hmg.symm.trans (PySem.W.mg_of KX G T.law)
    cases e0                                       -- fa is the law's own address
    exact ⟨_, fun s u => .of_eq rfl, fun base kb nb => My.law_fn T kb nb⟩     -- if «.of_eq rfl» comes too early: refine' ⟨_, ?b, fun base kb nb => My.law_fn T kb nb⟩; exact fun s u => .of_eq rfl
  case S => exact fun w H a ns hl hO hS => ..
  case C => exact ..
(the tactic k_is has no namespace: write k_is) -/
namespace L2
open PySem PySem.Spec PyProof.Rows
def inClass (s : Stmt) (j : Nat) : Stmt := match s with
  | .ClassDef _ _ _ body _ _ _ _ _ _ _ => body.getD j (.Pass ⟨0, 0, 0, 0⟩)
  | _ => .Pass ⟨0, 0, 0, 0⟩
def defArgs (s : Stmt) : Arguments := match s with
  | .FunctionDef _ a _ _ _ _ _ _ _ _ => a
  | _ => { posonlyargs := [], args := [], vararg := none, kwonlyargs := [], kw_defaults := [], kwarg := none, defaults := [] }
def defBody (s : Stmt) : List Stmt := match s with
  | .FunctionDef _ _ b _ _ _ _ _ _ _ => b
  | _ => []
def defScope (s : Stmt) : Scope := match s with
  | .FunctionDef _ _ _ _ _ _ sc _ _ _ => sc
  | _ => { kind := .function, names := [], isGenerator := false, isCoroutine := false }
abbrev CX0 : CXT := fun _ _ _ _ _ _ => False
abbrev E0 : XK := fun _ _ _ => False
theorem pass0 {X : Cx} : Passes CX0 X E0 := fun _ _ _ _ _ _ _ h => h.elim
structure Fun (K : PySem.W.Frag) (x qual : Str) (st : Stmt) (f : Addr) (fd : FuncData) : Prop where
  ex : ∃ (oc : Value) (od : Option Addr) (kV doc pm : Value) (an : Option Addr) (cdv ct : Value) (osl : Array (Option Value)),
    fd = PySem.W.fnOf x qual (defArgs st) (defBody st) (defScope st) .none kV doc pm an cdv ct ∧ K.lookup f = some ⟨oc, od, .func fd, osl⟩ ∧ PySem.W.codeIn K cdv qual = true
  kp : PySem.W.keepIn K (.ref f) = true
section
variable {P : Program} {w : World} {K : PySem.W.Frag} {mg : Str → Option Value} {base : Heap}
theorem Fun.ok {x qual : Str} {st : Stmt} {f : Addr} {fd : FuncData} {N ps : List Str} {k : Nat} {sp : Sp} (F : Fun K x qual st f fd) (S : FnScope N ps (defScope st)) (len : ∀ vs H Q E, sp vs H Q E → vs.length = ps.length)
    (hbody : ∀ (cdv : Value) (A : Around) (outer : List Env) (s : Shared) (H : Hp) (vs : List V) (Q : VK) (E : XK), Room k (A.deeper (envOfC qual (defScope st) s.heap.objs.size f cdv)) → sp vs H Q E →
      ∃ t, PSs (cxOf CX0 P w K mg base N qual (defScope st) f cdv A outer s H E).nox (defBody st) t ∧ t { nx := fun _ H' => Q .non H', rt := Q } (start N vs) H) : FnOk P w K mg base CX0 (k + 1) f fd ps sp := by
  obtain ⟨oc, od, kV, doc, pm, an, cdv, ct, osl, rfl, lk, hcd⟩ := F.ex
  refine fn_of lk hcd S len fun A outer s H vs Q E hr hsp => ?_
  obtain ⟨t, h, q⟩ := hbody cdv A outer s H vs Q E hr hsp
  exact ⟨t, h.nox, q⟩
theorem Fun.binds {x qual : Str} {st : Stmt} {f : Addr} {fd : FuncData} {ps : List Str} (F : Fun K x qual st f fd)
    (h : ∀ (kV doc pm : Value) (an : Option Addr) (cdv ct : Value) (us : List Value), us.length = ps.length → bindArgs (PySem.W.fnOf x qual (defArgs st) (defBody st) (defScope st) .none kV doc pm an cdv ct) ⟨us, []⟩ = pure (ps.zip us)) : Binds K fd ps [] := by
  obtain ⟨oc, od, kV, doc, pm, an, cdv, ct, osl, rfl, lk, hcd⟩ := F.ex
  exact .all (h kV doc pm an cdv ct)
theorem fun_mk {x qual : Str} {st : Stmt} {f : Addr} {oc : Value} {od an : Option Addr} {osl : Array (Option Value)} {kV doc pm cdv ct : Value} (l : K.lookup f = some ⟨oc, od, .func (PySem.W.fnOf x qual (defArgs st) (defBody st) (defScope st) .none kV doc pm an cdv ct), osl⟩)
    (c : PySem.W.codeIn K cdv qual = true) (k : PySem.W.keepIn K (.ref f) = true) : Fun K x qual st f (PySem.W.fnOf x qual (defArgs st) (defBody st) (defScope st) .none kV doc pm an cdv ct) := ⟨⟨oc, od, kV, doc, pm, an, cdv, ct, osl, rfl, l, c⟩, k⟩
end
theorem hu_of {A : Around} {k : Nat} (hr : Room k A) : A.units + 1 < cLine := Nat.lt_of_le_of_lt (Nat.add_le_add_left (by decide : 1 ≤ 64) _) hr.units
theorem small1000 {n : Nat} (h : n ≤ 1000) : n < sizeLine := Nat.lt_of_le_of_lt h (by decide)
section
variable {X : Cx}
theorem pv (i : Nat) {x : Str} {pos : Pos} (hN : X.N[i]? = some x := by rfl) (hv : Vis X.env.scope x := by first | exact Or.inl rfl | exact Or.inr (Or.inl rfl) | exact Or.inr (Or.inr rfl)) (hd : (x == ("__debug__" : Str)) = false := by decide)
    (hcd : (x == ("__classdict__" : Str)) = false := by decide) : PE X (.Name x pos) (tVar i) := pe_var hN hv hd hcd
end
theorem iteF {A B : Prop} (h : B) : if false = true then A else B := by
  rw [if_neg Bool.false_ne_true]
  exact h
theorem iteT {A B : Prop} (h : A) : if true = true then A else B := by
  rw [if_pos rfl]
  exact h
theorem ite2 {c A B : Prop} [Decidable c] (h1 : c → A) (h2 : ¬ c → B) : if c then A else B := by
  by_cases h : c
  · rw [if_pos h]
    exact h1 h
  · rw [if_neg h]
    exact h2 h
theorem iteNS {c A B : Prop} [Decidable c] (hc : c) (h : B) : if (!decide c) = true then A else B := by
  rw [decide_eq_true hc]
  exact iteF h
def Same (H H' : Hp) : Prop := ∀ b o, H b = some o → H' b = some o
theorem Same.refl (H : Hp) : Same H H := fun _ _ h => h
theorem Same.trans {H H1 H2 : Hp} (a : Same H H1) (b : Same H1 H2) : Same H H2 := fun c o h => b c o (a c o h)
theorem Same.free {H H' : Hp} (e : Same H H') {l : Addr} (h : H' l = Option.none) : H l = Option.none := by
  cases q : H l with
  | none => rfl
  | some o =>
    rw [e l o q] at h
    cases h
theorem Same.seq {K : PySem.W.Frag} {H H' : Hp} {a : Addr} {xs : List V} (e : Same H H') (h : SqL K H a xs) : SqL K H' a xs := by
  rcases h with (h | ⟨o, h⟩) | h
  · exact .inl (.inl (e _ _ h))
  · exact .inl (.inr ⟨o, e _ _ h⟩)
  · exact .inr h
end L2
namespace Ph
inductive T where
  | nil
  | node (r a : Int) (l rt : T) (rc hd : Int)
  deriving DecidableEq
def T.size : T → Nat
  | .nil => 0
  | .node _ _ l rt _ _ => l.size + rt.size + 1
def T.toL : T → List (Int × Int)
  | .nil => []
  | .node r a l rt _ _ => (r, a) :: (l.toL ++ rt.toL)
def T.reach : T → Int
  | .nil => 0
  | .node _ _ _ _ rc _ => rc
def T.held : T → Int
  | .nil => 0
  | .node _ _ _ _ _ hd => hd
theorem T.length_toL : ∀ t : T, t.toL.length = t.size
  | .nil => rfl
  | .node _ _ l rt _ _ => by simp [T.toL, T.size, l.length_toL, rt.length_toL]
def lt2 (p q : Int × Int) : Bool := if p.1 = q.1 then decide (p.2 < q.2) else decide (p.1 < q.1)
def le2 (p q : Int × Int) : Prop := lt2 q p = false
theorem le2_iff {p q : Int × Int} : le2 p q ↔ p.1 < q.1 ∨ (p.1 = q.1 ∧ p.2 ≤ q.2) := by
  unfold le2 lt2
  split
  · rw [decide_eq_false_iff_not]; omega
  · rw [decide_eq_false_iff_not]; omega
theorem lt2_iff {p q : Int × Int} : lt2 p q = true ↔ p.1 < q.1 ∨ (p.1 = q.1 ∧ p.2 < q.2) := by
  unfold lt2
  split
  · rw [decide_eq_true_iff]; omega
  · rw [decide_eq_true_iff]; omega
theorem le2_refl (p : Int × Int) : le2 p p := by rw [le2_iff]; omega
theorem le2_trans {p q r : Int × Int} (h1 : le2 p q) (h2 : le2 q r) : le2 p r := by
  rw [le2_iff] at *; omega
theorem le2_antisymm {p q : Int × Int} (h1 : le2 p q) (h2 : le2 q p) : p = q := by
  rw [le2_iff] at *
  obtain ⟨a, b⟩ := p; obtain ⟨c, d⟩ := q
  simp only at h1 h2
  have e1 : a = c := by omega
  have e2 : b = d := by omega
  rw [e1, e2]
theorem le2_of_lt2 {p q : Int × Int} (h : lt2 p q = true) : le2 p q := by
  rw [le2_iff]; rw [lt2_iff] at h; omega
theorem le2_total (p q : Int × Int) : le2 p q ∨ le2 q p := by
  rw [le2_iff, le2_iff]; omega
abbrev Sorted2 (l : List (Int × Int)) : Prop := l.Pairwise le2
theorem sorted2_same : ∀ {a b : List (Int × Int)}, a.Perm b → Sorted2 a → Sorted2 b → a = b
  | [], b, hp, _, _ => by simpa using hp.symm.eq_nil.symm
  | x :: a, [], hp, _, _ => by simpa using hp.eq_nil
  | x :: a, y :: b, hp, ha, hb => by
    have hx : x ∈ y :: b := hp.mem_iff.mp List.mem_cons_self
    have hy : y ∈ x :: a := hp.mem_iff.mpr List.mem_cons_self
    have h1 : le2 x y := by
      rcases List.mem_cons.mp hy with e | e
      · rw [e]; exact le2_refl _
      · exact (List.pairwise_cons.mp ha).1 y e
    have h2 : le2 y x := by
      rcases List.mem_cons.mp hx with e | e
      · rw [e]; exact le2_refl _
      · exact (List.pairwise_cons.mp hb).1 x e
    have e := le2_antisymm h1 h2
    subst e
    rw [sorted2_same hp.cons_inv (List.pairwise_cons.mp ha).2 (List.pairwise_cons.mp hb).2]
def mk (r a : Int) (l rt : T) : T := .node r a l rt (rt.reach + 1) (l.held + rt.held + 1)
def leanT (r a : Int) (old other : T) : T := if old.reach < other.reach then mk r a other old else mk r a old other
theorem leanT_size (r a : Int) (l o : T) : (leanT r a l o).size = l.size + o.size + 1 := by
  unfold leanT mk; split <;> simp [T.size] <;> omega
theorem leanT_perm (r a : Int) (l o : T) : (leanT r a l o).toL.Perm ((r, a) :: (l.toL ++ o.toL)) := by
  unfold leanT mk
  split
  · exact List.Perm.cons _ List.perm_append_comm
  · exact List.Perm.refl _
def join : T → T → T
  | .nil, t => t
  | .node r a l rt rc hd, .nil => .node r a l rt rc hd
  | .node r a l rt rc hd, .node r' a' l' rt' rc' hd' =>
    if lt2 (r', a') (r, a) = true then leanT r' a' l' (join (.node r a l rt rc hd) rt') else leanT r a l (join rt (.node r' a' l' rt' rc' hd'))
termination_by s t => s.size + t.size
decreasing_by all_goals simp [T.size]; omega
def joinN : T → T → Nat
  | .nil, _ => 0
  | .node _ _ _ _ _ _, .nil => 0
  | .node r a l rt rc hd, .node r' a' l' rt' rc' hd' =>
    if lt2 (r', a') (r, a) = true then joinN (.node r a l rt rc hd) rt' + 1 else joinN rt (.node r' a' l' rt' rc' hd') + 1
termination_by s t => s.size + t.size
decreasing_by all_goals simp [T.size]; omega
theorem join_nil_left (t : T) : join .nil t = t := by rw [join]
theorem join_nil_right (t : T) : join t .nil = t := by cases t <;> rw [join]
theorem joinN_nil_left (t : T) : joinN .nil t = 0 := by rw [joinN]
theorem joinN_nil_right (t : T) : joinN t .nil = 0 := by cases t <;> rw [joinN]
theorem join_perm (s t : T) : (join s t).toL.Perm (s.toL ++ t.toL) := by
  fun_induction join s t with
  | case1 t => exact List.Perm.refl _
  | case2 r a l rt rc hd => simp [T.toL]
  | case3 r a l rt rc hd r' a' l' rt' rc' hd' h ih =>
    refine (leanT_perm _ _ _ _).trans ?_
    have e : T.toL (.node r' a' l' rt' rc' hd') = (r', a') :: (l'.toL ++ rt'.toL) := rfl
    rw [e]
    refine List.Perm.trans ?_ (List.perm_middle (a := (r', a'))).symm
    refine List.Perm.cons _ ?_
    refine (List.Perm.append_left _ ih).trans ?_
    rw [← List.append_assoc, ← List.append_assoc]
    exact List.Perm.append_right _ List.perm_append_comm
  | case4 r a l rt rc hd r' a' l' rt' rc' hd' h ih =>
    refine (leanT_perm _ _ _ _).trans ?_
    show List.Perm _ ((r, a) :: ((l.toL ++ rt.toL) ++ _))
    refine List.Perm.cons _ ?_
    rw [List.append_assoc]
    exact List.Perm.append_left _ ih
theorem join_size (s t : T) : (join s t).size = s.size + t.size := by
  have := (join_perm s t).length_eq
  rw [List.length_append, T.length_toL, T.length_toL, T.length_toL] at this
  exact this
def Ho : T → Prop
  | .nil => True
  | .node r a l rt _ _ => (∀ q ∈ l.toL ++ rt.toL, le2 (r, a) q) ∧ Ho l ∧ Ho rt
theorem Ho.top {r a rc hd : Int} {l rt : T} (h : Ho (.node r a l rt rc hd)) : ∀ q ∈ T.toL (.node r a l rt rc hd), le2 (r, a) q := by
  intro q hq
  rcases List.mem_cons.mp hq with e | e
  · rw [e]; exact le2_refl _
  · exact h.1 q e
theorem ho_lean {r a : Int} {l o : T} (hl : Ho l) (ho : Ho o) (h : ∀ q ∈ l.toL ++ o.toL, le2 (r, a) q) : Ho (leanT r a l o) := by
  unfold leanT mk
  split
  · exact ⟨fun q hq => h q (List.perm_append_comm.mem_iff.mp hq), ho, hl⟩
  · exact ⟨h, hl, ho⟩
theorem ho_join (s t : T) (hs : Ho s) (ht : Ho t) : Ho (join s t) := by
  fun_induction join s t with
  | case1 t => exact ht
  | case2 r a l rt rc hd => exact hs
  | case3 r a l rt rc hd r' a' l' rt' rc' hd' h ih =>
    refine ho_lean ht.2.1 (ih hs ht.2.2) fun q hq => ?_
    rcases List.mem_append.mp hq with e | e
    · exact ht.1 q (List.mem_append_left _ e)
    · rcases List.mem_append.mp ((join_perm _ _).mem_iff.mp e) with e | e
      · exact le2_trans (le2_of_lt2 h) (hs.top q e)
      · exact ht.1 q (List.mem_append_right _ e)
  | case4 r a l rt rc hd r' a' l' rt' rc' hd' h ih =>
    refine ho_lean hs.2.1 (ih hs.2.2 ht) fun q hq => ?_
    rcases List.mem_append.mp hq with e | e
    · exact hs.1 q (List.mem_append_left _ e)
    · rcases List.mem_append.mp ((join_perm _ _).mem_iff.mp e) with e | e
      · exact hs.1 q (List.mem_append_right _ e)
      · have h' : le2 (r, a) (r', a') := by unfold le2; simpa using h
        exact le2_trans h' (ht.top q e)
end Ph
namespace Ph
open PySem PySem.W PyProof.Rows
def krun {α : Type} (c : Nat → Nat → Bool) : KasT α → α
  | .ret a => a
  | .ask i j k => krun c (k (c i j))
theorem krun_bind {α β : Type} {c : Nat → Nat → Bool} {f : α → KasT β} : ∀ t : KasT α, krun c (t.bind f) = krun c (f (krun c t))
  | .ret _ => rfl
  | .ask i j k => krun_bind (k (c i j))
theorem krun_ite {α : Type} {c : Nat → Nat → Bool} {p : Prop} [Decidable p] {t u : KasT α} : krun c (if p then t else u) = if p then krun c t else krun c u := by
  split <;> rfl
section
variable (key : Nat → Int × Int)
def kc : Nat → Nat → Bool := fun i j => lt2 (key i) (key j)
def Ky (p : Array Nat) (i : Nat) : Int × Int := key (p.getD i 0)
def SortedTo2 (p : Array Nat) (k : Nat) : Prop := ∀ i j, i ≤ j → j < k → le2 (Ky key p i) (Ky key p j)
def NonInc2 (p : Array Nat) (k : Nat) : Prop := ∀ i j, i ≤ j → j < k → le2 (Ky key p j) (Ky key p i)
end
variable {key : Nat → Int × Int}
theorem getD_eq (p : Array Nat) (i : Nat) : p.getD i 0 = p[i]?.getD 0 := by
  by_cases h : i < p.size <;> simp [Array.getD, h]
theorem ky_congr {p q : Array Nat} {i j : Nat} (h : p[i]? = q[j]?) : Ky key p i = Ky key q j := by
  unfold Ky; rw [getD_eq, getD_eq, h]
theorem ky_bubble {xs : Array Nat} {src d : Nat} (hs : src < xs.size) (hd : d ≤ src) (k : Nat) :
    Ky key (bubble xs src d) k = if k = src - d then Ky key xs src else if src - d < k ∧ k ≤ src then Ky key xs (k - 1) else Ky key xs k := by
  have e := getElem?_bubble hs d hd k
  by_cases h1 : k = src - d
  · rw [if_pos h1] at e ⊢; exact ky_congr e
  · rw [if_neg h1] at e ⊢
    by_cases h2 : src - d < k ∧ k ≤ src
    · rw [if_pos h2] at e ⊢; exact ky_congr e
    · rw [if_neg h2] at e ⊢; exact ky_congr e
theorem ky_mirror {xs : Array Nat} {i j : Nat} (hj : j ≤ xs.size) (k : Nat) :
    Ky key (kas_rev xs i j) k = if i ≤ k ∧ k < j then Ky key xs (i + j - 1 - k) else Ky key xs k := by
  have e := getElem?_mirror_all (i := i) hj k
  unfold kas_rev
  by_cases h1 : i ≤ k ∧ k < j
  · rw [if_pos h1] at e ⊢; exact ky_congr e
  · rw [if_neg h1] at e ⊢; exact ky_congr e
theorem ky_mirror_equal {xs : Array Nat} {i j : Nat} (hj : j ≤ xs.size) (heq : ∀ k, i ≤ k → k < j → Ky key xs k = Ky key xs (j - 1)) (k : Nat) :
    Ky key (kas_rev xs i j) k = Ky key xs k := by
  rw [ky_mirror hj]
  split
  · rw [heq _ (by omega) (by omega), heq k (by omega) (by omega)]
  · rfl
theorem rev_perm (p : Array Nat) (i j : Nat) : (kas_rev p i j).Perm p := mirror_perm _ _ _ _
theorem rev_size (p : Array Nat) (i j : Nat) : (kas_rev p i j).size = p.size := mirror_size _ _ _ _
theorem asc_ok (p : Array Nat) : ∀ (f n : Nat), 1 ≤ n → SortedTo2 key p n →
    n ≤ krun (kc key) (kas_asc p f n) ∧ krun (kc key) (kas_asc p f n) ≤ n + f ∧ SortedTo2 key p (krun (kc key) (kas_asc p f n)) ∧
      (krun (kc key) (kas_asc p f n) = n + f ∨ lt2 (Ky key p (krun (kc key) (kas_asc p f n))) (Ky key p (krun (kc key) (kas_asc p f n) - 1)) = true)
  | 0, n, _, hs => ⟨Nat.le_refl _, Nat.le_refl _, hs, .inl rfl⟩
  | f + 1, n, h1, hs => by
    have e : krun (kc key) (kas_asc p (f + 1) n) = if lt2 (Ky key p n) (Ky key p (n - 1)) = true then n else krun (kc key) (kas_asc p f (n + 1)) := by
      show krun (kc key) (if lt2 (Ky key p n) (Ky key p (n - 1)) = true then KasT.ret n else kas_asc p f (n + 1)) = _
      rw [krun_ite]; rfl
    rw [e]
    split
    · rename_i h
      exact ⟨Nat.le_refl _, by omega, hs, .inr h⟩
    · rename_i h
      have h' : le2 (Ky key p (n - 1)) (Ky key p n) := by unfold le2; simpa using h
      have := asc_ok p f (n + 1) (by omega) (fun i j hij hj => by
        by_cases hjn : j < n
        · exact hs i j hij hjn
        · have ej : j = n := by omega
          subst ej
          by_cases hi : i = j
          · subst hi; exact le2_refl _
          · exact le2_trans (hs i (j - 1) (by omega) (by omega)) h')
      refine ⟨by omega, by omega, this.2.2.1, ?_⟩
      rcases this.2.2.2 with e | e
      · exact .inl (by omega)
      · exact .inr e
theorem noninc_step {p : Array Nat} {n : Nat} (hs : NonInc2 key p n) (h1 : 1 ≤ n) (h : le2 (Ky key p n) (Ky key p (n - 1))) : NonInc2 key p (n + 1) := by
  intro i j hij hj
  by_cases hjn : j < n
  · exact hs i j hij hjn
  · have ej : j = n := by omega
    subst ej
    by_cases hi : i = j
    · subst hi; exact le2_refl _
    · exact le2_trans h (hs i (j - 1) (by omega) (by omega))
theorem desc_ok : ∀ (f : Nat) (p : Array Nat) (n q : Nat), NonInc2 key p n → q + 1 ≤ n → n + f ≤ p.size → (∀ i, n - (q + 1) ≤ i → i < n → Ky key p i = Ky key p (n - 1)) →
    ∀ r, r = krun (kc key) (kas_desc f p n q) → r.1.Perm p ∧ n ≤ r.2.1 ∧ r.2.1 ≤ n + f ∧ NonInc2 key r.1 r.2.1 ∧ r.2.2 + 1 ≤ r.2.1 ∧ (∀ i, r.2.1 - (r.2.2 + 1) ≤ i → i < r.2.1 → Ky key r.1 i = Ky key r.1 (r.2.1 - 1))
  | 0, p, n, q, hs, hq, hz, he, r, hr => by
    subst hr
    exact ⟨Array.Perm.refl _, Nat.le_refl _, Nat.le_refl _, hs, hq, he⟩
  | f + 1, p, n, q, hs, hq, hz, he, r, hr => by
    have e : krun (kc key) (kas_desc (f + 1) p n q) = if lt2 (Ky key p n) (Ky key p (n - 1)) = true then (if q > 0 then krun (kc key) (kas_desc f (kas_rev p (n - (q + 1)) n) (n + 1) 0) else krun (kc key) (kas_desc f p (n + 1) 0))
        else if lt2 (Ky key p (n - 1)) (Ky key p n) = true then (p, n, q) else krun (kc key) (kas_desc f p (n + 1) (q + 1)) := by
      show krun (kc key) (if lt2 (Ky key p n) (Ky key p (n - 1)) = true then (if q > 0 then kas_desc f (kas_rev p (n - (q + 1)) n) (n + 1) 0 else kas_desc f p (n + 1) 0)
        else KasT.ask (p.getD (n - 1) 0) (p.getD n 0) fun d => if d = true then KasT.ret (p, n, q) else kas_desc f p (n + 1) (q + 1)) = _
      rw [krun_ite, krun_ite]
      congr 1
      show krun (kc key) (if lt2 (Ky key p (n - 1)) (Ky key p n) = true then KasT.ret (p, n, q) else kas_desc f p (n + 1) (q + 1)) = _
      rw [krun_ite]; rfl
    rw [e] at hr
    split at hr
    · rename_i h
      have hle := le2_of_lt2 h
      have st : ∀ xs : Array Nat, (∀ k, Ky key xs k = Ky key p k) → NonInc2 key xs (n + 1) := fun xs hk i j hij hj => by
        rw [hk, hk]; exact noninc_step hs (by omega) hle i j hij hj
      split at hr
      · have := desc_ok f (kas_rev p (n - (q + 1)) n) (n + 1) 0 (st _ (ky_mirror_equal (by omega) he)) (by omega) (by rw [rev_size]; omega) (fun i h1 h2 => by congr 1; omega) r hr
        exact ⟨this.1.trans (rev_perm _ _ _), by omega, by omega, this.2.2.2⟩
      · have := desc_ok f p (n + 1) 0 (st _ fun _ => rfl) (by omega) (by omega) (fun i h1 h2 => by congr 1; omega) r hr
        exact ⟨this.1, by omega, by omega, this.2.2.2⟩
    · rename_i h
      split at hr
      · subst hr
        exact ⟨Array.Perm.refl _, Nat.le_refl _, by simp, hs, hq, he⟩
      · rename_i h2
        have eq : Ky key p n = Ky key p (n - 1) := le2_antisymm (by unfold le2; simpa using h2) (by unfold le2; simpa using h)
        have := desc_ok f p (n + 1) (q + 1) (noninc_step hs (by omega) (by rw [eq]; exact le2_refl _)) (by omega) (by omega) (fun i h1 h2 => by
          rw [show n + 1 - 1 = n by omega]
          by_cases hi : i = n
          · subst hi; rfl
          · rw [eq]; exact he i (by omega) (by omega)) r hr
        exact ⟨this.1, by omega, by omega, this.2.2.2⟩
theorem tail3_ok {p : Array Nat} {n nrem : Nat} (h1 : 1 ≤ n) (hn : n ≤ nrem) (hz : nrem ≤ p.size) (hs : NonInc2 key p n) (r : Nat × Array Nat) (hr : r = krun (kc key) (kas_tail3 n nrem p)) :
    r.2.Perm p ∧ 1 ≤ r.1 ∧ r.1 ≤ nrem ∧ SortedTo2 key r.2 r.1 := by
  unfold kas_tail3 at hr
  rw [krun_bind] at hr
  have := asc_ok (key := key) (kas_rev p 0 n) (nrem - n) n h1 (fun i j hij hj => by
    rw [ky_mirror (by omega), ky_mirror (by omega), if_pos (by omega), if_pos (by omega)]
    exact hs _ _ (by omega) (by omega))
  subst hr
  exact ⟨rev_perm _ _ _, Nat.le_trans h1 this.1, Nat.le_trans this.2.1 (by omega), this.2.2.1⟩
theorem descPart_ok {p : Array Nat} {n nrem : Nat} (hn : n + 1 ≤ nrem) (hz : nrem ≤ p.size) (hs : NonInc2 key p (n + 1)) (r : Nat × Array Nat) (hr : r = krun (kc key) (kas_descPart n nrem p)) :
    r.2.Perm p ∧ 1 ≤ r.1 ∧ r.1 ≤ nrem ∧ SortedTo2 key r.2 r.1 := by
  unfold kas_descPart at hr
  rw [krun_bind, krun_ite] at hr
  obtain ⟨d1, d2, d3, d4, d5, d6⟩ := desc_ok (key := key) (nrem - (n + 1)) p (n + 1) 0 hs (by omega) (by omega) (fun i h1 h2 => by congr 1; omega) _ rfl
  generalize krun (kc key) (kas_desc (nrem - (n + 1)) p (n + 1) 0) = d at *
  have sz : d.1.size = p.size := d1.size_eq
  split at hr
  · have := tail3_ok (key := key) (p := kas_rev d.1 (d.2.1 - (d.2.2 + 1)) d.2.1) (n := d.2.1) (nrem := nrem) (by omega) (by omega) (by rw [rev_size]; omega) (fun i j hij hj => by
      rw [ky_mirror_equal (by omega) d6, ky_mirror_equal (by omega) d6]
      exact d4 i j hij hj) r hr
    exact ⟨this.1.trans ((rev_perm _ _ _).trans d1), this.2⟩
  · have := tail3_ok (key := key) (p := d.1) (n := d.2.1) (nrem := nrem) (by omega) (by omega) (by omega) d4 r hr
    exact ⟨this.1.trans d1, this.2⟩
theorem count_ok {p : Array Nat} {nrem : Nat} (h1 : 1 ≤ nrem) (hz : nrem ≤ p.size) (r : Nat × Array Nat) (hr : r = krun (kc key) (kas_count nrem p)) :
    r.2.Perm p ∧ 1 ≤ r.1 ∧ r.1 ≤ nrem ∧ SortedTo2 key r.2 r.1 := by
  unfold kas_count at hr
  rw [krun_bind] at hr
  obtain ⟨a1, a2, a3, a4⟩ := asc_ok (key := key) p (nrem - 1) 1 (Nat.le_refl _) (fun i j hij hj => by
    have : i = j := by omega
    subst this; exact le2_refl _)
  generalize krun (kc key) (kas_asc p (nrem - 1) 1) = n at *
  rw [krun_ite] at hr
  split at hr
  · subst hr
    exact ⟨Array.Perm.refl _, a1, by show n ≤ nrem; omega, a3⟩
  · rename_i hnn
    have hne : n ≠ nrem := fun e => hnn (by rw [e]; exact beq_self_eq_true _)
    have hlt : lt2 (Ky key p n) (Ky key p (n - 1)) = true := a4.resolve_left (by omega)
    rw [krun_ite] at hr
    split at hr
    · have e : krun (kc key) (KasT.ask (p.getD 0 0) (p.getD (n - 1) 0) fun c => if c = true then KasT.ret (n, p) else kas_descPart n nrem (kas_rev p 0 n)) =
          if lt2 (Ky key p 0) (Ky key p (n - 1)) = true then (n, p) else krun (kc key) (kas_descPart n nrem (kas_rev p 0 n)) := by
        show krun (kc key) (if lt2 (Ky key p 0) (Ky key p (n - 1)) = true then KasT.ret (n, p) else kas_descPart n nrem (kas_rev p 0 n)) = _
        rw [krun_ite]; rfl
      rw [e] at hr
      split at hr
      · subst hr
        exact ⟨Array.Perm.refl _, a1, by show n ≤ nrem; omega, a3⟩
      · rename_i hro
        have hro' : le2 (Ky key p (n - 1)) (Ky key p 0) := by unfold le2; simpa using hro
        have hall : ∀ k, 0 ≤ k → k < n → Ky key p k = Ky key p (n - 1) := fun k _ hk => by
          have b1 := a3 0 k (by omega) hk
          have b2 := a3 k (n - 1) (by omega) (by omega)
          exact le2_antisymm b2 (le2_trans hro' b1)
        have hsz : n ≤ p.size := by omega
        have := descPart_ok (key := key) (p := kas_rev p 0 n) (n := n) (nrem := nrem) (by omega) (by rw [rev_size]; omega) (fun i j hij hj => by
          rw [ky_mirror_equal hsz hall, ky_mirror_equal hsz hall]
          by_cases hjn : j < n
          · rw [hall i (by omega) (by omega), hall j (by omega) hjn]; exact le2_refl _
          · have ej : j = n := by omega
            subst ej
            by_cases hi : i = j
            · subst hi; exact le2_refl _
            · rw [hall i (by omega) (by omega)]; exact le2_of_lt2 hlt) r hr
        exact ⟨this.1.trans (rev_perm _ _ _), this.2⟩
    · have en : n = 1 := by omega
      subst en
      exact descPart_ok (key := key) (by omega) hz (fun i j hij hj => by
        by_cases hi : i = j
        · subst hi; exact le2_refl _
        · have hi0 : i = 0 := by omega
          have hj1 : j = 1 := by omega
          subst hi0; subst hj1
          exact le2_of_lt2 hlt) r hr
theorem place_ok {p : Array Nat} {k : Nat} (hs : SortedTo2 key p k) : ∀ (f l r : Nat), l ≤ r → r ≤ k → r - l ≤ f → (∀ i, i < l → le2 (Ky key p i) (Ky key p k)) → (∀ i, r ≤ i → i < k → lt2 (Ky key p k) (Ky key p i) = true) →
    ∀ m, m = krun (kc key) (kas_place p k f l r) → m ≤ k ∧ (∀ i, i < m → le2 (Ky key p i) (Ky key p k)) ∧ (∀ i, m ≤ i → i < k → lt2 (Ky key p k) (Ky key p i) = true)
  | 0, l, r, hlr, hrk, hf, hlo, hhi, m, hm => by
    have e1 : l = r := by omega
    have e2 : m = l := hm
    rw [e2]
    exact ⟨by omega, hlo, by rw [e1]; exact hhi⟩
  | f + 1, l, r, hlr, hrk, hf, hlo, hhi, m, hm => by
    have e : krun (kc key) (kas_place p k (f + 1) l r) = if l ≥ r then l else if lt2 (Ky key p k) (Ky key p ((l + r) / 2)) = true then krun (kc key) (kas_place p k f l ((l + r) / 2)) else krun (kc key) (kas_place p k f ((l + r) / 2 + 1) r) := by
      show krun (kc key) (if l ≥ r then KasT.ret l else KasT.ask (p.getD k 0) (p.getD ((l + r) / 2) 0) fun c => if c = true then kas_place p k f l ((l + r) / 2) else kas_place p k f ((l + r) / 2 + 1) r) = _
      rw [krun_ite]
      congr 1
      show krun (kc key) (if lt2 (Ky key p k) (Ky key p ((l + r) / 2)) = true then kas_place p k f l ((l + r) / 2) else kas_place p k f ((l + r) / 2 + 1) r) = _
      rw [krun_ite]
    rw [e] at hm
    split at hm
    · have e1 : l = r := by omega
      rw [hm]
      exact ⟨by omega, hlo, by rw [e1]; exact hhi⟩
    · split at hm
      · rename_i h
        exact place_ok hs f l ((l + r) / 2) (by omega) (by omega) (by omega) hlo (fun i h1 h2 => by
          have q := hs ((l + r) / 2) i h1 h2
          rw [lt2_iff] at h ⊢; rw [le2_iff] at q
          omega) m hm
      · rename_i h
        have h' : le2 (Ky key p ((l + r) / 2)) (Ky key p k) := by unfold le2; simpa using h
        exact place_ok hs f ((l + r) / 2 + 1) r (by omega) (by omega) (by omega) (fun i h1 => le2_trans (hs i ((l + r) / 2) (by omega) (by omega)) h') hhi m hm
theorem bin_ok : ∀ (f : Nat) (p : Array Nat) (k : Nat), 1 ≤ k → k + f ≤ p.size → SortedTo2 key p k → ∀ p', p' = krun (kc key) (kas_bin f p k) → p'.Perm p ∧ SortedTo2 key p' (k + f)
  | 0, p, k, _, _, hs, p', hp => by
    subst hp
    exact ⟨Array.Perm.refl _, hs⟩
  | f + 1, p, k, h1, hz, hs, p', hp => by
    have e : krun (kc key) (kas_bin (f + 1) p k) = krun (kc key) (kas_bin f (bubble p k (k - krun (kc key) (kas_place p k k 0 k))) (k + 1)) := by
      show krun (kc key) ((kas_place p k k 0 k).bind fun l => kas_bin f (bubble p k (k - l)) (k + 1)) = _
      rw [krun_bind]
    rw [e] at hp
    obtain ⟨b1, b2, b3⟩ := place_ok (key := key) hs k 0 k (by omega) (by omega) (by omega) (fun i h => by omega) (fun i h1 h2 => by omega) _ rfl
    generalize krun (kc key) (kas_place p k k 0 k) = l at *
    have hks : k < p.size := by omega
    have := bin_ok f (bubble p k (k - l)) (k + 1) (by omega) (by rw [bubble_size]; omega) (fun i j hij hj => by
      rw [ky_bubble hks (by omega), ky_bubble hks (by omega), show k - (k - l) = l by omega]
      repeat' split
      all_goals first
        | (exfalso; omega)
        | exact le2_refl _
        | exact b2 _ (by omega)
        | exact le2_of_lt2 (b3 _ (by omega) (by omega))
        | exact hs _ _ (by omega) (by omega)) p' hp
    refine ⟨this.1.trans (bubble_perm _ _ _), ?_⟩
    rw [show k + (f + 1) = k + 1 + f by omega]
    exact this.2
theorem sort_ok {n : Nat} (h : 1 ≤ n) (p : Array Nat) (hp : p = krun (kc key) (kas_sort n)) : p.Perm (List.range n).toArray ∧ SortedTo2 key p n := by
  unfold kas_sort at hp
  rw [krun_bind, krun_ite] at hp
  have hz : (List.range n).toArray.size = n := by simp
  obtain ⟨c1, c2, c3, c4⟩ := count_ok (key := key) (p := (List.range n).toArray) (nrem := n) h (by omega) _ rfl
  generalize krun (kc key) (kas_count n (List.range n).toArray) = r at *
  have sz : r.2.size = n := by rw [c1.size_eq, hz]
  split at hp
  · have := bin_ok (key := key) (n - max r.1 1) r.2 (max r.1 1) (by omega) (by omega) (by rw [Nat.max_eq_left c2]; exact c4) p hp
    refine ⟨this.1.trans c1, ?_⟩
    rw [show max r.1 1 + (n - max r.1 1) = n by omega] at this
    exact this.2
  · have hp' : p = r.2 := hp
    subst hp'
    have : r.1 = n := by omega
    rw [this] at c4
    exact ⟨c1, c4⟩
theorem sort_list {n : Nat} (h : 1 ≤ n) : (krun (kc key) (kas_sort n)).toList.Perm (List.range n) ∧ Sorted2 ((krun (kc key) (kas_sort n)).toList.map key) := by
  obtain ⟨h1, h2⟩ := sort_ok (key := key) h _ rfl
  generalize krun (kc key) (kas_sort n) = p at *
  have hz : p.size = n := by rw [h1.size_eq]; simp
  refine ⟨by simpa using Array.perm_iff_toList_perm.mp h1, ?_⟩
  rw [Sorted2, List.pairwise_iff_getElem]
  intro i j hi hj hij
  have hi' : i < p.size := by simpa using hi
  have hj' : j < p.size := by simpa using hj
  have q := h2 i j (by omega) (by omega)
  unfold Ky at q
  rw [getD_eq, getD_eq, Array.getElem?_eq_getElem hi', Array.getElem?_eq_getElem hj'] at q
  simpa using q
end Ph
set_option Elab.async false
set_option linter.all false
set_option maxRecDepth 100000
namespace Ph
open PySem PySem.Spec L2
open PyProof.Rows hiding St
def Tups (H H' : Hp) : Prop := ∀ b xs, H b = some (.tup xs) → H' b = some (.tup xs)
theorem Tups.refl (H : Hp) : Tups H H := fun _ _ h => h
theorem Tups.trans {H H1 H2 : Hp} (a : Tups H H1) (b : Tups H1 H2) : Tups H H2 := fun c xs h => b c xs (a c xs h)
theorem Tups.of {H H' : Hp} (h : Same H H') : Tups H H' := fun b xs e => h b _ e
theorem Tups.put {H : Hp} {l : Addr} {xs : List V} {o : HO} (h : H l = some (.lst xs)) : Tups H (upd H l o) := fun b ys e => by
  rw [upd_ne (ne_of e h (by intro z; cases z))]; exact e
theorem Tups.new {H : Hp} {p : Addr} (h : H p = none) (o : HO) : Tups H (upd H p o) := fun b ys e => by
  rw [upd_ne (ne_of_none e h)]; exact e
theorem same_new {H : Hp} {p : Addr} (h : H p = none) (o : HO) : Same H (upd H p o) := fun b u q => by rw [upd_ne (ne_of_none q h)]; exact q
def PileAt (H : Hp) : T → V → Prop
  | .nil, v => ∃ p, v = .ref p ∧ H p = some (.tup [])
  | .node r a l rt rc hd, v => ∃ p vl vr, v = .ref p ∧ H p = some (.tup [.int r, .int a, vl, vr, .int rc, .int hd]) ∧ PileAt H l vl ∧ PileAt H rt vr
theorem PileAt.mono {H H' : Hp} (m : Tups H H') : ∀ {t : T} {v : V}, PileAt H t v → PileAt H' t v
  | .nil, _, ⟨p, e, h⟩ => ⟨p, e, m _ _ h⟩
  | .node _ _ _ _ _ _, _, ⟨p, vl, vr, e, h, hl, hr⟩ => ⟨p, vl, vr, e, m _ _ h, hl.mono m, hr.mono m⟩
theorem PileAt.inj {H : Hp} : ∀ {t t' : T} {v : V}, PileAt H t v → PileAt H t' v → t = t'
  | .nil, .nil, _, _, _ => rfl
  | .nil, .node _ _ _ _ _ _, _, ⟨p, e, h⟩, ⟨p', vl, vr, e', h', _⟩ => by
    subst e; cases e'; rw [h] at h'; cases h'
  | .node _ _ _ _ _ _, .nil, _, ⟨p', vl, vr, e', h', _⟩, ⟨p, e, h⟩ => by
    subst e; cases e'; rw [h] at h'; cases h'
  | .node r a l rt rc hd, .node r' a' l' rt' rc' hd', _, ⟨p, vl, vr, e, h, hl, hr⟩, ⟨p', vl', vr', e', h', hl', hr'⟩ => by
    subst e; cases e'; rw [h] at h'; cases h'
    rw [hl.inj hl', hr.inj hr']
def PairAt (H : Hp) (v : V) (p : Int × Int) : Prop := ∃ q, v = .ref q ∧ H q = some (.tup [.int p.1, .int p.2])
theorem PairAt.mono {H H' : Hp} (m : Tups H H') {v : V} {p : Int × Int} (h : PairAt H v p) : PairAt H' v p := by
  obtain ⟨q, e, h⟩ := h; exact ⟨q, e, m _ _ h⟩
abbrev PairsAt (H : Hp) (vs : List V) (ps : List (Int × Int)) : Prop := Paired (PairAt H) vs ps
theorem PairsAt.mono {H H' : Hp} (m : Tups H H') {vs : List V} {ps : List (Int × Int)} (h : PairsAt H vs ps) : PairsAt H' vs ps := Paired.imp' (fun _ _ z => z.mono m) h
theorem paired_len {α β : Type} {F : α → β → Prop} : ∀ {xs : List α} {ys : List β}, Paired F xs ys → xs.length = ys.length
  | _, _, .nil => rfl
  | _, _, .cons _ t => by rw [List.length_cons, List.length_cons, paired_len t]
theorem paired_get {α β : Type} {F : α → β → Prop} : ∀ {xs : List α} {ys : List β} {i : Nat} {x : α}, Paired F xs ys → xs[i]? = some x → ∃ y, ys[i]? = some y ∧ F x y
  | _, _, _, _, .nil, e => by simp at e
  | _, _, 0, _, .cons r _, e => by simp at e; subst e; exact ⟨_, rfl, r⟩
  | _, _, i + 1, x, .cons _ t, e => by
    obtain ⟨y, h1, h2⟩ := paired_get (i := i) (x := x) t (by simpa using e)
    exact ⟨y, by simpa using h1, h2⟩
theorem paired_get' {α β : Type} {F : α → β → Prop} : ∀ {xs : List α} {ys : List β} {i : Nat} {y : β}, Paired F xs ys → ys[i]? = some y → ∃ x, xs[i]? = some x ∧ F x y
  | _, _, _, _, .nil, e => by simp at e
  | _, _, 0, _, .cons r _, e => by simp at e; subst e; exact ⟨_, rfl, r⟩
  | _, _, i + 1, y, .cons _ t, e => by
    obtain ⟨x, h1, h2⟩ := paired_get' (i := i) (y := y) t (by simpa using e)
    exact ⟨x, by simpa using h1, h2⟩
theorem paired_app {α β : Type} {F : α → β → Prop} : ∀ {xs xs' : List α} {ys ys' : List β}, Paired F xs ys → Paired F xs' ys' → Paired F (xs ++ xs') (ys ++ ys')
  | _, _, _, _, .nil, s => s
  | _, _, _, _, .cons r t, s => .cons r (paired_app t s)
theorem vals6 {a b c d e f : V} {us : List Value} (r : Vals [a, b, c, d, e, f] us) : ∃ u0 u1 u2 u3 u4 u5, us = [u0, u1, u2, u3, u4, u5] ∧ RelV a u0 ∧ RelV b u1 ∧ RelV c u2 ∧ RelV d u3 ∧ RelV e u4 ∧ RelV f u5 := by
  obtain _ | ⟨r0, r⟩ := r
  obtain _ | ⟨r1, r⟩ := r
  obtain _ | ⟨r2, r⟩ := r
  obtain _ | ⟨r3, r⟩ := r
  obtain _ | ⟨r4, r⟩ := r
  obtain _ | ⟨r5, r⟩ := r
  obtain _ | _ := r
  exact ⟨_, _, _, _, _, _, rfl, r0, r1, r2, r3, r4, r5⟩
section
variable {X : Cx} {pins : List (Addr × Obj)} {σ : St} {H : Hp} {s : Shared}
theorem tupAt (I : Inv X pins σ H s) {p : Addr} {xs : List V} (h : H p = some (.tup xs)) : ∃ its : List Value, Vals xs its ∧ s.heap.IsTuple p its.toArray := by
  obtain ⟨its, r, t, _⟩ := I.tuple (SqT.of (K := X.K) h)
  exact ⟨its, r, t⟩
theorem lstAt (I : Inv X pins σ H s) {p : Addr} {xs : List V} (h : H p = some (.lst xs)) : ∃ its : List Value, Vals xs its ∧ s.heap.IsList p its.toArray := by
  obtain ⟨its, r, t, _⟩ := I.list (SqL.of (K := X.K) h)
  exact ⟨its, r, t.isList⟩
def e6 (r a : Int) (b1 b2 : Bool) (rc hd r' a' rc' hd' : Int) : Nat → Bool
  | 0 => r == r'
  | 1 => a == a'
  | 2 => b1
  | 3 => b2
  | 4 => rc == rc'
  | _ => hd == hd'
theorem e6_all {r a rc hd r' a' rc' hd' : Int} {l l' rt rt' : T} : ((List.range 6).all (e6 r a (decide (l = l')) (decide (rt = rt')) rc hd r' a' rc' hd')) = decide (T.node r a l rt rc hd = T.node r' a' l' rt' rc' hd') := by
  rw [Bool.eq_iff_iff, decide_eq_true_iff]
  simp [List.range, List.range.loop, e6]
theorem pile_rc (I : Inv X pins σ H s) : ∀ (t t' : T) (p p' : Addr) (A : Around), PileAt H t (.ref p) → PileAt H t' (.ref p') → A.units + t.size + 1 < cLine →
    SeqAt.RcAt A s (.ref p) (.ref p') (decide (t = t')) ∧ SeqAt.RcNeAt A s (.ref p) (.ref p') (!decide (t = t')) ∧ SeqAt.EqAt A s (.ref p) (.ref p') (decide (t = t')) := by
  intro t
  induction t with
  | nil =>
    intro t' p p' A h h' hu
    have hu0 : A.units < cLine := by omega
    obtain ⟨q, e, h⟩ := h
    cases e
    obtain ⟨its, r, x⟩ := tupAt I h
    obtain _ | _ := r
    have key : SeqAt.RcAt A s (.ref p) (.ref p') (decide (T.nil = t')) ∧ SeqAt.RcNeAt A s (.ref p) (.ref p') (!decide (T.nil = t')) := by
      cases t' with
      | nil =>
        obtain ⟨q', e', h'⟩ := h'
        cases e'
        obtain ⟨its', r', x'⟩ := tupAt I h'
        obtain _ | _ := r'
        exact ⟨SeqAt.RcAt.tuples (e := fun _ => true) x x' hu0 (fun j h1 _ => by simp at h1), SeqAt.RcNeAt.tuples (e := fun _ => true) x x' hu0 (fun j h1 _ => by simp at h1)⟩
      | node r a l rt rc hd =>
        obtain ⟨q', vl, vr, e', h', _⟩ := h'
        cases e'
        obtain ⟨its', r', x'⟩ := tupAt I h'
        obtain ⟨u0, u1, u2, u3, u4, u5, rfl, _⟩ := vals6 r'
        exact ⟨SeqAt.RcAt.tuples (e := fun _ => true) x x' hu0 (fun j h1 _ => by simp at h1), SeqAt.RcNeAt.tuples (e := fun _ => true) x x' hu0 (fun j h1 _ => by simp at h1)⟩
    refine ⟨key.1, key.2, ?_⟩
    by_cases hp : p = p'
    · subst hp
      have e : T.nil = t' := PileAt.inj (v := .ref p) ⟨p, rfl, h⟩ h'
      rw [decide_eq_true e]
      exact SeqAt.EqAt.same _
    · exact SeqAt.EqAt.of_refs hp key.1
  | node r a l rt rc hd ihl ihr =>
    intro t' p p' A h h' hu
    have hu0 : A.units < cLine := by omega
    have hin : A.in1.units = A.units + 1 := rfl
    have h0 := h
    obtain ⟨q, vl, vr, e, h, hl, hr⟩ := h
    cases e
    obtain ⟨its, rv, x⟩ := tupAt I h
    obtain ⟨u0, u1, u2, u3, u4, u5, rfl, r0, r1, r2, r3, r4, r5⟩ := vals6 rv
    have key : SeqAt.RcAt A s (.ref p) (.ref p') (decide (T.node r a l rt rc hd = t')) ∧ SeqAt.RcNeAt A s (.ref p) (.ref p') (!decide (T.node r a l rt rc hd = t')) := by
      cases t' with
      | nil =>
        obtain ⟨q', e', h'⟩ := h'
        cases e'
        obtain ⟨its', r', x'⟩ := tupAt I h'
        obtain _ | _ := r'
        exact ⟨SeqAt.RcAt.tuples (e := fun _ => true) x x' hu0 (fun j _ h2 => by simp at h2), SeqAt.RcNeAt.tuples (e := fun _ => true) x x' hu0 (fun j _ h2 => by simp at h2)⟩
      | node r' a' l' rt' rc' hd' =>
        obtain ⟨q', vl', vr', e', h', hl', hr'⟩ := h'
        cases e'
        obtain ⟨its', rv', x'⟩ := tupAt I h'
        obtain ⟨w0, w1, w2, w3, w4, w5, rfl, q0, q1, q2, q3, q4, q5⟩ := vals6 rv'
        have refOf : ∀ {t : T} {v : V} {u : Value}, PileAt H t v → RelV v u → ∃ b, v = .ref b ∧ u = .ref b := fun {t v u} z y => by
          cases t with
          | nil => obtain ⟨b, e, _⟩ := z; subst e; exact ⟨b, rfl, y⟩
          | node _ _ _ _ _ _ => obtain ⟨b, _, _, e, _⟩ := z; subst e; exact ⟨b, rfl, y⟩
        obtain ⟨bl, rfl, rfl⟩ := refOf hl r2
        obtain ⟨br, rfl, rfl⟩ := refOf hr r3
        obtain ⟨bl', rfl, rfl⟩ := refOf hl' q2
        obtain ⟨br', rfl, rfl⟩ := refOf hr' q3
        obtain ⟨t0, rfl⟩ := r0; obtain ⟨t1, rfl⟩ := r1; obtain ⟨t4, rfl⟩ := r4; obtain ⟨t5, rfl⟩ := r5
        obtain ⟨v0, rfl⟩ := q0; obtain ⟨v1, rfl⟩ := q1; obtain ⟨v4, rfl⟩ := q4; obtain ⟨v5, rfl⟩ := q5
        have sz : (T.node r a l rt rc hd).size = l.size + rt.size + 1 := rfl
        have el := (ihl l' bl bl' A.in1 hl hl' (by omega)).2.2
        have er := (ihr rt' br br' A.in1 hr hr' (by omega)).2.2
        have he : ∀ j (h1 : j < (#[Value.int r t0, .int a t1, .ref bl, .ref br, .int rc t4, .int hd t5] : Array Value).size) (h2 : j < (#[Value.int r' v0, .int a' v1, .ref bl', .ref br', .int rc' v4, .int hd' v5] : Array Value).size),
            SeqAt.EqAt A.in1 s (#[Value.int r t0, .int a t1, .ref bl, .ref br, .int rc t4, .int hd t5] : Array Value)[j] (#[Value.int r' v0, .int a' v1, .ref bl', .ref br', .int rc' v4, .int hd' v5] : Array Value)[j]
              (e6 r a (decide (l = l')) (decide (rt = rt')) rc hd r' a' rc' hd' j) := fun j h1 h2 => by
          match j, h1, h2 with
          | 0, _, _ => exact SeqAt.EqAt.int_int r t0 r' v0
          | 1, _, _ => exact SeqAt.EqAt.int_int a t1 a' v1
          | 2, _, _ => exact el
          | 3, _, _ => exact er
          | 4, _, _ => exact SeqAt.EqAt.int_int rc t4 rc' v4
          | 5, _, _ => exact SeqAt.EqAt.int_int hd t5 hd' v5
          | n + 6, h1, _ => exact absurd h1 (by simp)
        have c1 := SeqAt.RcAt.tuples x x' hu0 he
        have c2 := SeqAt.RcNeAt.tuples x x' hu0 he
        have ee : ((List.range (min 6 6)).all (e6 r a (decide (l = l')) (decide (rt = rt')) rc hd r' a' rc' hd') && (6 == 6 : Bool)) = decide (T.node r a l rt rc hd = T.node r' a' l' rt' rc' hd') := by
          rw [← e6_all]; simp
        exact ⟨by rw [← ee]; exact c1, by rw [← ee]; exact c2⟩
    refine ⟨key.1, key.2, ?_⟩
    by_cases hp : p = p'
    · subst hp
      have e : T.node r a l rt rc hd = t' := PileAt.inj h0 h'
      rw [decide_eq_true e]
      exact SeqAt.EqAt.same _
    · exact SeqAt.EqAt.of_refs hp key.1
def e2f (x y : Int × Int) : Nat → Bool
  | 0 => x.1 == y.1
  | _ => x.2 == y.2
theorem pair_rc (I : Inv X pins σ H s) {A : Around} {p p' : Addr} {x y : Int × Int} (h : PairAt H (.ref p) x) (h' : PairAt H (.ref p') y) (hu : A.units < cLine) :
    SeqAt.RcAt A s (.ref p) (.ref p') (decide (x = y)) ∧ SeqAt.RcNeAt A s (.ref p) (.ref p') (!decide (x = y)) ∧ SeqAt.EqAt A s (.ref p) (.ref p') (decide (x = y)) := by
  obtain ⟨q, e, h⟩ := h
  cases e
  obtain ⟨q', e', h'⟩ := h'
  cases e'
  obtain ⟨its, r, z⟩ := tupAt I h
  obtain ⟨its', r', z'⟩ := tupAt I h'
  obtain ⟨u0, u1, rfl, r0, r1⟩ := vals2 r
  obtain ⟨w0, w1, rfl, q0, q1⟩ := vals2 r'
  obtain ⟨t0, rfl⟩ := r0; obtain ⟨t1, rfl⟩ := r1; obtain ⟨v0, rfl⟩ := q0; obtain ⟨v1, rfl⟩ := q1
  have he : ∀ j (h1 : j < (#[Value.int x.1 t0, .int x.2 t1] : Array Value).size) (h2 : j < (#[Value.int y.1 v0, .int y.2 v1] : Array Value).size),
      SeqAt.EqAt A.in1 s (#[Value.int x.1 t0, .int x.2 t1] : Array Value)[j] (#[Value.int y.1 v0, .int y.2 v1] : Array Value)[j] (e2f x y j) := fun j h1 h2 => by
    match j, h1, h2 with
    | 0, _, _ => exact SeqAt.EqAt.int_int x.1 t0 y.1 v0
    | 1, _, _ => exact SeqAt.EqAt.int_int x.2 t1 y.2 v1
    | n + 2, h1, _ => exact absurd h1 (by simp)
  have c1 := SeqAt.RcAt.tuples z z' hu he
  have c2 := SeqAt.RcNeAt.tuples z z' hu he
  have ee : ((List.range (min 2 2)).all (e2f x y) && (2 == 2 : Bool)) = decide (x = y) := by
    rw [Bool.eq_iff_iff, decide_eq_true_iff]
    obtain ⟨a, b⟩ := x; obtain ⟨c, d⟩ := y
    simp [List.range, List.range.loop, e2f]
  have d1 : SeqAt.RcAt A s (.ref p) (.ref p') (decide (x = y)) := by rw [← ee]; exact c1
  refine ⟨d1, by rw [← ee]; exact c2, ?_⟩
  by_cases hp : p = p'
  · subst hp
    rw [h] at h'
    injection h' with h1
    injection h1 with h2
    injection h2 with h3 h4
    injection h4 with h5 _
    injection h3 with h6
    injection h5 with h7
    rw [decide_eq_true (show x = y from Prod.ext h6 h7)]
    exact SeqAt.EqAt.same _
  · exact SeqAt.EqAt.of_refs hp d1
theorem pairs_rc (I : Inv X pins σ H s) {A : Around} {p p' : Addr} {vs ws : List V} {ps qs : List (Int × Int)} (h : H p = some (.lst vs)) (h' : H p' = some (.lst ws)) (hv : PairsAt H vs ps) (hw : PairsAt H ws qs) (hu : A.units + 1 < cLine) :
    SeqAt.RcAt A s (.ref p) (.ref p') (decide (ps = qs)) ∧ SeqAt.RcNeAt A s (.ref p) (.ref p') (!decide (ps = qs)) := by
  obtain ⟨its, r, z⟩ := lstAt I h
  obtain ⟨its', r', z'⟩ := lstAt I h'
  have l1 := r.length
  have l2 := r'.length
  have l3 := paired_len hv
  have l4 := paired_len hw
  have hu0 : A.units < cLine := by omega
  have hin : A.in1.units = A.units + 1 := rfl
  by_cases hs : its.length = its'.length
  · have he : ∀ j (h1 : j < its.toArray.size) (h2 : j < its'.toArray.size), SeqAt.EqAt A.in1 s its.toArray[j] its'.toArray[j] (decide (ps[j]? = qs[j]?)) := fun j h1 h2 => by
      have h1' : j < its.length := by simpa using h1
      have h2' : j < its'.length := by simpa using h2
      obtain ⟨p0, e0, f0⟩ := paired_get hv (i := j) (x := vs[j]'(by omega)) (List.getElem?_eq_getElem _)
      obtain ⟨q0, e1, f1⟩ := paired_get hw (i := j) (x := ws[j]'(by omega)) (List.getElem?_eq_getElem _)
      obtain ⟨u0, e2, r2⟩ := r.get (i := j) (x := vs[j]'(by omega)) (List.getElem?_eq_getElem _)
      obtain ⟨u1, e3, r3⟩ := r'.get (i := j) (x := ws[j]'(by omega)) (List.getElem?_eq_getElem _)
      rw [List.getElem?_eq_getElem h1'] at e2
      rw [List.getElem?_eq_getElem h2'] at e3
      have a1 : its.toArray[j] = u0 := by simpa using e2
      have a2 : its'.toArray[j] = u1 := by simpa using e3
      rw [a1, a2, e0, e1]
      have f0' := f0
      have f1' := f1
      obtain ⟨b0, g0, _⟩ := f0
      obtain ⟨b1, g1, _⟩ := f1
      rw [g0] at r2 f0'
      rw [g1] at r3 f1'
      cases r2
      cases r3
      have := (pair_rc I (A := A.in1) f0' f1' (by omega)).2.2
      have ed : decide (some p0 = some q0) = decide (p0 = q0) := by simp
      rw [ed]; exact this
    have ee : ((List.range its.toArray.size).all fun j => decide (ps[j]? = qs[j]?)) = decide (ps = qs) := by
      rw [Bool.eq_iff_iff, decide_eq_true_iff, List.all_eq_true]
      constructor
      · intro g
        apply List.ext_getElem?
        intro j
        by_cases hj : j < its.toArray.size
        · simpa using g j (by simpa using hj)
        · have hj' : its.length ≤ j := by simpa using hj
          rw [List.getElem?_eq_none (by omega), List.getElem?_eq_none (by omega)]
      · rintro rfl j _
        simp
    have c1 := SeqAt.RcAt.lists z z' (by simpa using hs) hu0 he
    have c2 := SeqAt.RcNeAt.lists z z' (by simpa using hs) hu0 he
    rw [ee] at c1 c2
    exact ⟨c1, c2⟩
  · have hne : ¬ ps = qs := fun e => hs (by rw [e] at l3; omega)
    rw [decide_eq_false hne]
    have hsz : (its.toArray.size != its'.toArray.size) = true := by simpa using hs
    exact ⟨SeqAt.RcAt.lists_lengths z z' hsz hu0, SeqAt.RcNeAt.lists_lengths z z' hsz hu0⟩
theorem empty_rc (I : Inv X pins σ H s) {A : Around} {p p' : Addr} {vs : List V} (h : H p = some (.lst vs)) (h' : H p' = some (.lst [])) (hu : A.units < cLine) :
    SeqAt.RcAt A s (.ref p) (.ref p') vs.isEmpty ∧ SeqAt.RcNeAt A s (.ref p) (.ref p') (!vs.isEmpty) := by
  obtain ⟨its, r, z⟩ := lstAt I h
  obtain ⟨its', r', z'⟩ := lstAt I h'
  obtain _ | _ := r'
  cases r with
  | nil => exact ⟨SeqAt.RcAt.lists (e := fun _ => true) z z' rfl hu (fun j h1 _ => by simp at h1), SeqAt.RcNeAt.lists (e := fun _ => true) z z' rfl hu (fun j h1 _ => by simp at h1)⟩
  | cons r t => exact ⟨SeqAt.RcAt.lists_lengths z z' (by simp) hu, SeqAt.RcNeAt.lists_lengths z z' (by simp) hu⟩
end
section
variable {X : Cx}
def rPile (f : Bool → Bool) : R2 := fun x y H Q => ∃ t t', PileAt H t x ∧ PileAt H t' y ∧ t.size ≤ 100 ∧ Q (.bl (f (decide (t = t')))) H
def rPair (f : Bool → Bool) : R2 := fun x y H Q => ∃ t t', PairAt H x t ∧ PairAt H y t' ∧ Q (.bl (f (decide (t = t')))) H
def rPairs (f : Bool → Bool) : R2 := fun x y H Q => ∃ p p' vs ws ps qs, x = .ref p ∧ y = .ref p' ∧ H p = some (.lst vs) ∧ H p' = some (.lst ws) ∧ PairsAt H vs ps ∧ PairsAt H ws qs ∧ Q (.bl (f (decide (ps = qs)))) H
def rEmp (f : Bool → Bool) : R2 := fun x y H Q => ∃ p p' vs, x = .ref p ∧ y = .ref p' ∧ H p = some (.lst vs) ∧ H p' = some (.lst []) ∧ Q (.bl (f vs.isEmpty)) H
theorem pile_ref {H : Hp} {t : T} {v : V} (h : PileAt H t v) : ∃ p, v = .ref p := by
  cases t with
  | nil => obtain ⟨p, e, _⟩ := h; exact ⟨p, e⟩
  | node _ _ _ _ _ _ => obtain ⟨p, _, _, e, _⟩ := h; exact ⟨p, e⟩
theorem op_eqPile (hu : X.A.units + 110 < cLine) : OpR X (compareOp .Eq) (rPile id) := by
  intro pins s σ H x y v u Q I rx ry ⟨t, t', h, h', hz, q⟩
  obtain ⟨p, rfl⟩ := pile_ref h
  obtain ⟨p', rfl⟩ := pile_ref h'
  cases rx; cases ry
  exact (pile_rc I t t' p p' X.A h h' (by omega)).1 _ _ _ _ ⟨.bl _, H, I, rfl, q⟩
theorem op_nePile (hu : X.A.units + 110 < cLine) : OpR X (compareOp .NotEq) (rPile not) := by
  intro pins s σ H x y v u Q I rx ry ⟨t, t', h, h', hz, q⟩
  obtain ⟨p, rfl⟩ := pile_ref h
  obtain ⟨p', rfl⟩ := pile_ref h'
  cases rx; cases ry
  exact (pile_rc I t t' p p' X.A h h' (by omega)).2.1 _ _ _ _ ⟨.bl _, H, I, rfl, q⟩
theorem op_eqPair (hu : X.A.units + 110 < cLine) : OpR X (compareOp .Eq) (rPair id) := by
  intro pins s σ H x y v u Q I rx ry ⟨t, t', h, h', q⟩
  have g := h; have g' := h'
  obtain ⟨p, rfl, _⟩ := h
  obtain ⟨p', rfl, _⟩ := h'
  cases rx; cases ry
  exact (pair_rc I g g' (by omega)).1 _ _ _ _ ⟨.bl _, H, I, rfl, q⟩
theorem op_nePair (hu : X.A.units + 110 < cLine) : OpR X (compareOp .NotEq) (rPair not) := by
  intro pins s σ H x y v u Q I rx ry ⟨t, t', h, h', q⟩
  have g := h; have g' := h'
  obtain ⟨p, rfl, _⟩ := h
  obtain ⟨p', rfl, _⟩ := h'
  cases rx; cases ry
  exact (pair_rc I g g' (by omega)).2.1 _ _ _ _ ⟨.bl _, H, I, rfl, q⟩
theorem op_eqPairs (hu : X.A.units + 110 < cLine) : OpR X (compareOp .Eq) (rPairs id) := by
  rintro pins s σ H x y v u Q I rx ry ⟨p, p', vs, ws, ps, qs, rfl, rfl, h, h', hv, hw, q⟩
  cases rx; cases ry
  exact (pairs_rc I h h' hv hw (by omega)).1 _ _ _ _ ⟨.bl _, H, I, rfl, q⟩
theorem op_nePairs (hu : X.A.units + 110 < cLine) : OpR X (compareOp .NotEq) (rPairs not) := by
  rintro pins s σ H x y v u Q I rx ry ⟨p, p', vs, ws, ps, qs, rfl, rfl, h, h', hv, hw, q⟩
  cases rx; cases ry
  exact (pairs_rc I h h' hv hw (by omega)).2 _ _ _ _ ⟨.bl _, H, I, rfl, q⟩
theorem op_eqEmp (hu : X.A.units + 110 < cLine) : OpR X (compareOp .Eq) (rEmp id) := by
  rintro pins s σ H x y v u Q I rx ry ⟨p, p', vs, rfl, rfl, h, h', q⟩
  cases rx; cases ry
  exact (empty_rc I h h' (by omega)).1 _ _ _ _ ⟨.bl _, H, I, rfl, q⟩
theorem op_neEmp (hu : X.A.units + 110 < cLine) : OpR X (compareOp .NotEq) (rEmp not) := by
  rintro pins s σ H x y v u Q I rx ry ⟨p, p', vs, rfl, rfl, h, h', q⟩
  cases rx; cases ry
  exact (empty_rc I h h' (by omega)).2 _ _ _ _ ⟨.bl _, H, I, rfl, q⟩
theorem hu110 {k : Nat} {A : Around} (r : Room k A) : A.units + 110 < cLine := by have := r.un; omega
def rIsi (K : PySem.W.Frag) : List V → Hp → VK → Prop := fun xs H Q => ∃ x c t b, xs = [x, .ty c] ∧ TyOf K H x t ∧ PySem.W.kitOne K t (.type c) = some b ∧ Q (.bl b) H
theorem call_isi : CallR X (.builtin "isinstance") (rIsi X.K) := by
  rintro pins s σ H xs us Q I r ⟨x, c, t, b, rfl, ty, e, q⟩
  obtain ⟨u, w', rfl, rx, ry⟩ := vals2 r
  cases (show w' = Value.type c from ry)
  exact isinst_ok I rx ty e fun tk => ⟨.bl b, H, I.tok tk, rfl, q⟩
def Itv (K : PySem.W.Frag) (a : Addr) (n : Nat) : It :=
  ⟨fun i H => ∃ xs x, SqL K H a xs ∧ xs.length = n ∧ i < n ∧ xs[n - 1 - i]? = some x, fun i H x H' => H' = H ∧ ∀ xs, SqL K H a xs → xs[n - 1 - i]? = some x, fun i H => i = n⟩
theorem turn_rev {P : Program} {w : World} {K : PySem.W.Frag} {tg : Expr} (a it : Addr) (n : Nat) : Turn P w K tg (Itv K a n) [it] it (fun i h => h.IsRevIter it a ((n : Int) - 1 - (i : Int))) where
  mem := by simp
  obj := fun i h st b hb => by
    have e : b = it := by simpa using hb
    subst e
    obtain ⟨o, e, c, d⟩ := st
    exact ⟨o, e, fun v z => by rw [d] at z; cases z⟩
  keep := fun i h h' st k => st.at fun o e => k it (by simp) o e
  item := by
    intro X hP hw hK hc i pins s σ H E I hf st hg
    subst hP hw hK
    obtain ⟨xs, x, hq, hn, hi, hx⟩ := hg
    obtain ⟨its, rv, p, hz⟩ := I.list hq
    obtain ⟨u, hu, ru⟩ := rv.get hx
    obtain ⟨f0, f1, f2, f3, f4, f5⟩ := hf it (by simp)
    have e : (n : Int) - 1 - (i : Int) = ((n - 1 - i : Nat) : Int) := by omega
    rw [e] at st
    refine wpAny_pyNext_rev_item st p.isList (x := u) (by simpa using hu) fun h' st' sb => ?_
    have e2 : ((n - 1 - i : Nat) : Int) - 1 = (n : Int) - 1 - ((i + 1 : Nat) : Int) := by omega
    rw [e2] at st'
    have I1 : Inv X pins σ H { s with heap := h' } := I.turned (t' := s.toks) (fun b o hb e => (sb.2 b hb).trans e) f0 f1 f3 f4 f5
    obtain ⟨o, e, c, d⟩ := id st'
    exact ⟨u, rfl, go_of (s := { s with heap := h' }) e c d (by decide) ⟨x, H, I1, ru, ⟨rfl, fun ys hy => by rw [I.list_inj hy hq]; exact hx⟩, st', fun b hb => (hf b hb).1⟩⟩
  done := by
    intro X hP hw hK hc i pins s σ H E I hf st hg
    subst hP hw hK
    have hg' : i = n := hg
    subst hg'
    obtain ⟨f0, f1, f2, f3, f4, f5⟩ := hf it (by simp)
    have e : (i : Int) - 1 - (i : Int) = -1 := by omega
    rw [e] at st
    exact wpAny_pyNext_rev_end (I.ok.hd hc) st fun h' eb => ⟨rfl, I.turned (t' := s.toks) (fun b o hb e => eb b o hb e) f0 f1 f3 f4 f5⟩
  self := fun _ _ _ _ _ st h => wpAny_pyIter_revIter st h
def iRev (K : PySem.W.Frag) (ta : TA) : TI := fun σ H R => ta σ H fun vs H1 => ∃ a xs, vs = [.ref a] ∧ SqL K H1 a xs ∧ R (Itv K a xs.length) H1
theorem pi_rev {tg a : Expr} {ta : TA} {p pos : Pos} (hg : Gl X "reversed") (hm : X.mg "reversed" = none) (ha : PA X [a] ta) (hs : starEach [a] X.env = [(false, eval a X.env)] := by rfl) :
    PI X tg (.Call (.Name "reversed" p) [a] [] pos) (iRev X.K ta) := by
  intro pins s σ H R I h
  refine Call_ (ld_blt I hg hm (show bootBuiltins "reversed" = some (.type "reversed") by decide +kernel) (PyProof.Rows.callWith_type1 (thn (ha pos pins s σ H _ I h) fun us s1 ⟨vs, H1, I1, r1, q1⟩ => ?_) hs rfl))
  obtain ⟨l, xs, e, hq, q⟩ := q1
  subst e
  obtain ⟨u, rfl, ru⟩ := vals1 r1
  cases (show u = Value.ref l from ru)
  obtain ⟨its, rv, pl, hz⟩ := I1.list hq
  have hlen := rv.length
  refine call_reversed_list pl.isList ?_
  have st : (s1.heap.push (revObj l ((its.toArray.size : Int) - 1))).IsRevIter s1.heap.objs.size l ((xs.length : Int) - 1 - ((0 : Nat) : Int)) := by
    refine ⟨_, Heap.get?_push_size _ rfl, rfl, ?_⟩
    have e : (xs.length : Int) - 1 - ((0 : Nat) : Int) = (its.toArray.size : Int) - 1 := by rw [List.size_toArray]; omega
    rw [e]; rfl
  refine wpAny_pyIter_revIter st ?_
  refine ⟨s1.heap.objs.size, [s1.heap.objs.size], _, _, H1, rfl, I1.kept (t' := s1.toks) fun b o e => Heap.get?_push_of_some _ e, turn_rev l _ xs.length, st, fun b hb => ?_, q⟩
  have e : b = s1.heap.objs.size := by simpa using hb
  subst e
  exact I1.fpOk (Nat.le_refl _) (I1.hok.fresh (Nat.le_refl _))
theorem for_rev {K : PySem.W.Frag} {a : Addr} {xs : List V} {g : TG} {tb : TS} {D : Ends} {σ : St} {H : Hp} (Pv : Nat → St → Hp → Prop) (h0 : Pv 0 σ H)
    (hl : ∀ i σ H, i ≤ xs.length → Pv i σ H → SqL K H a xs) (hs : ∀ i x σ H, i < xs.length → xs[xs.length - 1 - i]? = some x → Pv i σ H → g x σ H fun σ2 H2 => tb { D with nx := Pv (i + 1), ct := Pv (i + 1), bk := D.nx } σ2 H2)
    (hd : ∀ σ H, Pv xs.length σ H → D.nx σ H) :
    ∃ W : Nat → Nat → St → Hp → Prop, (∃ m, W 0 m σ H) ∧ ∀ i m σ H, W i m σ H →
      ((Itv K a xs.length).stop i H ∧ D.nx σ H) ∨ ((Itv K a xs.length).go i H ∧ ∃ N : St → Hp → Prop, (∀ σ' H', N σ' H' → ∃ m', m' < m ∧ W (i + 1) m' σ' H') ∧ ∀ x H', (Itv K a xs.length).yld i H x H' → g x σ H' fun σ2 H2 => tb { D with nx := N, ct := N, bk := D.nx } σ2 H2) := by
  refine ⟨fun i m σ H => i + m = xs.length ∧ Pv i σ H, ⟨xs.length, by omega, h0⟩, fun i m σ H ⟨e, p⟩ => ?_⟩
  by_cases hi : i = xs.length
  · subst hi
    exact .inl ⟨rfl, hd σ H p⟩
  · have hlt : i < xs.length := by omega
    have hx : xs[xs.length - 1 - i]? = some (xs[xs.length - 1 - i]'(by omega)) := List.getElem?_eq_getElem _
    refine .inr ⟨⟨xs, _, hl i σ H (by omega) p, rfl, hlt, hx⟩, Pv (i + 1), fun σ' H' q => ⟨m - 1, by omega, by omega, q⟩, fun x H' y => ?_⟩
    obtain ⟨rfl, y⟩ := y
    exact hs i x σ H' hlt (y xs (hl i σ H' (by omega) p)) p
end
end Ph
set_option Elab.async false
set_option linter.all false
set_option maxRecDepth 100000
namespace Ph
open PySem PySem.Spec L2
open PyProof.Rows hiding St
abbrev inComp (X : Cx) (sc : Scope) (cl : List (Str × Addr)) (N' : List Str) (C : Addr) (s3 : Shared) (H3 : Hp) (fp : List Addr) : Cx :=
  { X with N := N', s₀ := s3, H₀ := H3, env := compEnvC sc cl C X.env, outer := X.stack, ex := fp, fn := fun _ => false, pn := [], xe := fun _ _ => False }
def CapsOk (X : Cx) (sc : Scope) : List (Nat × Str) → Prop
  | [] => True
  | q :: r => (X.N[q.1]? = some q.2 ∧ X.env.kindOf q.2 = some .cell ∧ sc.names.lookup q.2 = some .free) ∧ CapsOk X sc r
theorem CapsOk.all {X : Cx} {sc : Scope} : ∀ {caps : List (Nat × Str)}, CapsOk X sc caps → ∀ q ∈ caps, X.N[q.1]? = some q.2 ∧ X.env.kindOf q.2 = some .cell ∧ sc.names.lookup q.2 = some .free
  | _ :: _, h, q, hq => by
    rcases List.mem_cons.mp hq with e | e
    · subst e; exact h.1
    · exact CapsOk.all h.2 q e
theorem lookup_mem {β : Type} : ∀ {l : List (Str × β)} {x : Str} {k : β}, l.lookup x = some k → (x, k) ∈ l
  | [], _, _, h => by simp at h
  | (n, b) :: r, x, k, h => by
    rw [List.lookup_cons] at h
    split at h
    · rename_i e
      cases h
      rw [eq_of_beq e]
      exact List.mem_cons_self
    · exact List.mem_cons_of_mem _ (lookup_mem h)
theorem relabel_free {env : Env} (hk : env.scope.kind = .function) {x : Str} (hx : env.kindOf x = some .cell) : ∀ {names : List (Str × NameKind)}, names.lookup x = some .free →
    (names.map fun (n, k) => if (k == NameKind.free && env.scope.kind == .function && env.kindOf n == some .cell) then (n, NameKind.cell) else (n, k)).lookup x = some .cell
  | [], h => by simp at h
  | (n, k) :: r, h => by
    have ih := @relabel_free env hk x hx r
    show List.lookup x ((if (k == NameKind.free && env.scope.kind == .function && env.kindOf n == some .cell) = true then (n, NameKind.cell) else (n, k)) :: _) = _
    cases hxn : x == n with
    | true =>
      have e := eq_of_beq hxn
      subst e
      simp only [List.lookup_cons, hxn] at h
      cases h
      rw [if_pos (by rw [hk, hx]; rfl)]
      simp [List.lookup_cons]
    | false =>
      simp only [List.lookup_cons, hxn] at h
      split
      · simp only [List.lookup_cons, hxn]; exact ih h
      · simp only [List.lookup_cons, hxn]; exact ih h
theorem relabel_was {env : Env} {x : Str} {q : NameKind} (hq : q = .cell ∨ q = .free) : ∀ {names : List (Str × NameKind)}, (∀ y ∈ names, y.2 ≠ .cell) →
    (names.map fun (n, k) => if (k == NameKind.free && env.scope.kind == .function && env.kindOf n == some .cell) then (n, NameKind.cell) else (n, k)).lookup x = some q → (x, NameKind.free) ∈ names
  | [], _, h => by simp at h
  | (n, k) :: r, hc, h => by
    have ih := @relabel_was env x q hq r (fun y hy => hc y (List.mem_cons_of_mem _ hy))
    have h' : List.lookup x ((if (k == NameKind.free && env.scope.kind == .function && env.kindOf n == some .cell) = true then (n, NameKind.cell) else (n, k)) :: (r.map fun (n, k) => if (k == NameKind.free && env.scope.kind == .function && env.kindOf n == some .cell) then (n, NameKind.cell) else (n, k))) = some q := h
    have hk : k ≠ .cell := hc (n, k) List.mem_cons_self
    split at h'
    · rename_i hcond
      rw [List.lookup_cons] at h'
      split at h'
      · rename_i e
        have ek : k = .free := by
          simp only [Bool.and_eq_true] at hcond
          exact eq_of_beq hcond.1.1
        rw [eq_of_beq e, ek]
        exact List.mem_cons_self
      · exact List.mem_cons_of_mem _ (ih h')
    · rw [List.lookup_cons] at h'
      split at h'
      · rename_i e
        cases h'
        rcases hq with z | z
        · exact absurd z hk
        · rw [eq_of_beq e, z]
          exact List.mem_cons_self
      · exact List.mem_cons_of_mem _ (ih h')
theorem closure_go {env : Env} : ∀ (names : List (Str × NameKind)) (acc : List (Str × Addr)), (∀ p ∈ names, p.2 = .free → ∃ c, env.cells.lookup p.1 = some c) → (∀ x c, acc.lookup x = some c → env.cells.lookup x = some c) →
    ∃ cl : List (Str × Addr), (forIn names acc fun (x : Str × NameKind) (r : List (Str × Addr)) => (match x with
      | (name, kind) => if (kind == NameKind.free) = true then do
          let a ← cellOf env name
          pure (ForInStep.yield ((name, a) :: r))
        else pure (ForInStep.yield r) : Sem (ForInStep (List (Str × Addr))))) = pure cl ∧ (∀ x c, cl.lookup x = some c → env.cells.lookup x = some c) ∧
      (∀ p ∈ names, p.2 = .free → ∃ c, cl.lookup p.1 = some c) ∧ ∀ x c, acc.lookup x = some c → ∃ c', cl.lookup x = some c'
  | [], acc, _, ha => ⟨acc, by simp, ha, by simp, fun x c h => ⟨c, h⟩⟩
  | (n, k) :: r, acc, hn, ha => by
    by_cases hk : k = .free
    · subst hk
      obtain ⟨c, hc⟩ := hn (n, .free) List.mem_cons_self rfl
      obtain ⟨cl, h1, h2, h3, h4⟩ := closure_go r ((n, c) :: acc) (fun p hp => hn p (List.mem_cons_of_mem _ hp)) (fun x d hd => by
        rw [List.lookup_cons] at hd
        split at hd
        · rename_i e
          cases hd
          rw [eq_of_beq e]; exact hc
        · exact ha x d hd)
      refine ⟨cl, ?_, h2, fun p hp hf => ?_, fun x d hd => ?_⟩
      · rw [List.forIn_cons]
        have e : cellOf env n = pure c := by unfold cellOf; rw [hc]
        simp only [beq_self_eq_true, if_true, e, pure_bind]
        exact h1
      · rcases List.mem_cons.mp hp with e | e
        · subst e
          exact h4 n c (by rw [List.lookup_cons]; simp)
        · exact h3 p e hf
      · by_cases hx : (x == n) = true
        · exact h4 x c (by rw [List.lookup_cons, hx])
        · exact h4 x d (by rw [List.lookup_cons]; simp only [hx]; exact hd)
    · obtain ⟨cl, h1, h2, h3, h4⟩ := closure_go r acc (fun p hp => hn p (List.mem_cons_of_mem _ hp)) ha
      refine ⟨cl, ?_, h2, fun p hp hf => ?_, h4⟩
      · rw [List.forIn_cons]
        have e : (k == NameKind.free) = false := by simpa using hk
        simp only [e, Bool.false_eq_true, if_false, pure_bind]
        exact h1
      · rcases List.mem_cons.mp hp with e | e
        · subst e; exact absurd hf hk
        · exact h3 p e hf
theorem closure_ok {env : Env} {sc : Scope} (h : ∀ p ∈ sc.names, p.2 = .free → ∃ c, env.cells.lookup p.1 = some c) :
    ∃ cl : List (Str × Addr), closureFor sc env = pure cl ∧ (∀ x c, cl.lookup x = some c → env.cells.lookup x = some c) ∧ (∀ p ∈ sc.names, p.2 = .free → ∃ c, cl.lookup p.1 = some c) := by
  obtain ⟨cl, h1, h2, h3, _⟩ := closure_go sc.names [] h (fun x c e => by simp at e)
  refine ⟨cl, ?_, h2, h3⟩
  unfold closureFor
  simp only [bind_pure]
  exact h1
def Keeps (σ σ' : St) : Prop := σ'.length = σ.length ∧ ∀ (i : Nat) v, σ[i]? = some (some v) → σ'[i]? = some (some v)
theorem Keeps.one (v : V) (r : St) : Keeps (none :: r) (some v :: r) := ⟨rfl, fun i w h => by
  cases i with
  | zero => simp at h
  | succ n => exact h⟩
theorem Keeps.two (v v' : V) (r : St) : Keeps (none :: none :: r) (some v :: some v' :: r) := ⟨rfl, fun i w h => by
  match i with
  | 0 => simp at h
  | 1 => simp at h
  | n + 2 => exact h⟩
def compSt (nv : Nat) (caps : List (Nat × Str)) (σ : St) : St := List.replicate nv none ++ caps.map fun q => (σ[q.1]?).join
def tComp (nv : Nat) (caps : List (Nat × Str)) (wi : TI) (g : TG) (te : TE) : TE := fun σ H Q => wi σ H fun J H1 => ∀ D, H1 D = none → ∃ W : Nat → Nat → Hp → Prop, (∃ m, W 0 m (upd H1 D (.lst []))) ∧
  ∀ i m H2, W i m H2 → (J.stop i H2 ∧ Q (.ref D) H2) ∨ (J.go i H2 ∧ ∀ x H3, J.yld i H2 x H3 → g x (compSt nv caps σ) H3 fun σ4 H4 => Keeps (compSt nv caps σ) σ4 ∧ te σ4 H4 fun y H5 =>
    ∃ acc, H5 D = some (.lst acc) ∧ acc.length < sizeLine ∧ ∃ m', m' < m ∧ W (i + 1) m' (upd H5 D (.lst (acc ++ [y]))))
section
variable {X : Cx}
theorem comp_start {pins : List (Addr × Obj)} {σ : St} {H3 : Hp} {s3 : Shared} {sc : Scope} {cl : List (Str × Addr)} {vars : List Str} {caps : List (Nat × Str)} {fp : List Addr} {h4 : Heap} {m : Str → Option Value} {tk : Nat}
    (I : Inv X pins σ H3 s3) (hcell : ∀ y ∈ sc.names, y.2 ≠ .cell) (hkind : sc.kind = .function) (hcaps : CapsOk X sc caps) (hfree : ∀ p ∈ sc.names, p.2 = .free → ∃ c, cl.lookup p.1 = some c)
    (hcl : ∀ x c, cl.lookup x = some c → X.env.cells.lookup x = some c) (hfp : ∀ b ∈ fp, FpOk X pins H3 b) (hlt : ∀ b ∈ fp, b < s3.heap.objs.size)
    (hns : h4.Ns s3.heap.objs.size m) (hk : ∀ b o, s3.heap.get? b = some o → h4.get? b = some o) (hg : AllBare s3.gens) :
    Inv (inComp X sc cl (vars ++ caps.map (·.2)) s3.heap.objs.size s3 H3 fp) [] (compSt vars.length caps σ) H3 { s3 with heap := h4, toks := tk } := by
  have hfs : ∀ b ∈ frs X.stack, b ∈ X.env.locals :: X.fs := I.stkSub
  have ok : (inComp X sc cl (vars ++ caps.map (·.2)) s3.heap.objs.size s3 H3 fp).Ok := by
    refine ⟨I.ok.mod, hkind, I.ok.glob, I.ok.blt, Nat.le_refl _, fun x y c e1 e2 => I.ok.inj x y c (hcl x c e1) (hcl y c e2), fun x hx => ?_, fun x c hf => (by cases hf), I.ok.hd, I.ok.frames, .inl rfl,
      fun b hb => ⟨Nat.ne_of_lt (hlt b hb), fun x c e => (hfp b hb).2.2.2.2.1 x c (hcl x c e)⟩, I.bs, Nat.le_trans I.ok.bsz I.sz, fun b o e hb => ?_, fun b hb hz => ?_, I.stack, I.stkFree⟩
    · have hm : ∃ q, (q = NameKind.cell ∨ q = NameKind.free) ∧ (relabel sc X.env).names.lookup x = some q := by
        rcases hx with z | z
        · exact ⟨_, .inl rfl, z⟩
        · exact ⟨_, .inr rfl, z⟩
      obtain ⟨q, hq, hl⟩ := hm
      exact hfree (x, .free) (relabel_was hq hcell hl) rfl
    · rcases (hfp b hb).2.2.2.1 with z | z
      · exact I.ok.noex b o e z
      · exact absurd (Nat.lt_of_lt_of_le (Heap.lt_size e) (Nat.le_trans I.ok.bsz z)) (Nat.lt_irrefl _)
    · rcases List.mem_cons.mp (hfs b hz) with z | z
      · exact (hfp b hb).2.1 z
      · exact (hfp b hb).2.2.1 z
  refine ⟨ok, rfl, hg, Un.kept hk, ⟨m, hns, fun i x v e1 e2 e3 => ?_⟩, fun x c e => ?_, I.hok.fresh (Nat.le_refl _), fun x c e => I.freeC x c (hcl x c e), fun p hp => (by cases hp), I.hok.kept hk, ?_⟩
  · -- a captured name
    have hi : vars.length ≤ i := by
      refine Nat.le_of_not_lt fun hlt' => ?_
      unfold compSt at e2
      rw [List.getElem?_append_left (by simpa using hlt'), List.getElem?_replicate] at e2
      split at e2 <;> simp at e2
    have e1' : (caps.map (·.2))[i - vars.length]? = some x := by
      have := e1
      rw [List.getElem?_append_right hi] at this
      exact this
    have e2' : (caps.map fun q => (σ[q.1]?).join)[i - vars.length]? = some (some v) := by
      unfold compSt at e2
      rw [List.getElem?_append_right (by simpa using hi)] at e2
      simpa using e2
    rw [List.getElem?_map] at e1' e2'
    cases hq : caps[i - vars.length]? with
    | none => rw [hq] at e1'; cases e1'
    | some q =>
      rw [hq] at e1' e2'
      have ex : q.2 = x := by simpa using e1'
      have ev : (σ[q.1]?).join = some v := by simpa using e2'
      have ev' : σ[q.1]? = some (some v) := by
        cases hz : σ[q.1]? with
        | none => rw [hz] at ev; cases ev
        | some z => rw [hz] at ev; exact congrArg some ev
      obtain ⟨c1, c2, c3⟩ := hcaps.all q (List.mem_of_getElem? hq)
      rw [ex] at c1 c2 c3
      obtain ⟨m0, hn0, hl0⟩ := I.loc
      obtain ⟨u, ru, lu⟩ := hl0 q.1 x v c1 ev' (.inr (.inl c2))
      refine ⟨u, ru, .inr ⟨.inl (relabel_free I.ok.kind c2 c3), ?_⟩⟩
      rcases lu with ⟨z, _⟩ | ⟨_, c, z1, z2⟩
      · rw [c2] at z; cases z
      · obtain ⟨c', hc'⟩ := hfree (x, .free) (lookup_mem c3) rfl
        have := hcl x c' hc'
        rw [z1] at this
        cases this
        obtain ⟨o, ho, hd⟩ := z2
        exact ⟨c, hc', o, hk c o ho, hd⟩
  · obtain ⟨v, o, ho, hd⟩ := I.cell x c (hcl x c e)
    exact ⟨v, o, hk c o ho, hd⟩
  · simp [compSt]
def FreeAt (X : Cx) (pins : List (Addr × Obj)) (H : Hp) (C : Addr) : Prop := H C = none ∧ C ≠ X.env.locals ∧ X.s₀.heap.objs.size ≤ C ∧ (∀ x c, X.env.cells.lookup x = some c → c ≠ C) ∧ ∀ p ∈ X.pn ++ pins, p.1 ≠ C
theorem comp_core {elt tg iter : Expr} {sc : Scope} {pos : Pos} {wi : TI} {g : TG} {te : TE} {cl : List (Str × Addr)} {pins : List (Addr × Obj)} {σ : St} {H : Hp} {s : Shared} {Q : VK} {R0 : Value → Addr → Result → Shared → Prop} (vars : List Str) (caps : List (Nat × Str)) (hc : X.calm = true) (hi : PI X tg iter wi)
    (hcell : ∀ y ∈ sc.names, y.2 ≠ .cell) (hkind : sc.kind = .function) (hnames : ∀ y ∈ sc.names, y.2 = .local → sc.names.lookup y.1 = some .local) (hcaps : CapsOk X sc caps) (k2 : ∀ x c, cl.lookup x = some c → X.env.cells.lookup x = some c) (k3 : ∀ p ∈ sc.names, p.2 = .free → ∃ c, cl.lookup p.1 = some c)
    (hg : ∀ cl C s3 H3 fp, PG (inComp X sc cl (vars ++ caps.map (·.2)) C s3 H3 fp) tg g) (he : ∀ cl C s3 H3 fp, PE (inComp X sc cl (vars ++ caps.map (·.2)) C s3 H3 fp) elt te)
    (I : Inv X pins σ H s) (h : tComp vars.length caps wi g te σ H Q) (hfin : ∀ D C Hc s7 m, Inv X pins σ Hc s7 → Q (.ref D) Hc → s7.heap.Ns C m → FreeAt X pins Hc C → R0 (.ref D) C (.ok .next) s7) :
    wpAny (model X.prog X.w) X.A (eval iter X.env) (fun x s₁ => wpAny (model X.prog X.w) X.A (pyIter x) (fun it s₂ => wpAny (model X.prog X.w) X.A (newList []) (fun acc s₃ =>
      wpAny (model X.prog X.w) X.A (newFunctionEnv sc X.env.globals cl [] X.env.qual none .none (some X.env)) (fun cenv s₄ =>
        codeAny (model X.prog X.w) X.A (.compStart (.ListComp elt [⟨tg, iter, [], 0⟩] sc pos) 0 it acc { cenv with scope := relabel sc X.env }) (R0 acc cenv.locals) s₄) X.xe s₃) X.xe s₂) X.xe s₁) X.xe s := by
  refine thn (hi pins s σ H _ I h) fun v s1 h1 => thn h1 fun itv s2 h2 => ?_
  obtain ⟨it, fp, tn, J, H2, e, I2, T, st2, f2, R⟩ := h2
  subst e
  refine wpAny_newObj_type ?_
  have hD : H2 s2.heap.objs.size = none := I2.hok.fresh (Nat.le_refl _)
  obtain ⟨W, ⟨m0, w0⟩, turn⟩ := R s2.heap.objs.size hD
  have I3 : Inv X pins σ (upd H2 s2.heap.objs.size (.lst [])) { s2 with heap := s2.heap.push { cls := .type "list", data := .seq ([] : List Value).toArray }, toks := s2.toks } := I2.lnew .nil (Nat.zero_le _)
  refine wpAny_newFunctionEnv hcell (by intro y hy; simp at hy) (fun h₁ hns₁ hsb₁ => ?_) hkind
  dsimp only at hns₁ hsb₁ ⊢
  have I3' : Inv X pins σ (upd H2 s2.heap.objs.size (.lst [])) { s2 with heap := s2.heap.push { cls := .type "list", data := .seq ([] : List Value).toArray } } := I3
  generalize hs3 : ({ s2 with heap := s2.heap.push { cls := .type "list", data := .seq ([] : List Value).toArray } } : Shared) = s3 at I3'
  have hh3 : s3.heap = s2.heap.push { cls := .type "list", data := .seq ([] : List Value).toArray } := by rw [← hs3]
  have hkeep3 : ∀ b o, s3.heap.get? b = some o → h₁.get? b = some o := fun b o e => by
    rw [hh3] at e
    exact hsb₁.extBut b o (Nat.ne_of_lt (Heap.lt_size e)) (Heap.get?_push_of_some _ e)
  have hf3 : ∀ b ∈ fp, FpOk X pins (upd H2 s2.heap.objs.size (.lst [])) b := fun b hb => by
    obtain ⟨o, ho, _⟩ := T.obj _ _ st2 b hb
    refine ⟨?_, (f2 b hb).2⟩
    rw [upd_ne (Nat.ne_of_lt (Heap.lt_size ho))]
    exact (f2 b hb).1
  have hlt3 : ∀ b ∈ fp, b < s3.heap.objs.size := fun b hb => by
    obtain ⟨o, ho, _⟩ := T.obj _ _ st2 b hb
    rw [hh3, Heap.size_push]
    exact Nat.lt_succ_of_lt (Heap.lt_size ho)
  have st4 : tn 0 h₁ := T.keep _ _ _ st2 fun b _ o e => hkeep3 b o (by rw [hh3]; exact Heap.get?_push_of_some _ e)
  have hCsz : (s2.heap.push { cls := .type "list", data := .seq ([] : List Value).toArray } : Heap).objs.size = s3.heap.objs.size := by rw [hh3]
  rw [hCsz] at hns₁ hsb₁ ⊢
  have I4 : ∀ tk, Inv (inComp X sc cl (vars ++ caps.map (·.2)) s3.heap.objs.size s3 (upd H2 s2.heap.objs.size (.lst [])) fp) [] (compSt vars.length caps σ) (upd H2 s2.heap.objs.size (.lst [])) { s3 with heap := h₁, toks := tk } :=
    fun tk => comp_start I3' hcell hkind hcaps k3 k2 hf3 hlt3 hns₁ hkeep3 I3'.bare
  generalize hX' : inComp X sc cl (vars ++ caps.map (·.2)) s3.heap.objs.size s3 (upd H2 s2.heap.objs.size (.lst [])) fp = X' at I4
  have hgX : PG X' tg g := by rw [← hX']; exact hg _ _ _ _ _
  have heX : PE X' elt te := by rw [← hX']; exact he _ _ _ _ _
  have loop : ∀ (s5 : Shared) (n : Nat), (∃ i Hc, Inv X' [] (compSt vars.length caps σ) Hc s5 ∧ tn i s5.heap ∧ (∀ b ∈ fp, Hc b = none) ∧ W i n Hc) →
      codeAny (model X.prog X.w) X.A (.compLoop (.ListComp elt [⟨tg, iter, [], 0⟩] sc pos) 0 (.ref it) (.ref s2.heap.objs.size) (compEnvC sc cl s3.heap.objs.size X.env))
        (R0 (.ref s2.heap.objs.size) s3.heap.objs.size) s5 := by
    intro s5 n h5
    refine codeAny_loop rfl (fun n s5 => ∃ i Hc, Inv X' [] (compSt vars.length caps σ) Hc s5 ∧ tn i s5.heap ∧ (∀ b ∈ fp, Hc b = none) ∧ W i n Hc) (fun n s6 hI => ?_) n h5
    show wpAny _ _ ((compTurn (.ListComp elt [⟨tg, iter, [], 0⟩] sc pos) 0 (.ref it) (.ref s2.heap.objs.size) (compEnvC sc cl s3.heap.objs.size X.env)).onRaise (fun x => do noteFrame x (compEnvC sc cl s3.heap.objs.size X.env); theTreesLotGoes x)) _ _ s6
    refine wpAny_noted ?_
    rw [compTurn_list1]
    obtain ⟨i, Hc, I6, st6, fr6, w6⟩ := hI
    have fOk : ∀ {H' : Hp}, (∀ b ∈ fp, H' b = none) → ∀ b ∈ fp, FpOk X' [] H' b := fun hn b hb => by
      subst hX'
      refine ⟨hn b hb, Nat.ne_of_lt (hlt3 b hb), fun hz => ?_, .inl hb, fun x c e => (hf3 b hb).2.2.2.2.1 x c (k2 x c e), fun p hp => by cases hp⟩
      rcases List.mem_cons.mp (I3'.stkSub b hz) with z | z
      · exact (hf3 b hb).2.1 z
      · exact (hf3 b hb).2.2.1 z
    have hcX : X'.calm = true := by rw [← hX']; exact hc
    have hPX : X'.prog = X.prog := by rw [← hX']
    have hwX : X'.w = X.w := by rw [← hX']
    have hKX : X'.K = X.K := by rw [← hX']
    have hAX : X'.A = X.A := by rw [← hX']
    have hxX : X'.xe = fun _ _ => False := by rw [← hX']
    have heX' : X'.env = compEnvC sc cl s3.heap.objs.size X.env := by rw [← hX']
    refine wpAny_bind (wpAny_standAt (wpAny_bind ?_))
    rcases turn i n Hc w6 with ⟨stop, qn⟩ | ⟨go, step⟩
    · have dn := T.done X' hPX hwX hKX hcX i [] s6 (compSt vars.length caps σ) Hc (notedBy (model X.prog X.w) X.A (compEnvC sc cl s3.heap.objs.size X.env) fun e s' => R0 (.ref s2.heap.objs.size) s3.heap.objs.size (.error e) s') I6 (fOk fr6) st6 stop
      rw [hAX] at dn
      refine thn dn fun r s7 ⟨hr, I7⟩ => ?_
      subst hr
      refine wpAny_pure ?_
      subst hX'
      obtain ⟨m7, hn7, _⟩ := id I7.loc
      refine hfin _ _ Hc s7 m7 (I3'.call' (s' := s7) (ch := fp) I7.os I7.base I7.hok I7.bare (fun b hb => ?_)) qn hn7 ⟨I7.free, fun e => ?_, I3'.sz, fun x c e z => ?_, fun p hp z => ?_⟩
      · obtain ⟨_, z1, _, z3, z4, z5⟩ := hf3 b hb
        exact ⟨z3, z1, z4, z5⟩
      · exact absurd (I3'.lt) (by rw [← e]; exact Nat.lt_irrefl _)
      · obtain ⟨v, o, ho, _⟩ := I3'.cell x c e
        exact absurd (Heap.lt_size ho) (by rw [z]; exact Nat.lt_irrefl _)
      · have ho := (I3'.pin p hp).1
        exact absurd (Heap.lt_size ho) (by rw [z]; exact Nat.lt_irrefl _)
    · have it1 := T.item X' hPX hwX hKX hcX i [] s6 (compSt vars.length caps σ) Hc (notedBy (model X.prog X.w) X.A (compEnvC sc cl s3.heap.objs.size X.env) fun e s' => R0 (.ref s2.heap.objs.size) s3.heap.objs.size (.error e) s') I6 (fOk fr6) st6 go
      rw [hAX] at it1
      refine thn it1 fun r s7 ⟨u, hr, h7⟩ => ?_
      subst hr
      refine wpAny_bind (thn h7 fun _ s8 ⟨x, H8, I8, r8, y8, st8, fr8⟩ => ?_)
      have I8' := I8.pinned (fOk fr8) (T.obj _ _ st8)
      have a1 := hgX _ s8 _ H8 x u _ I8' r8 (step x H8 y8)
      rw [hPX, hwX, hAX, hxX, heX'] at a1
      refine wpAny_bind (wpAny_mono a1 (fun _ s9 ⟨σ9, H9, I9, kp9, q9⟩ => ?_) fun _ _ z => z.elim)
      have a2 := heX _ s9 σ9 H9 _ I9 q9
      rw [hPX, hwX, hAX, hxX, heX'] at a2
      refine wpAny_bind (wpAny_bind (wpAny_mono a2 (fun yv s10 ⟨y, H10, I10, r10, acc, hacc, hlen, m', hm', w10⟩ => ?_) fun _ _ z => z.elim))
      have a3 := mt_append (X := X') _ s10 σ9 H10 (.ref s2.heap.objs.size) [y] (.ref s2.heap.objs.size) [yv] (fun v H' => H' = upd H10 s2.heap.objs.size (.lst (acc ++ [y]))) I10 rfl (.cons r10 .nil) ⟨_, acc, y, rfl, rfl, hacc, hlen, rfl⟩
      rw [hPX, hwX, hAX, hxX] at a3
      refine wpAny_bind (wpAny_mono a3 (fun _ s11 ⟨v11, H11, I11, _, e11⟩ => wpAny_pure (wpAny_pure ⟨rfl, m', hm', ?_⟩)) fun _ _ z => z.elim)
      subst e11
      refine ⟨i + 1, _, (I11.unpinned).weak kp9.1.symm kp9.2, T.keep _ _ _ st8 fun b hb o e => (I11.pin (b, o) (List.mem_append_right _ (List.mem_append_right _ (mem_pinsAt hb e)))).1, fun b hb => ?_, w10⟩
      obtain ⟨o, e, d⟩ := T.obj _ _ st8 b hb
      exact (I11.pin (b, o) (List.mem_append_right _ (List.mem_append_right _ (mem_pinsAt hb e)))).2.1
  have fin : ∀ s5 : Shared, s5 = { s3 with heap := h₁, toks := s2.toks + ([] : List (Str × Value)).length } → codeAny (model X.prog X.w) X.A (.compLoop (.ListComp elt [⟨tg, iter, [], 0⟩] sc pos) 0 (.ref it) (.ref s2.heap.objs.size) (compEnvC sc cl s3.heap.objs.size X.env))
        (R0 (.ref s2.heap.objs.size) s3.heap.objs.size) s5 := by
    rintro s5 rfl
    exact loop _ m0 ⟨0, _, I4 _, st4, fun b hb => (hf3 b hb).1, w0⟩
  have e5 : ({ s2 with heap := h₁, toks := s2.toks + ([] : List (Str × Value)).length } : Shared) = { s3 with heap := h₁, toks := s2.toks + ([] : List (Str × Value)).length } := by rw [← hs3]
  exact codeAny_compStart_list (fin _ e5) (T.self X.A 0 _ _ _ st4 (fin _ e5))
theorem caps_cl {pins : List (Addr × Obj)} {σ : St} {H : Hp} {s : Shared} {sc : Scope} {caps : List (Nat × Str)} (I : Inv X pins σ H s) (hfree : ∀ p ∈ sc.names, p.2 = .free → p.1 ∈ caps.map (·.2)) (hcaps : CapsOk X sc caps) :
    ∃ cl : List (Str × Addr), closureFor sc X.env = pure cl ∧ (∀ x c, cl.lookup x = some c → X.env.cells.lookup x = some c) ∧ (∀ p ∈ sc.names, p.2 = .free → ∃ c, cl.lookup p.1 = some c) :=
  closure_ok (env := X.env) (sc := sc) (fun p hp hf => by
    obtain ⟨q, hq, e⟩ := List.mem_map.mp (hfree p hp hf)
    have := (hcaps.all q hq).2.1
    rw [e] at this
    exact I.ok.has p.1 (.inl this))
theorem pe_comp {elt tg iter : Expr} {sc : Scope} {pos : Pos} {wi : TI} {g : TG} {te : TE} (vars : List Str) (caps : List (Nat × Str)) (hc : X.calm = true) (hi : PI X tg iter wi)
    (hcell : ∀ y ∈ sc.names, y.2 ≠ .cell) (hkind : sc.kind = .function) (hnames : ∀ y ∈ sc.names, y.2 = .local → sc.names.lookup y.1 = some .local) (hfree : ∀ p ∈ sc.names, p.2 = .free → p.1 ∈ caps.map (·.2)) (hcaps : CapsOk X sc caps)
    (hg : ∀ cl C s3 H3 fp, PG (inComp X sc cl (vars ++ caps.map (·.2)) C s3 H3 fp) tg g) (he : ∀ cl C s3 H3 fp, PE (inComp X sc cl (vars ++ caps.map (·.2)) C s3 H3 fp) elt te)
    (hs : ∀ x, foldedSetIterable iter X.env x = pure x := by intro _; rfl) :
    PE X (.ListComp elt [⟨tg, iter, [], 0⟩] sc pos) (tComp vars.length caps wi g te) := by
  intro pins s σ H Q I h
  obtain ⟨cl, k1, k2, k3⟩ := caps_cl I hfree hcaps
  rw [eval_ListComp]
  refine wpAny_comprehension_free (use := none) rfl hs k1 hkind hnames (comp_core vars caps hc hi hcell hkind hnames hcaps k2 k3 hg he I h ?_)
  intro D C Hc s7 m I7 q hn ⟨f0, f1, f2, f3, f4⟩
  exact ⟨m, hn, fun h' sb => ⟨.ref D, Hc, I7.turned (t' := s7.toks) (fun b o hb e => (sb.2 b hb).trans e) f0 f1 (.inr f2) f3 f4, rfl, q⟩⟩
theorem ps_setC {i : Nat} {y : Str} {py spos : Pos} {elt tg iter : Expr} {sc : Scope} {pos : Pos} {wi : TI} {g : TG} {te : TE} (hN : X.N.Nodup) (hi' : X.N[i]? = some y) (hy : X.env.scope.names.lookup y = some .local) (vars : List Str) (caps : List (Nat × Str)) (hc : X.calm = true) (hi : PI X tg iter wi)
    (hcell : ∀ y ∈ sc.names, y.2 ≠ .cell) (hkind : sc.kind = .function) (hnames : ∀ y ∈ sc.names, y.2 = .local → sc.names.lookup y.1 = some .local) (hfree : ∀ p ∈ sc.names, p.2 = .free → p.1 ∈ caps.map (·.2)) (hcaps : CapsOk X sc caps)
    (hg : ∀ cl C s3 H3 fp, PG (inComp X sc cl (vars ++ caps.map (·.2)) C s3 H3 fp) tg g) (he : ∀ cl C s3 H3 fp, PE (inComp X sc cl (vars ++ caps.map (·.2)) C s3 H3 fp) elt te)
    (hs : ∀ x, foldedSetIterable iter X.env x = pure x := by intro _; rfl)
    (hsw : swapsWith (.ListComp elt [⟨tg, iter, [], 0⟩] sc pos) (some (.Name y py)) spos.line X.env = pure true := by rfl) :
    PS X (.Assign [.Name y py] (.ListComp elt [⟨tg, iter, [], 0⟩] sc pos) spos) (tAsg (tComp vars.length caps wi g te) (gName i)) := by
  intro pins s σ H D0 I h
  obtain ⟨cl, k1, k2, k3⟩ := caps_cl I hfree hcaps
  rw [exec_Assign_Name_used _ _ _ _ hsw]
  refine wpAny_bind (wpAny_standAt (wpAny_bind ?_))
  show wpAny _ X.A (do let _ ← comprehension (.ListComp elt [⟨tg, iter, [], 0⟩] sc pos) sc X.env _ (newList []) false (eval iter X.env) (some (assign (.Name y py) X.env))) _ _ s
  refine wpAny_bind (wpAny_mono (wpAny_comprehension_free (use := some (assign (.Name y py) X.env)) (Q := fun _ s' => SP X pins D0 .next s') rfl hs k1 hkind hnames
    (comp_core vars caps hc hi hcell hkind hnames hcaps k2 k3 hg he I h ?_)) (fun _ s' hq => wpAny_pure (wpAny_pure hq)) fun _ _ e => e)
  intro D C Hc s7 m I7 q hn ⟨f0, f1, f2, f3, f4⟩
  show wpAny _ X.A (assign (.Name y py) X.env (.ref D)) _ _ _
  refine wpAny_assign_Name (store_ok2 I7 hN hi' (.inl hy) (v := .ref D) rfl (fun s8 I8 ⟨a, sa, ha⟩ => ?_) (.inr hy))
  have hCa : C ≠ a := by
    rcases ha with e | e
    · rw [e]; exact f1
    · exact Ne.symm (f3 y a e)
  exact ⟨m, hn.sameBut sa hCa, fun h' sb => ⟨_, Hc, I8.turned (t' := s8.toks) (fun b o hb e => (sb.2 b hb).trans e) f0 f1 (.inr f2) f3 f4, q⟩⟩
end
end Ph
set_option Elab.async false
set_option linter.all false
set_option maxRecDepth 100000
namespace Ph
open PySem PySem.Spec L2 PySem.W
open PyProof.Rows hiding St
def AskIn {α : Type} (n : Nat) : KasT α → (α → Prop) → Prop
  | .ret a, P => P a
  | .ask i j k, P => i < n ∧ j < n ∧ ∀ b, AskIn n (k b) P
theorem AskIn.mono {α : Type} {n : Nat} {P P' : α → Prop} (hP : ∀ a, P a → P' a) : ∀ {t : KasT α}, AskIn n t P → AskIn n t P'
  | .ret a, h => hP a h
  | .ask _ _ _, h => ⟨h.1, h.2.1, fun b => AskIn.mono hP (h.2.2 b)⟩
theorem AskIn.bind {α β : Type} {n : Nat} {f : α → KasT β} {P : β → Prop} : ∀ {t : KasT α}, AskIn n t (fun a => AskIn n (f a) P) → AskIn n (t.bind f) P
  | .ret _, h => h
  | .ask _ _ _, h => ⟨h.1, h.2.1, fun b => AskIn.bind (h.2.2 b)⟩
theorem AskIn.ite {α : Type} {n : Nat} {c : Prop} [Decidable c] {t u : KasT α} {P : α → Prop} (h1 : AskIn n t P) (h2 : AskIn n u P) : AskIn n (if c then t else u) P := by
  split
  · exact h1
  · exact h2
theorem AskIn.r {α : Type} {n : Nat} {a : α} {P : α → Prop} (h : P a) : AskIn n (KasT.ret a) P := h
def Bnd (n : Nat) (p : Array Nat) : Prop := ∀ x ∈ p, x < n
theorem Bnd.get {n : Nat} {p : Array Nat} (h1 : 1 ≤ n) (h : Bnd n p) (i : Nat) : p.getD i 0 < n := by
  by_cases hi : i < p.size
  · have e : p.getD i 0 = p[i] := by simp [Array.getD, hi]
    rw [e]; exact h _ (Array.getElem_mem hi)
  · have e : p.getD i 0 = 0 := by simp [Array.getD, hi]
    omega
theorem Bnd.perm {n : Nat} {p q : Array Nat} (h : Bnd n p) (hp : q.Perm p) : Bnd n q := fun x hx => h x (by
  have := (Array.perm_iff_toList_perm.mp hp).mem_iff (a := x)
  simpa using this.mp (by simpa using hx))
theorem in_asc {n : Nat} (h1 : 1 ≤ n) {p : Array Nat} (hb : Bnd n p) : ∀ f m, AskIn n (kas_asc p f m) (fun _ => True)
  | 0, _ => trivial
  | f + 1, m => ⟨hb.get h1 _, hb.get h1 _, fun b => AskIn.ite (AskIn.r trivial) (in_asc h1 hb f (m + 1))⟩
theorem in_desc {n : Nat} (h1 : 1 ≤ n) : ∀ f (p : Array Nat) m q, Bnd n p → AskIn n (kas_desc f p m q) (fun r => Bnd n r.1)
  | 0, _, _, _, hb => hb
  | f + 1, p, m, q, hb => by
    refine ⟨hb.get h1 _, hb.get h1 _, fun b => AskIn.ite (AskIn.ite (in_desc h1 f _ _ _ (hb.perm (rev_perm _ _ _))) (in_desc h1 f _ _ _ hb)) ?_⟩
    exact ⟨hb.get h1 _, hb.get h1 _, fun d => AskIn.ite (AskIn.r (P := fun r : Array Nat × Nat × Nat => Bnd n r.1) hb) (in_desc h1 f _ _ _ hb)⟩
theorem in_tail3 {n : Nat} (h1 : 1 ≤ n) {p : Array Nat} {m k : Nat} (hb : Bnd n p) : AskIn n (kas_tail3 m k p) (fun r => Bnd n r.2) := by
  unfold kas_tail3
  exact AskIn.bind ((in_asc h1 (hb.perm (rev_perm p 0 m)) _ _).mono fun a _ => hb.perm (rev_perm _ _ _))
theorem in_descPart {n : Nat} (h1 : 1 ≤ n) {p : Array Nat} {m k : Nat} (hb : Bnd n p) : AskIn n (kas_descPart m k p) (fun r => Bnd n r.2) := by
  unfold kas_descPart
  exact AskIn.bind ((in_desc h1 _ _ _ _ hb).mono fun a ha => AskIn.ite (in_tail3 h1 (ha.perm (rev_perm _ _ _))) (in_tail3 h1 ha))
theorem in_count {n : Nat} (h1 : 1 ≤ n) {p : Array Nat} {k : Nat} (hb : Bnd n p) : AskIn n (kas_count k p) (fun r => Bnd n r.2) := by
  unfold kas_count
  refine AskIn.bind ((in_asc h1 hb _ _).mono fun m _ => AskIn.ite (AskIn.r (P := fun r : Nat × Array Nat => Bnd n r.2) hb) (AskIn.ite ?_ (in_descPart h1 hb)))
  exact ⟨hb.get h1 _, hb.get h1 _, fun c => AskIn.ite (AskIn.r (P := fun r : Nat × Array Nat => Bnd n r.2) hb) (in_descPart h1 (hb.perm (rev_perm _ _ _)))⟩
theorem in_place {n : Nat} (h1 : 1 ≤ n) {p : Array Nat} (hb : Bnd n p) {k : Nat} : ∀ f l r, AskIn n (kas_place p k f l r) (fun _ => True)
  | 0, _, _ => trivial
  | f + 1, l, r => AskIn.ite (AskIn.r trivial) ⟨hb.get h1 _, hb.get h1 _, fun c => AskIn.ite (in_place h1 hb f _ _) (in_place h1 hb f _ _)⟩
theorem in_bin {n : Nat} (h1 : 1 ≤ n) : ∀ f (p : Array Nat) k, Bnd n p → AskIn n (kas_bin f p k) (fun _ => True)
  | 0, _, _, _ => trivial
  | f + 1, p, k, hb => AskIn.bind ((in_place h1 hb k 0 k).mono fun l _ => in_bin h1 f _ _ (hb.perm (bubble_perm _ _ _)))
theorem in_sort {n : Nat} (h1 : 1 ≤ n) : AskIn n (kas_sort n) (fun _ => True) := by
  unfold kas_sort
  have hb : Bnd n (List.range n).toArray := fun x hx => by simpa using hx
  exact AskIn.bind ((in_count h1 hb).mono fun r hr => AskIn.ite (in_bin h1 _ _ _ hr) (AskIn.r trivial))
theorem krun_wp {α : Type} {n : Nat} {cmp : Nat → Nat → (Bool → Shared → Prop) → Shared → Prop} {c : Nat → Nat → Bool} {s : Shared} (hc : ∀ i j C, i < n → j < n → C (c i j) s → cmp i j C s) {P : α → Prop} {Q : α → Shared → Prop} :
    ∀ (t : KasT α), AskIn n t P → Q (krun c t) s → t.kasWp cmp Q s
  | .ret _, _, h => h
  | .ask i j k, hi, h => hc i j _ hi.1 hi.2.1 (krun_wp hc (k (c i j)) (hi.2.2 _) h)
theorem range_getD {α : Type} (xs : List α) (d : α) : (List.range xs.length).map (fun i => xs.getD i d) = xs := by
  apply List.ext_getElem?
  intro i
  rw [List.getElem?_map]
  by_cases h : i < xs.length
  · rw [List.getElem?_range h, List.getElem?_eq_getElem h]
    simp [List.getD, h]
  · rw [List.getElem?_eq_none (by simpa using h), List.getElem?_eq_none (by omega)]
    rfl
theorem paired_pick {α β : Type} {F : α → β → Prop} {xs : List α} {ys : List β} (h : Paired F xs ys) (d : α) (d' : β) : ∀ is : List Nat, (∀ i ∈ is, i < xs.length) → Paired F (is.map fun i => xs.getD i d) (is.map fun i => ys.getD i d')
  | [], _ => .nil
  | i :: r, hi => by
    have hlt := hi i List.mem_cons_self
    obtain ⟨y, e, f⟩ := paired_get h (i := i) (x := xs[i]) (List.getElem?_eq_getElem hlt)
    refine .cons ?_ (paired_pick h d d' r fun j hj => hi j (List.mem_cons_of_mem _ hj))
    have e1 : xs.getD i d = xs[i] := by simp [List.getD, hlt]
    have e2 : ys.getD i d' = y := by simp [List.getD, e]
    show F (xs.getD i d) (ys.getD i d')
    rw [e1, e2]
    exact f
section
variable {prog : Program} {w : World} {A : Around} {E : Value → Shared → Prop} {s : Shared}
theorem sorted_short {l : Addr} {vs : List Value} {Q : Value → Shared → Prop} (hl : s.heap.IsList l vs.toArray) (h2 : vs.length < 2)
    (h : Q (.ref (s.heap.objs.size + 1)) { s with heap := sortedAll s.heap vs vs.toArray }) : wpAny (model prog w) A (call (.builtin "sorted") [.ref l]) Q E s := by
  refine Calls.call_function_entry kind_sorted plain_sorted entry_sorted (args_sorted1 _) ?_
  unfold Builtin.«sorted»
  refine wpAny_bind (m := checkCount "sorted" 1 1 _) (wpAny_pure ?_)
  refine wpAny_bind (collect_list hl ?_ (by rw [sizeLine_eq]; omega))
  refine wpAny_bind (wpAny_newList ?_ (by rw [sizeLine_eq]; omega))
  have hsz : ((s.heap.push (seqObj "list" #[] 0)).update s.heap.objs.size (Obj.mapSeq (· ++ vs.toArray))).objs.size = s.heap.objs.size + 1 := by
    rw [Heap.size_update, size_push']
  have hoL : (((s.heap.push (seqObj "list" #[] 0)).update s.heap.objs.size (Obj.mapSeq (· ++ vs.toArray))).push (seqObj "list" vs.toArray 0)).get? (s.heap.objs.size + 1) = some (seqObj "list" vs.toArray 0) := by
    rw [← hsz]; exact Heap.get?_push_size _ rfl
  show wpAny _ _ _ _ _ { s with heap := ((s.heap.push (seqObj "list" #[] 0)).update s.heap.objs.size (Obj.mapSeq (· ++ vs.toArray))).push (seqObj "list" vs.toArray 0) }
  rw [hsz]
  refine wpAny_bind (wpAny_holding (wpAny_call_entry slot_list_sort ⟨_, hoL, rfl⟩ entry_list_sort ?body (args_list_sort _)))
  case body =>
    generalize hs1 : ({ s with heap := ((s.heap.push (seqObj "list" #[] 0)).update s.heap.objs.size (Obj.mapSeq (· ++ vs.toArray))).push (seqObj "list" vs.toArray 0) } : Shared) = s1
    have ho : s1.heap.get? (s.heap.objs.size + 1) = some (seqObj "list" vs.toArray 0) := by rw [← hs1]; exact hoL
    have ha : s.heap.objs.size + 1 < s1.heap.objs.size := Heap.lt_size ho
    rw [list_sort_plain]
    refine wpAny_bind (listItems_at ho rfl ?_)
    refine wpAny_bind (listUpdate_at ho rfl ?_ (by rw [List.size_toArray, sizeLine_eq]; omega) (Nat.zero_le _))
    obtain ⟨e1, ho1⟩ : ∃ e1, (s1.heap.update (s.heap.objs.size + 1) (Obj.mapSeq fun _ => #[])).get? (s.heap.objs.size + 1) = some (seqObj "list" #[] e1) := ⟨_, get?_update_seq ho (fun _ => #[])⟩
    refine wpAny_bind (seqEpoch_at ho1 rfl ?_)
    refine wpAny_bind (wpAny_newTuple ?_ (by show vs.length ≤ _; rw [sizeLine_eq]; omega))
    refine wpAny_bind (wpAny_newList ?_ (Nat.zero_le _))
    refine wpAny_holding ?_
    have ho6 : (((s1.heap.update (s.heap.objs.size + 1) (Obj.mapSeq fun _ => #[])).push (seqObj "tuple" vs.toArray 0)).push (seqObj "list" #[] 0)).get? (s.heap.objs.size + 1) = some (seqObj "list" #[] e1) := by
      rw [Heap.get?_push_ne _ _ _ (by rw [size_push', Heap.size_update]; exact Nat.ne_of_lt (Nat.lt_succ_of_lt ha)), Heap.get?_push_ne _ _ _ (by rw [Heap.size_update]; exact Nat.ne_of_lt ha)]
      exact ho1
    show wpAny (model prog w) A.in1.in1 _ _ E { s1 with heap := ((s1.heap.update (s.heap.objs.size + 1) (Obj.mapSeq fun _ => #[])).push (seqObj "tuple" vs.toArray 0)).push (seqObj "list" #[] 0) }
    dsimp only
    have h2' : vs.toArray.size < 2 := by rw [List.size_toArray]; exact h2
    rw [if_pos h2', if_pos h2']
    refine wpAny_bind (wpAny_pure ?_)
    rw [StateT.run_pure]
    refine wpAny_bind (wpAny_pure ?_)
    dsimp only
    refine wpAny_bind (seqEpoch_at ho6 rfl ?_)
    refine wpAny_bind (listUpdate_at ho6 rfl ?_ (Nat.zero_le _) (by rw [Array.size_map]; show (pairsOf vs).size ≤ _; rw [pairsOf_size, sizeLine_eq]; omega))
    simp only [bne_self_eq_false, Bool.false_eq_true, if_false]
    have e2 : (vs.toArray.zip vs.toArray).map (·.2) = vs.toArray := by
      apply Array.toList_inj.mp
      simp [List.map_snd_zip]
    refine wpAny_pure ⟨_, rfl, wpAny_pure ⟨_, rfl, ?_⟩⟩
    have e3 : (arrOf (SortSt.mk' general' (vs.toArray.zip vs.toArray) #[] 7 none)).map (·.2) = vs.toArray := e2
    subst hs1
    have goal := h
    unfold sortedAll sortedHeap at goal
    first
      | (rw [e2]; exact goal)
      | (simp only [e2]; exact goal)
      | (rw [e3]; exact goal)
end
theorem objThere {P : Program} {w : World} {H : Hp} {h : Heap} {a : Addr} {o : HO} (x : ObjOk P w H h a o) : ∃ ob, h.get? a = some ob := by
  cases o with
  | lst xs => obtain ⟨_, _, _, _, e⟩ := x; exact ⟨_, e⟩
  | tup xs => obtain ⟨_, _, _, ob, e, _⟩ := x; exact ⟨_, e⟩
  | dK kvs => obtain ⟨_, _, _, _, o, _, _, e, _⟩ := x; exact ⟨_, e⟩
  | dT kvs => obtain ⟨_, _, _, _, o, _, _, e, _⟩ := x; exact ⟨_, e⟩
  | set S n => obtain ⟨o, _, _, _, e, _⟩ := x; exact ⟨_, e⟩
  | ins C dx fs => obtain ⟨_, _, _, e, _⟩ := x; exact ⟨_, e⟩
  | own y => obtain ⟨_, e⟩ := x; exact ⟨_, e⟩
  | xd fs => obtain ⟨_, ⟨_, _, _, e, _⟩, _⟩ := x; exact ⟨_, e⟩
  | rng lo hi => obtain ⟨_, _, _, e⟩ := x; exact ⟨_, e⟩
  | frz ob u => obtain ⟨e, _⟩ := x; exact ⟨_, e⟩
  | tbl ps => exact ⟨_, (show h.get? a = some _ from x)⟩
  | met f y => exact ⟨_, (show h.get? a = some _ from x)⟩
  | ext φ => obtain ⟨_, ⟨_, e⟩, _⟩ := x; exact ⟨_, e⟩
section
variable {X : Cx}
def rSorted : List V → Hp → VK → Prop := fun xs H Q => ∃ a vs ps, xs = [.ref a] ∧ H a = some (.lst vs) ∧ PairsAt H vs ps ∧ ps.length < 64 ∧
  ∀ D ws qs, H D = none → PairsAt H ws qs → qs.Perm ps → Sorted2 qs → Q (.ref D) (upd H D (.lst ws))
theorem call_sorted : CallR X (.builtin "sorted") rSorted := by
  rintro pins s σ H xs us Q I r ⟨a, vs, ps, rfl, hl, hp, h64, q⟩
  obtain ⟨u, rfl, ru⟩ := vals1 r
  cases (show u = Value.ref a from ru)
  obtain ⟨its, rv, z⟩ := lstAt I hl
  have l1 := rv.length
  have l2 := paired_len hp
  by_cases h2 : 2 ≤ its.length
  · obtain ⟨m, F⟩ := I.fr
    have free0 : ∀ b, s.heap.get? b = none → H b = none := fun b e => by
      cases hb : H b with
      | none => rfl
      | some o =>
        obtain ⟨x, hx⟩ := objThere (I.hok b o hb)
        rw [e] at hx; cases hx
    refine kat_sorted (news := allNews X.base s.heap X.env.locals) F news_all z h2 (by omega) fun D e1 h' F' N' hD => ?_
    have old : ∀ {h'' : Heap} {o : Obj}, Fr X.base X.env.locals h'' m → News X.base X.env.locals h'' ((D, o) :: allNews X.base s.heap X.env.locals) → ∀ b ob, b ≠ X.env.locals → s.heap.get? b = some ob → h''.get? b = some ob := fun {h'' o} F'' N'' b ob hb e => by
      cases hq : X.base.get? b with
      | some u =>
        have := (I.bs b u hq).1
        rw [e] at this; cases this
        exact F''.keep b _ hq
      | none => exact (N'' (b, ob) (List.mem_cons_of_mem _ (mem_allNews hb hq e))).1
    have hDn : s.heap.get? D = none := by
      cases e : s.heap.get? D with
      | none => rfl
      | some o =>
        have hL := (N' (D, seqObj "list" #[] e1) List.mem_cons_self)
        exact absurd (hD (D, o) (mem_allNews hL.2.1 hL.2.2 e)) (Nat.lt_irrefl _)
    have hHD : H D = none := free0 D hDn
    have hDL : D ≠ X.env.locals := (N' (D, seqObj "list" #[] e1) List.mem_cons_self).2.1
    have pairAt : ∀ {h'' : Heap}, (∀ b ob, b ≠ X.env.locals → s.heap.get? b = some ob → h''.get? b = some ob) → ∀ i, i < its.length → ∃ (b : Addr) (o : Obj) (n : Nat) (t0 t1 : Tok), its.getD i Value.none = .ref b ∧ h''.get? b = some o ∧ o.cls = .type "tuple" ∧ o.data = .seq #[.int (ps.getD i (0, 0)).1 t0, .int (ps.getD i (0, 0)).2 t1] n := fun {h''} hk i hi => by
      obtain ⟨p0, e0, f0⟩ := paired_get hp (i := i) (x := vs[i]'(by omega)) (List.getElem?_eq_getElem _)
      obtain ⟨u0, e2, r2⟩ := rv.get (i := i) (x := vs[i]'(by omega)) (List.getElem?_eq_getElem _)
      obtain ⟨b, e3, hb⟩ := f0
      rw [e3] at r2
      cases (show u0 = Value.ref b from r2)
      obtain ⟨its2, r4, t4⟩ := tupAt I hb
      obtain ⟨w0, w1, rfl, q0, q1⟩ := vals2 r4
      obtain ⟨t0, rfl⟩ := q0
      obtain ⟨t1, rfl⟩ := q1
      obtain ⟨o, ho, hc, n, hd⟩ := t4
      have hbL : b ≠ X.env.locals := fun e => by rw [e, I.free] at hb; cases hb
      have ep : ps.getD i (0, 0) = p0 := by simp [List.getD, e0]
      rw [ep]
      exact ⟨b, o, n, t0, t1, by simp [List.getD, e2], hk b o hbL ho, hc, hd⟩
    have hk' := old F' N'
    have tups : ∀ is : List Nat, (∀ i ∈ is, i < its.length) → ∃ fs : List Value, KatTups h' (is.map fun i => its.getD i Value.none) fs ∧ fs.length = is.length ∧ ∀ v ∈ fs, ∃ n t, v = Value.int n t := by
      intro is
      induction is with
      | nil => exact fun _ => ⟨[], KatTups.nil, rfl, fun v hv => by cases hv⟩
      | cons i r ih =>
        intro hi
        obtain ⟨fs, k1, k2, k3⟩ := ih fun j hj => hi j (List.mem_cons_of_mem _ hj)
        obtain ⟨b, o, n, t0, t1, e1, e2, e3, e4⟩ := pairAt hk' i (hi i List.mem_cons_self)
        refine ⟨.int (ps.getD i (0, 0)).1 t0 :: fs, ?_, by rw [List.length_cons, List.length_cons, k2], fun v hv => ?_⟩
        · show KatTups h' (its.getD i Value.none :: _) _
          rw [e1]
          exact KatTups.cons e2 e3 e4 rfl k1
        · rcases List.mem_cons.mp hv with rfl | hv
          · exact ⟨_, _, rfl⟩
          · exact k3 v hv
    obtain ⟨fs, k1, k2, k3⟩ := tups (List.range its.length) (fun i hi => by simpa using hi)
    rw [range_getD] at k1
    rw [List.length_range] at k2
    refine kat_kind (T := .type "int") k1 (by omega) (fun v hv => ?_) rfl ?_
    · obtain ⟨n, t, rfl⟩ := k3 v hv
      exact .now
    refine krun_wp (n := its.length) (c := kc fun i => ps.getD i (0, 0)) (fun i j C hi hj hC => ?_) _ (in_sort (by omega)) ?_
    · obtain ⟨b, o, n, t0, t1, e1, e2, e3, e4⟩ := pairAt hk' i hi
      obtain ⟨b', o', n', t0', t1', e1', e2', e3', e4'⟩ := pairAt hk' j hj
      show wpAny _ _ (keyLt' _ (its.getD i Value.none) (its.getD j Value.none)) C _ _
      rw [e1, e1']
      refine kat_lt (s := { s with heap := h' }) e2 e4 e2' e4' ?_
      have hC' : C (lt2 (ps.getD i (0, 0)) (ps.getD j (0, 0))) { s with heap := h' } := hC
      clear hC
      generalize ps.getD i (0, 0) = x at *
      generalize ps.getD j (0, 0) = y at *
      unfold lt2 at hC'
      refine kat_cons (SeqAt.EqAt.int_int x.1 t0 y.1 t0' _ _ _ _ ?_)
      refine kat_go (fun e => kat_yes ?_) (fun e => kat_no ?_)
      · have e5 : x.1 = y.1 := eq_of_beq e
        rw [if_pos e5] at hC'
        refine kat_cons (SeqAt.EqAt.int_int x.2 t1 y.2 t1' _ _ _ _ ?_)
        refine kat_go (fun e => kat_yes (kat_nil ?_)) (fun e => kat_no ?_)
        · have e6 : x.2 = y.2 := eq_of_beq e
          rw [e6, decide_eq_false (by omega)] at hC'
          exact hC'
        · exact kat_one _ _ (lt_int hC')
      · have e5 : ¬ x.1 = y.1 := by simpa using e
        rw [if_neg e5] at hC'
        exact oneLt_int hC'
    have hs := sort_list (key := fun i => ps.getD i (0, 0)) (n := its.length) (by omega)
    generalize hP : krun (kc fun i => ps.getD i (0, 0)) (kas_sort its.length) = P at hs
    refine KasFin.intro F' N' (.head fun p hp' => Nat.ne_of_lt (hD p hp')) fun h'' c F'' N'' => ?_
    have hk'' := old F'' N''
    have mem : ∀ i ∈ P.toList, i < its.length := fun i hi => by simpa using hs.1.mem_iff.mp hi
    have hvals : Vals (P.toList.map fun i => vs.getD i .non) (P.toList.map fun i => its.getD i Value.none) := paired_pick rv _ _ _ fun i hi => by have := mem i hi; omega
    have hpair : PairsAt H (P.toList.map fun i => vs.getD i .non) (P.toList.map fun i => ps.getD i (0, 0)) := paired_pick hp _ _ _ fun i hi => by have := mem i hi; omega
    have hperm : (P.toList.map fun i => ps.getD i (0, 0)).Perm ps := by
      have := hs.1.map fun i => ps.getD i (0, 0)
      rw [show its.length = ps.length by omega, range_getD] at this
      exact this
    have hlen : (P.toList.map fun i => vs.getD i .non).length = its.length := by
      rw [List.length_map, hs.1.length_eq, List.length_range]
    have hDobj := (N'' (D, listOf (List.toArray (P.toList.map fun i => its.getD i Value.none)) c) List.mem_cons_self).1
    refine ⟨.ref D, upd H D (.lst (P.toList.map fun i => vs.getD i .non)), ?_, rfl, q D _ _ hHD hpair hperm hs.2⟩
    have neD : ∀ b o, s.heap.get? b = some o → b ≠ D := fun b o e z => by rw [z, hDn] at e; cases e
    refine Inv.step (s := s) (h' := h'') (g' := s.gens) (d' := s.drawn) (t' := s.toks) (ch := []) I (fun _ z => nomatch z) (fun b o hb _ _ e _ => hk'' b o hb e) (fun b o hb _ _ e _ => ⟨o.slots, hk'' b o hb e⟩) (fun b o _ e n => by rw [upd_ne (neD b o e)]; exact n)
      (fun b o _ e => ?_) (fun b ys e => by rw [upd_ne (ne_of_none e hHD)]; exact e) (fun b o u e => by rw [upd_ne (ne_of_none e hHD)]; exact e) (fun b u e => ⟨#[], by rw [upd_ne (ne_of_none e hHD), e]; simp⟩) (fun m' hm' => ?_) ?_ I.bare
    · by_cases hb : b = X.env.locals
      · obtain ⟨o', _, _, ho', _⟩ := F''.ns
        rw [hb]
        exact ⟨o', ho'⟩
      · exact ⟨o, hk'' b o hb e⟩
    · have em : m' = m := by
        obtain ⟨o1, es1, ep1, g1, d1, _, f1⟩ := hm'
        obtain ⟨o2, es2, ep2, g2, d2, _, f2⟩ := F.ns
        rw [g1] at g2; cases g2
        rw [d1] at d2; cases d2
        funext x
        rw [← f1 x, ← f2 x]
      rw [em]
      exact F''.ns
    · intro b u e
      by_cases hb : b = D
      · subst hb
        rw [upd_same] at e; cases e
        exact ⟨by rw [hlen, sizeLine_eq]; omega, _, c, hvals, hDobj⟩
      · rw [upd_ne hb] at e
        have neL : ∀ c v, H c = some v → c ≠ X.env.locals := fun c v z y => by rw [y, I.free] at z; cases z
        refine (I.hok b u e).stay (fun c v hc q => hk'' c v ?_ q) (fun c q => by rw [upd_ne (ne_of_none q hHD)]; exact q) fun c xs q => by rw [upd_ne (ne_of_none q hHD)]; exact q
        rcases hc with z | z
        · rw [z]; exact neL b u e
        · exact neL c _ z
  · refine sorted_short z (by omega) ?_
    have hD : H (s.heap.objs.size + 1) = none := I.hok.fresh (Nat.le_succ _)
    obtain ⟨c, hc⟩ := sortedAll_at s.heap its its.toArray
    have hs2 : Sorted2 ps := by
      match ps, (show ps.length < 2 by omega) with
      | [], _ => exact List.Pairwise.nil
      | [p], _ => exact List.pairwise_singleton _ _
      | _ :: _ :: _, h => exact absurd h (by simp)
    refine ⟨.ref _, upd H (s.heap.objs.size + 1) (.lst vs), I.laid (t' := s.toks) (fun b o e => sortedAll_old e) (Nat.le_succ _) ?_, rfl, q _ vs ps hD hp (List.Perm.refl _) hs2⟩
    exact ⟨by rw [sizeLine_eq]; omega, its, c, rv, hc⟩
end
end Ph
set_option Elab.async false
set_option linter.all false
set_option maxRecDepth 100000
namespace Ph
open PySem PySem.Spec L2
open PyProof.Rows hiding St
def Has (P : Program) (w : World) (K : PySem.W.Frag) (mg : Str → Option Value) (base : Heap) (k : Nat) (x : Str) (ps : List Str) (sp : Sp) : Prop :=
  ∃ (f : Addr) (fd : FuncData), FnOk P w K mg base CX0 k f fd ps sp ∧ Binds K fd ps [] ∧ PySem.W.keepIn K (.ref f) = true ∧ mg x = some (.ref f)
def Own (K : PySem.W.Frag) (mg : Str → Option Value) (x : Str) (st : Stmt) : Prop := ∃ (f : Addr) (fd : FuncData), Fun K x x st f fd ∧ mg x = some (.ref f)
section
variable {P : Program} {w : World} {K : PySem.W.Frag} {mg : Str → Option Value} {base : Heap}
theorem by0 {F : List Value → Prop} (h : F []) : ∀ us : List Value, us.length = 0 → F us := fun us e => by rw [List.length_eq_zero_iff.mp e]; exact h
theorem by1 {F : List Value → Prop} (h : ∀ a, F [a]) : ∀ us : List Value, us.length = 1 → F us := fun us e => by
  cases us with
  | nil => cases e
  | cons a r => rw [List.length_eq_zero_iff.mp (Nat.succ.inj e)]; exact h a
theorem by2 {F : List Value → Prop} (h : ∀ a b, F [a, b]) : ∀ us : List Value, us.length = 2 → F us := fun us e => by
  cases us with
  | nil => cases e
  | cons a r => exact by1 (F := fun r => F (a :: r)) (h a) r (Nat.succ.inj e)
theorem by3 {F : List Value → Prop} (h : ∀ a b c, F [a, b, c]) : ∀ us : List Value, us.length = 3 → F us := fun us e => by
  cases us with
  | nil => cases e
  | cons a r => exact by2 (F := fun r => F (a :: r)) (h a) r (Nat.succ.inj e)
theorem by5 {F : List Value → Prop} (h : ∀ a b c d e, F [a, b, c, d, e]) : ∀ us : List Value, us.length = 5 → F us := fun us e => by
  cases us with
  | nil => cases e
  | cons a r =>
    cases r with
    | nil => cases e
    | cons b r => exact by3 (F := fun r => F (a :: b :: r)) (h a b) r (Nat.succ.inj (Nat.succ.inj e))
theorem Own.has {x : Str} {st : Stmt} {N ps : List Str} {k : Nat} {sp : Sp} (O : Own K mg x st) (S : FnScope N ps (defScope st))
    (hb : ∀ (kV doc pm : Value) (an : Option Addr) (cdv ct : Value) (us : List Value), us.length = ps.length → bindArgs (PySem.W.fnOf x x (defArgs st) (defBody st) (defScope st) .none kV doc pm an cdv ct) ⟨us, []⟩ = pure (ps.zip us))
    (len : ∀ vs H Q E, sp vs H Q E → vs.length = ps.length)
    (body : ∀ (f : Addr) (cdv : Value) (A : Around) (outer : List Env) (s : Shared) (H : Hp) (vs : List V) (Q : VK) (E : XK), Room k (A.deeper (envOfC x (defScope st) s.heap.objs.size f cdv)) → sp vs H Q E →
      ∃ t, PSs (cxOf CX0 P w K mg base N x (defScope st) f cdv A outer s H E).nox (defBody st) t ∧ t { nx := fun _ H' => Q .non H', rt := Q } (start N vs) H) :
    Has P w K mg base (k + 1) x ps sp := by
  obtain ⟨f, fd, F, m⟩ := O
  exact ⟨f, fd, F.ok S len (body f), F.binds hb, F.kp, m⟩
theorem own_mk {h : Heap} {x : Str} {st : Stmt} {f : Addr} {oc : Value} {od an : Option Addr} {osl : Array (Option Value)} {kV doc pm cdv ct : Value} (X : K.In h) (G : h.Ns mainGlobals mg) (a : PySem.W.nsIn K mainGlobals x = some (some (.ref f)))
    (l : K.lookup f = some ⟨oc, od, .func (PySem.W.fnOf x x (defArgs st) (defBody st) (defScope st) .none kV doc pm an cdv ct), osl⟩) (c : PySem.W.codeIn K cdv x = true) (k : PySem.W.keepIn K (.ref f) = true) : Own K mg x st :=
  ⟨f, _, fun_mk l c k, PySem.W.mg_of X G a⟩
def IntAt (mg : Str → Option Value) (x : Str) (i : Int) : Prop := ∃ t, mg x = some (.int i t)
theorem pe_gint {X : Cx} {x : Str} {i : Int} {pos : Pos} (h : IntAt X.mg x i) (hg : Gl X x := by rfl) (hd : (x == ("__debug__" : Str)) = false := by decide) : PE X (.Name x pos) (tC (.int i)) := by
  obtain ⟨t, h⟩ := h
  exact pe_glob hg h ⟨t, rfl⟩ hd
theorem pe_fn {X : Cx} {k j : Nat} {x : Str} {ps : List Str} {sp : Sp} {e : Expr} {es : List Expr} {t : TA} {p pos : Pos} (G : Has X.prog X.w X.K X.mg X.base k x ps sp) (hr : Room j X.A) (ha : PA X (e :: es) t) (hj : k ≤ j := by decide) (hg : Gl X x := by rfl)
    (hdb : (x == ("__debug__" : Str)) = false := by decide) (he : starEach (e :: es) X.env = (false, eval e X.env) :: starEach es X.env := by rfl) (hpl : (backTo pos (starEach es X.env)).any (·.1) = false := by rfl) :
    PE X (.Call (.Name x p) (e :: es) [] pos) (tCall sp [] E0 t) := by
  obtain ⟨f, fd, F, b, kp, m⟩ := G
  exact pe_call F (hr.mono hj) hg m kp b .nil pass0 ha hdb he hpl
theorem boot_isi : bootBuiltins "isinstance" = some (.builtin "isinstance") := by decide +kernel
theorem boot_srt : bootBuiltins "sorted" = some (.builtin "sorted") := by decide +kernel
theorem boot_int' : bootBuiltins "int" = some (.type "int") := by decide +kernel
theorem boot_bool' : bootBuiltins "bool" = some (.type "bool") := by decide +kernel
theorem boot_list' : bootBuiltins "list" = some (.type "list") := by decide +kernel
theorem boot_tuple' : bootBuiltins "tuple" = some (.type "tuple") := by decide +kernel
theorem sz {n : Nat} (h : n ≤ 1000) : n ≤ sizeLine := Nat.le_of_lt (small1000 h)
theorem szl {n : Nat} (h : n ≤ 1000) : n < sizeLine := small1000 h
end
def spThing : Sp := fun vs H Q _ => ∃ v r a l rt rc hd, vs = [v] ∧ PileAt H (.node r a l rt rc hd) v ∧ ∀ u H', Same H H' → PairAt H' u (r, a) → Q u H'
def spReach : Sp := fun vs H Q _ => ∃ v t, vs = [v] ∧ PileAt H t v ∧ Q (.int t.reach) H
def spHeld : Sp := fun vs H Q _ => ∃ v t, vs = [v] ∧ PileAt H t v ∧ Q (.int t.held) H
def spAhead : Sp := fun vs H Q _ => ∃ v r a l rt rc hd v' r' a' l' rt' rc' hd', vs = [v, v'] ∧ PileAt H (.node r a l rt rc hd) v ∧ PileAt H (.node r' a' l' rt' rc' hd') v' ∧ ∀ H', Same H H' → Q (.bl (lt2 (r, a) (r', a'))) H'
def spTopped : Sp := fun vs H Q _ => ∃ u vl vr p l rt, vs = [u, vl, vr] ∧ PairAt H u p ∧ PileAt H l vl ∧ PileAt H rt vr ∧ ∀ v H', Same H H' → PileAt H' (mk p.1 p.2 l rt) v → Q v H'
def spLeaning : Sp := fun vs H Q _ => ∃ u vl vr p l rt, vs = [u, vl, vr] ∧ PairAt H u p ∧ PileAt H l vl ∧ PileAt H rt vr ∧ ∀ v H', Same H H' → PileAt H' (leanT p.1 p.2 l rt) v → Q v H'
def spJoined : Sp := fun vs H Q _ => ∃ v v' s t, vs = [v, v'] ∧ PileAt H s v ∧ PileAt H t v' ∧ s.size + t.size ≤ 100 ∧ ∀ q u H', Same H H' → H' q = some (.tup [u, .int (joinN s t)]) → PileAt H' (join s t) u → Q (.ref q) H'
def spTaken : Sp := fun vs H Q _ => ∃ v r a l rt rc hd, vs = [v] ∧ PileAt H (.node r a l rt rc hd) v ∧ l.size + rt.size ≤ 100 ∧
  ∀ q u u' H', Same H H' → H' q = some (.tup [u, u', .int (joinN l rt)]) → PairAt H' u (r, a) → PileAt H' (join l rt) u' → Q (.ref q) H'
def spEmptied : Sp := fun vs H Q _ => ∃ v t, vs = [v] ∧ PileAt H t v ∧ Ho t ∧ t.size ≤ 100 ∧ ∀ q ws ps H', Same H H' → H' q = some (.lst ws) → PairsAt H' ws ps → ps.Perm t.toL → Sorted2 ps → Q (.ref q) H'
theorem lexLt2 (p q : Int × Int) : HT.lexLt [p.1, p.2] [q.1, q.2] = lt2 p q := by
  unfold lt2
  rw [HT.lexLt_cons, HT.lexLt_cons, HT.lexLt_nil_nil]
  split
  · split
    · rename_i h; rw [decide_eq_false (by omega)]
    · rfl
  · rfl
theorem nodeAt {H : Hp} {r a rc hd : Int} {l rt : T} {v : V} (h : PileAt H (.node r a l rt rc hd) v) : ∃ p vl vr, v = .ref p ∧ H p = some (.tup [.int r, .int a, vl, vr, .int rc, .int hd]) ∧ PileAt H l vl ∧ PileAt H rt vr := h
theorem pairNew {H : Hp} {q : Addr} {x y : Int} : PairAt (upd H q (.tup [.int x, .int y])) (.ref q) (x, y) := ⟨q, rfl, upd_same⟩
theorem pileTru {K : PySem.W.Frag} {H : Hp} {t : T} {v : V} (h : PileAt H t v) : TruV K v H (decide (t ≠ .nil)) := by
  cases t with
  | nil =>
    obtain ⟨p, rfl, hp⟩ := h
    exact .inr (.inl ⟨[], SqT.of hp, rfl⟩)
  | node r a l rt rc hd =>
    obtain ⟨p, vl, vr, rfl, hp, _⟩ := h
    exact .inr (.inl ⟨_, SqT.of hp, rfl⟩)
end Ph
set_option Elab.async false
set_option linter.all false
set_option maxRecDepth 100000
namespace Ph
open PySem PySem.Spec L2
open PyProof.Rows hiding St
abbrev PilesAt (H : Hp) (vs : List V) (ts : List T) : Prop := Paired (fun v t => PileAt H t v) vs ts
theorem PilesAt.mono {H H' : Hp} (m : Tups H H') {vs : List V} {ts : List T} (h : PilesAt H vs ts) : PilesAt H' vs ts := Paired.imp' (fun _ _ z => PileAt.mono m z) h
def glue : T → T → T
  | .nil, acc => acc
  | .node r a l _ _ _, acc => leanT r a l acc
structure JW (H H2 : Hp) (L : Addr) (s t : T) (one two : V) (a b : T) (vs : List V) (ts : List T) : Prop where
  same : Same H H2
  lst : H2 L = some (.lst vs)
  pa : PileAt H2 a one
  pb : PileAt H2 b two
  ps : PilesAt H2 vs ts
  nn : ∀ x ∈ ts, x ≠ T.nil
  jn : join s t = ts.foldr glue (join a b)
  cn : joinN s t = joinN a b + ts.length
  sz : a.size + b.size + ts.length ≤ s.size + t.size
theorem same_put {H H2 : Hp} {L : Addr} (h : H L = none) (s : Same H H2) (o : HO) : Same H (upd H2 L o) := fun b u e => by
  rw [upd_ne (ne_of_none e h)]; exact s b u e
theorem JW.two {H H2 H3 : Hp} {L : Addr} {s t : T} {one two vl vr : V} {r a rc hd r' a' rc' hd' : Int} {l rt l' rt' : T} {vs : List V} {ts : List T} (hL : H L = none) (s3 : Same H2 H3)
    (j : JW H H2 L s t one two (.node r a l rt rc hd) (.node r' a' l' rt' rc' hd') vs ts) (c : lt2 (r', a') (r, a) = true) (hr : PileAt H3 rt' vr) :
    JW H (upd H3 L (.lst (vs ++ [two]))) L s t one vr (.node r a l rt rc hd) rt' (vs ++ [two]) (ts ++ [.node r' a' l' rt' rc' hd']) := by
  have hL3 : H3 L = some (.lst vs) := s3 _ _ j.lst
  have m : Tups H2 (upd H3 L (.lst (vs ++ [two]))) := (Tups.of s3).trans (Tups.put hL3)
  refine ⟨same_put hL (j.same.trans s3) _, upd_same, j.pa.mono m, hr.mono (Tups.put hL3), paired_app (j.ps.mono m) (.cons (j.pb.mono m) .nil), fun x hx => ?_, ?_, ?_, ?_⟩
  · rcases List.mem_append.mp hx with z | z
    · exact j.nn x z
    · rw [List.mem_singleton.mp z]; intro e; cases e
  · rw [j.jn, List.foldr_append]
    congr 1
    rw [join, if_pos c]; rfl
  · rw [j.cn, List.length_append, joinN, if_pos c]
    simp only [List.length_singleton]; omega
  · have := j.sz
    simp only [T.size, List.length_append, List.length_singleton] at this ⊢
    omega
theorem JW.one {H H2 H3 : Hp} {L : Addr} {s t : T} {one two vl vr : V} {r a rc hd r' a' rc' hd' : Int} {l rt l' rt' : T} {vs : List V} {ts : List T} (hL : H L = none) (s3 : Same H2 H3)
    (j : JW H H2 L s t one two (.node r a l rt rc hd) (.node r' a' l' rt' rc' hd') vs ts) (c : ¬ lt2 (r', a') (r, a) = true) (hr : PileAt H3 rt vr) :
    JW H (upd H3 L (.lst (vs ++ [one]))) L s t vr two rt (.node r' a' l' rt' rc' hd') (vs ++ [one]) (ts ++ [.node r a l rt rc hd]) := by
  have hL3 : H3 L = some (.lst vs) := s3 _ _ j.lst
  have m : Tups H2 (upd H3 L (.lst (vs ++ [one]))) := (Tups.of s3).trans (Tups.put hL3)
  refine ⟨same_put hL (j.same.trans s3) _, upd_same, hr.mono (Tups.put hL3), j.pb.mono m, paired_app (j.ps.mono m) (.cons (j.pa.mono m) .nil), fun x hx => ?_, ?_, ?_, ?_⟩
  · rcases List.mem_append.mp hx with z | z
    · exact j.nn x z
    · rw [List.mem_singleton.mp z]; intro e; cases e
  · rw [j.jn, List.foldr_append]
    congr 1
    rw [join, if_neg c]; rfl
  · rw [j.cn, List.length_append, joinN, if_neg c]
    simp only [List.length_singleton]; omega
  · have := j.sz
    simp only [T.size, List.length_append, List.length_singleton] at this ⊢
    omega
structure Bare (mg : Str → Option Value) : Prop where
  len : mg "len" = none
  range : mg "range" = none
  rev : mg "reversed" = none
  srt : mg "sorted" = none
  isi : mg "isinstance" = none
  int : mg "int" = none
  bool : mg "bool" = none
  list : mg "list" = none
  tuple : mg "tuple" = none
  str : mg "str" = none
  max : mg "max" = none
  any : mg "any" = none
  all : mg "all" = none
  sum : mg "sum" = none
end Ph
namespace Ph
def Nm : T → Prop
  | .nil => True
  | .node _ _ l rt rc hd => rt.reach ≤ l.reach ∧ rc = rt.reach + 1 ∧ hd = l.held + rt.held + 1 ∧ Nm l ∧ Nm rt
theorem nm_lean {r a : Int} {l o : T} (hl : Nm l) (ho : Nm o) : Nm (leanT r a l o) := by
  unfold leanT mk
  split
  · rename_i h
    exact ⟨by omega, rfl, rfl, ho, hl⟩
  · rename_i h
    exact ⟨by omega, rfl, rfl, hl, ho⟩
theorem nm_join (s t : T) (hs : Nm s) (ht : Nm t) : Nm (join s t) := by
  fun_induction join s t with
  | case1 t => exact ht
  | case2 r a l rt rc hd => exact hs
  | case3 r a l rt rc hd r' a' l' rt' rc' hd' h ih => exact nm_lean ht.2.2.2.1 (ih hs ht.2.2.2.2)
  | case4 r a l rt rc hd r' a' l' rt' rc' hd' h ih => exact nm_lean hs.2.2.2.1 (ih hs.2.2.2.2 ht)
theorem nm_held {t : T} (h : Nm t) : t.held = (t.size : Int) := by
  induction t with
  | nil => rfl
  | node r a l rt rc hd ihl ihr =>
    obtain ⟨_, _, h3, h4, h5⟩ := h
    show hd = _
    rw [h3, ihl h4, ihr h5]
    simp only [T.size]
    omega
def thingK (k : Nat) : Int × Int := (if k < 2 then 10 ^ 30 else 5 - (k : Int) / 3, 59 - (k : Int))
theorem thingK_le {j k : Nat} (h : j < k) : le2 (thingK k) (thingK j) := by
  rw [le2_iff]
  unfold thingK
  simp only
  by_cases h1 : k < 2
  · rw [if_pos h1, if_pos (show j < 2 by omega)]
    right; exact ⟨rfl, by omega⟩
  · rw [if_neg h1]
    by_cases h2 : j < 2
    · rw [if_pos h2]
      left
      have : (0 : Int) ≤ (k : Int) / 3 := by omega
      have h10 : (10 : Int) ^ 30 = 1000000000000000000000000000000 := by decide
      omega
    · rw [if_neg h2]
      omega
def pbOne (c : Int) (st : List T) : T × List T := if 0 < c % 4 ∧ st ≠ [] then (st.getD (c / 4 % (st.length : Int)).toNat .nil, st.eraseIdx (c / 4 % (st.length : Int)).toNat) else (.nil, st)
def pbTwo (c : Int) (st : List T) : T × List T := if 1 < c % 4 ∧ st ≠ [] then (st.getD (st.length - 1) .nil, st.dropLast) else (.nil, st)
def pbStep (c : Int) (k : Nat) (st : List T) : List T := (pbTwo c (pbOne c st).2).2 ++ [leanT (thingK k).1 (thingK k).2 (pbOne c st).1 (pbTwo c (pbOne c st).2).1]
def pbAt (ns : List Int) : Nat → List T
  | 0 => []
  | i + 1 => pbStep (ns.getD i 0) i (pbAt ns i)
def sumSize (l : List T) : Nat := (l.map T.size).sum
theorem sumSize_cons (t : T) (l : List T) : sumSize (t :: l) = t.size + sumSize l := by simp [sumSize]
theorem sumSize_append (l l' : List T) : sumSize (l ++ l') = sumSize l + sumSize l' := by simp [sumSize]
theorem sumSize_perm {l l' : List T} (h : l.Perm l') : sumSize l = sumSize l' := by
  unfold sumSize; exact (h.map _).sum_nat
theorem erase_perm {α : Type} : ∀ (l : List α) (i : Nat) (h : i < l.length), (l[i] :: l.eraseIdx i).Perm l
  | x :: l, 0, _ => List.Perm.refl _
  | x :: l, i + 1, h => by
    have h' : i < l.length := by simpa using h
    show (l[i] :: x :: l.eraseIdx i).Perm (x :: l)
    exact (List.Perm.swap _ _ _).trans (List.Perm.cons _ (erase_perm l i h'))
theorem last_perm {α : Type} (l : List α) (h : 0 < l.length) : (l[l.length - 1] :: l.dropLast).Perm l := by
  have hne : l ≠ [] := by intro e; rw [e] at h; simp at h
  have e := List.dropLast_concat_getLast hne
  have e2 : l.getLast hne = l[l.length - 1] := by rw [List.getLast_eq_getElem]
  rw [← e2]
  refine List.Perm.trans ?_ (List.Perm.of_eq e)
  exact (List.perm_append_comm (l₁ := [l.getLast hne]) (l₂ := l.dropLast))
theorem pbOne_ok (c : Int) (st : List T) : ((pbOne c st).1 = .nil ∧ (pbOne c st).2 = st) ∨ ((pbOne c st).1 :: (pbOne c st).2).Perm st := by
  unfold pbOne
  split
  · rename_i h
    right
    have hl : 0 < st.length := List.length_pos_iff.mpr h.2
    have h1 : 0 ≤ c / 4 % (st.length : Int) := Int.emod_nonneg _ (by omega)
    have h2 : c / 4 % (st.length : Int) < st.length := Int.emod_lt_of_pos _ (by omega)
    have h3 : (c / 4 % (st.length : Int)).toNat < st.length := by omega
    have e : st.getD (c / 4 % (st.length : Int)).toNat .nil = st[(c / 4 % (st.length : Int)).toNat] := by simp [List.getD, h3]
    simp only [e]
    exact erase_perm st _ h3
  · exact .inl ⟨rfl, rfl⟩
theorem pbTwo_ok (c : Int) (st : List T) : ((pbTwo c st).1 = .nil ∧ (pbTwo c st).2 = st) ∨ ((pbTwo c st).1 :: (pbTwo c st).2).Perm st := by
  unfold pbTwo
  split
  · rename_i h
    right
    have hl : 0 < st.length := List.length_pos_iff.mpr h.2
    have hl' : st.length - 1 < st.length := by omega
    have e : st.getD (st.length - 1) .nil = st[st.length - 1] := by simp [List.getD, hl']
    simp only [e]
    exact last_perm st hl
  · exact .inl ⟨rfl, rfl⟩
structure TOk (k : Nat) (t : T) : Prop where
  ho : Ho t
  nm : Nm t
  th : ∀ q ∈ t.toL, ∃ j, j < k ∧ q = thingK j
theorem TOk.nil (k : Nat) : TOk k .nil := ⟨trivial, trivial, fun q hq => by cases hq⟩
theorem TOk.more {k j : Nat} {t : T} (h : TOk k t) (hj : k ≤ j) : TOk j t := ⟨h.ho, h.nm, fun q hq => by
  obtain ⟨i, hi, e⟩ := h.th q hq
  exact ⟨i, by omega, e⟩⟩
structure StOk (k : Nat) (st : List T) : Prop where
  all : ∀ t ∈ st, TOk k t ∧ t ≠ .nil
  sum : sumSize st = k
theorem tok_lean {k : Nat} {a b : T} (ha : TOk k a) (hb : TOk k b) : TOk (k + 1) (leanT (thingK k).1 (thingK k).2 a b) := by
  refine ⟨ho_lean ha.ho hb.ho fun q hq => ?_, nm_lean ha.nm hb.nm, fun q hq => ?_⟩
  · have : ∃ j, j < k ∧ q = thingK j := by
      rcases List.mem_append.mp hq with z | z
      · exact ha.th q z
      · exact hb.th q z
    obtain ⟨j, hj, e⟩ := this
    rw [e]; exact thingK_le hj
  · rcases List.mem_cons.mp ((leanT_perm _ _ _ _).mem_iff.mp hq) with z | z
    · exact ⟨k, by omega, z⟩
    · rcases List.mem_append.mp z with z | z
      · obtain ⟨j, hj, e⟩ := ha.th q z; exact ⟨j, by omega, e⟩
      · obtain ⟨j, hj, e⟩ := hb.th q z; exact ⟨j, by omega, e⟩
theorem leanT_ne (r a : Int) (l o : T) : leanT r a l o ≠ .nil := by
  unfold leanT mk; split <;> exact fun e => by cases e
theorem pbStep_ok {c : Int} {k : Nat} {st : List T} (h : StOk k st) : StOk (k + 1) (pbStep c k st) := by
  have one : TOk k (pbOne c st).1 ∧ (∀ t ∈ (pbOne c st).2, TOk k t ∧ t ≠ .nil) ∧ (pbOne c st).1.size + sumSize (pbOne c st).2 = k := by
    rcases pbOne_ok c st with ⟨e1, e2⟩ | p
    · rw [e1, e2]; exact ⟨TOk.nil k, h.all, by rw [h.sum]; simp [T.size]⟩
    · refine ⟨(h.all _ (p.mem_iff.mp List.mem_cons_self)).1, fun t ht => h.all t (p.mem_iff.mp (List.mem_cons_of_mem _ ht)), ?_⟩
      rw [← sumSize_cons, sumSize_perm p, h.sum]
  have two : TOk k (pbTwo c (pbOne c st).2).1 ∧ (∀ t ∈ (pbTwo c (pbOne c st).2).2, TOk k t ∧ t ≠ .nil) ∧ (pbTwo c (pbOne c st).2).1.size + sumSize (pbTwo c (pbOne c st).2).2 = sumSize (pbOne c st).2 := by
    rcases pbTwo_ok c (pbOne c st).2 with ⟨e1, e2⟩ | p
    · rw [e1, e2]; exact ⟨TOk.nil k, one.2.1, by simp [T.size]⟩
    · refine ⟨(one.2.1 _ (p.mem_iff.mp List.mem_cons_self)).1, fun t ht => one.2.1 t (p.mem_iff.mp (List.mem_cons_of_mem _ ht)), ?_⟩
      rw [← sumSize_cons, sumSize_perm p]
  refine ⟨fun t ht => ?_, ?_⟩
  · unfold pbStep at ht
    rcases List.mem_append.mp ht with z | z
    · exact ⟨(two.2.1 t z).1.more (by omega), (two.2.1 t z).2⟩
    · rw [List.mem_singleton.mp z]
      exact ⟨tok_lean one.1 two.1, leanT_ne _ _ _ _⟩
  · unfold pbStep
    rw [sumSize_append, sumSize_cons, leanT_size]
    have := one.2.2
    have := two.2.2
    simp [sumSize] at *
    omega
theorem pbAt_ok (ns : List Int) : ∀ i, StOk i (pbAt ns i)
  | 0 => ⟨fun t ht => (by cases ht), rfl⟩
  | i + 1 => pbStep_ok (pbAt_ok ns i)
theorem size_le_sum {t : T} {l : List T} (h : t ∈ l) : t.size ≤ sumSize l := by
  induction l with
  | nil => cases h
  | cons x r ih =>
    rw [sumSize_cons]
    rcases List.mem_cons.mp h with e | e
    · rw [e]; omega
    · have := ih e; omega
theorem pos_of_ne {t : T} (h : t ≠ .nil) : 1 ≤ t.size := by
  cases t with
  | nil => exact absurd rfl h
  | node _ _ _ _ _ _ => simp [T.size]
theorem len_le_sum {l : List T} (h : ∀ t ∈ l, t ≠ .nil) : l.length ≤ sumSize l := by
  induction l with
  | nil => exact Nat.le_refl _
  | cons x r ih =>
    rw [sumSize_cons, List.length_cons]
    have := ih fun t ht => h t (List.mem_cons_of_mem _ ht)
    have := pos_of_ne (h x List.mem_cons_self)
    omega
def Top2 (ts : List T) (t1 t2 : T) : Prop := ∃ js : List Nat, js.Perm (List.range ts.length) ∧ [t1, t2] = (js.map (fun j => ts.getD j T.nil) ++ [T.nil, T.nil]).take 2
theorem map_perm_self (ts : List T) {js : List Nat} (h : js.Perm (List.range ts.length)) : (js.map fun j => ts.getD j .nil).Perm ts := by
  have := h.map fun j => ts.getD j T.nil
  refine this.trans (List.Perm.of_eq ?_)
  apply List.ext_getElem?
  intro i
  rw [List.getElem?_map]
  by_cases hi : i < ts.length
  · rw [List.getElem?_range hi, List.getElem?_eq_getElem hi]
    simp [List.getD, hi]
  · rw [List.getElem?_eq_none (by simpa using hi), List.getElem?_eq_none (by omega)]
    rfl
theorem Top2.ok {k : Nat} {ts : List T} {t1 t2 : T} (h : Top2 ts t1 t2) (st : StOk k ts) : TOk k t1 ∧ TOk k t2 ∧ t1.size + t2.size ≤ k := by
  obtain ⟨js, hp, e⟩ := h
  have p := map_perm_self ts hp
  generalize js.map (fun j => ts.getD j T.nil) = xs at *
  have hall : ∀ t ∈ xs, TOk k t := fun t ht => (st.all t (p.mem_iff.mp ht)).1
  have hsum : sumSize xs = k := by rw [sumSize_perm p, st.sum]
  match xs with
  | [] =>
    simp at e
    rw [e.1, e.2]
    exact ⟨TOk.nil k, TOk.nil k, by simp [T.size]⟩
  | [x] =>
    simp at e
    rw [e.1, e.2]
    refine ⟨hall x List.mem_cons_self, TOk.nil k, ?_⟩
    rw [sumSize_cons] at hsum
    simp [T.size]; omega
  | x :: y :: r =>
    simp at e
    rw [e.1, e.2]
    refine ⟨hall x List.mem_cons_self, hall y (List.mem_cons_of_mem _ List.mem_cons_self), ?_⟩
    rw [sumSize_cons, sumSize_cons] at hsum
    omega
end Ph
set_option Elab.async false
set_option linter.all false
set_option maxRecDepth 100000
namespace Ph
open PySem PySem.Spec L2
open PyProof.Rows hiding St
section
variable {X : Cx}
theorem ix_tupK (K : PySem.W.Frag) (h : X.K = K := by rfl) : IxR X (rIxT K) := by subst h; exact ix_tup
theorem ix_listK (K : PySem.W.Frag) (h : X.K = K := by rfl) : IxR X (rIxL K) := by subst h; exact ix_list
theorem call_isiK (K : PySem.W.Frag) (h : X.K = K := by rfl) : CallR X (.builtin "isinstance") (rIsi K) := by subst h; exact call_isi
theorem op_ltTK (K : PySem.W.Frag) (hu : X.A.units < cLine) (h : X.K = K := by rfl) : OpR X (compareOp .Lt) (rLtT K) := by subst h; exact op_ltT hu
theorem pt_and {a b : Expr} {rest : List Expr} {pos : Pos} {tA tB' : TT} (ha : PT X a tA) (hb : PW X (.BoolOp .And (b :: rest) pos) tB') : PT X (.BoolOp .And (a :: b :: rest) pos) (tAnd tA tB') := (pw_and ha hb).pt
theorem pt_or {a b : Expr} {rest : List Expr} {pos : Pos} {tA tB' : TT} (ha : PT X a tA) (hb : PW X (.BoolOp .Or (b :: rest) pos) tB') : PT X (.BoolOp .Or (a :: b :: rest) pos) (tOr tA tB') := (pw_or ha hb).pt
end
def spWhole : Sp := fun vs H Q _ => ∃ i, vs = [.int i] ∧ Q (.bl true) H
def spOnTop : Sp := fun vs H Q _ => ∃ u v1 v2 p a b, vs = [u, v1, v2] ∧ PairAt H u p ∧ PileAt H a v1 ∧ PileAt H b v2 ∧ a.size ≤ 100 ∧ b.size ≤ 100 ∧ ∀ v H', Same H H' → PileAt H' (leanT p.1 p.2 a b) v → Q v H'
def spPilesBy (K : PySem.W.Frag) : Sp := fun vs H Q _ => ∃ a ns, vs = [.ref a] ∧ SqL K H a (ns.map V.int) ∧ ns.length ≤ 63 ∧ ∀ q ws H', Same H H' → H' q = some (.lst ws) → PilesAt H' ws (pbAt ns ns.length) → Q (.ref q) H'
def spGreatest : Sp := fun vs H Q _ => ∃ a ws ts, vs = [.ref a] ∧ H a = some (.lst ws) ∧ PilesAt H ws ts ∧ (∀ t ∈ ts, t ≠ T.nil) ∧ ts.length ≤ 63 ∧ ∀ q v1 v2 t1 t2 H', Same H H' → H' q = some (.lst [v1, v2]) → PileAt H' t1 v1 → PileAt H' t2 v2 → Top2 ts t1 t2 → Q (.ref q) H'
def spAllIn : Sp := fun vs H Q _ => ∃ v t, vs = [v] ∧ PileAt H t v ∧ t.size ≤ 100 ∧ ∀ q ws H', Same H H' → H' q = some (.lst ws) → PairsAt H' ws t.toL → Q (.ref q) H'
def spPairsAre : Sp := fun vs H Q _ => ∃ a b ws ws' ps qs, vs = [.ref a, .ref b] ∧ H a = some (.lst ws) ∧ H b = some (.lst ws') ∧ PairsAt H ws ps ∧ PairsAt H ws' qs ∧ ps.length ≤ 100 ∧ qs.length ≤ 100 ∧ Q (.bl (decide (ps = qs))) H
def spLaw (K : PySem.W.Frag) : Sp := fun vs H Q _ => ∃ (a : Addr) (ns : List Int), vs = [.ref a] ∧ SqL K H a (ns.map V.int) ∧ ns.length ≤ 63 ∧ ∀ H', Q (.bl true) H'
theorem kit_ii (K : PySem.W.Frag) : PySem.W.kitOne K (.type "int") (.type "int") = some true := rfl
theorem kit_ib (K : PySem.W.Frag) : PySem.W.kitOne K (.type "int") (.type "bool") = some false := by kernel_rfl
theorem kit_ll (K : PySem.W.Frag) : PySem.W.kitOne K (.type "list") (.type "list") = some true := rfl
theorem kit_tt (K : PySem.W.Frag) : PySem.W.kitOne K (.type "tuple") (.type "tuple") = some true := rfl
theorem atI_some {α : Type} {xs : List α} {i : Int} {v : α} (h0 : 0 ≤ i) (h : xs[i.toNat]? = some v) : atI xs i = some v := by
  have e : i = ((i.toNat : Nat) : Int) := by omega
  rw [e]; exact atI_nat (by simpa using h)
theorem seqIx {n : Nat} {i : Int} (h0 : 0 ≤ i) (h : i < n) : seqIndex? i n = some i.toNat := by
  have : ixN n i = some i.toNat := by unfold ixN; rw [if_pos h0, if_pos h]
  exact (ixN_seq this).1
theorem cut_all (xs : List V) (h : xs.length ≤ 500) : cutV xs none (some 500) = xs := by
  unfold cutV
  rw [HT.sIx_none]
  have e : HT.sIx xs.length xs.length (some (500 : Int)) = min 500 xs.length := HT.sIx_nat _ _ 500
  rw [e, List.drop_zero, Nat.sub_zero, List.take_of_length_le (by omega)]
theorem ints_get {ns : List Int} {i : Nat} (h : i < ns.length) : atI (ns.map V.int) ((0 : Int) + (i : Int)) = some (.int (ns.getD i 0)) := by
  refine atI_some (by omega) ?_
  have e : ((0 : Int) + (i : Int)).toNat = i := by omega
  rw [e, List.getElem?_map, List.getElem?_eq_getElem h]
  simp [List.getD, h]
theorem paired_snoc_inv {α β : Type} {F : α → β → Prop} : ∀ {xs : List α} {r : List β} {y : β}, Paired F xs (r ++ [y]) → ∃ xs' x, xs = xs' ++ [x] ∧ Paired F xs' r ∧ F x y
  | _, [], _, .cons h .nil => ⟨[], _, rfl, .nil, h⟩
  | _, _ :: r, _, .cons h t => by
    obtain ⟨xs', x, rfl, h1, h2⟩ := paired_snoc_inv (r := r) t
    exact ⟨_ :: xs', x, rfl, .cons h h1, h2⟩
theorem paired_erase {α β : Type} {F : α → β → Prop} : ∀ {xs : List α} {ys : List β} (i : Nat), Paired F xs ys → Paired F (xs.eraseIdx i) (ys.eraseIdx i)
  | _, _, _, .nil => .nil
  | _, _, 0, .cons _ t => t
  | _, _, i + 1, .cons r t => .cons r (paired_erase i t)
theorem paired_dropLast {α β : Type} {F : α → β → Prop} {xs : List α} {ys : List β} (h : Paired F xs ys) : Paired F xs.dropLast ys.dropLast := by
  have e := paired_len h
  rw [← erase_last xs, ← erase_last ys, e]
  exact paired_erase _ h
theorem rd_if {K : PySem.W.Frag} {a L : Addr} {ns : List Int} {c : Int} {i : Nat} {ws : List V} {H : Hp} {v3 v4 v5 : Option V} {t : TS} {D : Ends} (thr : Int) (hsq : SqL K H a (ns.map V.int)) (hcell : atI (ns.map V.int) ((0 : Int) + (i : Int)) = some (.int c)) (hL : H L = some (.lst ws))
    (h1 : thr < c % 4 → ws ≠ [] → ∀ z, H z = none → t D [some (.ref a), some (.ref L), some (.int ((0 : Int) + (i : Int))), v3, v4, v5] (upd H z (.lst []))) (h2 : ¬ (thr < c % 4 ∧ ws ≠ []) → ∀ H', Same H H' → D.nx [some (.ref a), some (.ref L), some (.int ((0 : Int) + (i : Int))), v3, v4, v5] H') :
    tIfS (tAnd (tTest (tOp (rI0 fun i j => V.bl (decide (j < i))) (tOp (rI (fun x j => 0 < j) fun i j => V.int (i % j)) (tOp (rIxL K) (tVar 0) (tVar 2)) (tC (V.int 4))) (tC (V.int thr)))) (tTest (tOp (rEmp not) (tVar 1) (tLst tNil)))) t tNext D
      [some (.ref a), some (.ref L), some (.int ((0 : Int) + (i : Int))), v3, v4, v5] H := by
  refine ⟨_, rfl, _, rfl, a, _, _, _, rfl, rfl, hsq, hcell, _, _, rfl, rfl, (by show (0 : Int) < 4; decide), _, _, rfl, rfl, _, rfl, ?_⟩
  refine ite2 (fun e => ?_) (fun e => ?_)
  · have e' : thr < c % 4 := of_decide_eq_true e
    refine ⟨_, rfl, (by show 0 ≤ sizeLine; decide), fun z hz => ?_⟩
    refine ⟨L, z, ws, rfl, rfl, same_new hz _ _ _ hL, upd_same, _, rfl, ?_⟩
    cases ws with
    | nil => exact iteF (h2 (fun q => q.2 rfl) _ (same_new hz _))
    | cons x r => exact iteT (h1 e' (by simp) z hz)
  · have e' : ¬ thr < c % 4 := fun q => e (decide_eq_true q)
    exact iteF (h2 (fun q => e' q.1) _ (.refl _))
theorem comp_range {lo : Int} {n nv : Nat} {caps : List (Nat × Str)} {g : TG} {te : TE} {σ : St} {Q : VK} {D : Addr} {H1 : Hp} (Pv : Nat → Hp → Prop) (h0 : Pv 0 (upd H1 D (.lst [])))
    (hs : ∀ i m H2, i + m = n → i < n → Pv i H2 → g (.int (lo + i)) (compSt nv caps σ) H2 fun σ4 H4 => Keeps (compSt nv caps σ) σ4 ∧ te σ4 H4 fun y H5 => ∃ acc, H5 D = some (.lst acc) ∧ acc.length < sizeLine ∧ ∃ m', m' < m ∧ i + 1 + m' = n ∧ Pv (i + 1) (upd H5 D (.lst (acc ++ [y]))))
    (hd : ∀ H2, Pv n H2 → Q (.ref D) H2) : ∃ W : Nat → Nat → Hp → Prop, (∃ m, W 0 m (upd H1 D (.lst []))) ∧
      ∀ i m H2, W i m H2 → ((Itr lo n).stop i H2 ∧ Q (.ref D) H2) ∨ ((Itr lo n).go i H2 ∧ ∀ x H3, (Itr lo n).yld i H2 x H3 → g x (compSt nv caps σ) H3 fun σ4 H4 => Keeps (compSt nv caps σ) σ4 ∧ te σ4 H4 fun y H5 =>
        ∃ acc, H5 D = some (.lst acc) ∧ acc.length < sizeLine ∧ ∃ m', m' < m ∧ W (i + 1) m' (upd H5 D (.lst (acc ++ [y])))) := by
  refine ⟨fun i m H => i + m = n ∧ Pv i H, ⟨n, by omega, h0⟩, fun i m H2 ⟨e, p⟩ => ?_⟩
  by_cases hi : i < n
  · refine .inr ⟨hi, fun x H3 y => ?_⟩
    obtain ⟨rfl, rfl⟩ := y
    exact hs i m H3 e hi p
  · have e2 : i = n := by omega
    subst e2
    exact .inl ⟨Nat.le_refl _, hd H2 p⟩
theorem comp_list {K : PySem.W.Frag} {a : Addr} {xs : List V} {nv : Nat} {caps : List (Nat × Str)} {g : TG} {te : TE} {σ : St} {Q : VK} {D : Addr} {H1 : Hp} (Pv : Nat → Hp → Prop) (h0 : Pv 0 (upd H1 D (.lst []))) (hl : ∀ i H, i ≤ xs.length → Pv i H → SqL K H a xs)
    (hs : ∀ i m x H2, i + m = xs.length → xs[i]? = some x → Pv i H2 → g x (compSt nv caps σ) H2 fun σ4 H4 => Keeps (compSt nv caps σ) σ4 ∧ te σ4 H4 fun y H5 => ∃ acc, H5 D = some (.lst acc) ∧ acc.length < sizeLine ∧ ∃ m', m' < m ∧ i + 1 + m' = xs.length ∧ Pv (i + 1) (upd H5 D (.lst (acc ++ [y]))))
    (hd : ∀ H2, Pv xs.length H2 → Q (.ref D) H2) : ∃ W : Nat → Nat → Hp → Prop, (∃ m, W 0 m (upd H1 D (.lst []))) ∧
      ∀ i m H2, W i m H2 → ((Itl K a).stop i H2 ∧ Q (.ref D) H2) ∨ ((Itl K a).go i H2 ∧ ∀ x H3, (Itl K a).yld i H2 x H3 → g x (compSt nv caps σ) H3 fun σ4 H4 => Keeps (compSt nv caps σ) σ4 ∧ te σ4 H4 fun y H5 =>
        ∃ acc, H5 D = some (.lst acc) ∧ acc.length < sizeLine ∧ ∃ m', m' < m ∧ W (i + 1) m' (upd H5 D (.lst (acc ++ [y])))) := by
  refine ⟨fun i m H => i + m = xs.length ∧ Pv i H, ⟨xs.length, by omega, h0⟩, fun i m H2 ⟨e, p⟩ => ?_⟩
  by_cases hi : i < xs.length
  · refine .inr ⟨⟨xs, xs[i], hl i H2 (by omega) p, List.getElem?_eq_getElem hi⟩, fun x H3 y => ?_⟩
    obtain ⟨rfl, y⟩ := y
    exact hs i m x H3 e (y xs (hl i H3 (by omega) p)) p
  · have e2 : i = xs.length := by omega
    subst e2
    exact .inl ⟨⟨xs, hl _ H2 (Nat.le_refl _) p, Nat.le_refl _⟩, hd H2 p⟩
end Ph
set_option Elab.async false
set_option linter.all false
set_option maxRecDepth 100000
namespace Ph
open PySem PySem.Spec L2
open PyProof.Rows hiding St
def topLt : T → Int × Int → Bool
  | .nil, _ => false
  | .node r a _ _ _ _, p => lt2 (r, a) p
def nodeOk (r a : Int) (l rt : T) (rc hd : Int) : Bool := !topLt l (r, a) && !topLt rt (r, a) && !decide (l.reach < rt.reach) && decide (rc = rt.reach + 1) && decide (hd = 1 + l.held + rt.held)
def goodB : T → Bool
  | .nil => true
  | .node r a l rt rc hd => nodeOk r a l rt rc hd && goodB l && goodB rt
theorem topLt_of_ho {r a rc hd : Int} {l rt : T} (h : Ho (.node r a l rt rc hd)) : topLt l (r, a) = false ∧ topLt rt (r, a) = false := by
  constructor
  · cases l with
    | nil => rfl
    | node r' a' _ _ _ _ => exact h.1 (r', a') (List.mem_append_left _ List.mem_cons_self)
  · cases rt with
    | nil => rfl
    | node r' a' _ _ _ _ => exact h.1 (r', a') (List.mem_append_right _ List.mem_cons_self)
theorem good_of {t : T} (h : Ho t) (n : Nm t) : goodB t = true := by
  induction t with
  | nil => rfl
  | node r a l rt rc hd ihl ihr =>
    obtain ⟨n1, n2, n3, n4, n5⟩ := n
    obtain ⟨t1, t2⟩ := topLt_of_ho h
    simp only [goodB, nodeOk, t1, t2, ihl h.2.1 n4, ihr h.2.2 n5, Bool.and_true, Bool.not_false, Bool.true_and]
    rw [decide_eq_false (by omega), decide_eq_true n2, decide_eq_true (by omega)]
    rfl
def spForm : Sp := fun vs H Q _ => ∃ v t, vs = [v] ∧ PileAt H t v ∧ t.size ≤ 100 ∧ ∀ H', Same H H' → Q (.bl true) H'
def spGood : Sp := fun vs H Q _ => ∃ v t, vs = [v] ∧ PileAt H t v ∧ t.size ≤ 100 ∧ ∀ H', Same H H' → Q (.bl (goodB t)) H'
def spDoublings : Sp := fun vs H Q _ => ∃ c : Nat, vs = [.int c] ∧ 1 ≤ c ∧ c ≤ 1000 ∧ Q (.int (c.log2 : Nat)) H
def RowAt (H : Hp) (v : V) : T → Prop
  | .nil => False
  | .node r a l _ _ _ => ∃ q u vl, v = .ref q ∧ H q = some (.tup [u, vl]) ∧ PairAt H u (r, a) ∧ PileAt H l vl
theorem RowAt.mono {H H' : Hp} (m : Tups H H') {v : V} : ∀ {t : T}, RowAt H v t → RowAt H' v t
  | .nil, h => h.elim
  | .node _ _ _ _ _ _, ⟨q, u, vl, e, h1, h2, h3⟩ => ⟨q, u, vl, e, m _ _ h1, h2.mono m, h3.mono m⟩
theorem le_sum_mem : ∀ {l : List Nat} {x : Nat}, x ∈ l → x ≤ l.sum
  | y :: r, x, h => by
    rw [List.sum_cons]
    rcases List.mem_cons.mp h with e | e
    · omega
    · have := le_sum_mem e; omega
def lsz : T → Nat
  | .nil => 0
  | .node _ _ l _ _ _ => l.size + 1
theorem foldr_glue_size (c : T) : ∀ xs : List T, (xs.foldr glue c).size = (xs.map lsz).sum + c.size
  | [] => by simp
  | .nil :: r => by
    have := foldr_glue_size c r
    simp only [List.foldr_cons, List.map_cons, List.sum_cons, lsz, glue]
    omega
  | .node r0 a l rt rc hd :: r => by
    have := foldr_glue_size c r
    simp only [List.foldr_cons, List.map_cons, List.sum_cons, lsz, glue, leanT_size]
    omega
structure MW (H H2 : Hp) (L : Addr) (s t : T) (one two : V) (a b : T) (vs : List V) (ts : List T) : Prop where
  same : Same H H2
  lst : H2 L = some (.lst vs)
  pa : PileAt H2 a one
  pb : PileAt H2 b two
  ps : Paired (RowAt H2) vs ts
  szs : a.size + b.size + (ts.map lsz).sum = s.size + t.size
  jn : join s t = ts.foldr glue (join a b)
  cn : joinN s t = joinN a b + ts.length
  sz : a.size + b.size + ts.length ≤ s.size + t.size
theorem rows_mono {H H' : Hp} (m : Tups H H') {vs : List V} {ts : List T} (h : Paired (RowAt H) vs ts) : Paired (RowAt H') vs ts := Paired.imp' (fun _ _ z => RowAt.mono m z) h
theorem MW.two {H H2 H3 : Hp} {L : Addr} {s t : T} {one two vr row : V} {r a rc hd r' a' rc' hd' : Int} {l rt l' rt' : T} {vs : List V} {ts : List T} (hL : H L = none) (s3 : Same H2 H3)
    (j : MW H H2 L s t one two (.node r a l rt rc hd) (.node r' a' l' rt' rc' hd') vs ts) (c : lt2 (r', a') (r, a) = true) (hr : PileAt H3 rt' vr) (hrow : RowAt H3 row (.node r' a' l' rt' rc' hd')) :
    MW H (upd H3 L (.lst (vs ++ [row]))) L s t one vr (.node r a l rt rc hd) rt' (vs ++ [row]) (ts ++ [.node r' a' l' rt' rc' hd']) := by
  have hL3 : H3 L = some (.lst vs) := s3 _ _ j.lst
  have m : Tups H2 (upd H3 L (.lst (vs ++ [row]))) := (Tups.of s3).trans (Tups.put hL3)
  refine ⟨same_put hL (j.same.trans s3) _, upd_same, j.pa.mono m, hr.mono (Tups.put hL3), paired_app (rows_mono m j.ps) (.cons (hrow.mono (Tups.put hL3)) .nil), ?_, ?_, ?_, ?_⟩
  · have := j.szs
    simp only [T.size, List.map_append, List.sum_append, List.map_cons, List.map_nil, List.sum_cons, List.sum_nil, lsz] at this ⊢
    omega
  · rw [j.jn, List.foldr_append]
    congr 1
    rw [join, if_pos c]; rfl
  · rw [j.cn, List.length_append, joinN, if_pos c]
    simp only [List.length_singleton]; omega
  · have := j.sz
    simp only [T.size, List.length_append, List.length_singleton] at this ⊢
    omega
theorem MW.one {H H2 H3 : Hp} {L : Addr} {s t : T} {one two vr row : V} {r a rc hd r' a' rc' hd' : Int} {l rt l' rt' : T} {vs : List V} {ts : List T} (hL : H L = none) (s3 : Same H2 H3)
    (j : MW H H2 L s t one two (.node r a l rt rc hd) (.node r' a' l' rt' rc' hd') vs ts) (c : ¬ lt2 (r', a') (r, a) = true) (hr : PileAt H3 rt vr) (hrow : RowAt H3 row (.node r a l rt rc hd)) :
    MW H (upd H3 L (.lst (vs ++ [row]))) L s t vr two rt (.node r' a' l' rt' rc' hd') (vs ++ [row]) (ts ++ [.node r a l rt rc hd]) := by
  have hL3 : H3 L = some (.lst vs) := s3 _ _ j.lst
  have m : Tups H2 (upd H3 L (.lst (vs ++ [row]))) := (Tups.of s3).trans (Tups.put hL3)
  refine ⟨same_put hL (j.same.trans s3) _, upd_same, hr.mono (Tups.put hL3), j.pb.mono m, paired_app (rows_mono m j.ps) (.cons (hrow.mono (Tups.put hL3)) .nil), ?_, ?_, ?_, ?_⟩
  · have := j.szs
    simp only [T.size, List.map_append, List.sum_append, List.map_cons, List.map_nil, List.sum_cons, List.sum_nil, lsz] at this ⊢
    omega
  · rw [j.jn, List.foldr_append]
    congr 1
    rw [join, if_neg c]; rfl
  · rw [j.cn, List.length_append, joinN, if_neg c]
    simp only [List.length_singleton]; omega
  · have := j.sz
    simp only [T.size, List.length_append, List.length_singleton] at this ⊢
    omega
theorem glue_size (x acc : T) (h : x ≠ .nil) : (glue x acc).size ≤ x.size + acc.size := by
  cases x with
  | nil => exact absurd rfl h
  | node r a l rt rc hd => show (leanT r a l acc).size ≤ _; rw [leanT_size]; simp only [T.size]; omega
theorem nm_pow {t : T} (h : Nm t) : ∃ r : Nat, t.reach = (r : Int) ∧ 2 ^ r ≤ t.size + 1 := by
  induction t with
  | nil => exact ⟨0, rfl, by simp⟩
  | node r a l rt rc hd ihl ihr =>
    obtain ⟨n1, n2, n3, n4, n5⟩ := h
    obtain ⟨x, ex, hx⟩ := ihl n4
    obtain ⟨y, ey, hy⟩ := ihr n5
    refine ⟨y + 1, by show rc = _; rw [n2, ey]; omega, ?_⟩
    have hxy : y ≤ x := by omega
    have hp : 2 ^ y ≤ 2 ^ x := Nat.pow_le_pow_right (by decide) hxy
    simp only [T.size]
    rw [Nat.pow_succ]
    omega
theorem joinN_le (s t : T) (hs : Nm s) (ht : Nm t) : (joinN s t : Int) ≤ s.reach + t.reach := by
  fun_induction joinN s t with
  | case1 t =>
    obtain ⟨x, ex, _⟩ := nm_pow ht
    rw [ex]
    show ((0 : Nat) : Int) ≤ 0 + (x : Int)
    omega
  | case2 r a l rt rc hd => obtain ⟨x, ex, _⟩ := nm_pow hs; simp only [T.reach] at *; omega
  | case3 r a l rt rc hd r' a' l' rt' rc' hd' h ih =>
    have := ih hs ht.2.2.2.2
    have e := ht.2.1
    simp only [T.reach] at *
    omega
  | case4 r a l rt rc hd r' a' l' rt' rc' hd' h ih =>
    have := ih hs.2.2.2.2 ht
    have e := hs.2.1
    simp only [T.reach] at *
    omega
end Ph
set_option Elab.async false
set_option linter.all false
set_option maxRecDepth 100000
namespace Ph
open PySem
theorem ph_nolen_lri : typeLookup (.type "list_reverseiterator") "__len__" = pure none := by rw [typeLookup_type, builtinLookup_eq_fast]; kernel_rfl
theorem ph_hint_lri : typeLookup (.type "list_reverseiterator") "__length_hint__" = pure (some (.builtin "list_reverseiterator.__length_hint__")) := by rw [typeLookup_type, builtinLookup_eq_fast]; kernel_rfl
end Ph
namespace Ph
open PySem PySem.Spec L2
open PyProof.Rows hiding St
open Classical in
noncomputable instance pileDec (H : Hp) (t : T) (v : V) : Decidable (PileAt H t v) := inferInstance
section
variable {X : Cx} {pos : Pos}
def gLst (K : PySem.W.Frag) (n : Nat) (t : TGs) : TG := fun v σ H Q => ∃ a xs, v = .ref a ∧ SqL K H a xs ∧ xs.length = n ∧ t xs σ H Q
theorem pg_lst {es : List Expr} {k : Nat} {t : TGs} {n : Nat} (hc : X.calm = true) (h : PGs X es t)
    (hn : (assignEach es X.env).length = n := by rfl) (hst : (assignEach es X.env).findIdx? (·.1) = none := by rfl) : PG X (.Tuple es k pos) (gLst X.K n t) := by
  intro pins s σ H v u Q I r hw
  obtain ⟨a, xs, e1, hq, hl, hw⟩ := hw
  subst e1
  cases r
  obtain ⟨its, rv, ht, hz⟩ := I.list hq
  have hsz : (assignEach es X.env).length = its.toArray.size := by simp [hn, ← hl, rv.length]
  rw [assign_Tuple]
  refine wpAny_bind (wpAny_standAt ?_)
  unfold unpack
  rw [hsz, hst]
  refine wpAny_bind (wpAny_holding (PySem.W.kun_itemsOf (I.ok.hd hc) ht.isList fun h' hx => ?_))
  have I1 : Inv X pins σ H { s with heap := h' } := I.kept (t' := s.toks) fun b o e => hx b o (Nat.ne_of_lt (Heap.lt_size e)) e
  exact h pins _ σ H xs _ Q I1 (by simpa using rv) hw
end
section
variable {prog : Program} {w : World} {A : Around} {E : Value → Shared → Prop} {s : Shared}
theorem list_rev_init {R : Result → Shared → Prop} {l I S : Addr} {items : Array Value} (hh : A.handled = none) (hit : s.heap.IsRevIter I l ((items.size : Int) - 1)) (hl : s.heap.IsList l items) (hn : items.size ≤ sizeLine) (hSI : S ≠ I) (hSl : S ≠ l) (hlI : l ≠ I)
    (hS : s.heap.get? S = some { cls := .type "list", data := .seq #[] })
    (hR : ∀ s' acc' c', Moved [S, I] (fun a b => b = a) s s' → s'.heap.get? S = some { cls := .type "list", dict := none, data := .seq acc' c', slots := #[] } → ItemsOf (fun i v => items[items.size - 1 - i]? = some v) acc' items.size → R (.ok (.ret .none)) s') :
    wpAny (model prog w) A.in1 (Builtin.«list.__init__» ⟨[.ref S, .ref I], []⟩)
      (fun fin s' => match fin with | .done f => R (.ok f) s' | .again c' => c'.quiet = true ∧ codeAny (model prog w) A c' R s') (fun e s' => R (.error e) s') s := by
  have W := (Walks.listRev (prog := prog) (w := w) (A := A.in1) hh I l hlI items).toS
  have hT : ∀ i (s : Shared), (i ≤ items.size ∧ s.heap.IsRevIter I l ((items.size : Int) - 1 - (i : Int)) ∧ s.heap.IsList l items) → s.TypeIs (.ref I) "list_reverseiterator" := fun i s h => h.2.1.typeIs
  have hSf : S ∉ [I, l] := by simp [hSI, hSl]
  show wpAny _ A.in1 (do let old ← Builtin.List.listItems (.ref S); Builtin.List.listUpdate (.ref S) (fun _ => #[]); letGo old.toList.reverse; Builtin.List.listExtendWith (.ref S) (.ref I) .none) _ _ s
  refine wpAny_bind ?_
  unfold Builtin.List.listItems
  refine wpAny_bind (wpAny_seqItems hS rfl (wpAny_pure ?_))
  show wpAny _ A.in1 (updateSeq S (fun _ => #[]) >>= fun _ => letGo (#[] : Array Value).toList.reverse >>= fun _ => Builtin.List.listExtendWith (.ref S) (.ref I) .none) _ _ s
  refine wpAny_bind (wpAny_updateSeq hS rfl ?_)
  have hS₂ := Heap.get?_update_self (Obj.mapSeq (fun _ => (#[] : Array Value))) hS rfl
  have oth : ∀ b o, b ≠ S → s.heap.get? b = some o → (s.heap.update S (Obj.mapSeq (fun _ => (#[] : Array Value)))).get? b = some o :=
    fun b o hb e => (Heap.get?_update_other _ _ (Ne.symm hb)).trans e
  refine wpAny_bind (wpAny_letGo ?_)
  have hst : (0 ≤ items.size ∧ (s.heap.update S (Obj.mapSeq (fun _ => (#[] : Array Value)))).IsRevIter I l ((items.size : Int) - 1 - ((0 : Nat) : Int)) ∧ (s.heap.update S (Obj.mapSeq (fun _ => (#[] : Array Value)))).IsList l items) := by
    refine ⟨Nat.zero_le _, ?_, hl.at fun o e => oth l o (Ne.symm hSl) e⟩
    have e : (items.size : Int) - 1 - ((0 : Nat) : Int) = (items.size : Int) - 1 := by omega
    rw [e]
    exact hit.at fun o e => oth I o (Ne.symm hSI) e
  unfold Builtin.List.listExtendWith
  refine wpAny_bind (wpAny_typeOf (hT 0 { s with heap := s.heap.update S (Obj.mapSeq (fun _ => (#[] : Array Value))) } hst) ?_)
  have h1 : Builtin.List.listSameRef (.ref S) (.ref I) = false := by simp [Builtin.List.listSameRef, hSI]
  have h2 : (Value.type "list_reverseiterator" == Value.type "list") = false := by decide
  have h3 : (Value.type "list_reverseiterator" == Value.type "tuple") = false := by decide
  simp only [h1, h2, h3, Bool.or_false, Bool.false_eq_true, if_false]
  refine wpAny_bind (W.self 0 { s with heap := s.heap.update S (Obj.mapSeq (fun _ => (#[] : Array Value))) } _ _ hst ?_)
  refine wpAny_bind (wpAny_holding ?_)
  unfold Builtin.List.listLengthHint
  refine wpAny_bind (wpAny_specialOf (hT 0 { s with heap := s.heap.update S (Obj.mapSeq (fun _ => (#[] : Array Value))) } hst) ph_nolen_lri ?_)
  show wpAny _ A.in1 (specialOf (Value.ref I) (Str.ofString "__length_hint__") >>= _) _ _ _
  refine wpAny_bind (wpAny_specialOf (hT 0 { s with heap := s.heap.update S (Obj.mapSeq (fun _ => (#[] : Array Value))) } hst) ph_hint_lri ?_)
  generalize hid : ("list_reverseiterator.__length_hint__" : String) = id0
  wp_delta
  rw [show splitId id0 = some ("list_reverseiterator", "__length_hint__") from by subst hid; decide +kernel]
  subst hid
  refine wpAny_bind (wpAny_isInstance (b := true) (hT 0 { s with heap := s.heap.update S (Obj.mapSeq (fun _ => (#[] : Array Value))) } hst) (by rw [isSubtype_type]; kernel_rfl) ?_)
  refine wpAny_pure ?_
  rw [if_neg (by decide)]
  refine wpAny_pure ⟨plainId_quiet F.plain_extend_loop _, codeAny_extend_loopS W hn _ hSf _ items.size 0 _ _ _ rfl (Nat.zero_le _) hst hS₂ (ItemsOf.nil _) fun s' acc' c' hm hS' hacc => ?_⟩
  have mv : Moved [S, I] (fun a b => b = a) s { s with heap := s.heap.update S (Obj.mapSeq (fun _ => (#[] : Array Value))) } := ⟨fun b o hb e => oth b o (fun h => hb (by simp [h])) e, rfl, rfl, rfl, Nat.le_refl _⟩
  exact hR s' acc' c' (Moved.trans W.gtrans mv hm) hS' hacc
theorem call_list_rev {l I : Addr} {items : Array Value} {Q : Value → Shared → Prop} (hh : A.handled = none) (hit : s.heap.IsRevIter I l ((items.size : Int) - 1)) (hl : s.heap.IsList l items) (hn : items.size ≤ sizeLine) (hlI : l ≠ I)
    (hQ : ∀ s' acc' c', Moved [s.heap.objs.size, I] (fun a b => b = a) { s with heap := s.heap.push { cls := .type "list", data := .seq #[] } } s' →
      s'.heap.get? s.heap.objs.size = some { cls := .type "list", dict := none, data := .seq acc' c', slots := #[] } → ItemsOf (fun i v => items[items.size - 1 - i]? = some v) acc' items.size → Q (.ref s.heap.objs.size) s') :
    wpAny (model prog w) A (call (.type "list") [.ref I]) Q E s := by
  have hI : I < s.heap.objs.size := by obtain ⟨o, ho, _⟩ := hit; exact Heap.lt_size ho
  have hL : l < s.heap.objs.size := by obtain ⟨o, ho, _⟩ := hl; exact Heap.lt_size ho
  refine callType_codes (Q₁ := fun obj s₁ => obj = .ref s.heap.objs.size ∧ s₁ = { s with heap := s.heap.push { cls := .type "list", data := .seq #[] } }) F.called_list (F.typeCall_list_1 _) F.entry_list_init
    (code_list_new _ ⟨rfl, rfl⟩) fun obj s₁ h₁ => ?_
  obtain ⟨rfl, rfl⟩ := h₁
  have hS : (s.heap.push { cls := .type "list", data := .seq #[] }).get? s.heap.objs.size = some { cls := .type "list", data := .seq #[] } := Heap.get?_push_size _ rfl
  refine ⟨⟨_, hS, rfl⟩, F.args_list_init_2 _ _, list_rev_init (s := { s with heap := s.heap.push { cls := .type "list", data := .seq #[] } }) hh (hit.at fun o e => Heap.get?_push_of_some _ e) (hl.at fun o e => Heap.get?_push_of_some _ e) hn (Nat.ne_of_gt hI) (Nat.ne_of_gt hL) hlI hS fun s' acc' c' hm hS' hacc => ?_⟩
  exact ⟨rfl, hQ s' acc' c' hm hS' hacc⟩
end
section
variable {X : Cx}
def rListRev (K : PySem.W.Frag) : List V → Hp → VK → Prop := fun vs H Q => ∃ a xs, vs = [.ref a] ∧ SqL K H a xs ∧ ∀ p, H p = none → Q (.ref p) (upd H p (.lst xs.reverse))
theorem pe_listrev {a : Expr} {ta : TA} {p p' pos pos' : Pos} (hc : X.calm = true) (hg : Gl X "list") (hm : X.mg "list" = none) (hg' : Gl X "reversed") (hm' : X.mg "reversed" = none) (ha : PA X [a] ta) (hs : starEach [a] X.env = [(false, eval a X.env)] := by rfl)
    (hs2 : starEach [.Call (.Name "reversed" p') [a] [] pos'] X.env = [(false, eval (.Call (.Name "reversed" p') [a] [] pos') X.env)] := by rfl) :
    PE X (.Call (.Name "list" p) [.Call (.Name "reversed" p') [a] [] pos'] [] pos) (tCB (rListRev X.K) ta) := by
  intro pins s σ H Q I h
  refine wpAny_Call_Name_kw (ld_blt I hg hm (show bootBuiltins "list" = some (.type "list") by decide +kernel) ?_)
  refine PyProof.Rows.callWith_type1 ?_ hs2 rfl
  rw [hs2]
  show wpAny _ _ (spliced ((false, eval (.Call (.Name "reversed" p') [a] [] pos') X.env) :: backTo pos [])) _ _ s
  refine Calls.spliced_cons (Call_ (ld_blt I hg' hm' (show bootBuiltins "reversed" = some (.type "reversed") by decide +kernel) (PyProof.Rows.callWith_type1 (thn (ha pos' pins s σ H _ I h) fun us s1 ⟨vs, H1, I1, r1, q1⟩ => ?_) hs rfl)))
  obtain ⟨l, xs, e, hq, q⟩ := q1
  subst e
  obtain ⟨u, rfl, ru⟩ := vals1 r1
  cases (show u = Value.ref l from ru)
  obtain ⟨its, rv, pl, hz⟩ := I1.list hq
  have hlen := rv.length
  have hll : l < s1.heap.objs.size := by obtain ⟨o, ho, _⟩ := pl.isList; exact Heap.lt_size ho
  refine call_reversed_list pl.isList ?_
  refine Calls.spliced_nil ?_
  have st : (s1.heap.push (revObj l ((its.toArray.size : Int) - 1))).IsRevIter s1.heap.objs.size l ((its.toArray.size : Int) - 1) := ⟨_, Heap.get?_push_size _ rfl, rfl, rfl⟩
  refine call_list_rev (s := { s1 with heap := s1.heap.push (revObj l ((its.toArray.size : Int) - 1)) }) (I.ok.hd hc) st (pl.isList.at fun o e => Heap.get?_push_of_some _ e) (by rw [List.size_toArray]; omega) (Nat.ne_of_lt hll) fun s' acc' c' hm2 hS' hacc => ?_
  obtain ⟨h', g', d', t', o'⟩ := s'
  obtain ⟨mh, mg2, md, mo, mt⟩ := hm2
  cases (show g' = s1.gens from mg2)
  cases (show d' = s1.drawn from md)
  cases (show o' = s1.os from mo)
  have hD : H1 (s1.heap.objs.size + 1) = none := I1.hok.fresh (Nat.le_succ _)
  have hsz : (s1.heap.push (revObj l ((its.toArray.size : Int) - 1))).objs.size = s1.heap.objs.size + 1 := Heap.size_push _ _
  have hS2 : h'.get? (s1.heap.objs.size + 1) = some { cls := .type "list", dict := none, data := .seq acc' c', slots := #[] } := by rw [← hsz]; exact hS'
  have hacc2 : acc' = its.reverse.toArray := by
    obtain ⟨a1, a2⟩ := hacc
    apply Array.toList_inj.mp
    apply List.ext_getElem?
    intro i
    by_cases hi : i < acc'.size
    · have e1 : acc'.toList[i]? = some acc'[i] := by simp [hi]
      have e2 := a2 i acc'[i] (by simp [hi])
      rw [e1]
      have hi2 : i < its.length := by rw [a1] at hi; simpa using hi
      rw [List.toList_toArray, List.getElem?_reverse hi2]
      simpa using e2.symm
    · have hi2 : its.length ≤ i := by rw [a1] at hi; simpa using hi
      rw [List.getElem?_eq_none (by simpa using hi), List.getElem?_eq_none (by simpa using hi2)]
  subst hacc2
  refine ⟨.ref (s1.heap.objs.size + 1), upd H1 (s1.heap.objs.size + 1) (.lst xs.reverse), ?_, (by rw [← hsz]; rfl), q _ hD⟩
  refine I1.laid (t' := t') (fun b o e => ?_) (Nat.le_succ _) ⟨by rw [List.length_reverse]; exact hz, its.reverse, c', rv.reverse, hS2⟩
  refine mh b o ?_ (Heap.get?_push_of_some _ (Heap.get?_push_of_some _ e))
  have hb := Heap.lt_size e
  rw [hsz]
  simp only [List.mem_cons, List.not_mem_nil, or_false, not_or]
  exact ⟨Nat.ne_of_lt (Nat.lt_succ_of_lt hb), Nat.ne_of_lt hb⟩
def rInPiles (K : PySem.W.Frag) : R2 := fun x y H Q => ∃ t p vs ts, PileAt H t x ∧ y = .ref p ∧ SqL K H p vs ∧ Paired (fun v t => PileAt H t v) vs ts ∧ (∀ t' ∈ ts, t'.size ≤ 100) ∧ Q (.bl (ts.any fun t' => decide (t' = t))) H
theorem op_inPiles (hu : X.A.units + 110 < cLine) : OpR X (compareOp .In) (rInPiles X.K) := by
  rintro pins s σ H x y v u Q I rx ry ⟨t, p, vs, ts, hx, rfl, hq, hp, hsz, q⟩
  cases ry
  obtain ⟨its, r, pl, hz⟩ := I.list hq
  obtain ⟨b, rfl⟩ := pile_ref hx
  cases rx
  have hin : X.A.in1.units = X.A.units + 1 := rfl
  have each : ∀ {vs : List V} {its : List Value} {ts : List T}, Vals vs its → Paired (fun v t => PileAt H t v) vs ts → (∀ t' ∈ ts, t'.size ≤ 100) →
      ∃ e : Value → Bool, (∀ w ∈ its, SeqAt.EqAt X.A.in1 s w (.ref b) (e w)) ∧ its.any e = ts.any fun t' => decide (t' = t) := by
    intro vs its ts r hp hsz
    have key : ∀ w ∈ its, ∃ t', PileAt H t' (match w with | .ref a => .ref a | _ => .non) ∧ (∃ a, w = .ref a) ∧ t'.size ≤ 100 := by
      intro w hw
      obtain ⟨i, hi, e⟩ := List.getElem_of_mem hw
      have hv : i < vs.length := by rw [r.length]; exact hi
      obtain ⟨w', e2, r2⟩ := r.get (i := i) (x := vs[i]) (List.getElem?_eq_getElem hv)
      obtain ⟨t', e3, f3⟩ := paired_get hp (i := i) (x := vs[i]) (List.getElem?_eq_getElem hv)
      rw [List.getElem?_eq_getElem hi, e] at e2
      cases e2
      obtain ⟨a, ea⟩ := pile_ref f3
      rw [ea] at r2 f3
      cases (show w = Value.ref a from r2)
      exact ⟨t', f3, ⟨a, rfl⟩, hsz t' (List.mem_of_getElem? e3)⟩
    let e : Value → Bool := fun w => decide (PileAt H t (match w with | .ref a => .ref a | _ => .non))
    have dec : ∀ w ∈ its, ∀ t' : T, PileAt H t' (match w with | .ref a => .ref a | _ => .non) → e w = decide (t' = t) := fun w hw t' h' => by
      by_cases et : t' = t
      · subst et
        show decide _ = _
        rw [decide_eq_true h', decide_eq_true rfl]
      · show decide _ = _
        rw [decide_eq_false et, decide_eq_false (fun z => et (h'.inj z))]
    refine ⟨e, fun w hw => ?_, ?_⟩
    · obtain ⟨t', h', ⟨a, rfl⟩, hz'⟩ := key w hw
      rw [dec _ hw t' h']
      exact (pile_rc I t' t a b X.A.in1 h' hx (by omega)).2.2
    · clear q hq pl hz
      induction r generalizing ts with
      | nil => obtain _ | _ := hp; rfl
      | @cons v0 u0 vr ur r0 rr ih =>
        cases hp with
        | @cons _ t0 _ tr p0 pr =>
          rw [List.any_cons, List.any_cons]
          have e1 : e u0 = decide (t0 = t) := by
            refine dec u0 List.mem_cons_self t0 ?_
            obtain ⟨a, ea⟩ := pile_ref p0
            rw [ea] at r0 p0
            cases (show u0 = Value.ref a from r0)
            exact p0
          rw [e1]
          congr 1
          exact ih pr (fun t' ht' => hsz t' (List.mem_cons_of_mem _ ht')) (fun w hw => key w (List.mem_cons_of_mem _ hw)) (fun w hw => dec w (List.mem_cons_of_mem _ hw))
  obtain ⟨e, e1, e2⟩ := each r hp hsz
  refine SeqAt.in_listAt e pl.isList (fun w hw => e1 w (by simpa using hw)) ⟨.bl _, H, I, rfl, ?_⟩
  rw [show its.toArray.any e = its.any e by simp, e2]
  exact q
end
end Ph
set_option Elab.async false
set_option linter.all false
set_option maxRecDepth 100000
namespace Ph
open PySem PySem.Spec L2
open PyProof.Rows hiding St
theorem boot_str' : bootBuiltins "str" = some (.type "str") := by decide +kernel
theorem boot_max' : bootBuiltins "max" = some (.builtin "max") := by decide +kernel
section
variable {X : Cx}
def rIsiT (K : PySem.W.Frag) : List V → Hp → VK → Prop := fun xs H Q => ∃ (x : V) (p : Addr) (cs : List String) (t : Value) (b : Bool), xs = [x, .ref p] ∧ H p = some (.tup (cs.map V.ty)) ∧ TyOf K H x t ∧ PySem.W.kitAny K t (cs.map Value.type) = some b ∧ Q (.bl b) H
theorem vals_ty : ∀ {cs : List String} {us : List Value}, Vals (cs.map V.ty) us → us = cs.map Value.type
  | [], _, .nil => rfl
  | c :: cs, _, .cons r t => by
    cases (show _ = Value.type c from r)
    rw [vals_ty t]; rfl
theorem call_isiT : CallR X (.builtin "isinstance") (rIsiT X.K) := by
  rintro pins s σ H xs us Q I r ⟨x, p, cs, t, b, rfl, hp, ty, e, q⟩
  obtain ⟨u, w', rfl, rx, ry⟩ := vals2 r
  cases (show w' = Value.ref p from ry)
  obtain ⟨its, rv, ht⟩ := tupAt I hp
  have ei := vals_ty rv
  subst ei
  obtain ⟨⟨c0, dd, dt, sl⟩, ho, hc, n, hd⟩ := ht
  simp only at hc hd
  subst hc hd
  have fin : ∀ tk, EP X pins σ Q (.bool b) { s with toks := tk } := fun tk => ⟨.bl b, H, I.tok tk, rfl, q⟩
  cases ty with
  | non => cases (show u = Value.none from rx); exact PySem.W.kia_tup PySem.W.kitx_none I.kIn True.intro ho e (fun z => nomatch z) fin
  | bl y => cases (show u = Value.bool y from rx); exact PySem.W.kia_tup PySem.W.kitx_bool I.kIn True.intro ho e (fun z => nomatch z) fin
  | int i => obtain ⟨t, q⟩ := (show ∃ t, u = Value.int i t from rx); cases q; exact PySem.W.kia_tup PySem.W.kitx_int I.kIn True.intro ho e (fun z => nomatch z) fin
  | str y => obtain ⟨t, q⟩ := (show ∃ t, u = Value.str y t from rx); cases q; exact PySem.W.kia_tup PySem.W.kitx_str I.kIn True.intro ho e (fun z => nomatch z) fin
  | flt y => obtain ⟨t, q⟩ := (show ∃ t, u = Value.float y t from rx); cases q; exact PySem.W.kia_tup PySem.W.kitx_float I.kIn True.intro ho e (fun z => nomatch z) fin
  | @lst a xs ea =>
    cases (show u = Value.ref a from rx)
    obtain ⟨_, _, n, _, h1⟩ := (show ObjOk X.prog X.w H s.heap a (.lst xs) from I.hok a _ ea)
    exact PySem.W.kia_tup PySem.W.kitx_list I.kIn ⟨_, h1, rfl⟩ ho e (fun z => nomatch z) fin
  | @frz a ob xs ea =>
    cases (show u = Value.ref a from rx)
    obtain ⟨_, _, _, n, _, h1⟩ := (show ObjOk X.prog X.w H s.heap a (.frz ob (.lst xs)) from I.hok a _ ea)
    exact PySem.W.kia_tup PySem.W.kitx_list I.kIn ⟨_, h1, rfl⟩ ho e (fun z => nomatch z) fin
  | @tup a xs ea =>
    cases (show u = Value.ref a from rx)
    obtain ⟨_, _, _, pp⟩ := (show ObjOk X.prog X.w H s.heap a (.tup xs) from I.hok a _ ea)
    obtain ⟨o, h1, h2, _⟩ := pp
    exact PySem.W.kia_tup PySem.W.kitx_tuple I.kIn ⟨o, h1, h2⟩ ho e (fun z => nomatch z) fin
  | @dK a kvs ea =>
    cases (show u = Value.ref a from rx)
    obtain ⟨_, _, vs, _, pp⟩ := (show ObjOk X.prog X.w H s.heap a (.dK kvs) from I.hok a _ ea)
    obtain ⟨o, es, ep, h1, h2, _⟩ := pp
    exact PySem.W.kia_tup PySem.W.kitx_dict I.kIn ⟨o, h1, h2.1⟩ ho e (fun z => nomatch z) fin
  | @dT a kvs ea =>
    cases (show u = Value.ref a from rx)
    obtain ⟨_, _, xs, _, o, es, ep, h1, h2, _⟩ := (show ObjOk X.prog X.w H s.heap a (.dT kvs) from I.hok a _ ea)
    exact PySem.W.kia_tup PySem.W.kitx_dict I.kIn ⟨o, h1, h2.1⟩ ho e (fun z => nomatch z) fin
  | @ins a C dx fs ea cl ha hn htk hm =>
    cases (show u = Value.ref a from rx)
    obtain ⟨mA, O, _⟩ := ins_get I.hok ea
    obtain ⟨od, J, _⟩ := O.look
    exact PySem.W.kia_tup (PySem.W.kitx_own (cl.get _) cl.hd ha hn htk hm) I.kIn J ho e (fun z => nomatch z) fin
end
theorem kit_is (K : PySem.W.Frag) : PySem.W.kitOne K (.type "int") (.type "str") = some false := by kernel_rfl
theorem kit_tl (K : PySem.W.Frag) : PySem.W.kitOne K (.type "tuple") (.type "list") = some false := by kernel_rfl
theorem kit_lt (K : PySem.W.Frag) : PySem.W.kitOne K (.type "list") (.type "tuple") = some false := by kernel_rfl
theorem kitA_i (K : PySem.W.Frag) : PySem.W.kitAny K (.type "int") (["list", "tuple"].map Value.type) = some false := by kernel_rfl
theorem kitA_t (K : PySem.W.Frag) : PySem.W.kitAny K (.type "tuple") (["list", "tuple"].map Value.type) = some true := by kernel_rfl
theorem kitA_l (K : PySem.W.Frag) : PySem.W.kitAny K (.type "list") (["list", "tuple"].map Value.type) = some true := by kernel_rfl
inductive Itm where
  | int (n : Int)
  | pile (t : T)
  | pair (p : Int × Int)
  | pairs (ps : List (Int × Int))
def ItmAt (H : Hp) : Itm → V → Prop
  | .int n, v => v = .int n
  | .pile t, v => PileAt H t v
  | .pair p, v => PairAt H v p
  | .pairs ps, v => ∃ a ws, v = .ref a ∧ H a = some (.lst ws) ∧ PairsAt H ws ps
theorem ItmAt.mono {H H' : Hp} (m : Same H H') : ∀ {x : Itm} {v : V}, ItmAt H x v → ItmAt H' x v
  | .int _, _, h => h
  | .pile _, _, h => PileAt.mono (.of m) h
  | .pair _, _, h => PairAt.mono (.of m) h
  | .pairs _, _, ⟨a, ws, e, h1, h2⟩ => ⟨a, ws, e, m _ _ h1, PairsAt.mono (.of m) h2⟩
def wt : Itm → Nat
  | .int _ => 1
  | .pile t => 6 * t.size + 1
  | .pair _ => 3
  | .pairs ps => 3 * ps.length + 1
def wts (xs : List Itm) : Nat := (xs.map wt).sum
theorem wts_app (xs ys : List Itm) : wts (xs ++ ys) = wts xs + wts ys := by simp [wts]
theorem wts_cons (x : Itm) (ys : List Itm) : wts (x :: ys) = wt x + wts ys := by simp [wts]
theorem len_le_wts (xs : List Itm) : xs.length ≤ wts xs := by
  induction xs with
  | nil => simp
  | cons x r ih =>
    rw [wts_cons, List.length_cons]
    have : 1 ≤ wt x := by cases x <;> simp [wt]
    omega
abbrev ItmsAt (H : Hp) (vs : List V) (xs : List Itm) : Prop := Paired (fun v x => ItmAt H x v) vs xs
theorem ItmsAt.mono {H H' : Hp} (m : Same H H') {vs : List V} {xs : List Itm} (h : ItmsAt H vs xs) : ItmsAt H' vs xs := Paired.imp' (fun _ _ z => ItmAt.mono m z) h
def spSameAs : Sp := fun vs H Q _ => ∃ v v' x, vs = [v, v'] ∧ ItmAt H x v ∧ ItmAt H x v' ∧ wt x ≤ 700 ∧ ∀ H', Same H H' → Q (.bl true) H'
theorem itm_parts {H : Hp} {x : Itm} {v v' : V} (h : ItmAt H x v) (h' : ItmAt H x v') : (∃ n, x = .int n ∧ v = .int n ∧ v' = .int n) ∨
    (∃ p p' us us' ys, v = .ref p ∧ v' = .ref p' ∧ H p = some (.tup us) ∧ H p' = some (.tup us') ∧ ItmsAt H us ys ∧ ItmsAt H us' ys ∧ wts ys + 1 = wt x) ∨
    (∃ p p' us us' ys, v = .ref p ∧ v' = .ref p' ∧ H p = some (.lst us) ∧ H p' = some (.lst us') ∧ ItmsAt H us ys ∧ ItmsAt H us' ys ∧ wts ys + 1 = wt x) := by
  cases x with
  | int n => exact .inl ⟨n, rfl, h, h'⟩
  | pile t =>
    right; left
    cases t with
    | nil =>
      obtain ⟨p, e, hp⟩ := h
      obtain ⟨p', e', hp'⟩ := h'
      exact ⟨p, p', [], [], [], e, e', hp, hp', .nil, .nil, by simp [wts, wt, T.size]⟩
    | node r a l rt rc hd =>
      obtain ⟨p, vl, vr, e, hp, hl, hr⟩ := h
      obtain ⟨p', vl', vr', e', hp', hl', hr'⟩ := h'
      refine ⟨p, p', _, _, [.int r, .int a, .pile l, .pile rt, .int rc, .int hd], e, e', hp, hp', .cons rfl (.cons rfl (.cons hl (.cons hr (.cons rfl (.cons rfl .nil))))), .cons rfl (.cons rfl (.cons hl' (.cons hr' (.cons rfl (.cons rfl .nil))))), ?_⟩
      simp [wts, wt, T.size]; omega
  | pair p =>
    right; left
    obtain ⟨q, e, hq⟩ := h
    obtain ⟨q', e', hq'⟩ := h'
    exact ⟨q, q', _, _, [.int p.1, .int p.2], e, e', hq, hq', .cons rfl (.cons rfl .nil), .cons rfl (.cons rfl .nil), by simp [wts, wt]⟩
  | pairs ps =>
    right; right
    obtain ⟨a, ws, e, ha, hws⟩ := h
    obtain ⟨a', ws', e', ha', hws'⟩ := h'
    have conv : ∀ {ws : List V} {ps : List (Int × Int)}, PairsAt H ws ps → ItmsAt H ws (ps.map Itm.pair) := by
      intro ws ps hh
      induction hh with
      | nil => exact .nil
      | cons z _ ih => exact .cons z ih
    refine ⟨a, a', ws, ws', ps.map Itm.pair, e, e', ha, ha', conv hws, conv hws', ?_⟩
    have : ∀ ps : List (Int × Int), wts (ps.map Itm.pair) = 3 * ps.length := by
      intro ps
      induction ps with
      | nil => simp [wts]
      | cons p r ih => rw [List.map_cons, wts_cons, ih]; simp [wt]; omega
    rw [this]; rfl
def spSingle : Sp := fun vs H Q _ => ∃ r a, vs = [.int r, .int a] ∧ ∀ v H', Same H H' → PileAt H' (mk r a .nil .nil) v → Q v H'
def spAt (K : PySem.W.Frag) : Sp := fun vs H Q _ => ∃ (p : Addr) (ns : List Int) (k : Int), vs = [.ref p, .int k] ∧ SqL K H p (ns.map V.int) ∧ 0 ≤ k ∧ Q (.int (ns.getD k.toNat 0)) H
def spMixed (K : PySem.W.Frag) : Sp := fun vs H Q _ => ∃ (p : Addr) (ns : List Int), vs = [.ref p] ∧ SqL K H p (ns.map V.int) ∧ ns.length ≤ 63 ∧ ∀ (q : Addr) (ms : List Int) (H' : Hp), Same H H' → ms.length = ns.length → H' q = some (.lst (ms.map V.int)) → Q (.ref q) H'
def spThingsBy (K : PySem.W.Frag) : Sp := fun vs H Q _ => ∃ (p : Addr) (ns : List Int), vs = [.ref p] ∧ SqL K H p (ns.map V.int) ∧ ns.length ≤ 63 ∧ ∀ q ws ps H', Same H H' → ps.length = ns.length → H' q = some (.lst ws) → PairsAt H' ws ps → Q (.ref q) H'
end Ph
set_option Elab.async false
set_option linter.all false
set_option maxRecDepth 100000
namespace Ph
open PySem PySem.Spec L2
open PyProof.Rows hiding St
def pairOff : List T → List T
  | [] => []
  | [a] => [a]
  | a :: b :: r => join a b :: pairOff r
def pairN : List T → Nat
  | [] => 0
  | [_] => 0
  | a :: b :: r => joinN a b + pairN r
def pairNs : List T → List Nat
  | [] => []
  | [_] => []
  | a :: b :: r => joinN a b :: pairNs r
theorem pairN_sum : ∀ ts : List T, ((pairNs ts).map fun n : Nat => (n : Int)).sum = (pairN ts : Int)
  | [] => rfl
  | [_] => rfl
  | a :: b :: r => by
    show ((joinN a b : Nat) : Int) + ((pairNs r).map fun n : Nat => (n : Int)).sum = ((joinN a b + pairN r : Nat) : Int)
    rw [pairN_sum r]; omega
theorem pairOff_len : ∀ ts : List T, (pairOff ts).length = (ts.length + 1) / 2
  | [] => rfl
  | [_] => by simp [pairOff]
  | a :: b :: r => by
    show (pairOff r).length + 1 = (r.length + 1 + 1 + 1) / 2
    rw [pairOff_len r]; omega
theorem pairNs_len : ∀ ts : List T, (pairNs ts).length = ts.length / 2
  | [] => rfl
  | [_] => by simp [pairNs]
  | a :: b :: r => by
    show (pairNs r).length + 1 = (r.length + 1 + 1) / 2
    rw [pairNs_len r]; omega
theorem pairOff_get : ∀ (ts : List T) (i : Nat) (a b : T), ts[2 * i]? = some a → ts[2 * i + 1]? = some b → (pairOff ts)[i]? = some (join a b) ∧ (pairNs ts)[i]? = some (joinN a b)
  | [], _, _, _, h, _ => by simp at h
  | [_], 0, _, _, _, h => by simp at h
  | [_], i + 1, _, _, h, _ => by rw [show 2 * (i + 1) = 2 * i + 1 + 1 by omega] at h; simp at h
  | x :: y :: r, 0, a, b, h, h' => by
    simp at h h'
    subst h h'
    exact ⟨rfl, rfl⟩
  | x :: y :: r, i + 1, a, b, h, h' => by
    have e1 : (x :: y :: r)[2 * (i + 1)]? = r[2 * i]? := by rw [show 2 * (i + 1) = 2 * i + 1 + 1 by omega]; rfl
    have e2 : (x :: y :: r)[2 * (i + 1) + 1]? = r[2 * i + 1]? := by rw [show 2 * (i + 1) + 1 = 2 * i + 1 + 1 + 1 by omega]; rfl
    rw [e1] at h
    rw [e2] at h'
    exact pairOff_get r i a b h h'
theorem pairOff_last : ∀ (ts : List T) (i : Nat) (a : T), ts[2 * i]? = some a → ts.length = 2 * i + 1 → (pairOff ts)[i]? = some a
  | [], _, _, h, _ => by simp at h
  | [x], 0, a, h, _ => h
  | [_], i + 1, _, h, _ => by rw [show 2 * (i + 1) = 2 * i + 1 + 1 by omega] at h; simp at h
  | x :: y :: r, 0, a, h, e => by simp at e
  | x :: y :: r, i + 1, a, h, e => by
    have e1 : (x :: y :: r)[2 * (i + 1)]? = r[2 * i]? := by rw [show 2 * (i + 1) = 2 * i + 1 + 1 by omega]; rfl
    rw [e1] at h
    exact pairOff_last r i a h (by simp at e; omega)
theorem pairOff_perm : ∀ ts : List T, ((pairOff ts).flatMap T.toL).Perm (ts.flatMap T.toL)
  | [] => .refl _
  | [_] => .refl _
  | a :: b :: r => by
    show ((join a b).toL ++ (pairOff r).flatMap T.toL).Perm (a.toL ++ (b.toL ++ r.flatMap T.toL))
    rw [← List.append_assoc]
    exact (join_perm a b).append (pairOff_perm r)
theorem pairOff_all {F : T → Prop} (hF : ∀ a b, F a → F b → F (join a b)) : ∀ ts : List T, (∀ t ∈ ts, F t) → ∀ t ∈ pairOff ts, F t
  | [], _, t, h => by cases h
  | [x], H, t, h => H t h
  | a :: b :: r, H, t, h => by
    have h' : t ∈ join a b :: pairOff r := h
    rcases List.mem_cons.mp h' with e | e
    · subst e; exact hF _ _ (H _ (by simp)) (H _ (by simp))
    · exact pairOff_all hF r (fun t ht => H t (by simp [ht])) t e
def outcome (ts : List T) : T × Nat := if h : 1 < ts.length then ((outcome (pairOff ts)).1, pairN ts + (outcome (pairOff ts)).2) else (ts.headD .nil, 0)
termination_by ts.length
decreasing_by all_goals rw [pairOff_len]; omega
theorem outcome_step {ts : List T} (h : 1 < ts.length) : (outcome ts).1 = (outcome (pairOff ts)).1 ∧ (outcome ts).2 = pairN ts + (outcome (pairOff ts)).2 := by
  rw [outcome, dif_pos h]; exact ⟨rfl, rfl⟩
theorem outcome_end {ts : List T} (h : ¬ 1 < ts.length) : outcome ts = (ts.headD .nil, 0) := by rw [outcome, dif_neg h]
theorem joinN_pos {s t : T} (hs : s ≠ .nil) (ht : t ≠ .nil) : 1 ≤ joinN s t := by
  cases s with
  | nil => exact absurd rfl hs
  | node r a l rt rc hd =>
    cases t with
    | nil => exact absurd rfl ht
    | node r' a' l' rt' rc' hd' =>
      rw [joinN]
      split <;> omega
theorem join_ne {s t : T} (hs : s ≠ .nil) : join s t ≠ .nil := fun e => by
  have h := join_size s t
  rw [e] at h
  have h' : 0 = s.size + t.size := h
  cases s with
  | nil => exact hs rfl
  | node r a l rt rc hd =>
    have h2 : 0 = l.size + rt.size + 1 + t.size := h'
    omega
theorem pairN_low : ∀ ts : List T, (∀ t ∈ ts, t ≠ .nil) → ts.length / 2 ≤ pairN ts
  | [], _ => by simp
  | [_], _ => by simp
  | a :: b :: r, H => by
    have h1 := joinN_pos (H a (by simp)) (H b (by simp))
    have h2 := pairN_low r fun t ht => H t (by simp [ht])
    show (r.length + 1 + 1) / 2 ≤ joinN a b + pairN r
    omega
theorem outcome_low (n : Nat) : ∀ ts : List T, ts.length ≤ n → (∀ t ∈ ts, t ≠ .nil) → ts.length ≤ (outcome ts).2 + 1 := by
  induction n with
  | zero => intro ts h _; omega
  | succ n ih =>
    intro ts h H
    by_cases c : 1 < ts.length
    · have e := (outcome_step c).2
      have l := pairOff_len ts
      have i := ih (pairOff ts) (by omega) (pairOff_all (F := fun t => t ≠ .nil) (fun a b ha _ => join_ne ha) ts H)
      have p := pairN_low ts H
      omega
    · omega
theorem reach_le {t : T} (h : Nm t) {j : Nat} (hj : 1 ≤ j) (hs : t.size ≤ 2 ^ j) : t.reach ≤ (j : Int) := by
  obtain ⟨r, er, hr⟩ := nm_pow h
  have : 2 ^ r < 2 ^ (j + 1) := by
    have h1 : 2 ^ (j + 1) = 2 ^ j + 2 ^ j := by rw [Nat.pow_succ]; omega
    have h2 : 2 ≤ 2 ^ j := by
      have := Nat.pow_le_pow_right (show 0 < 2 by decide) hj
      simpa using this
    omega
  have := (Nat.pow_lt_pow_iff_right (by decide : 1 < 2)).mp this
  omega
theorem reach_le1 {t : T} (h : Nm t) (hs : t.size ≤ 1) : t.reach ≤ 1 := by
  obtain ⟨r, er, hr⟩ := nm_pow h
  have : 2 ^ r < 2 ^ 2 := by omega
  have := (Nat.pow_lt_pow_iff_right (by decide : 1 < 2)).mp this
  omega
theorem pairN_high (j : Nat) : ∀ ts : List T, (∀ t ∈ ts, Nm t ∧ t.reach ≤ (j : Int)) → pairN ts ≤ (ts.length / 2) * (2 * j)
  | [], _ => Nat.zero_le _
  | [_], _ => Nat.zero_le _
  | a :: b :: r, H => by
    obtain ⟨na, ra⟩ := H a (by simp)
    obtain ⟨nb, rb⟩ := H b (by simp)
    have h1 := joinN_le a b na nb
    have h2 := pairN_high j r fun t ht => H t (by simp [ht])
    have h3 : joinN a b ≤ 2 * j := by omega
    have e : (a :: b :: r).length / 2 = r.length / 2 + 1 := by show (r.length + 1 + 1) / 2 = _; omega
    rw [e, Nat.add_mul, Nat.one_mul]
    show joinN a b + pairN r ≤ _
    omega
theorem pairOff_size {m : Nat} : ∀ ts : List T, (∀ t ∈ ts, t.size ≤ m) → ∀ t ∈ pairOff ts, t.size ≤ 2 * m
  | [], _, t, h => by cases h
  | [x], H, t, h => by have := H t h; omega
  | a :: b :: r, H, t, h => by
    have h' : t ∈ join a b :: pairOff r := h
    rcases List.mem_cons.mp h' with e | e
    · subst e
      have h1 := H a (by simp)
      have h2 := H b (by simp)
      rw [join_size]; omega
    · exact pairOff_size r (fun t ht => H t (by simp [ht])) t e
theorem outcome_high (n : Nat) : ∀ (ts : List T) (j : Nat), ts.length ≤ n → 1 ≤ j → (∀ t ∈ ts, Nm t ∧ t.size ≤ 2 ^ j) → 1 ≤ ts.length → (outcome ts).2 ≤ (ts.length - 1) * (2 * j + 2) := by
  induction n with
  | zero => intro ts j h _ _ h1; omega
  | succ n ih =>
    intro ts j h hj H h1
    by_cases c : 1 < ts.length
    · have e := (outcome_step c).2
      have l := pairOff_len ts
      have hp := pairN_high j ts fun t ht => ⟨(H t ht).1, reach_le (H t ht).1 hj (H t ht).2⟩
      have i := ih (pairOff ts) (j + 1) (by omega) (by omega) (fun t ht => ⟨pairOff_all (F := Nm) (fun a b ha hb => nm_join _ _ ha hb) ts (fun t ht => (H t ht).1) t ht, by
        have := pairOff_size ts (fun t ht => (H t ht).2) t ht
        rw [Nat.pow_succ]; omega⟩) (by omega)
      rw [e]
      refine Nat.le_trans (Nat.add_le_add hp i) ?_
      rw [l]
      generalize ts.length = k at *
      obtain ⟨f, hf⟩ : ∃ f, k / 2 = f := ⟨_, rfl⟩
      obtain ⟨g, hg⟩ : ∃ g, (k + 1) / 2 = g + 1 := ⟨(k + 1) / 2 - 1, by omega⟩
      rw [hf, hg]
      have hk : k - 1 = f + g := by omega
      have hgf : g ≤ f := by omega
      rw [hk, Nat.add_sub_cancel, Nat.add_mul f g]
      have e1 : f * (2 * j) + 2 * f = f * (2 * j + 2) := by rw [Nat.mul_add]; omega
      have e2 : g * (2 * (j + 1) + 2) = g * (2 * j + 2) + 2 * g := by
        rw [show 2 * (j + 1) + 2 = (2 * j + 2) + 2 by omega, Nat.mul_add]; omega
      omega
    · rw [outcome_end c]; exact Nat.zero_le _
theorem outcome_ones {ts : List T} (H : ∀ t ∈ ts, Nm t ∧ t.size ≤ 1) : (outcome ts).2 ≤ 3 * ts.length := by
  by_cases c : 1 < ts.length
  · have e := (outcome_step c).2
    have l := pairOff_len ts
    have hp := pairN_high 1 ts fun t ht => ⟨(H t ht).1, reach_le1 (H t ht).1 (H t ht).2⟩
    have i := outcome_high (pairOff ts).length (pairOff ts) 1 (Nat.le_refl _) (Nat.le_refl _) (fun t ht => ⟨pairOff_all (F := Nm) (fun a b ha hb => nm_join _ _ ha hb) ts (fun t ht => (H t ht).1) t ht, by
      have := pairOff_size ts (fun t ht => (H t ht).2) t ht
      omega⟩) (by omega)
    rw [e]
    rw [l] at i
    omega
  · rw [outcome_end c]; exact Nat.zero_le _
theorem outcome_ind {F : List T → Prop} (hF : ∀ ts, F ts → F (pairOff ts)) (n : Nat) : ∀ ts : List T, ts.length ≤ n → F ts → ∃ us, F us ∧ ¬ 1 < us.length ∧ (outcome ts).1 = us.headD .nil := by
  induction n with
  | zero => intro ts h f; exact ⟨ts, f, by omega, by rw [outcome_end (by omega)]⟩
  | succ n ih =>
    intro ts h f
    by_cases c : 1 < ts.length
    · obtain ⟨us, h1, h2, h3⟩ := ih (pairOff ts) (by rw [pairOff_len]; omega) (hF _ f)
      exact ⟨us, h1, h2, by rw [(outcome_step c).1]; exact h3⟩
    · exact ⟨ts, f, c, by rw [outcome_end c]⟩
theorem outcome_sound {ts : List T} (h1 : ∀ t ∈ ts, Ho t) (h2 : ∀ t ∈ ts, Nm t) : Ho (outcome ts).1 ∧ Nm (outcome ts).1 ∧ (outcome ts).1.toL.Perm (ts.flatMap T.toL) := by
  obtain ⟨us, ⟨g1, g2, g3⟩, hl, e⟩ := outcome_ind (F := fun us => (∀ t ∈ us, Ho t) ∧ (∀ t ∈ us, Nm t) ∧ (us.flatMap T.toL).Perm (ts.flatMap T.toL))
    (fun us ⟨g1, g2, g3⟩ => ⟨pairOff_all (fun a b => ho_join a b) us g1, pairOff_all (fun a b => nm_join a b) us g2, (pairOff_perm us).trans g3⟩) ts.length ts (Nat.le_refl _) ⟨h1, h2, .refl _⟩
  rw [e]
  match us, hl with
  | [], _ => exact ⟨trivial, trivial, g3⟩
  | [t], _ => exact ⟨g1 t (by simp), g2 t (by simp), by simpa using g3⟩
  | _ :: _ :: _, hl => simp at hl
def Its2 (n : Nat) : It := ⟨fun i _ => i < n, fun i H x H' => H' = H ∧ x = .int (2 * (i : Int)), fun i _ => n ≤ i⟩
theorem turn_range2 {P : Program} {w : World} {K : PySem.W.Frag} {tg : Expr} (it : Addr) (n : Nat) : Turn P w K tg (Its2 n) [it] it (fun i h => IsRangeIter h it (0 + (i : Nat) * 2) ((n : Int) - (i : Nat)) 2) where
  mem := by simp
  obj := fun i h st b hb => by
    have e : b = it := by simpa using hb
    subst e
    exact ⟨_, st, fun v z => by
      have z' : Data.fields _ = Data.cell v := z
      cases z'⟩
  keep := fun i h h' st k => k it (by simp) _ st
  item := by
    intro X hP hw hK hc i pins s σ H E I hf st hg
    subst hP hw hK
    obtain ⟨f0, f1, f2, f3, f4, f5⟩ := hf it (by simp)
    have W := Walks.range (prog := X.prog) (w := X.w) (I.ok.hd hc) it 0 2 n
    refine W.item i s _ _ hg st fun v h' tk hv st' kk => ?_
    obtain ⟨t, rfl⟩ := hv
    have I1 : Inv X pins σ H { s with heap := h', toks := tk } := I.turned (fun b o hb e => kk b o (by simpa using hb) e) f0 f1 f3 f4 f5
    refine ⟨_, rfl, go_of (s := { s with heap := h', toks := tk }) (n := "range_iterator") st' rfl rfl (by decide) ⟨.int (2 * (i : Int)), H, I1, ⟨t, ?_⟩, ⟨rfl, rfl⟩, st', fun b hb => (hf b hb).1⟩⟩
    rw [Int.zero_add, Int.mul_comm]
  done := by
    intro X hP hw hK hc i pins s σ H E I hf st hg
    subst hP hw hK
    obtain ⟨f0, f1, f2, f3, f4, f5⟩ := hf it (by simp)
    exact wpAny_pyNext_range_end (I.ok.hd hc) st (by have : n ≤ i := hg; omega) fun h' eb => ⟨rfl, I.turned (t' := s.toks) (fun b o hb e => eb b o hb e) f0 f1 f3 f4 f5⟩
  self := fun _ _ _ _ _ st h => wpAny_pyIter_rangeiter st h
section
variable {X : Cx} {tg : Expr}
theorem rangeSize_two (b : Int) : Builtin.Range.rangeSize 0 b 2 = (((b + 1) / 2).toNat : Int) := by
  unfold Builtin.Range.rangeSize
  rw [if_pos (by decide)]
  split <;> omega
theorem small_two {b : Int} (hb : -1000 ≤ b) (hb' : b ≤ 1000) : Builtin.Range.small 0 b 2 = true := by
  unfold Builtin.Range.small
  rw [rangeSize_two]
  simp only [Builtin.Range.rangeFitsLong, Bool.and_eq_true, Bool.or_eq_true, decide_eq_true_eq, beq_iff_eq, show (2 : Int) > 0 by decide, if_true]
  omega
def iRng3 (ta : TA) : TI := fun σ H R => ta σ H fun vs H1 => ∃ j : Int, vs = [.int 0, .int j, .int 2] ∧ -1000 ≤ j ∧ j ≤ 1000 ∧ R (Its2 ((j + 1) / 2).toNat) H1
theorem pi_range3 {a b c : Expr} {ta : TA} {p pos : Pos} (hg : Gl X "range") (hm : X.mg "range" = none) (ha : PA X [a, b, c] ta) (hs : starEach [a, b, c] X.env = [(false, eval a X.env), (false, eval b X.env), (false, eval c X.env)] := by rfl)
    (hs2 : starEach [b, c] X.env = [(false, eval b X.env), (false, eval c X.env)] := by rfl) : PI X tg (.Call (.Name "range" p) [a, b, c] [] pos) (iRng3 ta) := by
  intro pins s σ H R I h
  refine Call_ (ld_blt I hg hm boot_range (PyProof.Rows.callWith_type1 (thn (ha pos pins s σ H _ I h) fun us s1 ⟨vs, H1, I1, r1, q1⟩ => ?_) (by rw [hs, hs2]) (by rw [hs2]; rfl)))
  obtain ⟨j, e, q1, q2, q⟩ := q1
  subst e
  cases r1 with
  | cons r rr =>
    cases rr with
    | cons r' rr =>
      cases rr with
      | cons r'' rr =>
      cases rr
      obtain ⟨t, rfl⟩ := r
      obtain ⟨t', rfl⟩ := r'
      obtain ⟨t'', rfl⟩ := r''
      refine call_range_3 (by decide) ?_ (Or.inl (PyProof.noPylong_small (by decide)))
      refine wpAny_pyIter_range (IsRange.new ..) (small_two q1 q2) ?_
      have I2 : Inv X pins σ H1 { s1 with heap := s1.heap.push { cls := .type "range", data := .fields #[.int 0 t, .int j t', .int 2 t''] }, toks := s1.toks } := I1.kept fun b o e => Heap.get?_push_of_some _ e
      refine ⟨(s1.heap.push { cls := .type "range", data := .fields #[.int 0 t, .int j t', .int 2 t''] }).objs.size, [(s1.heap.push { cls := .type "range", data := .fields #[.int 0 t, .int j t', .int 2 t''] }).objs.size], _, _, H1, rfl,
        I2.kept (t' := s1.toks) fun b o e => Heap.get?_push_of_some _ e, turn_range2 _ ((j + 1) / 2).toNat, ?_, fun b hb => ?_, q⟩
      · show IsRangeIter _ _ (0 + ((0 : Nat) : Int) * 2) (((((j + 1) / 2).toNat : Nat) : Int) - ((0 : Nat) : Int)) 2
        have e1 : (0 : Int) + ((0 : Nat) : Int) * 2 = 0 := by simp
        have e2 : ((((j + 1) / 2).toNat : Nat) : Int) - ((0 : Nat) : Int) = Builtin.Range.rangeSize 0 j 2 := by rw [rangeSize_two]; omega
        rw [e1, e2]
        exact Heap.get?_push_size _ rfl
      · have e : b = (s1.heap.push { cls := .type "range", data := .fields #[.int 0 t, .int j t', .int 2 t''] }).objs.size := by simpa using hb
        subst e
        exact I2.fpOk (Nat.le_refl _) (I2.hok.fresh (Nat.le_refl _))
theorem boot_sum' : bootBuiltins "sum" = some (.builtin "sum") := by decide +kernel
theorem vals_ints : ∀ {ns : List Int} {us : List Value}, Vals (ns.map V.int) us → ∃ ts : List (Int × Tok), us = ts.map (fun p => .int p.1 p.2) ∧ ts.map (·.1) = ns
  | [], _, .nil => ⟨[], rfl, rfl⟩
  | n :: ns, _, .cons r t => by
    obtain ⟨tk, rfl⟩ := (show ∃ t, _ = Value.int n t from r)
    obtain ⟨ts, e1, e2⟩ := vals_ints t
    exact ⟨(n, tk) :: ts, by rw [e1]; rfl, by rw [← e2]; rfl⟩
theorem call_sum (hc : X.calm = true) : CallR X (.builtin "sum") (fun xs H Q => ∃ (p : Addr) (ns : List Int), xs = [.ref p] ∧ H p = some (.lst (ns.map V.int)) ∧ Q (.int ns.sum) H) := by
  rintro pins s σ H xs us Q I r ⟨p, ns, rfl, hp, q⟩
  obtain ⟨u, rfl, ru⟩ := vals1 r
  cases (show u = Value.ref p from ru)
  obtain ⟨its, rv, hl⟩ := lstAt I hp
  obtain ⟨ts, e1, e2⟩ := vals_ints rv
  have hl' : s.heap.IsList p (intItems ts.toArray) := by
    have : intItems ts.toArray = its.toArray := by rw [e1]; unfold intItems; simp
    rw [this]; exact hl
  refine sum_intListG (I.ok.hd hc) hl' fun h' tk t' hk => ⟨.int ns.sum, H, I.kept hk, ⟨t', ?_⟩, q⟩
  rw [preSum_eq, List.take_of_length_le (by simp)]
  congr 1
  rw [← e2]
end
def joins : List T → List (T × Nat)
  | [] => []
  | [_] => []
  | a :: b :: r => (join a b, joinN a b) :: joins r
theorem joins_len : ∀ ts : List T, (joins ts).length = ts.length / 2
  | [] => rfl
  | [_] => by simp [joins]
  | a :: b :: r => by
    show (joins r).length + 1 = (r.length + 1 + 1) / 2
    rw [joins_len r]; omega
theorem joins_sum : ∀ ts : List T, ((joins ts).map fun p : T × Nat => (p.2 : Int)).sum = (pairN ts : Int)
  | [] => rfl
  | [_] => rfl
  | a :: b :: r => by
    show ((joinN a b : Nat) : Int) + ((joins r).map fun p : T × Nat => (p.2 : Int)).sum = ((joinN a b + pairN r : Nat) : Int)
    rw [joins_sum r]; omega
theorem joins_get : ∀ (ts : List T) (i : Nat) (a b : T), ts[2 * i]? = some a → ts[2 * i + 1]? = some b → (joins ts)[i]? = some (join a b, joinN a b)
  | [], _, _, _, h, _ => by simp at h
  | [_], 0, _, _, _, h => by simp at h
  | [_], i + 1, _, _, h, _ => by rw [show 2 * (i + 1) = 2 * i + 1 + 1 by omega] at h; simp at h
  | x :: y :: r, 0, a, b, h, h' => by
    simp at h h'
    subst h h'
    rfl
  | x :: y :: r, i + 1, a, b, h, h' => by
    have e1 : (x :: y :: r)[2 * (i + 1)]? = r[2 * i]? := by rw [show 2 * (i + 1) = 2 * i + 1 + 1 by omega]; rfl
    have e2 : (x :: y :: r)[2 * (i + 1) + 1]? = r[2 * i + 1]? := by rw [show 2 * (i + 1) + 1 = 2 * i + 1 + 1 + 1 by omega]; rfl
    rw [e1] at h
    rw [e2] at h'
    exact joins_get r i a b h h'
theorem pairOff_even : ∀ ts : List T, ts.length % 2 = 0 → pairOff ts = (joins ts).map (·.1)
  | [], _ => rfl
  | [_], h => by simp at h
  | a :: b :: r, h => by
    have := pairOff_even r (by simp at h; omega)
    show join a b :: pairOff r = join a b :: (joins r).map (·.1)
    rw [this]
theorem pairOff_odd : ∀ (ts : List T) (x : T), ts.length % 2 = 1 → ts[ts.length - 1]? = some x → pairOff ts = (joins ts).map (·.1) ++ [x]
  | [], _, h, _ => by simp at h
  | [y], x, _, e => by simp at e; subst e; rfl
  | a :: b :: r, x, h, e => by
    have hr : r.length % 2 = 1 := by simp at h; omega
    have := pairOff_odd r x hr (by
      have e' : (a :: b :: r)[r.length - 1 + 1 + 1]? = some x := by
        rw [← e]; congr 1; simp; omega
      exact e')
    show join a b :: pairOff r = join a b :: ((joins r).map (·.1) ++ [x])
    rw [this]
theorem two_size : ∀ (ts : List T) (i : Nat) (a b : T), ts[i]? = some a → ts[i + 1]? = some b → a.size + b.size ≤ sumSize ts
  | [], _, _, _, h, _ => by simp at h
  | x :: r, 0, a, b, h, h' => by
    simp at h
    subst h
    match r, h' with
    | y :: r', h' =>
      simp at h'
      subst h'
      rw [sumSize_cons, sumSize_cons]; omega
  | x :: r, i + 1, a, b, h, h' => by
    have := two_size r i a b (by simpa using h) (by simpa using h')
    rw [sumSize_cons]; omega
theorem sumSize_flat (ts : List T) : (ts.flatMap T.toL).length = sumSize ts := by
  rw [List.length_flatMap]
  unfold sumSize
  congr 1
  exact List.map_congr_left fun a _ => T.length_toL a
theorem pairOff_sum (ts : List T) : sumSize (pairOff ts) = sumSize ts := by
  rw [← sumSize_flat, ← sumSize_flat]; exact (pairOff_perm ts).length_eq
def JAt (H : Hp) (v : V) (p : T × Nat) : Prop := ∃ q u, v = .ref q ∧ H q = some (.tup [u, .int p.2]) ∧ PileAt H p.1 u
theorem JAt.mono {H H' : Hp} (m : Tups H H') {v : V} {p : T × Nat} (h : JAt H v p) : JAt H' v p := by
  obtain ⟨q, u, e, h1, h2⟩ := h
  exact ⟨q, u, e, m _ _ h1, h2.mono m⟩
abbrev JsAt (H : Hp) (vs : List V) (ps : List (T × Nat)) : Prop := Paired (JAt H) vs ps
theorem JsAt.mono {H H' : Hp} (m : Tups H H') {vs : List V} {ps : List (T × Nat)} (h : JsAt H vs ps) : JsAt H' vs ps := Paired.imp' (fun _ _ z => JAt.mono m z) h
def ones (ps : List (Int × Int)) : List T := ps.map fun p => mk p.1 p.2 .nil .nil
theorem ones_len (ps : List (Int × Int)) : (ones ps).length = ps.length := List.length_map _
theorem ho_one (p : Int × Int) : Ho (mk p.1 p.2 .nil .nil) := ⟨fun q h => by simp [T.toL] at h, trivial, trivial⟩
theorem nm_one (p : Int × Int) : Nm (mk p.1 p.2 .nil .nil) := ⟨Int.le_refl _, rfl, rfl, trivial, trivial⟩
theorem ones_flat (ps : List (Int × Int)) : (ones ps).flatMap T.toL = ps := by
  induction ps with
  | nil => rfl
  | cons p r ih =>
    show p :: ([] ++ (ones r).flatMap T.toL) = p :: r
    rw [List.nil_append, ih]
theorem ones_sum (ps : List (Int × Int)) : sumSize (ones ps) = ps.length := by rw [← sumSize_flat, ones_flat]
theorem ones_all {F : T → Prop} (hF : ∀ p : Int × Int, F (mk p.1 p.2 .nil .nil)) (ps : List (Int × Int)) : ∀ t ∈ ones ps, F t := fun t ht => by
  obtain ⟨p, _, rfl⟩ := List.mem_map.mp ht
  exact hF p
def spPaired : Sp := fun vs H Q _ => ∃ p ws ts, vs = [.ref p] ∧ H p = some (.lst ws) ∧ PilesAt H ws ts ∧ sumSize ts ≤ 63 ∧ ts.length ≤ 63 ∧ ∀ q l us H', Same H H' → H' q = some (.tup [.ref l, .int (pairN ts)]) → H' l = some (.lst us) → PilesAt H' us (pairOff ts) → Q (.ref q) H'
def spPiled : Sp := fun vs H Q _ => ∃ p ws ps, vs = [.ref p] ∧ H p = some (.lst ws) ∧ PairsAt H ws ps ∧ ps.length ≤ 63 ∧ ∀ q u H', Same H H' → H' q = some (.tup [u, .int (outcome (ones ps)).2]) → PileAt H' (outcome (ones ps)).1 u → Q (.ref q) H'
section
variable {X : Cx} {pos : Pos}
theorem pg_tupK (K : PySem.W.Frag) {es : List Expr} {k : Nat} {t : TGs} {n : Nat} (hc : X.calm = true) (h : PGs X es t)
    (hK : X.K = K := by rfl) (hn : (assignEach es X.env).length = n := by rfl) (hst : (assignEach es X.env).findIdx? (·.1) = none := by rfl) : PG X (.Tuple es k pos) (gTup K n t) := by subst hK; exact pg_tup hc h hn hst
end
theorem for_range2 {n : Nat} {g : TG} {tb : TS} {D : Ends} {σ : L2.St} {H : Hp} (Pv : Nat → L2.St → Hp → Prop) (h0 : Pv 0 σ H)
    (hs : ∀ i σ H, i < n → Pv i σ H → g (.int (2 * (i : Int))) σ H fun σ2 H2 => tb { D with nx := Pv (i + 1), ct := Pv (i + 1), bk := D.nx } σ2 H2) (hd : ∀ σ H, Pv n σ H → D.nx σ H) :
    ∃ W : Nat → Nat → L2.St → Hp → Prop, (∃ m, W 0 m σ H) ∧ ∀ i m σ H, W i m σ H →
      ((Its2 n).stop i H ∧ D.nx σ H) ∨ ((Its2 n).go i H ∧ ∃ N : L2.St → Hp → Prop, (∀ σ' H', N σ' H' → ∃ m', m' < m ∧ W (i + 1) m' σ' H') ∧ ∀ x H', (Its2 n).yld i H x H' → g x σ H' fun σ2 H2 => tb { D with nx := N, ct := N, bk := D.nx } σ2 H2) := by
  refine ⟨fun i m σ H => m = n - i ∧ i ≤ n ∧ Pv i σ H, ⟨n, by simp, Nat.zero_le _, h0⟩, ?_⟩
  rintro i m σ H ⟨rfl, hi, p⟩
  by_cases hlt : i < n
  · refine .inr ⟨hlt, Pv (i + 1), fun σ' H' p' => ⟨n - (i + 1), by omega, rfl, hlt, p'⟩, fun x H' y => ?_⟩
    obtain ⟨e, y⟩ := y
    subst e y
    exact hs i σ _ hlt p
  · have e : i = n := by omega
    subst e
    exact .inl ⟨Nat.le_refl _, hd σ H p⟩
theorem pairNs_take (ts : List T) {i : Nat} {n : Nat} (h : (pairNs ts)[i]? = some n) : ((pairNs ts).take (i + 1)).sum = ((pairNs ts).take i).sum + n := by
  have hlt : i < (pairNs ts).length := by
    rcases Nat.lt_or_ge i (pairNs ts).length with h' | h'
    · exact h'
    · rw [List.getElem?_eq_none h'] at h; cases h
  have e : (pairNs ts)[i] = n := by rw [List.getElem?_eq_getElem hlt] at h; exact Option.some.inj h
  rw [List.take_succ_eq_append_getElem hlt, List.sum_append, e]; simp
theorem pairNs_all : ∀ ts : List T, (pairNs ts).sum = pairN ts
  | [] => rfl
  | [_] => rfl
  | a :: b :: r => by
    show joinN a b + (pairNs r).sum = joinN a b + pairN r
    rw [pairNs_all r]
theorem leanT_nil (r a : Int) : leanT r a .nil .nil = mk r a .nil .nil := by unfold leanT; rw [if_neg (by decide)]
end Ph
set_option Elab.async false
set_option linter.all false
set_option maxRecDepth 100000
namespace Ph
open PySem PySem.Spec L2
open PyProof.Rows hiding St
section
variable {prog : Program} {w : World} {A : Around} {R : Result → Shared → Prop} {I : Addr} {fp wr : List Addr} {n : Nat} {P : Nat → Value → Prop} {S : Nat → Heap → Prop}
theorem any_loopK (h0 : Heap) (hwr : ∀ b ∈ wr, h0.get? b = none) (W : Walks prog w A.in1 I fp wr n P S) (tr : Nat → Bool)
    (htr : ∀ i v (s : Shared) (Q : Bool → Shared → Prop) (E : Value → Shared → Prop), P i v → (∀ b o, h0.get? b = some o → s.heap.get? b = some o) → (∀ tk, Q (tr i) { s with toks := tk }) → wpAny (model prog w) A.in1 (truthy v) Q E s) :
    ∀ (k i : Nat) (s : Shared), n - i = k → i ≤ n → S i s.heap → (∀ b o, h0.get? b = some o → s.heap.get? b = some o) →
    (∀ h' tk, (∀ b o, b ∉ wr → s.heap.get? b = some o → h'.get? b = some o) → R (.ok (.ret (.bool (((List.range n).drop i).any tr)))) { s with heap := h', toks := tk }) →
    codeAny (model prog w) A (.builtin "any.loop" ⟨[.ref I], []⟩) R s := by
  intro k
  induction k with
  | zero =>
    intro i s hk hi hst h0s hR
    have hin : i = n := by omega
    subst hin
    refine codeAny_builtin PySem.F.entry_any_loop ?_
    rw [Around.under_plainId PySem.F.plain_any_loop _]
    show wpAny _ A.in1 (pyNext (.ref I) >>= _) _ _ s
    refine wpAny_bind (W.done s _ _ hst fun h' tk hk' => ?_)
    refine wpAny_bind (wpAny_rule (wpAny_pure ?_))
    have := hR h' tk hk'
    rw [List.drop_of_length_le (by simp)] at this
    exact this
  | succ k ih =>
    intro i s hk hi hst h0s hR
    have hlt : i < n := by omega
    have hd : (List.range n).drop i = i :: (List.range n).drop (i + 1) := by
      rw [List.drop_eq_getElem_cons (by simpa using hlt)]; simp
    refine codeAny_builtin PySem.F.entry_any_loop ?_
    rw [Around.under_plainId PySem.F.plain_any_loop _]
    show wpAny _ A.in1 (pyNext (.ref I) >>= _) _ _ s
    refine wpAny_bind (W.item i s _ _ hlt hst fun v h' tk hP hst' hk' => ?_)
    have h0' : ∀ b o, h0.get? b = some o → h'.get? b = some o := fun b o e => hk' b o (fun hb => by rw [hwr b hb] at e; cases e) (h0s b o e)
    refine wpAny_bind (wpAny_holding (htr i v _ _ _ hP h0' fun tk2 => ?_))
    refine wpAny_bind (wpAny_letGo ?_)
    cases hb : tr i with
    | false =>
      simp only [Bool.false_eq_true, if_false]
      refine wpAny_pure ⟨plainId_quiet PySem.F.plain_any_loop _, ih (i + 1) _ (by omega) hlt hst' h0' fun h'' tk'' hk'' => ?_⟩
      have := hR h'' tk'' fun b o hbw e => hk'' b o hbw (hk' b o hbw e)
      rw [hd, List.any_cons, hb, Bool.false_or] at this
      exact this
    | true =>
      simp only [if_true]
      refine wpAny_bind (wpAny_rule (wpAny_pure ?_))
      have := hR h' tk2 hk'
      rw [hd, List.any_cons, hb, Bool.true_or] at this
      exact this
end
section
variable {X : Cx}
def TB (H : Hp) (v : V) (b : Bool) : Prop := v = .bl b ∨ ∃ p xs, v = .ref p ∧ H p = some (.tup xs) ∧ b = !xs.isEmpty
theorem boot_any' : bootBuiltins "any" = some (.builtin "any") := by decide +kernel
theorem boot_all' : bootBuiltins "all" = some (.builtin "all") := by decide +kernel
theorem range_anyD (bs : List Bool) : ((List.range bs.length).any fun i => (bs[i]?).getD false) = bs.any id := by
  have e : (List.range bs.length).map (fun i => (bs[i]?).getD false) = bs := by
    apply List.ext_getElem?
    intro i
    rw [List.getElem?_map]
    by_cases h : i < bs.length
    · rw [List.getElem?_range h, List.getElem?_eq_getElem h]; simp [h]
    · rw [List.getElem?_eq_none (by simpa using h), List.getElem?_eq_none (by simpa using h)]; rfl
  conv => rhs; rw [← e]
  rw [List.any_map]; rfl
theorem range_allD (bs : List Bool) : ((List.range bs.length).all fun i => (bs[i]?).getD true) = bs.all id := by
  have e : (List.range bs.length).map (fun i => (bs[i]?).getD true) = bs := by
    apply List.ext_getElem?
    intro i
    rw [List.getElem?_map]
    by_cases h : i < bs.length
    · rw [List.getElem?_range h, List.getElem?_eq_getElem h]; simp [h]
    · rw [List.getElem?_eq_none (by simpa using h), List.getElem?_eq_none (by simpa using h)]; rfl
  conv => rhs; rw [← e]
  rw [List.all_map]; rfl
theorem keptI {s : Shared} {h' : Heap} {o : Obj} (hk : ∀ b x, b ∉ [s.heap.objs.size] → (s.heap.push o).get? b = some x → h'.get? b = some x) : ∀ b x, s.heap.get? b = some x → h'.get? b = some x :=
  fun b x e => hk b x (fun hm => by rw [List.mem_singleton.mp hm] at e; exact Nat.lt_irrefl _ (Heap.lt_size e)) (Heap.get?_push_of_some _ e)
theorem call_anyL (hc : X.calm = true) : CallR X (.builtin "any") (fun xs H Q => ∃ p vs bs, xs = [.ref p] ∧ H p = some (.lst vs) ∧ Paired (TB H) vs bs ∧ Q (.bl (bs.any id)) H) := by
  rintro pins s σ H xs us Q I r ⟨p, vs, bs, rfl, hp, hb, q⟩
  obtain ⟨u, rfl, ru⟩ := vals1 r
  cases (show u = Value.ref p from ru)
  obtain ⟨its, rv, hl⟩ := lstAt I hp
  have hlt : p < s.heap.objs.size := by obtain ⟨_, e, _⟩ := hl; exact Heap.lt_size e
  have hlen : its.length = bs.length := by rw [← rv.length]; exact paired_len hb
  refine call_function_tree PySem.F.kind_any PySem.F.plain_any PySem.F.entry_any (PySem.F.args_any1 _) ?_
  unfold Builtin.«any»
  refine wpAny_bind (m := oneArg "any" _) (wpAny_pure ?_)
  refine wpAny_bind (wpAny_pyIter_list hl ?_)
  refine wpAny_pure ⟨plainId_quiet PySem.F.plain_any_loop _, any_loopK s.heap (wr := [s.heap.objs.size]) ?_ (Walks.list (A := X.A.in1) (I.ok.hd hc) _ p (Nat.ne_of_lt hlt) its.toArray) (fun i => (bs[i]?).getD false) ?_ its.toArray.size 0 _ rfl (Nat.zero_le _)
    ⟨⟨_, Heap.get?_push_size _ rfl, rfl, rfl⟩, hl.push _⟩ (fun b o e => Heap.get?_push_of_some _ e) fun h' tk hk => ?_⟩
  · intro b hbm
    rw [List.mem_singleton.mp hbm]
    cases e : s.heap.get? s.heap.objs.size with
    | none => rfl
    | some o => exact absurd (Heap.lt_size e) (Nat.lt_irrefl _)
  · intro i v s' Q' E' hP hkk hQ
    have hP' : its[i]? = some v := by simpa using hP
    have hi : i < its.length := by
      rcases Nat.lt_or_ge i its.length with h | h
      · exact h
      · rw [List.getElem?_eq_none h] at hP'; cases hP'
    have hv : i < vs.length := by rw [rv.length]; exact hi
    obtain ⟨u2, e2, r2⟩ := rv.get (i := i) (x := vs[i]) (List.getElem?_eq_getElem hv)
    rw [hP'] at e2
    cases e2
    obtain ⟨b, eb, fb⟩ := paired_get hb (i := i) (x := vs[i]) (List.getElem?_eq_getElem hv)
    have hQ' : ∀ tk, Q' b { s' with toks := tk } := fun tk => by have := hQ tk; rw [eb] at this; exact this
    rcases fb with e | ⟨pp, xx, e, hpp, e'⟩
    · rw [e] at r2
      cases (show v = Value.bool b from r2)
      exact wpAny_truthy_bool (hQ' s'.toks)
    · rw [e] at r2
      cases (show v = Value.ref pp from r2)
      obtain ⟨its2, rv2, ht⟩ := tupAt I hpp
      have hz : its2.length ≤ sizeLine := by
        obtain ⟨_, _, _, hz⟩ := I.tuple (SqT.of (K := X.K) hpp)
        rw [← rv2.length]; omega
      have ht' : IsTup s'.heap pp its2.toArray := by
        obtain ⟨o, ho, hx⟩ := ht
        exact ⟨o, hkk _ _ ho, hx⟩
      have hl63 := line63
      refine truthy_tuple ht' (by rw [List.size_toArray]; omega) ?_
      have e3 : (!its2.toArray.isEmpty) = b := by rw [e', isEmpty_of rv2]
      rw [e3]
      exact hQ' _
  · have e : (List.drop 0 (List.range its.toArray.size)).any (fun i => (bs[i]?).getD false) = bs.any id := by
      rw [List.drop_zero, List.size_toArray, hlen]; exact range_anyD bs
    rw [e]
    exact ⟨.bl _, H, I.kept (keptI hk), rfl, q⟩
theorem call_allB (hc : X.calm = true) : CallR X (.builtin "all") (fun xs H Q => ∃ (p : Addr) (bs : List Bool), xs = [.ref p] ∧ H p = some (.lst (bs.map V.bl)) ∧ Q (.bl (bs.all id)) H) := by
  rintro pins s σ H xs us Q I r ⟨p, bs, rfl, hp, q⟩
  obtain ⟨u, rfl, ru⟩ := vals1 r
  cases (show u = Value.ref p from ru)
  obtain ⟨its, rv, hl⟩ := lstAt I hp
  have hlt : p < s.heap.objs.size := by obtain ⟨_, e, _⟩ := hl; exact Heap.lt_size e
  have hlen : its.length = bs.length := by rw [← rv.length, List.length_map]
  refine call_all_walk (wpAny_pyIter_list hl ?_)
  refine ⟨s.heap.objs.size, [s.heap.objs.size, p], [s.heap.objs.size], its.toArray.size, _, _, fun i => (bs[i]?).getD true, rfl, Walks.list (A := X.A.in1) (I.ok.hd hc) _ p (Nat.ne_of_lt hlt) its.toArray,
    ⟨⟨_, Heap.get?_push_size _ rfl, rfl, rfl⟩, hl.push _⟩, fun i v s' Q' E' hP hQ => ?_, fun h' tk hk => ?_⟩
  · have hP' : its[i]? = some v := by simpa using hP
    have hi : i < its.length := by
      rcases Nat.lt_or_ge i its.length with h | h
      · exact h
      · rw [List.getElem?_eq_none h] at hP'; cases hP'
    have hb : i < bs.length := by omega
    obtain ⟨u2, e2, r2⟩ := rv.get (i := i) (x := V.bl bs[i]) (by rw [List.getElem?_map, List.getElem?_eq_getElem hb]; rfl)
    rw [hP'] at e2
    cases e2
    cases (show v = Value.bool bs[i] from r2)
    have hQ' : Q' ((bs[i]?).getD true) s' := hQ
    rw [List.getElem?_eq_getElem hb] at hQ'
    exact wpAny_truthy_bool hQ'
  · have e : ((List.range its.toArray.size).all fun i => (bs[i]?).getD true) = bs.all id := by
      rw [List.size_toArray, hlen]; exact range_allD bs
    rw [e]
    exact ⟨.bl _, H, I.kept (keptI hk), rfl, q⟩
def tAndP (ta tb : TE) : TE := fun σ H Q => ta σ H fun x H1 => ∃ t, PileAt H1 t x ∧ if decide (t ≠ T.nil) = true then tb σ H1 Q else Q x H1
theorem pe_andP {a b : Expr} {rest : List Expr} {pos : Pos} {ta tb : TE} (ha : PE X a ta) (hb : PE X (.BoolOp .And (b :: rest) pos) tb) : PE X (.BoolOp .And (a :: b :: rest) pos) (tAndP ta tb) := by
  intro pins s σ H Q I h
  refine BoolOp_and (thn (ha pins s σ H _ I h) fun v s1 ⟨x, H1, I1, r1, q1⟩ => ?_)
  obtain ⟨t, ht, q1⟩ := q1
  refine thn (tru_ok pins s1 σ H1 x v (fun c H2 => H2 = H1 ∧ c = decide (t ≠ T.nil)) I1 r1 ⟨_, pileTru ht, rfl, rfl⟩) fun c s2 ⟨H2, I2, e1, e2⟩ => ?_
  subst e1 e2
  cases hd : decide (t ≠ T.nil) with
  | true =>
    rw [hd, if_pos rfl] at q1
    exact hb pins s2 σ H2 Q I2 q1
  | false =>
    rw [hd, if_neg (by decide)] at q1
    exact ⟨x, H2, I2, r1, q1⟩
end
def nodesOf : T → List T
  | .nil => []
  | .node r a l rt rc hd => .node r a l rt rc hd :: (nodesOf l ++ nodesOf rt)
theorem nodesOf_len (t : T) : (nodesOf t).length = t.size := by
  induction t with
  | nil => rfl
  | node r a l rt rc hd ihl ihr => simp [nodesOf, T.size, ihl, ihr]
def topOf : T → Int × Int
  | .nil => (0, 0)
  | .node r a _ _ _ _ => (r, a)
theorem nodesOf_toL (t : T) : (nodesOf t).map topOf = t.toL := by
  induction t with
  | nil => rfl
  | node r a l rt rc hd ihl ihr => simp [nodesOf, T.toL, topOf, ihl, ihr]
def nodeB : T → Bool
  | .nil => true
  | .node r a l rt rc hd => nodeOk r a l rt rc hd
theorem nodesOf_good (t : T) : ((nodesOf t).map nodeB).all id = goodB t := by
  induction t with
  | nil => rfl
  | node r a l rt rc hd ihl ihr =>
    rw [nodesOf, List.map_cons, List.map_append, List.all_cons, List.all_append, ihl, ihr]
    simp [nodeB, goodB, Bool.and_assoc]
theorem nodesOf_node {t x : T} (h : x ∈ nodesOf t) : ∃ r a l rt rc hd, x = .node r a l rt rc hd := by
  induction t with
  | nil => cases h
  | node r a l rt rc hd ihl ihr =>
    rcases List.mem_cons.mp h with e | e
    · exact ⟨_, _, _, _, _, _, e⟩
    · rcases List.mem_append.mp e with e | e
      · exact ihl e
      · exact ihr e
theorem nodeOk_eq (r a : Int) (l rt : T) (rc hd : Int) : ((!topLt l (r, a) && !topLt rt (r, a)) && decide (rt.reach ≤ l.reach) && (decide (rc = rt.reach + 1) && decide (hd = l.held + rt.held + 1))) = nodeOk r a l rt rc hd := by
  unfold nodeOk
  have e1 : (!decide (l.reach < rt.reach)) = decide (rt.reach ≤ l.reach) := by
    by_cases h : l.reach < rt.reach
    · rw [decide_eq_true h, decide_eq_false (by omega)]; rfl
    · rw [decide_eq_false h, decide_eq_true (by omega)]; rfl
  have e2 : decide (hd = 1 + l.held + rt.held) = decide (hd = l.held + rt.held + 1) := by
    by_cases h : hd = l.held + rt.held + 1
    · rw [decide_eq_true h, decide_eq_true (by omega)]
    · rw [decide_eq_false h, decide_eq_false (by omega)]
  rw [e1, e2]
  simp [Bool.and_assoc]
def spParts : Sp := fun vs H Q _ => ∃ v t, vs = [v] ∧ PileAt H t v ∧ t.size ≤ 100 ∧ ∀ q ws H', Same H H' → H' q = some (.lst ws) → PilesAt H' ws (nodesOf t) → Q (.ref q) H'
def spTopW : Sp := fun vs H Q _ => ∃ v r a l rt rc hd, vs = [v] ∧ PileAt H (.node r a l rt rc hd) v ∧ ∀ H', Same H H' → Q (.bl (!topLt l (r, a) && !topLt rt (r, a))) H'
def spLeans : Sp := fun vs H Q _ => ∃ v r a l rt rc hd, vs = [v] ∧ PileAt H (.node r a l rt rc hd) v ∧ Q (.bl (decide (rt.reach ≤ l.reach))) H
def spNumW : Sp := fun vs H Q _ => ∃ v r a l rt rc hd, vs = [v] ∧ PileAt H (.node r a l rt rc hd) v ∧ ∀ H', Same H H' → Q (.bl (decide (rc = rt.reach + 1) && decide (hd = l.held + rt.held + 1))) H'
end Ph
set_option Elab.async false
set_option linter.all false
set_option maxRecDepth 100000
namespace Ph
open PySem PySem.Spec L2
open PyProof.Rows hiding St
section
variable {X : Cx} {pos : Pos}
theorem ps_tryN {body : List Stmt} {h₀ : ExceptHandler} {hs : List ExceptHandler} {tb : TS} (hb : PSs X body tb) (hx : ∀ e s, X.xe e s → False := by intro _ _ z; exact z) : PS X (.Try body (h₀ :: hs) [] [] pos) tb := by
  intro pins s σ H D I h
  refine wpAny_Try_except (wpAny_mono (hb pins s σ H D I h) (fun f s1 q => ?_) fun e s1 z => (hx e s1 z).elim)
  cases f with
  | next => exact wpAny_execs_nil q
  | brk => exact q
  | cont => exact q
  | ret u => exact q
end
end Ph
set_option Elab.async false
set_option linter.all false
set_option maxRecDepth 100000
namespace Ph
open PySem PySem.Spec PySem.W
open PyProof.Rows hiding St
theorem exc_isi {K : Frag} {prog : Program} {w : World} {A : Around} {E : Value → Shared → Prop} {Q : Value → Shared → Prop} {s : Shared} {x t C L : Addr} {g0 : Heap} {nn : List (Addr × Obj)} {vs : List Value} {T : String}
    (X : K.In s.heap) (N : News g0 L s.heap nn) (G : Got nn x t (.ref C) vs) (ek : kitCls K (.ref C) (.type T) = some true) (hq : ∀ tk, Q (.bool true) { s with toks := tk }) :
    wpAny (model prog w) A (call (.builtin "isinstance") [.ref x, .type T]) Q E s := by
  obtain ⟨ox, _, _, _, hm, _, hc, _⟩ := G
  have hx := (N _ hm).1
  have L1 : Looks (model prog w) s.heap (typeOf (.ref x)) (.ref C) := hc ▸ (Looks.ld hx).andThen .now
  obtain ⟨k1, k2, k3⟩ := kit_cls (M := model prog w) X ek
  have L2' : Looks (model prog w) s.heap (isInstance (.ref x) (.type T)) true := L1.andThen k3
  refine call_isinstance_of ?_
  have n1 : ¬ (Value.ref C == Value.type T) = true := fun z => by cases beq_iff_eq.mp z
  unfold Builtin.«isinstance.nested»
  refine wpAny_bind (L1.here ?_)
  rw [if_neg n1]
  refine wpAny_bind (k1.here ?_)
  rw [if_pos (show _ = true from by decide)]
  k_delta "plainIsInstance"
  refine wpAny_bind (wpAny_bind (k2.here ?_))
  simp only [Bool.not_true, if_false, Bool.false_eq_true]
  refine wpAny_bind (L2'.here ?_)
  have q0 := hq s.toks
  first
    | exact wpAny_pure (wpAny_pure q0)
    | (simp only [if_true]; exact wpAny_pure (wpAny_pure q0))
    | (simp only [if_true]; exact wpAny_pure q0)
    | (simp only [if_true]; exact wpAny_bind (wpAny_pure (wpAny_pure q0)))
theorem exc_isi1 {K : Frag} {prog : Program} {w : World} {A : Around} {E : Value → Shared → Prop} {Q : Value → Shared → Prop} {s : Shared} {x t C L : Addr} {g0 : Heap} {nn : List (Addr × Obj)} {vs : List Value} {T : String}
    (X : K.In s.heap) (N : News g0 L s.heap nn) (G : Got nn x t (.ref C) vs) (ek : kitOne K (.ref C) (.type T) = some true) (hq : ∀ tk, Q (.bool true) { s with toks := tk }) :
    wpAny (model prog w) A (call (.builtin "isinstance") [.ref x, .type T]) Q E s := by
  refine exc_isi X N G ?_ hq
  have n1 : ¬ (Value.ref C == Value.type T) = true := fun z => by cases beq_iff_eq.mp z
  unfold kitOne at ek
  rwa [if_neg n1] at ek
end Ph
namespace Ph
open PySem PySem.Spec L2
open PyProof.Rows hiding St
def top (i : Nat) : Stmt := PySem.Challenge.pw_pilehall_k01_taken.main.body.getD i (.Pass ⟨0, 0, 0, 0⟩)
abbrev s_thing_on : Stmt := top 10
abbrev s_reach_of : Stmt := top 11
abbrev s_held_of : Stmt := top 12
abbrev s_comes_ahead : Stmt := top 13
abbrev s_topped : Stmt := top 14
abbrev s_leaning : Stmt := top 15
abbrev s_joined : Stmt := top 16
abbrev s_taken : Stmt := top 17
abbrev s_law_whole : Stmt := top 19
abbrev s_law_on_top : Stmt := top 20
abbrev s_law_piles_by : Stmt := top 21
abbrev s_law_greatest : Stmt := top 22
abbrev s_law_all_in : Stmt := top 23
abbrev s_law_form : Stmt := top 24
abbrev s_law_is_good : Stmt := top 25
abbrev s_law_pairs_are : Stmt := top 26
abbrev s_law_merged : Stmt := top 27
abbrev s_law_refuses : Stmt := top 28
abbrev s_law : Stmt := top 29
structure Nums (mg : Str → Option Value) : Prop where
  rank : IntAt mg "RANK" 0
  age : IntAt mg "AGE" 1
  left : IntAt mg "LEFT" 2
  right : IntAt mg "RIGHT" 3
  reach : IntAt mg "REACH" 4
  held : IntAt mg "HELD" 5
section
variable {P : Program} {w : World} {K : PySem.W.Frag} {mg : Str → Option Value} {base : Heap}
theorem sc_thing : FnScope ["pile"] ["pile"] (defScope s_thing_on) := ⟨rfl, rfl, rfl, by decide +kernel, rfl, by decide +kernel, by decide +kernel⟩
theorem ok_thing (O : Own K mg "thing_on" s_thing_on) (N : Nums mg) : Has P w K mg base 1 "thing_on" ["pile"] spThing := by
  refine O.has sc_thing (fun _ _ _ _ _ _ => by1 fun _ => rfl) (fun vs H Q E h => ?_) (fun f cdv A outer s H vs Q E hr h => ?_)
  · obtain ⟨v, r, a, l, rt, rc, hd, rfl, _⟩ := h; rfl
  obtain ⟨v, r, a, l, rt, rc, hd, rfl, hv, k⟩ := h
  obtain ⟨p, vl, vr, rfl, hp, hl, hrt⟩ := nodeAt hv
  refine ⟨_, pss_one (ps_ret (pe_tup (pa_cons (pe_ix ix_tup (pv 0) (pe_gint N.rank) (fun _ _ => rfl)) (pa_cons (pe_ix ix_tup (pv 0) (pe_gint N.age) (fun _ _ => rfl)) pa_nil)))), ?_⟩
  refine ⟨_, rfl, p, _, _, _, rfl, rfl, SqT.of hp, rfl, _, rfl, p, _, _, _, rfl, rfl, SqT.of hp, rfl, (by show 2 ≤ sizeLine; decide), fun q hq => ?_⟩
  exact k _ _ (same_new hq _) pairNew
theorem sc_reach : FnScope ["pile"] ["pile"] (defScope s_reach_of) := ⟨rfl, rfl, rfl, by decide +kernel, rfl, by decide +kernel, by decide +kernel⟩
theorem ok_reach (O : Own K mg "reach_of" s_reach_of) (N : Nums mg) : Has P w K mg base 1 "reach_of" ["pile"] spReach := by
  refine O.has sc_reach (fun _ _ _ _ _ _ => by1 fun _ => rfl) (fun vs H Q E h => ?_) (fun f cdv A outer s H vs Q E hr h => ?_)
  · obtain ⟨v, t, rfl, _⟩ := h; rfl
  obtain ⟨v, t, rfl, hv, k⟩ := h
  refine ⟨_, pss_one (ps_ret (pe_ifExp (pt_truth (pv 0) (fun _ => rfl)) (pe_ix ix_tup (pv 0) (pe_gint N.reach) (fun _ _ => rfl)) pe_int)), ?_⟩
  refine ⟨_, rfl, _, pileTru hv, ?_⟩
  cases t with
  | nil => exact iteF k
  | node r a l rt rc hd =>
    obtain ⟨p, vl, vr, rfl, hp, hl, hrt⟩ := nodeAt hv
    exact iteT ⟨_, rfl, p, _, _, _, rfl, rfl, SqT.of hp, rfl, k⟩
theorem sc_held : FnScope ["pile"] ["pile"] (defScope s_held_of) := ⟨rfl, rfl, rfl, by decide +kernel, rfl, by decide +kernel, by decide +kernel⟩
theorem ok_held (O : Own K mg "held_of" s_held_of) (N : Nums mg) : Has P w K mg base 1 "held_of" ["pile"] spHeld := by
  refine O.has sc_held (fun _ _ _ _ _ _ => by1 fun _ => rfl) (fun vs H Q E h => ?_) (fun f cdv A outer s H vs Q E hr h => ?_)
  · obtain ⟨v, t, rfl, _⟩ := h; rfl
  obtain ⟨v, t, rfl, hv, k⟩ := h
  refine ⟨_, pss_one (ps_ret (pe_ifExp (pt_truth (pv 0) (fun _ => rfl)) (pe_ix ix_tup (pv 0) (pe_gint N.held) (fun _ _ => rfl)) pe_int)), ?_⟩
  refine ⟨_, rfl, _, pileTru hv, ?_⟩
  cases t with
  | nil => exact iteF k
  | node r a l rt rc hd =>
    obtain ⟨p, vl, vr, rfl, hp, hl, hrt⟩ := nodeAt hv
    exact iteT ⟨_, rfl, p, _, _, _, rfl, rfl, SqT.of hp, rfl, k⟩
theorem sc_ahead : FnScope ["one", "two"] ["one", "two"] (defScope s_comes_ahead) := ⟨rfl, rfl, rfl, by decide +kernel, rfl, by decide +kernel, by decide +kernel⟩
theorem ok_ahead (O : Own K mg "comes_ahead" s_comes_ahead) (GT : Has P w K mg base 1 "thing_on" ["pile"] spThing) : Has P w K mg base 2 "comes_ahead" ["one", "two"] spAhead := by
  refine O.has sc_ahead (fun _ _ _ _ _ _ => by2 fun _ _ => rfl) (fun vs H Q E h => ?_) (fun f cdv A outer s H vs Q E hr h => ?_)
  · obtain ⟨v, r, a, l, rt, rc, hd, v', r', a', l', rt', rc', hd', rfl, _⟩ := h; rfl
  obtain ⟨v, r, a, l, rt, rc, hd, v', r', a', l', rt', rc', hd', rfl, hv, hv', k⟩ := h
  refine ⟨_, pss_one (ps_ret (pe_cmpR (op_ltT hr.units0) (pe_fn GT hr (pa_cons (pv 0) pa_nil)) (pe_fn GT hr (pa_cons (pv 1) pa_nil)) (nomark _))), ?_⟩
  refine ⟨_, rfl, _, r, a, l, rt, rc, hd, rfl, hv, fun u H1 s1 hu => ?_⟩
  refine ⟨_, rfl, _, r', a', l', rt', rc', hd', rfl, hv'.mono (.of s1), fun u' H2 s2 hu' => ?_⟩
  obtain ⟨q, rfl, hq⟩ := hu.mono (.of s2)
  obtain ⟨q', rfl, hq'⟩ := hu'
  refine ⟨q, q', [r, a], [r', a'], rfl, rfl, SqT.of hq, SqT.of hq', ?_⟩
  rw [lexLt2 (r, a) (r', a')]
  exact k H2 (s1.trans s2)
theorem sc_topped : FnScope ["thing", "left", "right"] ["thing", "left", "right"] (defScope s_topped) := ⟨rfl, rfl, rfl, by decide +kernel, rfl, by decide +kernel, by decide +kernel⟩
theorem ok_topped (O : Own K mg "topped" s_topped) (N : Nums mg) (GR : Has P w K mg base 1 "reach_of" ["pile"] spReach) (GH : Has P w K mg base 1 "held_of" ["pile"] spHeld) : Has P w K mg base 2 "topped" ["thing", "left", "right"] spTopped := by
  refine O.has sc_topped (fun _ _ _ _ _ _ => by3 fun _ _ _ => rfl) (fun vs H Q E h => ?_) (fun f cdv A outer s H vs Q E hr h => ?_)
  · obtain ⟨u, vl, vr, p, l, rt, rfl, _⟩ := h; rfl
  obtain ⟨u, vl, vr, p, l, rt, rfl, ⟨q, rfl, hq⟩, hl, hrt, k⟩ := h
  refine ⟨_, pss_one (ps_ret (pe_tup (pa_cons (pe_ix ix_tup (pv 0) (pe_gint N.rank) (fun _ _ => rfl)) (pa_cons (pe_ix ix_tup (pv 0) (pe_gint N.age) (fun _ _ => rfl)) (pa_cons (pv 1) (pa_cons (pv 2)
    (pa_cons (pe_op op_add (pe_fn GR hr (pa_cons (pv 2) pa_nil)) pe_int) (pa_cons (pe_op op_add (pe_op op_add (pe_fn GH hr (pa_cons (pv 1) pa_nil)) (pe_fn GH hr (pa_cons (pv 2) pa_nil))) pe_int) pa_nil)))))))), ?_⟩
  refine ⟨_, rfl, q, _, _, _, rfl, rfl, SqT.of hq, rfl, _, rfl, q, _, _, _, rfl, rfl, SqT.of hq, rfl, _, rfl, _, rfl, ?_⟩
  refine ⟨_, rfl, _, rt, rfl, hrt, _, _, rfl, rfl, ?_⟩
  refine ⟨_, rfl, _, l, rfl, hl, _, rfl, _, rt, rfl, hrt, _, _, rfl, rfl, _, _, rfl, rfl, (by show 6 ≤ sizeLine; decide), fun z hz => ?_⟩
  exact k _ _ (same_new hz _) ⟨z, vl, vr, rfl, upd_same, hl.mono (.new hz _), hrt.mono (.new hz _)⟩
theorem sc_leaning : FnScope ["thing", "old_left", "other"] ["thing", "old_left", "other"] (defScope s_leaning) := ⟨rfl, rfl, rfl, by decide +kernel, rfl, by decide +kernel, by decide +kernel⟩
theorem ok_leaning (O : Own K mg "leaning" s_leaning) (GR : Has P w K mg base 1 "reach_of" ["pile"] spReach) (GT : Has P w K mg base 2 "topped" ["thing", "left", "right"] spTopped) : Has P w K mg base 3 "leaning" ["thing", "old_left", "other"] spLeaning := by
  refine O.has sc_leaning (fun _ _ _ _ _ _ => by3 fun _ _ _ => rfl) (fun vs H Q E h => ?_) (fun f cdv A outer s H vs Q E hr h => ?_)
  · obtain ⟨u, vl, vr, p, l, rt, rfl, _⟩ := h; rfl
  obtain ⟨u, vl, vr, p, l, rt, rfl, hu, hl, hrt, k⟩ := h
  refine ⟨_, pss_cons (ps_if (pt_cmpR op_gt (pe_fn GR hr (pa_cons (pv 2) pa_nil)) (pe_fn GR hr (pa_cons (pv 1) pa_nil)) (nomark _)) (pss_one (ps_ret (pe_fn GT hr (pa_cons (pv 0) (pa_cons (pv 2) (pa_cons (pv 1) pa_nil)))))) pss_nil)
    (pss_one (ps_ret (pe_fn GT hr (pa_cons (pv 0) (pa_cons (pv 1) (pa_cons (pv 2) pa_nil)))))), ?_⟩
  refine ⟨_, rfl, _, rt, rfl, hrt, _, rfl, _, l, rfl, hl, _, _, rfl, rfl, _, rfl, ?_⟩
  refine ite2 (fun c => ?_) (fun c => ?_)
  · have c' : l.reach < rt.reach := of_decide_eq_true c
    refine ⟨_, rfl, _, rfl, _, rfl, _, _, _, p, rt, l, rfl, hu, hrt, hl, fun v H' s' h' => k v H' s' ?_⟩
    unfold leanT; rw [if_pos c']; exact h'
  · have c' : ¬ l.reach < rt.reach := fun z => c (decide_eq_true z)
    refine ⟨_, rfl, _, rfl, _, rfl, _, _, _, p, l, rt, rfl, hu, hl, hrt, fun v H' s' h' => k v H' s' ?_⟩
    unfold leanT; rw [if_neg c']; exact h'
end
section
variable {P : Program} {w : World} {K : PySem.W.Frag} {mg : Str → Option Value} {base : Heap}
theorem sc_joined : FnScope ["one", "two", "tops", "pile", "top"] ["one", "two"] (defScope s_joined) := ⟨rfl, rfl, rfl, by decide +kernel, rfl, by decide +kernel, by decide +kernel⟩
theorem ok_joined (O : Own K mg "joined" s_joined) (N : Nums mg) (B : Bare mg) (GT : Has P w K mg base 1 "thing_on" ["pile"] spThing) (GA : Has P w K mg base 2 "comes_ahead" ["one", "two"] spAhead) (GL : Has P w K mg base 3 "leaning" ["thing", "old_left", "other"] spLeaning) :
    Has P w K mg base 4 "joined" ["one", "two"] spJoined := by
  refine O.has sc_joined (fun _ _ _ _ _ _ => by2 fun _ _ => rfl) (fun vs H Q E h => ?_) (fun f cdv A outer s H vs Q E hr h => ?_)
  · obtain ⟨v, v', s, t, rfl, _⟩ := h; rfl
  obtain ⟨v, v', a0, b0, rfl, hv, hv', hsz, k⟩ := h
  refine ⟨_, pss_cons (ps_set (i := 2) sc_joined.nd rfl (Or.inl rfl) (pe_lst pa_nil))
    (pss_cons (ps_while PassesOwn.never (pw_and (pt_truth (pv 0) (fun _ => rfl)) (pw_and1 (pt_truth (pv 1) (fun _ => rfl)))).pt
      (pss_one (ps_if (pt_truth (pe_fn GA hr (pa_cons (pv 1) (pa_cons (pv 0) pa_nil))) (fun _ => rfl))
        (pss_cons (ps_expr (pe_bm PySem.F.plainAttrs_list PySem.F.slot_list_append PySem.F.type_list_append mt_append (pv 2) (pa_cons (pv 1) pa_nil))) (pss_one (ps_set (i := 1) sc_joined.nd rfl (Or.inl rfl) (pe_ix ix_tup (pv 1) (pe_gint N.right) (fun _ _ => rfl)))))
        (pss_cons (ps_expr (pe_bm PySem.F.plainAttrs_list PySem.F.slot_list_append PySem.F.type_list_append mt_append (pv 2) (pa_cons (pv 0) pa_nil))) (pss_one (ps_set (i := 0) sc_joined.nd rfl (Or.inl rfl) (pe_ix ix_tup (pv 0) (pe_gint N.right) (fun _ _ => rfl))))))))
    (pss_cons (ps_set (i := 3) sc_joined.nd rfl (Or.inl rfl) (pe_ifExp (pt_truth (pv 0) (fun _ => rfl)) (pv 0) (pv 1)))
    (pss_cons (ps_for PassesOwn.never rfl (pi_rev rfl B.rev (pa_cons (pv 2) pa_nil)) (pg_name (i := 4) sc_joined.nd rfl (Or.inl rfl))
      (pss_one (ps_set (i := 3) sc_joined.nd rfl (Or.inl rfl) (pe_fn GL hr (pa_cons (pe_fn GT hr (pa_cons (pv 4) pa_nil)) (pa_cons (pe_ix ix_tup (pv 4) (pe_gint N.left) (fun _ _ => rfl)) (pa_cons (pv 3) pa_nil)))))))
    (pss_one (ps_ret (pe_tup (pa_cons (pv 3) (pa_cons (pe_callB call_len_seq rfl B.len PySem.boot_len (pa_cons (pv 2) pa_nil)) pa_nil)))))))), ?_⟩
  refine ⟨(by show 0 ≤ sizeLine; decide), fun L hL => ?_⟩
  refine ⟨fun m σ H2 => ∃ one two a b vs ts, σ = [some one, some two, some (.ref L), none, none] ∧ JW H H2 L a0 b0 one two a b vs ts ∧ m = a.size + b.size,
    ⟨_, v, v', a0, b0, [], [], rfl, ⟨same_new hL _, upd_same, hv.mono (.new hL _), hv'.mono (.new hL _), .nil, fun x hx => (by cases hx), rfl, rfl, Nat.le_refl _⟩, rfl⟩, ?_⟩
  rintro m σ H2 ⟨one, two, a, b, vs, ts, rfl, j, rfl⟩
  have after : ∀ {c : T}, join a b = c → joinN a b = 0 → ∀ u, PileAt H2 c u →
      tSeq (tFor (iRev K (tCons (tVar 2) tNil)) (gName 4) (tAsg (tCall spLeaning [] E0 (tCons (tCall spThing [] E0 (tCons (tVar 4) tNil)) (tCons (tOp (rIxT K) (tVar 4) (tC (.int 2))) (tCons (tVar 3) tNil)))) (gName 3)))
        (tRet (tTup (tCons (tVar 3) (tCons (tCB (fun xs H Q => ∃ p ys, xs = [.ref p] ∧ (SqL K H p ys ∨ SqT K H p ys) ∧ Q (.int ys.length) H) (tCons (tVar 2) tNil)) tNil)))) { nx := fun _ H' => Q .non H', rt := Q } [some one, some two, some (.ref L), some u, none] H2 := by
    intro c ec en u hu
    refine ⟨_, rfl, L, vs, rfl, SqL.of j.lst, ?_⟩
    have hlen : vs.length = ts.length := paired_len j.ps
    refine for_rev (K := K) (a := L) (xs := vs) (fun i σ H3 => ∃ pile acc tp, σ = [some one, some two, some (.ref L), some pile, tp] ∧ Same H2 H3 ∧ PileAt H3 acc pile ∧ acc = (ts.drop (ts.length - i)).foldr glue c)
      ⟨u, c, none, rfl, .refl _, hu, by rw [Nat.sub_zero, List.drop_length]; rfl⟩ (fun i σ H3 _ ⟨_, _, _, _, s3, _⟩ => SqL.of (s3 _ _ j.lst)) ?_ ?_
    · rintro i x σ H3 hi hx ⟨pile, acc, tp, rfl, s3, hp, ea⟩
      obtain ⟨y, ey, fy⟩ := paired_get j.ps hx
      have hy : y ∈ ts := List.mem_of_getElem? ey
      cases y with
      | nil => exact absurd rfl (j.nn _ hy)
      | node r a l rt rc hd =>
        have fy3 : PileAt H3 (.node r a l rt rc hd) x := PileAt.mono (.of s3) fy
        refine ⟨_, rfl, _, r, a, l, rt, rc, hd, rfl, fy3, fun w1 H4 s4 hw1 => ?_⟩
        obtain ⟨p, vl, vr, rfl, hp4, hl4, hr4⟩ := nodeAt (fy3.mono (.of s4))
        refine ⟨_, rfl, p, _, _, _, rfl, rfl, SqT.of hp4, rfl, _, rfl, _, _, _, (r, a), l, acc, rfl, hw1, hl4, hp.mono (.of s4), fun u' H5 s5 hu' => ?_⟩
        refine ⟨u', _, _, rfl, (s3.trans s4).trans s5, hu', ?_⟩
        have e1 : ts.length - (i + 1) = vs.length - 1 - i := by omega
        have e2 : ts.length - i = ts.length - (i + 1) + 1 := by omega
        rw [ea]
        rw [e1] at e2 ⊢
        rw [List.drop_eq_getElem_cons (i := vs.length - 1 - i) (by omega), List.foldr_cons]
        have e3 : ts[vs.length - 1 - i]'(by omega) = .node r a l rt rc hd := by
          rw [List.getElem?_eq_getElem (by omega)] at ey
          exact Option.some.inj ey
        rw [e3, ← e2]; rfl
    · rintro σ H3 ⟨pile, acc, tp, rfl, s3, hp, ea⟩
      rw [hlen, Nat.sub_self, List.drop_zero] at ea
      refine ⟨_, rfl, _, rfl, L, vs, rfl, .inl (SqL.of (s3 _ _ j.lst)), (by show 2 ≤ sizeLine; decide), fun q hq => ?_⟩
      have ejn : joinN a0 b0 = vs.length := by rw [j.cn, en, hlen]; omega
      refine k q pile _ ((j.same.trans s3).trans (same_new hq _)) (by rw [ejn]; exact upd_same) ?_
      rw [j.jn, ec, ← ea]
      exact hp.mono (.new hq _)
  refine ⟨_, rfl, _, pileTru j.pa, ?_⟩
  cases a with
  | nil =>
    refine iteF (iteF ?_)
    refine ⟨_, rfl, _, pileTru j.pa, iteF ?_⟩
    exact ⟨_, rfl, after (join_nil_left _) (joinN_nil_left _) two j.pb⟩
  | node r a l rt rc hd =>
    refine iteT ⟨_, rfl, _, pileTru j.pb, ?_⟩
    cases b with
    | nil =>
      refine iteF ?_
      refine ⟨_, rfl, _, pileTru j.pa, iteT ?_⟩
      exact ⟨_, rfl, after (join_nil_right _) (joinN_nil_right _) one j.pa⟩
    | node r' a' l' rt' rc' hd' =>
      refine iteT ⟨_, fun σ' H' z => z, ?_⟩
      refine ⟨_, rfl, _, rfl, _, r', a', l', rt', rc', hd', _, r, a, l, rt, rc, hd, rfl, j.pb, j.pa, fun H3 s3 => ⟨_, rfl, ?_⟩⟩
      have hL3 : H3 L = some (.lst vs) := s3 _ _ j.lst
      have hvl : vs.length < sizeLine := szl (by
        have := j.sz
        have h1 := paired_len j.ps
        omega)
      cases hc : lt2 (r', a') (r, a) with
      | true =>
        refine iteT ?_
        obtain ⟨p, vl, vr, rfl, hp, hl, hrt⟩ := nodeAt (j.pb.mono (.of s3))
        have j' := j.two hL s3 hc (vl := vl) hrt
        refine ⟨_, rfl, .inl ⟨rfl, _, SqL.of hL3⟩, _, rfl, L, _, _, rfl, rfl, hL3, hvl, ?_⟩
        refine ⟨_, rfl, p, _, _, _, rfl, rfl, SqT.of (Tups.put hL3 _ _ hp), rfl, ?_⟩
        exact ⟨_, by simp only [T.size]; omega, one, vr, _, _, _, _, rfl, j', rfl⟩
      | false =>
        refine iteF ?_
        obtain ⟨p, vl, vr, rfl, hp, hl, hrt⟩ := nodeAt (j.pa.mono (.of s3))
        have j' := j.one hL s3 (by rw [hc]; decide) (vl := vl) hrt
        refine ⟨_, rfl, .inl ⟨rfl, _, SqL.of hL3⟩, _, rfl, L, _, _, rfl, rfl, hL3, hvl, ?_⟩
        refine ⟨_, rfl, p, _, _, _, rfl, rfl, SqT.of (Tups.put hL3 _ _ hp), rfl, ?_⟩
        exact ⟨_, by simp only [T.size]; omega, vr, two, _, _, _, _, rfl, j', rfl⟩
end
section
variable {P : Program} {w : World} {K : PySem.W.Frag} {mg : Str → Option Value} {base : Heap}
theorem sc_taken : FnScope ["pile", "rest"] ["pile"] (defScope s_taken) := ⟨rfl, rfl, rfl, by decide +kernel, rfl, by decide +kernel, by decide +kernel⟩
theorem ok_taken (O : Own K mg "taken" s_taken) (N : Nums mg) (GT : Has P w K mg base 1 "thing_on" ["pile"] spThing) (GJ : Has P w K mg base 4 "joined" ["one", "two"] spJoined) : Has P w K mg base 5 "taken" ["pile"] spTaken := by
  refine O.has sc_taken (fun _ _ _ _ _ _ => by1 fun _ => rfl) (fun vs H Q E h => ?_) (fun f cdv A outer s H vs Q E hr h => ?_)
  · obtain ⟨v, r, a, l, rt, rc, hd, rfl, _⟩ := h; rfl
  obtain ⟨v, r, a, l, rt, rc, hd, rfl, hv, hsz, k⟩ := h
  refine ⟨_, pss_cons (ps_if (pt_not (pt_truth (pv 0) (fun _ => rfl))) pss_never pss_nil)
    (pss_cons (ps_set (i := 1) sc_taken.nd rfl (Or.inl rfl) (pe_fn GJ hr (pa_cons (pe_ix ix_tup (pv 0) (pe_gint N.left) (fun _ _ => rfl)) (pa_cons (pe_ix ix_tup (pv 0) (pe_gint N.right) (fun _ _ => rfl)) pa_nil))))
    (pss_one (ps_ret (pe_tup (pa_cons (pe_fn GT hr (pa_cons (pv 0) pa_nil)) (pa_cons (pe_ix ix_tup (pv 1) pe_int (fun _ _ => rfl)) (pa_cons (pe_ix ix_tup (pv 1) pe_int (fun _ _ => rfl)) pa_nil))))))), ?_⟩
  refine ⟨_, rfl, _, pileTru hv, iteF ?_⟩
  obtain ⟨p, vl, vr, rfl, hp, hl, hrt⟩ := nodeAt hv
  refine ⟨_, rfl, p, _, _, _, rfl, rfl, SqT.of hp, rfl, _, rfl, p, _, _, _, rfl, rfl, SqT.of hp, rfl, vl, vr, l, rt, rfl, hl, hrt, hsz, fun q u H1 s1 hq hu => ?_⟩
  refine ⟨_, rfl, _, r, a, l, rt, rc, hd, rfl, hv.mono (.of s1), fun w1 H2 s2 hw1 => ?_⟩
  have hq2 := s2 _ _ hq
  refine ⟨_, rfl, q, _, _, _, rfl, rfl, SqT.of hq2, rfl, _, rfl, q, _, _, _, rfl, rfl, SqT.of hq2, rfl, (by show 3 ≤ sizeLine; decide), fun z hz => ?_⟩
  exact k z w1 u _ ((s1.trans s2).trans (same_new hz _)) upd_same (hw1.mono (.new hz _)) ((hu.mono (.of s2)).mono (.new hz _))
end
section
variable {P : Program} {w : World} {K : PySem.W.Frag} {mg : Str → Option Value} {base : Heap}
theorem sc_law_whole : FnScope ["_law_found"] ["_law_found"] (defScope s_law_whole) := ⟨rfl, rfl, rfl, by decide +kernel, rfl, by decide +kernel, by decide +kernel⟩
theorem ok_whole (O : Own K mg "_law_whole" s_law_whole) (B : Bare mg) : Has P w K mg base 1 "_law_whole" ["_law_found"] spWhole := by
  refine O.has sc_law_whole (fun _ _ _ _ _ _ => by1 fun _ => rfl) (fun vs H Q E h => ?_) (fun f cdv A outer s H vs Q E hr h => ?_)
  · obtain ⟨i, rfl, _⟩ := h; rfl
  obtain ⟨i, rfl, k⟩ := h
  refine ⟨_, (pss_one (ps_ret (pe_and (pe_callB call_isi rfl B.isi boot_isi (pa_cons (pv 0) (pa_cons (pe_bltn (v := .ty "int") rfl B.int boot_int' rfl) pa_nil))) (pe_one (pe_not (pe_callB call_isi rfl B.isi boot_isi (pa_cons (pv 0) (pa_cons (pe_bltn (v := .ty "bool") rfl B.bool boot_bool' rfl) pa_nil)))))))), ?_⟩
  refine ⟨_, rfl, _, _, _, _, rfl, TyOf.int i, kit_ii K, _, rfl, iteT ?_⟩
  exact ⟨_, rfl, _, _, _, _, rfl, TyOf.int i, kit_ib K, _, rfl, k⟩
theorem sc_law_on_top : FnScope ["_law_thing", "_law_one", "_law_two", "_law_reach", "_law_held", "_law_k", "_law_below"] ["_law_thing", "_law_one", "_law_two"] (defScope s_law_on_top) := ⟨rfl, rfl, rfl, by decide +kernel, rfl, by decide +kernel, by decide +kernel⟩
theorem ok_ontop (O : Own K mg "_law_on_top" s_law_on_top) (B : Bare mg) : Has P w K mg base 1 "_law_on_top" ["_law_thing", "_law_one", "_law_two"] spOnTop := by
  refine O.has sc_law_on_top (fun _ _ _ _ _ _ => by3 fun _ _ _ => rfl) (fun vs H Q E h => ?_) (fun f cdv A outer s H vs Q E hr h => ?_)
  · obtain ⟨u, v1, v2, p, a, b, rfl, _⟩ := h; rfl
  obtain ⟨u, v1, v2, p, a, b, rfl, hu, ha, hb, za, zb, k⟩ := h
  refine ⟨_, (pss_cons (ps_set (i := 3) sc_law_on_top.nd rfl (Or.inl rfl) (pe_lst (pa_cons pe_int (pa_cons pe_int pa_nil))))
    (pss_cons (ps_set (i := 4) sc_law_on_top.nd rfl (Or.inl rfl) pe_int)
    (pss_cons (ps_for PassesOwn.never rfl (pi_range1 rfl B.range (pa_cons pe_int pa_nil)) (pg_name (i := 5) sc_law_on_top.nd rfl (Or.inl rfl))
      (pss_cons (ps_set (i := 6) sc_law_on_top.nd rfl (Or.inl rfl) (pe_ix ix_list (pe_lst (pa_cons (pv 1) (pa_cons (pv 2) pa_nil))) (pv 5) (fun _ _ => rfl)))
        (pss_one (ps_if (pt_cmpR (op_nePile (hu110 hr)) (pv 6) (pe_tup pa_nil) (nomark _))
          (pss_cons (ps_asg (pe_ix ix_tup (pv 6) pe_int (fun _ _ => rfl)) (pg_sub (pv 3) (pv 5) set_list))
            (pss_one (ps_set (i := 4) sc_law_on_top.nd rfl (Or.inl rfl) (pe_op op_add (pv 4) (pe_ix ix_tup (pv 6) pe_int (fun _ _ => rfl))))))
          pss_nil))))
    (pss_cons (ps_if (pt_cmpR op_lt (pe_ix ix_list (pv 3) pe_int (fun _ _ => rfl)) (pe_ix ix_list (pv 3) pe_int (fun _ _ => rfl)) (nomark _))
      (pss_one (ps_ret (pe_tup (pa_cons (pe_ix ix_tup (pv 0) pe_int (fun _ _ => rfl)) (pa_cons (pe_ix ix_tup (pv 0) pe_int (fun _ _ => rfl)) (pa_cons (pv 2) (pa_cons (pv 1) (pa_cons (pe_op op_add (pe_ix ix_list (pv 3) pe_int (fun _ _ => rfl)) pe_int) (pa_cons (pv 4) pa_nil)))))))))
      pss_nil)
    (pss_one (ps_ret (pe_tup (pa_cons (pe_ix ix_tup (pv 0) pe_int (fun _ _ => rfl)) (pa_cons (pe_ix ix_tup (pv 0) pe_int (fun _ _ => rfl)) (pa_cons (pv 1) (pa_cons (pv 2) (pa_cons (pe_op op_add (pe_ix ix_list (pv 3) pe_int (fun _ _ => rfl)) pe_int) (pa_cons (pv 4) pa_nil))))))))))))), ?_⟩
  refine ⟨(by show 2 ≤ sizeLine; decide), fun R hR => ?_⟩
  refine ⟨2, rfl, by decide, by decide, ?_⟩
  refine for_range (n := 2) (fun i σ H2 => ∃ kk bl, σ = [some u, some v1, some v2, some (.ref R), some (.int (1 + (if 0 < i then a.held else 0) + (if 1 < i then b.held else 0))), kk, bl] ∧ Same H H2 ∧
    H2 R = some (.lst [.int (if 0 < i then a.reach else 0), .int (if 1 < i then b.reach else 0)])) ⟨none, none, rfl, same_new hR _, upd_same⟩ ?_ ?_
  · rintro i σ H2 hi ⟨kk, bl, rfl, s2, hR2⟩
    refine ⟨_, rfl, _, rfl, (by show 2 ≤ sizeLine; decide), fun q hq => ?_⟩
    have s3 : Same H (upd H2 q (.lst [v1, v2])) := s2.trans (same_new hq _)
    have hR3 : (upd H2 q (.lst [v1, v2])) R = some (.lst [.int (if 0 < i then a.reach else 0), .int (if 1 < i then b.reach else 0)]) := same_new hq _ _ _ hR2
    match i, hi with
    | 0, _ =>
      refine ⟨_, rfl, q, _, _, v1, rfl, rfl, SqL.of upd_same, rfl, ?_⟩
      refine ⟨_, rfl, (by show 0 ≤ sizeLine; decide), fun z hz => ?_⟩
      have s4 : Same H (upd (upd H2 q (.lst [v1, v2])) z (.tup [])) := s3.trans (same_new hz _)
      have hR4 := same_new hz (.tup []) _ _ hR3
      refine ⟨a, .nil, ha.mono (.of s4), ⟨z, rfl, upd_same⟩, za, _, rfl, ?_⟩
      cases a with
      | nil =>
        refine iteF ?_
        exact ⟨_, _, rfl, s4, hR4⟩
      | node r0 a0 l0 rt0 rc0 hd0 =>
        refine iteT ?_
        obtain ⟨p1, vl, vr, rfl, hp1, _⟩ := nodeAt (ha.mono (.of s4))
        refine ⟨_, rfl, p1, _, _, _, rfl, rfl, SqT.of hp1, rfl, _, rfl, _, rfl, R, _, _, 0, rfl, rfl, hR4, rfl, ?_⟩
        refine ⟨_, rfl, _, rfl, p1, _, _, _, rfl, rfl, SqT.of (Tups.put hR4 _ _ hp1), rfl, _, _, rfl, rfl, ?_⟩
        have ee : (1 + (if 0 < 0 then (T.node r0 a0 l0 rt0 rc0 hd0).held else 0) + (if 1 < 0 then b.held else 0)) + hd0 = 1 + (if 0 < 0 + 1 then (T.node r0 a0 l0 rt0 rc0 hd0).held else 0) + (if 1 < 0 + 1 then b.held else 0) := by simp [T.held]
        exact ⟨_, _, congrArg (fun z => ([some u, some (V.ref p1), some v2, some (V.ref R), some (V.int z), _, _] : List (Option V))) ee, same_put hR s4 _, upd_same⟩
    | 1, _ =>
      refine ⟨_, rfl, q, _, _, v2, rfl, rfl, SqL.of upd_same, rfl, ?_⟩
      refine ⟨_, rfl, (by show 0 ≤ sizeLine; decide), fun z hz => ?_⟩
      have s4 : Same H (upd (upd H2 q (.lst [v1, v2])) z (.tup [])) := s3.trans (same_new hz _)
      have hR4 := same_new hz (.tup []) _ _ hR3
      refine ⟨b, .nil, hb.mono (.of s4), ⟨z, rfl, upd_same⟩, zb, _, rfl, ?_⟩
      cases b with
      | nil =>
        refine iteF ?_
        exact ⟨_, _, rfl, s4, hR4⟩
      | node r0 a0 l0 rt0 rc0 hd0 =>
        refine iteT ?_
        obtain ⟨p1, vl, vr, rfl, hp1, _⟩ := nodeAt (hb.mono (.of s4))
        refine ⟨_, rfl, p1, _, _, _, rfl, rfl, SqT.of hp1, rfl, _, rfl, _, rfl, R, _, _, 1, rfl, rfl, hR4, rfl, ?_⟩
        refine ⟨_, rfl, _, rfl, p1, _, _, _, rfl, rfl, SqT.of (Tups.put hR4 _ _ hp1), rfl, _, _, rfl, rfl, ?_⟩
        have ee : (1 + (if 0 < 1 then a.held else 0) + (if 1 < 1 then (T.node r0 a0 l0 rt0 rc0 hd0).held else 0)) + hd0 = 1 + (if 0 < 1 + 1 then a.held else 0) + (if 1 < 1 + 1 then (T.node r0 a0 l0 rt0 rc0 hd0).held else 0) := by simp [T.held]
        exact ⟨_, _, congrArg (fun z => ([some u, some v1, some (V.ref p1), some (V.ref R), some (V.int z), _, _] : List (Option V))) ee, same_put hR s4 _, upd_same⟩
  · rintro σ H2 ⟨kk, bl, rfl, s2, hR2⟩
    have eh : (1 + (if 0 < 2 then a.held else 0) + (if 1 < 2 then b.held else 0) : Int) = a.held + b.held + 1 := by simp; omega
    obtain ⟨qu, rfl, hqu⟩ := hu.mono (.of s2)
    refine ⟨_, rfl, R, _, _, _, rfl, rfl, SqL.of hR2, rfl, _, rfl, R, _, _, _, rfl, rfl, SqL.of hR2, rfl, _, _, rfl, rfl, _, rfl, ?_⟩
    refine ite2 (fun c => ?_) (fun c => ?_)
    · have c' : a.reach < b.reach := of_decide_eq_true c
      refine ⟨_, rfl, qu, _, _, _, rfl, rfl, SqT.of hqu, rfl, _, rfl, qu, _, _, _, rfl, rfl, SqT.of hqu, rfl, _, rfl, _, rfl, _, rfl, R, _, _, _, rfl, rfl, SqL.of hR2, rfl, _, _, rfl, rfl, _, rfl, (by show 6 ≤ sizeLine; decide), fun z hz => ?_⟩
      refine k _ _ (s2.trans (same_new hz _)) ?_
      unfold leanT; rw [if_pos c']
      refine ⟨z, v2, v1, rfl, ?_, (hb.mono (.of s2)).mono (.new hz _), (ha.mono (.of s2)).mono (.new hz _)⟩
      rw [upd_same, eh]
      have e2 : a.held + b.held + 1 = b.held + a.held + 1 := by omega
      rw [e2]; rfl
    · have c' : ¬ a.reach < b.reach := fun z => c (decide_eq_true z)
      refine ⟨_, rfl, qu, _, _, _, rfl, rfl, SqT.of hqu, rfl, _, rfl, qu, _, _, _, rfl, rfl, SqT.of hqu, rfl, _, rfl, _, rfl, _, rfl, R, _, _, _, rfl, rfl, SqL.of hR2, rfl, _, _, rfl, rfl, _, rfl, (by show 6 ≤ sizeLine; decide), fun z hz => ?_⟩
      refine k _ _ (s2.trans (same_new hz _)) ?_
      unfold leanT; rw [if_neg c']
      refine ⟨z, v1, v2, rfl, ?_, (ha.mono (.of s2)).mono (.new hz _), (hb.mono (.of s2)).mono (.new hz _)⟩
      rw [upd_same, eh]; rfl
end
section
variable {P : Program} {w : World} {K : PySem.W.Frag} {mg : Str → Option Value} {base : Heap}
theorem sc_law_form : FnScope ["_law_found", "_law_todo", "_law_here", "_law_part"] ["_law_found"] (defScope s_law_form) := ⟨rfl, rfl, rfl, by decide +kernel, rfl, by decide +kernel, by decide +kernel⟩
theorem ok_form (O : Own K mg "_law_form" s_law_form) (B : Bare mg) (g_law_whole : Has P w K mg base 1 "_law_whole" ["_law_found"] spWhole) : Has P w K mg base 2 "_law_form" ["_law_found"] spForm := by
  refine O.has sc_law_form (fun _ _ _ _ _ _ => by1 fun _ => rfl) (fun vs H Q E h => ?_) (fun f cdv A outer s H vs Q E hr h => ?_)
  · obtain ⟨v, t, rfl, _⟩ := h; rfl
  obtain ⟨v, t, rfl, hv, hsz, k⟩ := h
  refine ⟨_, (pss_cons (ps_set (i := 1) sc_law_form.nd rfl (Or.inl rfl) (pe_lst (pa_cons (pv 0) pa_nil)))
    (pss_cons (ps_while PassesOwn.never (pt_cmpR (op_neEmp (hu110 hr)) (pv 1) (pe_lst pa_nil) (nomark _))
      (pss_cons (ps_set (i := 2) sc_law_form.nd rfl (Or.inl rfl) (pe_bm0 PySem.F.plainAttrs_list PySem.F.slot_list_pop PySem.F.type_list_pop mt_pop (pv 1)))
        (pss_cons (ps_if (pt_or (pt_not (pt_truth (pe_callB call_isi rfl B.isi boot_isi (pa_cons (pv 2) (pa_cons (pe_bltn (v := .ty "tuple") rfl B.tuple boot_tuple' rfl) pa_nil))) (fun _ => rfl))) (pw_or1 (pt_cmpR op_notIn_seq (pe_callB call_len_seq rfl B.len PySem.boot_len (pa_cons (pv 2) pa_nil)) (pe_tup (pa_cons pe_int (pa_cons pe_int pa_nil))) (by with_unfolding_all rfl))))
          (pss_one (ps_ret pe_bl))
          pss_nil)
        (pss_one (ps_if (pt_cmpR op_eq (pe_callB call_len_seq rfl B.len PySem.boot_len (pa_cons (pv 2) pa_nil)) pe_int (nomark _))
          (pss_cons (ps_for PassesOwn.never rfl (pi_tup (pe_op op_catT (pe_slice sl_tup (pv 2) po_none (po_some pe_int)) (pe_slice sl_tup (pv 2) (po_some pe_int) po_none))) (pg_name (i := 3) sc_law_form.nd rfl (Or.inl rfl))
              (pss_one (ps_if (pt_not (pt_truth (pe_fn g_law_whole hr (pa_cons (pv 3) pa_nil)) (fun _ => rfl)))
                  (pss_one (ps_ret pe_bl))
                  pss_nil)))
            (pss_cons (ps_expr (pe_bm PySem.F.plainAttrs_list PySem.F.slot_list_append PySem.F.type_list_append mt_append (pv 1) (pa_cons (pe_ix ix_tup (pv 2) pe_int (fun _ _ => rfl)) pa_nil)))
            (pss_one (ps_expr (pe_bm PySem.F.plainAttrs_list PySem.F.slot_list_append PySem.F.type_list_append mt_append (pv 1) (pa_cons (pe_ix ix_tup (pv 2) pe_int (fun _ _ => rfl)) pa_nil))))))
          pss_nil)))))
    (pss_one (ps_ret pe_bl)))), ?_⟩
  refine ⟨_, rfl, (by show 1 ≤ sizeLine; decide), fun M hM => ?_⟩
  refine ⟨fun m σ H2 => ∃ here part us ts d, σ = [some v, some (.ref M), here, part] ∧ Same H H2 ∧ H2 M = some (.lst us) ∧ PilesAt H2 us ts ∧ d + sumSize ts = t.size ∧ ts.length ≤ d + 1 ∧ m = ts.length + 2 * sumSize ts,
    ⟨_, none, none, [v], [t], 0, rfl, same_new hM _, upd_same, .cons (hv.mono (.new hM _)) .nil, by simp [sumSize], by simp, rfl⟩, ?_⟩
  rintro m σ H2 ⟨here, part, us, ts, d, rfl, s2, hM2, hts, hcount, hlen, rfl⟩
  have lu := paired_len hts
  refine ⟨_, rfl, (by show 0 ≤ sizeLine; decide), fun z hz => ?_⟩
  have s3 := same_new hz (HO.lst [])
  refine ⟨M, z, us, rfl, rfl, s3 _ _ hM2, upd_same, _, rfl, ?_⟩
  rcases List.eq_nil_or_concat ts with e | ⟨r, x, e⟩
  · subst e
    obtain _ | _ := hts
    exact iteF (k _ (s2.trans s3))
  · rw [List.concat_eq_append] at e
    subst e
    obtain ⟨us', vx, rfl, hts', hx⟩ := paired_snoc_inv hts
    have hM3 := s3 _ _ hM2
    have lr : us'.length = r.length := paired_len hts'
    have hsum : sumSize (r ++ [x]) = sumSize r + x.size := by rw [sumSize_append, sumSize_cons]; simp [sumSize]
    rw [hsum] at hcount
    have hlen' : r.length ≤ d := by simp at hlen; omega
    have em : (us' ++ [vx]).isEmpty = false := by simp
    rw [em]
    refine iteT ⟨_, fun σ' H' z => z, ?_⟩
    refine ⟨_, rfl, .inl ⟨rfl, _, SqL.of hM3⟩, M, _, vx, rfl, rfl, hM3, by simp, ?_⟩
    rw [List.dropLast_concat]
    have m4 : Tups H2 (upd (upd H2 z (.lst [])) M (.lst us')) := (Tups.of s3).trans (.put hM3)
    have hM4 : (upd (upd H2 z (.lst [])) M (.lst us')) M = some (.lst us') := upd_same
    have sm4 : Same H (upd (upd H2 z (.lst [])) M (.lst us')) := same_put hM (s2.trans s3) _
    generalize upd (upd H2 z (.lst [])) M (.lst us') = H4 at m4 hM4 sm4
    have hx4 := PileAt.mono m4 hx
    have hts4 := PilesAt.mono m4 hts'
    cases x with
    | nil =>
      obtain ⟨p, rfl, hp⟩ := hx4
      refine ⟨_, rfl, _, _, _, _, rfl, TyOf.tup hp, kit_tt K, _, rfl, iteF ?_⟩
      refine ⟨_, rfl, p, _, rfl, .inr (SqT.of hp), (by show 2 ≤ sizeLine; decide), fun z2 hz2 => ?_⟩
      have s5 := same_new hz2 (.tup [.int 0, .int 6])
      refine ⟨z2, _, rfl, .inr (SqT.of upd_same), rfl, rfl, _, rfl, iteF ?_⟩
      refine ⟨_, rfl, p, _, rfl, .inr (SqT.of (s5 _ _ hp)), rfl, _, rfl, iteF ?_⟩
      refine ⟨_, ?_, _, _, us', r, d, rfl, sm4.trans s5, s5 _ _ hM4, PilesAt.mono (.of s5) hts4, by simpa [T.size] using hcount, by omega, rfl⟩
      rw [hsum, List.length_append]
      simp only [T.size, List.length_singleton]; omega
    | node r0 a0 l0 rt0 rc0 hd0 =>
      obtain ⟨p, vl, vr, rfl, hp, hl, hrt⟩ := nodeAt hx4
      refine ⟨_, rfl, _, _, _, _, rfl, TyOf.tup hp, kit_tt K, _, rfl, iteF ?_⟩
      refine ⟨_, rfl, p, _, rfl, .inr (SqT.of hp), (by show 2 ≤ sizeLine; decide), fun z2 hz2 => ?_⟩
      have s5 := same_new hz2 (.tup [.int 0, .int 6])
      have hp5 := s5 _ _ hp
      refine ⟨z2, _, rfl, .inr (SqT.of upd_same), rfl, rfl, _, rfl, iteF ?_⟩
      refine ⟨_, rfl, p, _, rfl, .inr (SqT.of hp5), rfl, _, rfl, iteT ?_⟩
      refine ⟨_, rfl, 2, rfl, p, _, rfl, SqT.of hp5, (by show ¬ (HT.sIx 6 0 none = 0 ∧ HT.sIx 6 6 (some 2) = 6); decide), fun z3 hz3 => ?_⟩
      have s6 := same_new hz3 (.tup (cutV [.int r0, .int a0, vl, vr, .int rc0, .int hd0] none (some 2)))
      refine ⟨_, rfl, 4, rfl, p, _, rfl, SqT.of (s6 _ _ hp5), (by show ¬ (HT.sIx 6 0 (some 4) = 0 ∧ HT.sIx 6 6 none = 6); decide), fun z4 hz4 => ?_⟩
      have s7 := same_new hz4 (.tup (cutV [.int r0, .int a0, vl, vr, .int rc0, .int hd0] (some 4) none))
      have e1 : cutV [V.int r0, .int a0, vl, vr, .int rc0, .int hd0] none (some 2) = [.int r0, .int a0] := rfl
      have e2 : cutV [V.int r0, .int a0, vl, vr, .int rc0, .int hd0] (some 4) none = [.int rc0, .int hd0] := rfl
      refine ⟨z3, z4, [.int r0, .int a0], [.int rc0, .int hd0], rfl, rfl, SqT.of (s7 _ _ upd_same), SqT.of upd_same, by simp, (by show 4 ≤ sizeLine; decide), (fun q => by cases q), fun _ z5 hz5 => ?_⟩
      have s8 := same_new hz5 (.tup ([.int r0, .int a0] ++ [.int rc0, .int hd0]))
      have s48 := ((s5.trans s6).trans s7).trans s8
      refine ⟨z5, rfl, ⟨_, SqT.of upd_same⟩, ?_⟩
      have h58 : (upd (upd (upd (upd H4 z2 (.tup [.int 0, .int 6])) z3 (.tup (cutV [.int r0, .int a0, vl, vr, .int rc0, .int hd0] none (some 2)))) z4 (.tup (cutV [.int r0, .int a0, vl, vr, .int rc0, .int hd0] (some 4) none))) z5 (.tup ([.int r0, .int a0] ++ [.int rc0, .int hd0]))) z5 = some (.tup [.int r0, .int a0, .int rc0, .int hd0]) := upd_same
      generalize upd (upd (upd (upd H4 z2 (.tup [.int 0, .int 6])) z3 (.tup (cutV [.int r0, .int a0, vl, vr, .int rc0, .int hd0] none (some 2)))) z4 (.tup (cutV [.int r0, .int a0, vl, vr, .int rc0, .int hd0] (some 4) none))) z5 (.tup ([.int r0, .int a0] ++ [.int rc0, .int hd0])) = H8 at *
      refine for_tup (K := K) (a := z5) (xs := [.int r0, .int a0, .int rc0, .int hd0]) (fun i σ H9 => ∃ part', σ = [some v, some (.ref M), some (.ref p), part'] ∧ H9 = H8) ⟨_, rfl, rfl⟩ (fun i σ H9 _ ⟨_, _, e⟩ => by rw [e]; exact SqT.of h58) ?_ ?_
      · rintro i y σ H9 hy ⟨part', rfl, rfl⟩
        have hint : ∃ n, y = V.int n := by
          have : y ∈ [V.int r0, .int a0, .int rc0, .int hd0] := List.mem_of_getElem? hy
          simp at this
          rcases this with e | e | e | e <;> exact ⟨_, e⟩
        obtain ⟨n, rfl⟩ := hint
        refine ⟨_, rfl, n, rfl, _, rfl, iteF ?_⟩
        exact ⟨_, rfl, rfl⟩
      · rintro σ H9 ⟨part', rfl, rfl⟩
        have hM8 := s48 _ _ hM4
        have hp8 := s48 _ _ hp
        refine ⟨_, rfl, .inl ⟨rfl, _, SqL.of hM8⟩, _, rfl, p, _, _, _, rfl, rfl, SqT.of hp8, rfl, M, _, _, rfl, rfl, hM8, szl (by omega), ?_⟩
        have m9 := Tups.put (o := .lst (us' ++ [vl])) hM8
        have hM9 : (upd H9 M (.lst (us' ++ [vl]))) M = some (.lst (us' ++ [vl])) := upd_same
        refine ⟨_, rfl, .inl ⟨rfl, _, SqL.of hM9⟩, _, rfl, p, _, _, _, rfl, rfl, SqT.of (m9 _ _ hp8), rfl, M, _, _, rfl, rfl, hM9, szl (by simp; omega), ?_⟩
        have mm := (Tups.of s48).trans (m9.trans (Tups.put (o := .lst (us' ++ [vl] ++ [vr])) hM9))
        refine ⟨_, ?_, _, _, us' ++ [vl] ++ [vr], r ++ [l0] ++ [rt0], d + 1, rfl, same_put hM (same_put hM (sm4.trans s48) _) _, upd_same, paired_app (paired_app (PilesAt.mono mm hts4) (.cons (hl.mono mm) .nil)) (.cons (hrt.mono mm) .nil), ?_, by simp; omega, rfl⟩
        · rw [hsum, sumSize_append, sumSize_append, sumSize_cons, sumSize_cons]
          simp only [sumSize, List.map_nil, List.sum_nil, List.length_append, List.length_singleton, T.size]
          omega
        · rw [sumSize_append, sumSize_append, sumSize_cons, sumSize_cons]
          simp only [sumSize, List.map_nil, List.sum_nil, T.size] at hcount ⊢
          omega
theorem sc_law_is_good : FnScope ["_law_pile", "_law_todo", "_law_here", "_law_reach", "_law_held", "_law_k", "_law_below"] ["_law_pile"] (defScope s_law_is_good) := ⟨rfl, rfl, rfl, by decide +kernel, rfl, by decide +kernel, by decide +kernel⟩
theorem ok_good (O : Own K mg "_law_is_good" s_law_is_good) (B : Bare mg) : Has P w K mg base 1 "_law_is_good" ["_law_pile"] spGood := by
  refine O.has sc_law_is_good (fun _ _ _ _ _ _ => by1 fun _ => rfl) (fun vs H Q E h => ?_) (fun f cdv A outer s H vs Q E hr h => ?_)
  · obtain ⟨v, t, rfl, _⟩ := h; rfl
  obtain ⟨v, t, rfl, hv, hsz, k⟩ := h
  refine ⟨_, (pss_cons (ps_set (i := 1) sc_law_is_good.nd rfl (Or.inl rfl) (pe_lst (pa_cons (pv 0) pa_nil)))
    (pss_cons (ps_while PassesOwn.never (pt_cmpR (op_neEmp (hu110 hr)) (pv 1) (pe_lst pa_nil) (nomark _))
      (pss_cons (ps_set (i := 2) sc_law_is_good.nd rfl (Or.inl rfl) (pe_bm0 PySem.F.plainAttrs_list PySem.F.slot_list_pop PySem.F.type_list_pop mt_pop (pv 1)))
        (pss_one (ps_if (pt_cmpR (op_nePile (hu110 hr)) (pv 2) (pe_tup pa_nil) (nomark _))
          (pss_cons (ps_set (i := 3) sc_law_is_good.nd rfl (Or.inl rfl) (pe_lst (pa_cons pe_int (pa_cons pe_int pa_nil))))
            (pss_cons (ps_set (i := 4) sc_law_is_good.nd rfl (Or.inl rfl) pe_int)
            (pss_cons (ps_for PassesOwn.never rfl (pi_range1 rfl B.range (pa_cons pe_int pa_nil)) (pg_name (i := 5) sc_law_is_good.nd rfl (Or.inl rfl))
              (pss_cons (ps_set (i := 6) sc_law_is_good.nd rfl (Or.inl rfl) (pe_ix ix_tup (pv 2) (pe_op op_add pe_int (pv 5)) (fun _ _ => rfl)))
                (pss_one (ps_if (pt_cmpR (op_nePile (hu110 hr)) (pv 6) (pe_tup pa_nil) (nomark _))
                  (pss_cons (ps_asg (pe_ix ix_tup (pv 6) pe_int (fun _ _ => rfl)) (pg_sub (pv 3) (pv 5) set_list))
                    (pss_cons (ps_set (i := 4) sc_law_is_good.nd rfl (Or.inl rfl) (pe_op op_add (pv 4) (pe_ix ix_tup (pv 6) pe_int (fun _ _ => rfl))))
                    (pss_one (ps_if (pt_cmpR (op_ltT hr.units0) (pe_tup (pa_cons (pe_ix ix_tup (pv 6) pe_int (fun _ _ => rfl)) (pa_cons (pe_ix ix_tup (pv 6) pe_int (fun _ _ => rfl)) pa_nil))) (pe_tup (pa_cons (pe_ix ix_tup (pv 2) pe_int (fun _ _ => rfl)) (pa_cons (pe_ix ix_tup (pv 2) pe_int (fun _ _ => rfl)) pa_nil))) (nomark _))
                      (pss_one (ps_ret pe_bl))
                      pss_nil))))
                  pss_nil))))
            (pss_cons (ps_if (pt_or (pt_cmpR op_lt (pe_ix ix_list (pv 3) pe_int (fun _ _ => rfl)) (pe_ix ix_list (pv 3) pe_int (fun _ _ => rfl)) (nomark _)) (pw_or (pt_cmpR op_ne (pe_ix ix_tup (pv 2) pe_int (fun _ _ => rfl)) (pe_op op_add (pe_ix ix_list (pv 3) pe_int (fun _ _ => rfl)) pe_int) (nomark _)) (pw_or1 (pt_cmpR op_ne (pe_ix ix_tup (pv 2) pe_int (fun _ _ => rfl)) (pv 4) (nomark _)))))
              (pss_one (ps_ret pe_bl))
              pss_nil)
            (pss_cons (ps_expr (pe_bm PySem.F.plainAttrs_list PySem.F.slot_list_append PySem.F.type_list_append mt_append (pv 1) (pa_cons (pe_ix ix_tup (pv 2) pe_int (fun _ _ => rfl)) pa_nil)))
            (pss_one (ps_expr (pe_bm PySem.F.plainAttrs_list PySem.F.slot_list_append PySem.F.type_list_append mt_append (pv 1) (pa_cons (pe_ix ix_tup (pv 2) pe_int (fun _ _ => rfl)) pa_nil)))))))))
          pss_nil))))
    (pss_one (ps_ret pe_bl)))), ?_⟩
  refine ⟨_, rfl, (by show 1 ≤ sizeLine; decide), fun M hM => ?_⟩
  refine ⟨fun m σ H2 => ∃ here k3 k4 k5 k6 us ts d, σ = [some v, some (.ref M), here, k3, k4, k5, k6] ∧ Same H H2 ∧ H2 M = some (.lst us) ∧ PilesAt H2 us ts ∧ d + sumSize ts = t.size ∧ ts.length ≤ d + 1 ∧ goodB t = ts.all goodB ∧ m = ts.length + 2 * sumSize ts,
    ⟨_, none, none, none, none, none, [v], [t], 0, rfl, same_new hM _, upd_same, .cons (hv.mono (.new hM _)) .nil, by simp [sumSize], by simp, by simp, rfl⟩, ?_⟩
  rintro m σ H2 ⟨here, k3, k4, k5, k6, us, ts, d, rfl, s2, hM2, hts, hcount, hlen, hgood, rfl⟩
  have lu := paired_len hts
  refine ⟨_, rfl, (by show 0 ≤ sizeLine; decide), fun z hz => ?_⟩
  have s3 := same_new hz (HO.lst [])
  refine ⟨M, z, us, rfl, rfl, s3 _ _ hM2, upd_same, _, rfl, ?_⟩
  rcases List.eq_nil_or_concat ts with e | ⟨r, x, e⟩
  · subst e
    obtain _ | _ := hts
    refine iteF ?_
    have q := k _ (s2.trans s3)
    rw [hgood] at q
    exact q
  · rw [List.concat_eq_append] at e
    subst e
    obtain ⟨us', vx, rfl, hts', hx⟩ := paired_snoc_inv hts
    have hM3 := s3 _ _ hM2
    have lr : us'.length = r.length := paired_len hts'
    have hsum : sumSize (r ++ [x]) = sumSize r + x.size := by rw [sumSize_append, sumSize_cons]; simp [sumSize]
    rw [hsum] at hcount
    have hlen' : r.length ≤ d := by simp at hlen; omega
    have em : (us' ++ [vx]).isEmpty = false := by simp
    rw [em]
    refine iteT ⟨_, fun σ' H' z => z, ?_⟩
    refine ⟨_, rfl, .inl ⟨rfl, _, SqL.of hM3⟩, M, _, vx, rfl, rfl, hM3, by simp, ?_⟩
    rw [List.dropLast_concat]
    have m4 : Tups H2 (upd (upd H2 z (.lst [])) M (.lst us')) := (Tups.of s3).trans (.put hM3)
    have hM4 : (upd (upd H2 z (.lst [])) M (.lst us')) M = some (.lst us') := upd_same
    have sm4 : Same H (upd (upd H2 z (.lst [])) M (.lst us')) := same_put hM (s2.trans s3) _
    generalize upd (upd H2 z (.lst [])) M (.lst us') = H4 at m4 hM4 sm4
    have hx4 := PileAt.mono m4 hx
    have hts4 := PilesAt.mono m4 hts'
    have hgood' : goodB t = (r.all goodB && goodB x) := by rw [hgood, List.all_append]; simp
    refine ⟨_, rfl, (by show 0 ≤ sizeLine; decide), fun z2 hz2 => ?_⟩
    have s5 := same_new hz2 (.tup [])
    refine ⟨x, .nil, hx4.mono (.of s5), ⟨z2, rfl, upd_same⟩, by omega, _, rfl, ?_⟩
    have hx5 := hx4.mono (.of s5)
    have hM5 := s5 _ _ hM4
    have hts5 := PilesAt.mono (.of s5) hts4
    have sm5 := sm4.trans s5
    generalize upd H4 z2 (.tup []) = H5 at hx5 hM5 hts5 sm5
    cases x with
    | nil =>
      refine iteF ⟨_, ?_, _, _, _, _, _, us', r, d, rfl, sm5, hM5, hts5, by simpa [T.size] using hcount, by omega, by rw [hgood']; simp [goodB], rfl⟩
      rw [hsum, List.length_append]
      simp only [T.size, List.length_singleton]; omega
    | node r0 a0 l0 rt0 rc0 hd0 =>
      have hszl : l0.size ≤ 100 := by simp only [T.size] at hcount; omega
      have hszr : rt0.size ≤ 100 := by simp only [T.size] at hcount; omega
      obtain ⟨p, vl, vr, rfl, hp, hl, hrt⟩ := nodeAt hx5
      refine iteT ⟨(by show 2 ≤ sizeLine; decide), fun R hR => ?_⟩
      have sR := same_new hR (.lst [.int 0, .int 0])
      have hRM : R ≠ M := fun e => by rw [e, hM5] at hR; cases hR
      refine ⟨2, rfl, by decide, by decide, ?_⟩
      have bad : ∀ {H' : Hp}, Same H H' → goodB t = false → Q (.bl false) H' := fun {H'} s' e => by have q := k H' s'; rw [e] at q; exact q
      refine for_range (n := 2) (fun i σ H6 => ∃ kk bl, σ = [some v, some (.ref M), some (.ref p), some (.ref R), some (.int (1 + (if 0 < i then l0.held else 0) + (if 1 < i then rt0.held else 0))), kk, bl] ∧ Same H5 H6 ∧
        H6 R = some (.lst [.int (if 0 < i then l0.reach else 0), .int (if 1 < i then rt0.reach else 0)]) ∧ (0 < i → topLt l0 (r0, a0) = false) ∧ (1 < i → topLt rt0 (r0, a0) = false)) ⟨_, _, rfl, sR, upd_same, fun q => absurd q (by decide), fun q => absurd q (by decide)⟩ ?_ ?_
      · rintro i σ H6 hi ⟨kk, bl, rfl, s6, hR6, q0, q1⟩
        have hp6 := s6 _ _ hp
        match i, hi with
        | 0, _ =>
          refine ⟨_, rfl, _, rfl, _, _, rfl, rfl, p, _, _, vl, rfl, rfl, SqT.of hp6, rfl, ?_⟩
          refine ⟨_, rfl, (by show 0 ≤ sizeLine; decide), fun z3 hz3 => ?_⟩
          have s7 := same_new hz3 (.tup [])
          have hR7 := s7 _ _ hR6
          have hp7 := s7 _ _ hp6
          refine ⟨l0, .nil, hl.mono (.of (s6.trans s7)), ⟨z3, rfl, upd_same⟩, hszl, _, rfl, ?_⟩
          cases l0 with
          | nil => exact iteF ⟨_, _, rfl, s6.trans s7, hR7, fun _ => rfl, fun q => absurd q (by decide)⟩
          | node r1 a1 l1 rt1 rc1 hd1 =>
            refine iteT ?_
            obtain ⟨p1, vl1, vr1, rfl, hp1, _⟩ := nodeAt (hl.mono (.of (s6.trans s7)))
            refine ⟨_, rfl, p1, _, _, _, rfl, rfl, SqT.of hp1, rfl, _, rfl, _, rfl, R, _, _, 0, rfl, rfl, hR7, rfl, ?_⟩
            have m8 := Tups.put (o := .lst [.int rc1, .int (if 1 < 0 then rt0.reach else 0)]) hR7
            refine ⟨_, rfl, _, rfl, p1, _, _, _, rfl, rfl, SqT.of (m8 _ _ hp1), rfl, _, _, rfl, rfl, ?_⟩
            refine ⟨_, rfl, p1, _, _, _, rfl, rfl, SqT.of (m8 _ _ hp1), rfl, _, rfl, p1, _, _, _, rfl, rfl, SqT.of (m8 _ _ hp1), rfl, (by show 2 ≤ sizeLine; decide), fun z4 hz4 => ?_⟩
            have n4 := Tups.new hz4 (.tup [.int r1, .int a1])
            refine ⟨_, rfl, p, _, _, _, rfl, rfl, SqT.of (n4 _ _ (m8 _ _ hp7)), rfl, _, rfl, p, _, _, _, rfl, rfl, SqT.of (n4 _ _ (m8 _ _ hp7)), rfl, (by show 2 ≤ sizeLine; decide), fun z5 hz5 => ?_⟩
            have s8 : Same H5 (upd (upd H6 z3 (.tup [])) R (.lst [.int rc1, .int (if 1 < 0 then rt0.reach else 0)])) := same_put hR (s6.trans s7) _
            have s9 := (s8.trans (same_new hz4 (.tup [.int r1, .int a1]))).trans (same_new hz5 (.tup [.int r0, .int a0]))
            refine ⟨z4, z5, [r1, a1], [r0, a0], rfl, rfl, SqT.of (Tups.new hz5 _ _ _ upd_same), SqT.of upd_same, _, rfl, ?_⟩
            rw [lexLt2 (r1, a1) (r0, a0)]
            cases hlt : lt2 (r1, a1) (r0, a0) with
            | true =>
              refine iteT (bad (sm5.trans s9) ?_)
              rw [hgood']
              simp [goodB, nodeOk, topLt, hlt]
            | false =>
              have ee : (1 + (if 0 < 0 then (T.node r1 a1 l1 rt1 rc1 hd1).held else 0) + (if 1 < 0 then rt0.held else 0)) + hd1 = 1 + (if 0 < 0 + 1 then (T.node r1 a1 l1 rt1 rc1 hd1).held else 0) + (if 1 < 0 + 1 then rt0.held else 0) := by simp [T.held]
              exact iteF ⟨_, _, congrArg (fun z => ([some v, some (.ref M), some (.ref p), some (.ref R), some (V.int z), _, _] : List (Option V))) ee, s9, same_new hz5 _ _ _ (same_new hz4 _ _ _ upd_same), fun _ => hlt, fun q => absurd q (by decide)⟩
        | 1, _ =>
          refine ⟨_, rfl, _, rfl, _, _, rfl, rfl, p, _, _, vr, rfl, rfl, SqT.of hp6, rfl, ?_⟩
          refine ⟨_, rfl, (by show 0 ≤ sizeLine; decide), fun z3 hz3 => ?_⟩
          have s7 := same_new hz3 (.tup [])
          have hR7 := s7 _ _ hR6
          have hp7 := s7 _ _ hp6
          refine ⟨rt0, .nil, hrt.mono (.of (s6.trans s7)), ⟨z3, rfl, upd_same⟩, hszr, _, rfl, ?_⟩
          cases rt0 with
          | nil => exact iteF ⟨_, _, rfl, s6.trans s7, hR7, fun _ => q0 (by decide), fun _ => rfl⟩
          | node r1 a1 l1 rt1 rc1 hd1 =>
            refine iteT ?_
            obtain ⟨p1, vl1, vr1, rfl, hp1, _⟩ := nodeAt (hrt.mono (.of (s6.trans s7)))
            refine ⟨_, rfl, p1, _, _, _, rfl, rfl, SqT.of hp1, rfl, _, rfl, _, rfl, R, _, _, 1, rfl, rfl, hR7, rfl, ?_⟩
            have m8 := Tups.put (o := .lst [.int (if 0 < 1 then l0.reach else 0), .int rc1]) hR7
            refine ⟨_, rfl, _, rfl, p1, _, _, _, rfl, rfl, SqT.of (m8 _ _ hp1), rfl, _, _, rfl, rfl, ?_⟩
            refine ⟨_, rfl, p1, _, _, _, rfl, rfl, SqT.of (m8 _ _ hp1), rfl, _, rfl, p1, _, _, _, rfl, rfl, SqT.of (m8 _ _ hp1), rfl, (by show 2 ≤ sizeLine; decide), fun z4 hz4 => ?_⟩
            have n4 := Tups.new hz4 (.tup [.int r1, .int a1])
            refine ⟨_, rfl, p, _, _, _, rfl, rfl, SqT.of (n4 _ _ (m8 _ _ hp7)), rfl, _, rfl, p, _, _, _, rfl, rfl, SqT.of (n4 _ _ (m8 _ _ hp7)), rfl, (by show 2 ≤ sizeLine; decide), fun z5 hz5 => ?_⟩
            have s8 : Same H5 (upd (upd H6 z3 (.tup [])) R (.lst [.int (if 0 < 1 then l0.reach else 0), .int rc1])) := same_put hR (s6.trans s7) _
            have s9 := (s8.trans (same_new hz4 (.tup [.int r1, .int a1]))).trans (same_new hz5 (.tup [.int r0, .int a0]))
            refine ⟨z4, z5, [r1, a1], [r0, a0], rfl, rfl, SqT.of (Tups.new hz5 _ _ _ upd_same), SqT.of upd_same, _, rfl, ?_⟩
            rw [lexLt2 (r1, a1) (r0, a0)]
            cases hlt : lt2 (r1, a1) (r0, a0) with
            | true =>
              refine iteT (bad (sm5.trans s9) ?_)
              rw [hgood']
              simp [goodB, nodeOk, topLt, hlt]
            | false =>
              have ee : (1 + (if 0 < 1 then l0.held else 0) + (if 1 < 1 then (T.node r1 a1 l1 rt1 rc1 hd1).held else 0)) + hd1 = 1 + (if 0 < 1 + 1 then l0.held else 0) + (if 1 < 1 + 1 then (T.node r1 a1 l1 rt1 rc1 hd1).held else 0) := by simp [T.held]
              exact iteF ⟨_, _, congrArg (fun z => ([some v, some (.ref M), some (.ref p), some (.ref R), some (V.int z), _, _] : List (Option V))) ee, s9, same_new hz5 _ _ _ (same_new hz4 _ _ _ upd_same), fun _ => q0 (by decide), fun _ => hlt⟩
      · rintro σ H6 ⟨kk, bl, rfl, s6, hR6, q0, q1⟩
        have t0 := q0 (by decide)
        have t1 := q1 (by decide)
        have hp6 := s6 _ _ hp
        have hR6' : H6 R = some (.lst [.int l0.reach, .int rt0.reach]) := hR6
        have eg : goodB (.node r0 a0 l0 rt0 rc0 hd0) = (!decide (l0.reach < rt0.reach) && decide (rc0 = rt0.reach + 1) && decide (hd0 = 1 + l0.held + rt0.held) && goodB l0 && goodB rt0) := by simp [goodB, nodeOk, t0, t1]
        refine ⟨_, rfl, R, _, _, _, rfl, rfl, SqL.of hR6', rfl, _, rfl, R, _, _, _, rfl, rfl, SqL.of hR6', rfl, _, _, rfl, rfl, _, rfl, ?_⟩
        refine ite2 (fun c => iteT (bad (sm5.trans s6) ?_)) (fun c => ?_)
        · have c' : l0.reach < rt0.reach := of_decide_eq_true c
          rw [hgood', eg]; simp [c']
        have c' : ¬ l0.reach < rt0.reach := fun q => c (decide_eq_true q)
        refine ⟨_, rfl, p, _, _, _, rfl, rfl, SqT.of hp6, rfl, _, rfl, R, _, _, _, rfl, rfl, SqL.of hR6', rfl, _, _, rfl, rfl, rfl, _, rfl, ?_⟩
        by_cases c2 : rc0 = rt0.reach + 1
        · subst c2
          rw [decide_eq_true rfl]
          refine iteF ?_
          have e3 : (1 + (if 0 < 2 then l0.held else 0) + (if 1 < 2 then rt0.held else 0) : Int) = 1 + l0.held + rt0.held := by simp
          refine ⟨_, rfl, p, _, _, _, rfl, rfl, SqT.of hp6, rfl, _, rfl, rfl, _, rfl, ?_⟩
          rw [e3]
          by_cases c3 : hd0 = 1 + l0.held + rt0.held
          · subst c3
            rw [decide_eq_true rfl]
            refine iteF ?_
            have hM6 := s6 _ _ hM5
            refine ⟨_, rfl, .inl ⟨rfl, _, SqL.of hM6⟩, _, rfl, p, _, _, _, rfl, rfl, SqT.of hp6, rfl, M, _, _, rfl, rfl, hM6, szl (by omega), ?_⟩
            have m9 := Tups.put (o := .lst (us' ++ [vl])) hM6
            have hM9 : (upd H6 M (.lst (us' ++ [vl]))) M = some (.lst (us' ++ [vl])) := upd_same
            refine ⟨_, rfl, .inl ⟨rfl, _, SqL.of hM9⟩, _, rfl, p, _, _, _, rfl, rfl, SqT.of (m9 _ _ hp6), rfl, M, _, _, rfl, rfl, hM9, szl (by simp; omega), ?_⟩
            have mm := (Tups.of s6).trans (m9.trans (Tups.put (o := .lst (us' ++ [vl] ++ [vr])) hM9))
            refine ⟨_, ?_, _, _, _, _, _, us' ++ [vl] ++ [vr], r ++ [l0] ++ [rt0], d + 1, rfl, same_put hM (same_put hM (sm5.trans s6) _) _, upd_same, paired_app (paired_app (PilesAt.mono mm hts5) (.cons (hl.mono mm) .nil)) (.cons (hrt.mono mm) .nil), ?_, by simp; omega, ?_, rfl⟩
            · rw [hsum, sumSize_append, sumSize_append, sumSize_cons, sumSize_cons]
              simp only [sumSize, List.map_nil, List.sum_nil, List.length_append, List.length_singleton, T.size]
              omega
            · rw [sumSize_append, sumSize_append, sumSize_cons, sumSize_cons]
              simp only [sumSize, List.map_nil, List.sum_nil, T.size] at hcount ⊢
              omega
            · rw [hgood', eg, List.all_append, List.all_append]
              simp [c', Bool.and_assoc]
          · rw [decide_eq_false (by intro q; injection q with q; exact c3 q)]
            refine iteT (bad (sm5.trans s6) ?_)
            rw [hgood', eg]; simp [c3]
        · rw [decide_eq_false (by intro q; injection q with q; exact c2 q)]
          refine iteT (iteT (bad (sm5.trans s6) ?_))
          rw [hgood', eg]; simp [c2]
end
section
variable {P : Program} {w : World} {K : PySem.W.Frag} {mg : Str → Option Value} {base : Heap}
theorem sc_law_merged : FnScope ["_law_one", "_law_two", "_law_rows", "_law_count", "_law_made", "_law_thing", "_law_left"] ["_law_one", "_law_two"] (defScope s_law_merged) := ⟨rfl, rfl, rfl, by decide +kernel, rfl, by decide +kernel, by decide +kernel⟩
theorem ok_merged (O : Own K mg "_law_merged" s_law_merged) (B : Bare mg) (g_law_on_top : Has P w K mg base 1 "_law_on_top" ["_law_thing", "_law_one", "_law_two"] spOnTop) : Has P w K mg base 2 "_law_merged" ["_law_one", "_law_two"] spJoined := by
  refine O.has sc_law_merged (fun _ _ _ _ _ _ => by2 fun _ _ => rfl) (fun vs H Q E h => ?_) (fun f cdv A outer s H vs Q E hr h => ?_)
  · obtain ⟨v, v', s, t, rfl, _⟩ := h; rfl
  obtain ⟨v, v', a0, b0, rfl, hv, hv', hsz, k⟩ := h
  refine ⟨_, (pss_cons (ps_set (i := 2) sc_law_merged.nd rfl (Or.inl rfl) (pe_lst pa_nil))
    (pss_cons (ps_set (i := 3) sc_law_merged.nd rfl (Or.inl rfl) pe_int)
    (pss_cons (ps_while PassesOwn.never (pt_and (pt_cmpR (op_nePile (hu110 hr)) (pv 0) (pe_tup pa_nil) (nomark _)) (pw_and1 (pt_cmpR (op_nePile (hu110 hr)) (pv 1) (pe_tup pa_nil) (nomark _))))
      (pss_cons (ps_set (i := 3) sc_law_merged.nd rfl (Or.inl rfl) (pe_op op_add (pv 3) pe_int))
        (pss_one (ps_if (pt_cmpR (op_ltT hr.units0) (pe_tup (pa_cons (pe_ix ix_tup (pv 1) pe_int (fun _ _ => rfl)) (pa_cons (pe_ix ix_tup (pv 1) pe_int (fun _ _ => rfl)) pa_nil))) (pe_tup (pa_cons (pe_ix ix_tup (pv 0) pe_int (fun _ _ => rfl)) (pa_cons (pe_ix ix_tup (pv 0) pe_int (fun _ _ => rfl)) pa_nil))) (nomark _))
          (pss_cons (ps_expr (pe_bm PySem.F.plainAttrs_list PySem.F.slot_list_append PySem.F.type_list_append mt_append (pv 2) (pa_cons (pe_tup (pa_cons (pe_tup (pa_cons (pe_ix ix_tup (pv 1) pe_int (fun _ _ => rfl)) (pa_cons (pe_ix ix_tup (pv 1) pe_int (fun _ _ => rfl)) pa_nil))) (pa_cons (pe_ix ix_tup (pv 1) pe_int (fun _ _ => rfl)) pa_nil))) pa_nil)))
            (pss_one (ps_set (i := 1) sc_law_merged.nd rfl (Or.inl rfl) (pe_ix ix_tup (pv 1) pe_int (fun _ _ => rfl)))))
          (pss_cons (ps_expr (pe_bm PySem.F.plainAttrs_list PySem.F.slot_list_append PySem.F.type_list_append mt_append (pv 2) (pa_cons (pe_tup (pa_cons (pe_tup (pa_cons (pe_ix ix_tup (pv 0) pe_int (fun _ _ => rfl)) (pa_cons (pe_ix ix_tup (pv 0) pe_int (fun _ _ => rfl)) pa_nil))) (pa_cons (pe_ix ix_tup (pv 0) pe_int (fun _ _ => rfl)) pa_nil))) pa_nil)))
            (pss_one (ps_set (i := 0) sc_law_merged.nd rfl (Or.inl rfl) (pe_ix ix_tup (pv 0) pe_int (fun _ _ => rfl)))))))))
    (pss_cons (ps_set (i := 4) sc_law_merged.nd rfl (Or.inl rfl) (pv 0))
    (pss_cons (ps_if (pt_cmpR (op_eqPile (hu110 hr)) (pv 0) (pe_tup pa_nil) (nomark _))
      (pss_one (ps_set (i := 4) sc_law_merged.nd rfl (Or.inl rfl) (pv 1)))
      pss_nil)
    (pss_cons (ps_for PassesOwn.never rfl (pi_rev rfl B.rev (pa_cons (pv 2) pa_nil)) (pg_tup rfl (pgs_cons (pg_name (i := 5) sc_law_merged.nd rfl (Or.inl rfl)) (pgs_cons (pg_name (i := 6) sc_law_merged.nd rfl (Or.inl rfl)) pgs_nil)))
      (pss_one (ps_set (i := 4) sc_law_merged.nd rfl (Or.inl rfl) (pe_fn g_law_on_top hr (pa_cons (pv 5) (pa_cons (pv 6) (pa_cons (pv 4) pa_nil)))))))
    (pss_one (ps_ret (pe_tup (pa_cons (pv 4) (pa_cons (pv 3) pa_nil))))))))))), ?_⟩
  refine ⟨(by show 0 ≤ sizeLine; decide), fun L hL => ?_⟩
  refine ⟨fun m σ H2 => ∃ one two a b vs ts, σ = [some one, some two, some (.ref L), some (.int ts.length), none, none, none] ∧ MW H H2 L a0 b0 one two a b vs ts ∧ m = a.size + b.size,
    ⟨_, v, v', a0, b0, [], [], rfl, ⟨same_new hL _, upd_same, hv.mono (.new hL _), hv'.mono (.new hL _), .nil, by simp, rfl, rfl, Nat.le_refl _⟩, rfl⟩, ?_⟩
  rintro m σ H2 ⟨one, two, a, b, vs, ts, rfl, j, rfl⟩
  have sza : a.size ≤ 100 := by have := j.sz; omega
  have szb : b.size ≤ 100 := by have := j.sz; omega
  have hlen : vs.length = ts.length := paired_len j.ps
  have after : ∀ {H3 : Hp}, Same H2 H3 → ∀ {c : T}, join a b = c → joinN a b = 0 → c.size ≤ a.size + b.size → ∀ u, PileAt H3 c u →
      tSeq (tFor (iRev K (tCons (tVar 2) tNil)) (gTup K 2 (gCons (gName 5) (gCons (gName 6) gNil))) (tAsg (tCall spOnTop [] E0 (tCons (tVar 5) (tCons (tVar 6) (tCons (tVar 4) tNil)))) (gName 4)))
        (tRet (tTup (tCons (tVar 4) (tCons (tVar 3) tNil)))) { nx := fun _ H' => Q .non H', rt := Q } [some one, some two, some (.ref L), some (.int ts.length), some u, none, none] H3 := by
    intro H3 s3 c ec en hcs u hu
    have hL3 := s3 _ _ j.lst
    have hps3 := rows_mono (.of s3) j.ps
    refine ⟨_, rfl, L, vs, rfl, SqL.of hL3, ?_⟩
    refine for_rev (K := K) (a := L) (xs := vs) (fun i σ H4 => ∃ pile acc k5 k6, σ = [some one, some two, some (.ref L), some (.int ts.length), some pile, k5, k6] ∧ Same H3 H4 ∧ PileAt H4 acc pile ∧ acc = (ts.drop (ts.length - i)).foldr glue c)
      ⟨u, c, none, none, rfl, .refl _, hu, by rw [Nat.sub_zero, List.drop_length]; rfl⟩ (fun i σ H4 _ ⟨_, _, _, _, _, s4, _⟩ => SqL.of (s4 _ _ hL3)) ?_ ?_
    · rintro i x σ H4 hi hx ⟨pile, acc, k5, k6, rfl, s4, hp, ea⟩
      obtain ⟨y, ey, fy⟩ := paired_get hps3 hx
      cases y with
      | nil => exact fy.elim
      | node r a' l rt rc hd =>
        obtain ⟨q, u1, vl, rfl, hq, hu1, hvl⟩ := RowAt.mono (.of s4) fy
        have sacc : acc.size ≤ 100 ∧ l.size ≤ 100 := by
          have e1 := foldr_glue_size c (ts.drop (ts.length - i))
          rw [← ea] at e1
          have e2 := j.szs
          have e3 : (ts.map lsz).sum = ((ts.take (ts.length - i)).map lsz).sum + ((ts.drop (ts.length - i)).map lsz).sum := by
            rw [← List.sum_append, ← List.map_append, List.take_append_drop]
          have e4 : lsz (.node r a' l rt rc hd) ≤ (ts.map lsz).sum := le_sum_mem (List.mem_map_of_mem (List.mem_of_getElem? ey))
          simp only [lsz] at e4
          omega
        refine ⟨q, _, rfl, SqT.of hq, rfl, _, _, rfl, _, _, rfl, rfl, ?_⟩
        refine ⟨_, rfl, _, rfl, _, rfl, _, _, _, (r, a'), l, acc, rfl, hu1, hvl, hp, sacc.2, sacc.1, fun u' H5 s5 hu' => ?_⟩
        refine ⟨u', _, _, _, rfl, s4.trans s5, hu', ?_⟩
        have e1 : ts.length - (i + 1) = vs.length - 1 - i := by omega
        have e2 : ts.length - i = ts.length - (i + 1) + 1 := by omega
        rw [ea]
        rw [e1] at e2 ⊢
        rw [List.drop_eq_getElem_cons (i := vs.length - 1 - i) (by omega), List.foldr_cons]
        have e3 : ts[vs.length - 1 - i]'(by omega) = .node r a' l rt rc hd := by
          rw [List.getElem?_eq_getElem (by omega)] at ey
          exact Option.some.inj ey
        rw [e3, ← e2]; rfl
    · rintro σ H4 ⟨pile, acc, k5, k6, rfl, s4, hp, ea⟩
      rw [hlen, Nat.sub_self, List.drop_zero] at ea
      refine ⟨_, rfl, _, rfl, (by show 2 ≤ sizeLine; decide), fun q hq => ?_⟩
      have ejn : joinN a0 b0 = ts.length := by rw [j.cn, en]; omega
      refine k q pile _ (((j.same.trans s3).trans s4).trans (same_new hq _)) (by rw [ejn]; exact upd_same) ?_
      rw [j.jn, ec, ← ea]
      exact hp.mono (.new hq _)
  have behind : ∀ {H3 : Hp}, Same H2 H3 → (a = .nil ∨ b = .nil) →
      tSeq (tAsg (tVar 0) (gName 4)) (tSeq (tIfS (tTest (tOp (rPile id) (tVar 0) (tTup tNil))) (tAsg (tVar 1) (gName 4)) tNext) (tSeq (tFor (iRev K (tCons (tVar 2) tNil)) (gTup K 2 (gCons (gName 5) (gCons (gName 6) gNil))) (tAsg (tCall spOnTop [] E0 (tCons (tVar 5) (tCons (tVar 6) (tCons (tVar 4) tNil)))) (gName 4)))
        (tRet (tTup (tCons (tVar 4) (tCons (tVar 3) tNil)))))) { nx := fun _ H' => Q .non H', rt := Q } [some one, some two, some (.ref L), some (.int ts.length), none, none, none] H3 := by
    intro H3 s3 hn
    refine ⟨_, rfl, ?_⟩
    refine ⟨_, rfl, (by show 0 ≤ sizeLine; decide), fun z hz => ?_⟩
    have s4 := s3.trans (same_new hz (.tup []))
    refine ⟨a, .nil, j.pa.mono (.of s4), ⟨z, rfl, upd_same⟩, sza, _, rfl, ?_⟩
    cases a with
    | nil =>
      refine iteT ⟨_, rfl, ?_⟩
      exact after s4 (join_nil_left _) (joinN_nil_left _) (by simp [T.size]) two (j.pb.mono (.of s4))
    | node r a l rt rc hd =>
      have eb : b = .nil := by
        rcases hn with e | e
        · cases e
        · exact e
      subst eb
      refine iteF ?_
      exact after s4 (join_nil_right _) (joinN_nil_right _) (by simp [T.size]) one (j.pa.mono (.of s4))
  refine ⟨_, rfl, (by show 0 ≤ sizeLine; decide), fun z hz => ?_⟩
  have s3 := same_new hz (.tup [])
  refine ⟨a, .nil, j.pa.mono (.of s3), ⟨z, rfl, upd_same⟩, sza, _, rfl, ?_⟩
  cases a with
  | nil => exact iteF (iteF (behind s3 (.inl rfl)))
  | node r a l rt rc hd =>
    refine iteT ⟨_, rfl, (by show 0 ≤ sizeLine; decide), fun z2 hz2 => ?_⟩
    have s4 := s3.trans (same_new hz2 (.tup []))
    refine ⟨b, .nil, j.pb.mono (.of s4), ⟨z2, rfl, upd_same⟩, szb, _, rfl, ?_⟩
    cases b with
    | nil => exact iteF (behind s4 (.inr rfl))
    | node r' a' l' rt' rc' hd' =>
      refine iteT ⟨_, fun σ' H' z => z, ?_⟩
      have hL4 := s4 _ _ j.lst
      have hvl : vs.length < sizeLine := szl (by have := j.sz; omega)
      obtain ⟨p, vl, vr, ep, hp, hl, hrt⟩ := nodeAt (j.pa.mono (.of s4))
      obtain ⟨p', vl', vr', ep', hp', hl', hrt'⟩ := nodeAt (j.pb.mono (.of s4))
      subst ep
      subst ep'
      generalize upd (upd H2 z (.tup [])) z2 (.tup []) = H4 at *
      refine ⟨_, rfl, _, _, rfl, rfl, ?_⟩
      refine ⟨_, rfl, p', _, _, _, rfl, rfl, SqT.of hp', rfl, _, rfl, p', _, _, _, rfl, rfl, SqT.of hp', rfl, (by show 2 ≤ sizeLine; decide), fun z3 hz3 => ?_⟩
      have s5 := same_new hz3 (.tup [.int r', .int a'])
      refine ⟨_, rfl, p, _, _, _, rfl, rfl, SqT.of (s5 _ _ hp), rfl, _, rfl, p, _, _, _, rfl, rfl, SqT.of (s5 _ _ hp), rfl, (by show 2 ≤ sizeLine; decide), fun z4 hz4 => ?_⟩
      have s6 := s5.trans (same_new hz4 (.tup [.int r, .int a]))
      refine ⟨z3, z4, [r', a'], [r, a], rfl, rfl, SqT.of (same_new hz4 _ _ _ upd_same), SqT.of upd_same, _, rfl, ?_⟩
      rw [lexLt2 (r', a') (r, a)]
      have hL6 := s6 _ _ hL4
      have hp6 := s6 _ _ hp
      have hp6' := s6 _ _ hp'
      have s26 := s4.trans s6
      generalize upd (upd H4 z3 (.tup [.int r', .int a'])) z4 (.tup [.int r, .int a]) = H6 at *
      cases hc : lt2 (r', a') (r, a) with
      | true =>
        refine iteT ?_
        refine ⟨_, rfl, .inl ⟨rfl, _, SqL.of hL6⟩, _, rfl, p', _, _, _, rfl, rfl, SqT.of hp6', rfl, _, rfl, p', _, _, _, rfl, rfl, SqT.of hp6', rfl, (by show 2 ≤ sizeLine; decide), fun z5 hz5 => ?_⟩
        have s7 := same_new hz5 (.tup [.int r', .int a'])
        refine ⟨_, rfl, p', _, _, _, rfl, rfl, SqT.of (s7 _ _ hp6'), rfl, (by show 2 ≤ sizeLine; decide), fun z6 hz6 => ?_⟩
        have s8 := s7.trans (same_new hz6 (.tup [.ref z5, vl']))
        have hL8 := s8 _ _ hL6
        have row : RowAt (upd (upd H6 z5 (.tup [.int r', .int a'])) z6 (.tup [.ref z5, vl'])) (.ref z6) (.node r' a' l' rt' rc' hd') := ⟨z6, .ref z5, vl', rfl, upd_same, ⟨z5, rfl, same_new hz6 _ _ _ upd_same⟩, hl'.mono (.of (s6.trans s8))⟩
        have j' := j.two hL (s26.trans s8) hc (hrt'.mono (.of (s6.trans s8))) row
        refine ⟨L, _, _, rfl, rfl, hL8, hvl, ?_⟩
        refine ⟨_, rfl, p', _, _, _, rfl, rfl, SqT.of (Tups.put hL8 _ _ (s8 _ _ hp6')), rfl, ?_⟩
        refine ⟨_, by simp only [T.size]; omega, _, _, _, _, _, _, ?_, j', rfl⟩
        have el : ((ts ++ [T.node r' a' l' rt' rc' hd']).length : Int) = (ts.length : Int) + 1 := by simp
        rw [el]; rfl
      | false =>
        refine iteF ?_
        refine ⟨_, rfl, .inl ⟨rfl, _, SqL.of hL6⟩, _, rfl, p, _, _, _, rfl, rfl, SqT.of hp6, rfl, _, rfl, p, _, _, _, rfl, rfl, SqT.of hp6, rfl, (by show 2 ≤ sizeLine; decide), fun z5 hz5 => ?_⟩
        have s7 := same_new hz5 (.tup [.int r, .int a])
        refine ⟨_, rfl, p, _, _, _, rfl, rfl, SqT.of (s7 _ _ hp6), rfl, (by show 2 ≤ sizeLine; decide), fun z6 hz6 => ?_⟩
        have s8 := s7.trans (same_new hz6 (.tup [.ref z5, vl]))
        have hL8 := s8 _ _ hL6
        have row : RowAt (upd (upd H6 z5 (.tup [.int r, .int a])) z6 (.tup [.ref z5, vl])) (.ref z6) (.node r a l rt rc hd) := ⟨z6, .ref z5, vl, rfl, upd_same, ⟨z5, rfl, same_new hz6 _ _ _ upd_same⟩, hl.mono (.of (s6.trans s8))⟩
        have j' := j.one hL (s26.trans s8) (by rw [hc]; decide) (hrt.mono (.of (s6.trans s8))) row
        refine ⟨L, _, _, rfl, rfl, hL8, hvl, ?_⟩
        refine ⟨_, rfl, p, _, _, _, rfl, rfl, SqT.of (Tups.put hL8 _ _ (s8 _ _ hp6)), rfl, ?_⟩
        refine ⟨_, by simp only [T.size]; omega, _, _, _, _, _, _, ?_, j', rfl⟩
        have el : ((ts ++ [T.node r a l rt rc hd]).length : Int) = (ts.length : Int) + 1 := by simp
        rw [el]; rfl
end
section
variable {P : Program} {w : World} {K : PySem.W.Frag} {mg : Str → Option Value} {base : Heap}
theorem sc_law_pairs_are : FnScope ["_law_found", "_law_due", "_law_k"] ["_law_found", "_law_due"] (defScope s_law_pairs_are) := ⟨rfl, rfl, rfl, by decide +kernel, rfl, by decide +kernel, by decide +kernel⟩
theorem ok_pairsare (O : Own K mg "_law_pairs_are" s_law_pairs_are) (B : Bare mg) (g_law_whole : Has P w K mg base 1 "_law_whole" ["_law_found"] spWhole) : Has P w K mg base 2 "_law_pairs_are" ["_law_found", "_law_due"] spPairsAre := by
  refine O.has sc_law_pairs_are (fun _ _ _ _ _ _ => by2 fun _ _ => rfl) (fun vs H Q E h => ?_) (fun f cdv A outer s H vs Q E hr h => ?_)
  · obtain ⟨a, b, ws, ws', ps, qs, rfl, _⟩ := h; rfl
  obtain ⟨a, b, ws, ws', ps, qs, rfl, ha, hb, hps, hqs, h1, h2, k⟩ := h
  have lw := paired_len hps
  have lw' := paired_len hqs
  refine ⟨_, (pss_cons (ps_if (pt_or (pt_not (pt_truth (pe_callB call_isi rfl B.isi boot_isi (pa_cons (pv 0) (pa_cons (pe_bltn (v := .ty "list") rfl B.list boot_list' rfl) pa_nil))) (fun _ => rfl))) (pw_or1 (pt_cmpR op_ne (pe_callB call_len_seq rfl B.len PySem.boot_len (pa_cons (pv 0) pa_nil)) (pe_callB call_len_seq rfl B.len PySem.boot_len (pa_cons (pv 1) pa_nil)) (nomark _))))
      (pss_one (ps_ret pe_bl))
      pss_nil)
    (pss_cons (ps_for PassesOwn.never rfl (pi_range1 rfl B.range (pa_cons (pe_callB call_len_seq rfl B.len PySem.boot_len (pa_cons (pv 1) pa_nil)) pa_nil)) (pg_name (i := 2) sc_law_pairs_are.nd rfl (Or.inl rfl))
      (pss_cons (ps_if (pt_or (pt_not (pt_truth (pe_callB call_isi rfl B.isi boot_isi (pa_cons (pe_ix ix_list (pv 0) (pv 2) (fun _ _ => rfl)) (pa_cons (pe_bltn (v := .ty "tuple") rfl B.tuple boot_tuple' rfl) pa_nil))) (fun _ => rfl))) (pw_or1 (pt_cmpR op_ne (pe_callB call_len_seq rfl B.len PySem.boot_len (pa_cons (pe_ix ix_list (pv 0) (pv 2) (fun _ _ => rfl)) pa_nil)) pe_int (nomark _))))
          (pss_one (ps_ret pe_bl))
          pss_nil)
        (pss_cons (ps_if (pt_or (pt_not (pt_truth (pe_fn g_law_whole hr (pa_cons (pe_ix ix_tup (pe_ix ix_list (pv 0) (pv 2) (fun _ _ => rfl)) pe_int (fun _ _ => rfl)) pa_nil)) (fun _ => rfl))) (pw_or1 (pt_not (pt_truth (pe_fn g_law_whole hr (pa_cons (pe_ix ix_tup (pe_ix ix_list (pv 0) (pv 2) (fun _ _ => rfl)) pe_int (fun _ _ => rfl)) pa_nil)) (fun _ => rfl)))))
          (pss_one (ps_ret pe_bl))
          pss_nil)
        (pss_one (ps_if (pt_cmpR (op_nePair (hu110 hr)) (pe_ix ix_list (pv 0) (pv 2) (fun _ _ => rfl)) (pe_ix ix_list (pv 1) (pv 2) (fun _ _ => rfl)) (nomark _))
          (pss_one (ps_ret pe_bl))
          pss_nil)))))
    (pss_one (ps_ret pe_bl)))), ?_⟩
  refine ⟨_, rfl, _, _, _, _, rfl, TyOf.lst ha, kit_ll K, _, rfl, iteF ?_⟩
  refine ⟨_, rfl, a, _, rfl, .inl (SqL.of ha), _, rfl, b, _, rfl, .inl (SqL.of hb), rfl, _, rfl, ?_⟩
  refine ite2 (fun c => ?_) (fun c => ?_)
  · have hne : ¬ ps = qs := fun e => by
      rw [e] at lw
      have : ws.length = ws'.length := by omega
      rw [this] at c
      simp at c
    rw [decide_eq_false hne] at k
    exact k
  · have he : ps.length = qs.length := by
      have c' : (!decide (V.int (ws.length : Int) = V.int (ws'.length : Int))) = false := by simpa using c
      have c2 : V.int (ws.length : Int) = V.int (ws'.length : Int) := by simpa using c'
      injection c2 with c3
      omega
    refine ⟨_, rfl, b, _, rfl, .inl (SqL.of hb), _, rfl, by omega, by omega, ?_⟩
    have en : ((ws'.length : Nat) : Int).toNat = qs.length := by omega
    rw [en]
    refine for_range (n := qs.length) (fun i σ H2 => ∃ kk, σ = [some (.ref a), some (.ref b), kk] ∧ H2 = H ∧ ps.take i = qs.take i) ⟨none, rfl, rfl, rfl⟩ ?_ ?_
    · rintro i σ H2 hi ⟨kk, rfl, rfl, ht⟩
      have e0 : ((0 : Int) + (i : Int)).toNat = i := by omega
      obtain ⟨x, ex, fx⟩ := paired_get' hps (i := i) (y := ps[i]'(by omega)) (List.getElem?_eq_getElem _)
      obtain ⟨y, ey, fy⟩ := paired_get' hqs (i := i) (y := qs[i]) (List.getElem?_eq_getElem _)
      have ax : atI ws ((0 : Int) + (i : Int)) = some x := atI_some (by omega) (by rw [e0]; exact ex)
      have ay : atI ws' ((0 : Int) + (i : Int)) = some y := atI_some (by omega) (by rw [e0]; exact ey)
      have fx' := fx
      obtain ⟨q, rfl, hq⟩ := fx
      refine ⟨_, rfl, _, rfl, a, _, _, _, rfl, rfl, SqL.of ha, ax, _, _, _, _, rfl, TyOf.tup hq, kit_tt K, _, rfl, iteF ?_⟩
      refine ⟨_, rfl, _, rfl, a, _, _, _, rfl, rfl, SqL.of ha, ax, q, _, rfl, .inr (SqT.of hq), rfl, _, rfl, iteF ?_⟩
      refine ⟨_, rfl, _, rfl, a, _, _, _, rfl, rfl, SqL.of ha, ax, q, _, _, _, rfl, rfl, SqT.of hq, rfl, _, rfl, _, rfl, iteF ?_⟩
      refine ⟨_, rfl, _, rfl, a, _, _, _, rfl, rfl, SqL.of ha, ax, q, _, _, _, rfl, rfl, SqT.of hq, rfl, _, rfl, _, rfl, iteF ?_⟩
      refine ⟨_, rfl, _, rfl, a, _, _, _, rfl, rfl, SqL.of ha, ax, _, rfl, _, rfl, b, _, _, _, rfl, rfl, SqL.of hb, ay, _, _, fx', fy, _, rfl, ?_⟩
      refine ite2 (fun c => ?_) (fun c => ?_)
      · have c' : ¬ ps[i]'(by omega) = qs[i] := by simpa using c
        have hne : ¬ ps = qs := fun e => c' (by simp only [e])
        rw [decide_eq_false hne] at k
        exact k
      · have c' : ps[i]'(by omega) = qs[i] := by simpa using c
        refine ⟨_, rfl, rfl, ?_⟩
        rw [List.take_succ_eq_append_getElem (by omega), List.take_succ_eq_append_getElem hi, ht, c']
    · rintro σ H2 ⟨kk, rfl, rfl, ht⟩
      have e : ps = qs := by
        rw [List.take_of_length_le (by omega), List.take_of_length_le (Nat.le_refl _)] at ht
        exact ht
      rw [decide_eq_true e] at k
      exact k
end
section
variable {P : Program} {w : World} {K : PySem.W.Frag} {mg : Str → Option Value} {base : Heap}
theorem sc_law_greatest : FnScope ["_law_piles", "_law_rows", "_law_found"] ["_law_piles"] (defScope s_law_greatest) := ⟨rfl, rfl, rfl, by decide +kernel, rfl, by decide +kernel, by decide +kernel⟩
def rowOf (ts : List T) (k : Nat) : Int × Int := (0 - (ts.getD k .nil).held, (0 : Int) + (k : Int))
theorem ok_greatest (O : Own K mg "_law_greatest" s_law_greatest) (B : Bare mg) : Has P w K mg base 1 "_law_greatest" ["_law_piles"] spGreatest := by
  refine O.has sc_law_greatest (fun _ _ _ _ _ _ => by1 fun _ => rfl) (fun vs H Q E h => ?_) (fun f cdv A outer s H vs Q E hr h => ?_)
  · obtain ⟨a, ws, ts, rfl, _⟩ := h; rfl
  obtain ⟨a, ws, ts, rfl, ha, hts, hnn, h63, k⟩ := h
  have lw := paired_len hts
  refine ⟨_, (pss_cons (ps_set (i := 1) sc_law_greatest.nd rfl (Or.inl rfl) (pe_callB call_sorted rfl B.srt boot_srt (pa_cons (pe_comp ["_law_k"] [(0, "_law_piles")] rfl (pi_range1 rfl B.range (pa_cons (pe_callB call_len_seq rfl B.len PySem.boot_len (pa_cons (pv 0) pa_nil)) pa_nil)) (by decide +kernel) rfl (by decide +kernel) (by decide +kernel) ⟨⟨rfl, rfl, rfl⟩, trivial⟩ (fun cl C s3 H3 fp => (pg_name (i := 0) (show (["_law_k", "_law_piles"] : List Str).Nodup from by decide +kernel) rfl (Or.inl rfl) (Or.inr rfl))) (fun cl C s3 H3 fp => (pe_tup (pa_cons (pe_op op_sub pe_int (pe_ix (ix_tupK K) (pe_ix (ix_listK K) (pv 1) (pv 0) (fun _ _ => rfl)) pe_int (fun _ _ => rfl))) (pa_cons (pv 0) pa_nil))))) pa_nil)))
    (pss_cons (ps_set (i := 2) sc_law_greatest.nd rfl (Or.inl rfl) (pe_op op_cat (pe_comp ["_law_row"] [(0, "_law_piles")] rfl (pi_list (pv 1)) (by decide +kernel) rfl (by decide +kernel) (by decide +kernel) ⟨⟨rfl, rfl, rfl⟩, trivial⟩ (fun cl C s3 H3 fp => (pg_name (i := 0) (show (["_law_row", "_law_piles"] : List Str).Nodup from by decide +kernel) rfl (Or.inl rfl) (Or.inr rfl))) (fun cl C s3 H3 fp => (pe_ix (ix_listK K) (pv 1) (pe_ix (ix_tupK K) (pv 0) pe_int (fun _ _ => rfl)) (fun _ _ => rfl)))) (pe_lst (pa_cons (pe_tup pa_nil) (pa_cons (pe_tup pa_nil) pa_nil)))))
    (pss_one (ps_ret (pe_slice sl_list (pv 2) po_none (po_some pe_int)))))), ?_⟩
  have en : ((ws.length : Nat) : Int).toNat = ts.length := by omega
  refine ⟨_, rfl, a, _, rfl, .inl (SqL.of ha), _, rfl, by omega, by omega, fun D hD => ?_⟩
  rw [en]
  refine ⟨fun i m H2 => i + m = ts.length ∧ Same H H2 ∧ ∃ acc, H2 D = some (.lst acc) ∧ PairsAt H2 acc ((List.range i).map (rowOf ts)), ⟨ts.length, by omega, same_new hD _, [], upd_same, .nil⟩, ?_⟩
  rintro i m H2 ⟨him, s2, acc, hacc, hp⟩
  by_cases hi : i < ts.length
  · refine .inr ⟨hi, fun x H3 y => ?_⟩
    obtain ⟨rfl, rfl⟩ := y
    have la : acc.length = i := by have := paired_len hp; simpa using this
    refine ⟨Keeps.one _ _, ?_⟩
    have hit : ∃ x, ws[i]? = some x ∧ PileAt H (ts.getD i .nil) x := by
      obtain ⟨x, e1, e2⟩ := paired_get' hts (i := i) (y := ts[i]) (List.getElem?_eq_getElem hi)
      exact ⟨x, e1, by simpa [List.getD, hi] using e2⟩
    obtain ⟨x, ex, fx⟩ := hit
    have hne : ts.getD i .nil ≠ .nil := hnn _ (by simp [List.getD, hi])
    have hro : rowOf ts i = (0 - (ts.getD i .nil).held, (0 : Int) + (i : Int)) := rfl
    generalize ts.getD i .nil = t at *
    cases t with
    | nil => exact absurd rfl hne
    | node r0 a0 l0 rt0 rc0 hd0 =>
      obtain ⟨p, vl, vr, rfl, hp0, _⟩ := nodeAt (PileAt.mono (.of s2) fx)
      have ax : atI ws ((0 : Int) + (i : Int)) = some (.ref p) := atI_some (by omega) (by rw [show ((0 : Int) + (i : Int)).toNat = i by omega]; exact ex)
      refine ⟨_, rfl, _, rfl, a, _, _, _, rfl, rfl, SqL.of (s2 _ _ ha), ax, p, _, _, _, rfl, rfl, SqT.of hp0, rfl, _, _, rfl, rfl, _, rfl, (by show 2 ≤ sizeLine; decide), fun q hq => ?_⟩
      have s3 := same_new hq (.tup [.int (0 - hd0), .int ((0 : Int) + (i : Int))])
      have hD3 := s3 _ _ hacc
      refine ⟨acc, hD3, szl (by omega), m - 1, by omega, by omega, same_put hD (s2.trans s3) _, acc ++ [.ref q], upd_same, ?_⟩
      rw [List.range_succ, List.map_append]
      refine paired_app ((PairsAt.mono (.of s3) hp).mono (.put hD3)) (.cons ?_ .nil)
      rw [hro]
      exact ⟨q, rfl, Tups.put hD3 _ _ upd_same⟩
  · have ei : i = ts.length := by omega
    subst ei
    refine .inl ⟨Nat.le_refl _, ?_⟩
    refine ⟨D, acc, _, rfl, hacc, hp, by simpa using Nat.lt_succ_of_le h63, fun D2 us qs hD2 hus hperm hsrt => ?_⟩
    have s3 : Same H (upd H2 D2 (.lst us)) := s2.trans (same_new hD2 _)
    have hus3 := hus.mono (Tups.new hD2 (.lst us))
    refine ⟨_, rfl, D2, rfl, ⟨us, SqL.of upd_same⟩, fun D3 hD3 => ?_⟩
    obtain ⟨js, hjs, eq⟩ : ∃ js : List Nat, js.Perm (List.range ts.length) ∧ qs = js.map (rowOf ts) := by
      refine ⟨qs.map fun p => p.2.toNat, ?_, ?_⟩
      · have := hperm.map fun p : Int × Int => p.2.toNat
        rw [List.map_map] at this
        refine this.trans (List.Perm.of_eq ?_)
        conv => rhs; rw [← List.map_id (List.range ts.length)]
        refine List.map_congr_left fun i _ => ?_
        show ((0 : Int) + (i : Int)).toNat = i
        omega
      · rw [List.map_map]
        conv => lhs; rw [← List.map_id qs]
        refine List.map_congr_left fun p hp' => ?_
        obtain ⟨i, _, e⟩ := List.mem_map.mp (hperm.mem_iff.mp hp')
        rw [← e]
        show rowOf ts i = rowOf ts ((0 : Int) + (i : Int)).toNat
        rw [show ((0 : Int) + (i : Int)).toNat = i by omega]
    have lj : js.length = ts.length := by rw [hjs.length_eq, List.length_range]
    have lu : us.length = ts.length := by rw [paired_len hus, eq, List.length_map, lj]
    refine ⟨fun i m H4 => i + m = us.length ∧ Same (upd H2 D2 (.lst us)) H4 ∧ ∃ acc', H4 D3 = some (.lst acc') ∧ PilesAt H4 acc' ((js.take i).map fun j => ts.getD j .nil), ⟨us.length, by omega, same_new hD3 _, [], upd_same, .nil⟩, ?_⟩
    rintro i m H4 ⟨him, s4, acc', hacc', hp'⟩
    have hsq : SqL K H4 D2 us := SqL.of (s4 _ _ upd_same)
    by_cases hi : i < us.length
    · refine .inr ⟨⟨us, us[i], hsq, List.getElem?_eq_getElem hi⟩, fun x H5 y => ?_⟩
      obtain ⟨rfl, hy⟩ := y
      have hx := hy us hsq
      have la : acc'.length = i := by
        have := paired_len hp'
        rw [List.length_map, List.length_take] at this
        omega
      refine ⟨Keeps.one _ _, ?_⟩
      obtain ⟨y, ey, q0, rfl, hq0⟩ := paired_get (hus3.mono (.of s4)) hx
      rw [eq, List.getElem?_map] at ey
      have hij : i < js.length := by omega
      rw [List.getElem?_eq_getElem hij] at ey
      have ey' : y = rowOf ts js[i] := (Option.some.inj ey).symm
      have hj : js[i] < ts.length := by simpa using hjs.mem_iff.mp (List.getElem_mem hij)
      obtain ⟨xw, exw, fxw⟩ := paired_get' hts (i := js[i]) (y := ts[js[i]]) (List.getElem?_eq_getElem hj)
      have e2 : y.2 = (0 : Int) + (js[i] : Int) := by rw [ey']; rfl
      have ax : atI ws y.2 = some xw := atI_some (by omega) (by rw [e2, show ((0 : Int) + (js[i] : Int)).toNat = js[i] by omega]; exact exw)
      refine ⟨_, rfl, _, rfl, q0, _, _, _, rfl, rfl, SqT.of hq0, rfl, a, _, _, _, rfl, rfl, SqL.of (s4 _ _ (s3 _ _ ha)), ax, acc', hacc', szl (by omega), m - 1, by omega, by omega, ?_⟩
      have hD3' : (upd H2 D2 (.lst us)) D3 = none := hD3
      refine ⟨same_put hD3' s4 _, acc' ++ [xw], upd_same, ?_⟩
      rw [List.take_succ_eq_append_getElem hij, List.map_append]
      refine paired_app (PilesAt.mono (.put hacc') hp') (.cons ?_ .nil)
      have e3 : ts.getD js[i] .nil = ts[js[i]] := by simp [List.getD, hj]
      show PileAt _ (ts.getD js[i] .nil) xw
      rw [e3]
      exact PileAt.mono ((Tups.of (s3.trans s4)).trans (.put hacc')) fxw
    · have ei : i = us.length := by omega
      subst ei
      refine .inl ⟨⟨us, hsq, Nat.le_refl _⟩, ?_⟩
      rw [List.take_of_length_le (by omega)] at hp'
      refine ⟨(by show 0 ≤ sizeLine; decide), fun n1 hn1 => ⟨(by show 0 ≤ sizeLine; decide), fun n2 hn2 => ⟨(by show 2 ≤ sizeLine; decide), fun n3 hn3 => ?_⟩⟩⟩
      have s5 := ((same_new hn1 (.tup [])).trans (same_new hn2 (.tup []))).trans (same_new hn3 (.lst [.ref n1, .ref n2]))
      have la : acc'.length = ts.length := by
        have := paired_len hp'
        rw [List.length_map] at this
        omega
      refine ⟨D3, n3, acc', [.ref n1, .ref n2], rfl, rfl, s5 _ _ hacc', upd_same, sz (by simp; omega), fun n4 hn4 => ?_⟩
      have s6 := s5.trans (same_new hn4 (.lst (acc' ++ [.ref n1, .ref n2])))
      refine ⟨_, rfl, 2, rfl, n4, acc' ++ [.ref n1, .ref n2], rfl, SqL.of upd_same, fun n5 hn5 => ?_⟩
      have s7 := s6.trans (same_new hn5 (.lst (cutV (acc' ++ [.ref n1, .ref n2]) none (some 2))))
      have ecut : cutV (acc' ++ [V.ref n1, .ref n2]) none (some 2) = (acc' ++ [V.ref n1, .ref n2]).take 2 := by
        unfold cutV
        rw [HT.sIx_none]
        have e : HT.sIx (acc' ++ [V.ref n1, .ref n2]).length (acc' ++ [V.ref n1, .ref n2]).length (some (2 : Int)) = min 2 (acc' ++ [V.ref n1, .ref n2]).length := HT.sIx_nat _ _ 2
        rw [e, List.drop_zero, Nat.sub_zero, Nat.min_eq_left (by simp)]
      have hall : PilesAt (upd (upd (upd (upd (upd H4 n1 (.tup [])) n2 (.tup [])) n3 (.lst [.ref n1, .ref n2])) n4 (.lst (acc' ++ [.ref n1, .ref n2]))) n5 (.lst (cutV (acc' ++ [.ref n1, .ref n2]) none (some 2)))) (acc' ++ [.ref n1, .ref n2]) (js.map (fun j => ts.getD j T.nil) ++ [T.nil, T.nil]) := by
        refine paired_app (PilesAt.mono (.of s7) hp') (.cons ⟨n1, rfl, ?_⟩ (.cons ⟨n2, rfl, ?_⟩ .nil))
        · exact ((same_new hn2 (.tup [])).trans ((same_new hn3 (.lst [.ref n1, .ref n2])).trans ((same_new hn4 (.lst (acc' ++ [.ref n1, .ref n2]))).trans (same_new hn5 _)))) _ _ upd_same
        · exact ((same_new hn3 (.lst [.ref n1, .ref n2])).trans ((same_new hn4 (.lst (acc' ++ [.ref n1, .ref n2]))).trans (same_new hn5 _))) _ _ upd_same
      have split2 : ∃ v1 v2 t1 t2, (acc' ++ [V.ref n1, .ref n2]).take 2 = [v1, v2] ∧ [t1, t2] = (js.map (fun j => ts.getD j T.nil) ++ [T.nil, T.nil]).take 2 ∧ PileAt (upd (upd (upd (upd (upd H4 n1 (.tup [])) n2 (.tup [])) n3 (.lst [.ref n1, .ref n2])) n4 (.lst (acc' ++ [.ref n1, .ref n2]))) n5 (.lst (cutV (acc' ++ [.ref n1, .ref n2]) none (some 2)))) t1 v1 ∧ PileAt (upd (upd (upd (upd (upd H4 n1 (.tup [])) n2 (.tup [])) n3 (.lst [.ref n1, .ref n2])) n4 (.lst (acc' ++ [.ref n1, .ref n2]))) n5 (.lst (cutV (acc' ++ [.ref n1, .ref n2]) none (some 2)))) t2 v2 := by
        have l2 : 2 ≤ (acc' ++ [V.ref n1, .ref n2]).length := by simp
        generalize acc' ++ [V.ref n1, .ref n2] = vs2 at hall l2
        generalize js.map (fun j => ts.getD j T.nil) ++ [T.nil, T.nil] = ts2 at hall
        match vs2, ts2, hall, l2 with
        | [], _, _, l2 => exact absurd l2 (by simp)
        | [_], _, _, l2 => exact absurd l2 (by simp)
        | v1 :: v2 :: _, t1 :: t2 :: _, .cons z1 (.cons z2 _), _ => exact ⟨v1, v2, t1, t2, rfl, rfl, z1, z2⟩
      obtain ⟨v1, v2, t1, t2, e1, e2, z1, z2⟩ := split2
      exact k n5 v1 v2 t1 t2 _ ((s3.trans s4).trans s7) (by rw [upd_same, ecut, e1]) z1 z2 ⟨js, hjs, e2⟩
end
section
variable {P : Program} {w : World} {K : PySem.W.Frag} {mg : Str → Option Value} {base : Heap}
theorem sc_law_all_in : FnScope ["_law_pile", "_law_found", "_law_todo", "_law_here"] ["_law_pile"] (defScope s_law_all_in) := ⟨rfl, rfl, rfl, by decide +kernel, rfl, by decide +kernel, by decide +kernel⟩
theorem ok_allin (O : Own K mg "_law_all_in" s_law_all_in) : Has P w K mg base 1 "_law_all_in" ["_law_pile"] spAllIn := by
  refine O.has sc_law_all_in (fun _ _ _ _ _ _ => by1 fun _ => rfl) (fun vs H Q E h => ?_) (fun f cdv A outer s H vs Q E hr h => ?_)
  · obtain ⟨v, t, rfl, _⟩ := h; rfl
  obtain ⟨v, t, rfl, hv, hsz, k⟩ := h
  refine ⟨_, (pss_cons (ps_set (i := 1) sc_law_all_in.nd rfl (Or.inl rfl) (pe_lst pa_nil))
    (pss_cons (ps_set (i := 2) sc_law_all_in.nd rfl (Or.inl rfl) (pe_lst (pa_cons (pv 0) pa_nil)))
    (pss_cons (ps_while PassesOwn.never (pt_cmpR (op_neEmp (hu110 hr)) (pv 2) (pe_lst pa_nil) (nomark _))
      (pss_cons (ps_set (i := 3) sc_law_all_in.nd rfl (Or.inl rfl) (pe_bm0 PySem.F.plainAttrs_list PySem.F.slot_list_pop PySem.F.type_list_pop mt_pop (pv 2)))
        (pss_one (ps_if (pt_cmpR (op_nePile (hu110 hr)) (pv 3) (pe_tup pa_nil) (nomark _))
          (pss_cons (ps_expr (pe_bm PySem.F.plainAttrs_list PySem.F.slot_list_append PySem.F.type_list_append mt_append (pv 1) (pa_cons (pe_tup (pa_cons (pe_ix ix_tup (pv 3) pe_int (fun _ _ => rfl)) (pa_cons (pe_ix ix_tup (pv 3) pe_int (fun _ _ => rfl)) pa_nil))) pa_nil)))
            (pss_cons (ps_expr (pe_bm PySem.F.plainAttrs_list PySem.F.slot_list_append PySem.F.type_list_append mt_append (pv 2) (pa_cons (pe_ix ix_tup (pv 3) pe_int (fun _ _ => rfl)) pa_nil)))
            (pss_one (ps_expr (pe_bm PySem.F.plainAttrs_list PySem.F.slot_list_append PySem.F.type_list_append mt_append (pv 2) (pa_cons (pe_ix ix_tup (pv 3) pe_int (fun _ _ => rfl)) pa_nil))))))
          pss_nil))))
    (pss_one (ps_ret (pv 1)))))), ?_⟩
  refine ⟨(by show 0 ≤ sizeLine; decide), fun L hL => ?_⟩
  refine ⟨_, rfl, (by show 1 ≤ sizeLine; decide), fun M hM => ?_⟩
  have hLM : L ≠ M := fun e => by rw [← e, upd_same] at hM; cases hM
  have hM0 : H M = none := (same_new hL _).free hM
  refine ⟨fun m σ H2 => ∃ here ws ps us ts, σ = [some v, some (.ref L), some (.ref M), here] ∧ Same H H2 ∧ H2 L = some (.lst ws) ∧ H2 M = some (.lst us) ∧ PairsAt H2 ws ps ∧ PilesAt H2 us ts ∧ ps ++ (ts.reverse.flatMap T.toL) = t.toL ∧ ts.length ≤ ps.length + 1 ∧ m = ts.length + 2 * sumSize ts,
    ⟨_, none, [], [], [v], [t], rfl, (same_new hL _).trans (same_new hM _), by rw [upd_ne hLM]; exact upd_same, upd_same, .nil, .cons ((hv.mono (.new hL _)).mono (.new hM _)) .nil, by simp, by simp, rfl⟩, ?_⟩
  rintro m σ H2 ⟨here, ws, ps, us, ts, rfl, s2, hL2, hM2, hps, hts, hflat, hlen, rfl⟩
  have hcount : ps.length + sumSize ts = t.size := by
    have e := congrArg List.length hflat
    rw [List.length_append, T.length_toL] at e
    rw [← e]
    congr 1
    rw [List.length_flatMap]
    have e2 : (ts.reverse.map fun a => a.toL.length) = ts.reverse.map T.size := List.map_congr_left fun a _ => T.length_toL a
    rw [e2, List.map_reverse, List.sum_reverse]
    rfl
  have lw := paired_len hps
  have lu := paired_len hts
  refine ⟨_, rfl, (by show 0 ≤ sizeLine; decide), fun z hz => ?_⟩
  have s3 := same_new hz (HO.lst [])
  refine ⟨M, z, us, rfl, rfl, s3 _ _ hM2, upd_same, _, rfl, ?_⟩
  rcases List.eq_nil_or_concat ts with e | ⟨r, x, e⟩
  · subst e
    obtain _ | _ := hts
    refine iteF ⟨_, rfl, ?_⟩
    exact k L ws _ (s2.trans s3) (s3 _ _ hL2) (by
      have : ps = t.toL := by simpa using hflat
      rw [← this]; exact PairsAt.mono (.of s3) hps)
  · rw [List.concat_eq_append] at e
    subst e
    obtain ⟨us', vx, rfl, hts', hx⟩ := paired_snoc_inv hts
    have hM3 := s3 _ _ hM2
    have hL3 := s3 _ _ hL2
    have lr : us'.length = r.length := paired_len hts'
    have hsum : sumSize (r ++ [x]) = sumSize r + x.size := by rw [sumSize_append, sumSize_cons]; simp [sumSize]
    rw [hsum] at hcount
    have hlen' : r.length ≤ ps.length := by simp at hlen; omega
    have em : (us' ++ [vx]).isEmpty = false := by simp
    rw [em]
    refine iteT ⟨_, fun σ' H' z => z, ?_⟩
    refine ⟨_, rfl, .inl ⟨rfl, _, SqL.of hM3⟩, M, _, vx, rfl, rfl, hM3, by simp, ?_⟩
    rw [List.dropLast_concat]
    have m4 : Tups H2 (upd (upd H2 z (.lst [])) M (.lst us')) := (Tups.of s3).trans (.put hM3)
    have hM4 : (upd (upd H2 z (.lst [])) M (.lst us')) M = some (.lst us') := upd_same
    have hL4 : (upd (upd H2 z (.lst [])) M (.lst us')) L = some (.lst ws) := by rw [upd_ne hLM]; exact hL3
    have sm4 : Same H (upd (upd H2 z (.lst [])) M (.lst us')) := same_put hM0 (s2.trans s3) _
    generalize upd (upd H2 z (.lst [])) M (.lst us') = H4 at m4 hM4 hL4 sm4
    refine ⟨_, rfl, (by show 0 ≤ sizeLine; decide), fun z2 hz2 => ?_⟩
    have s5 := same_new hz2 (.tup [])
    have hx5 : PileAt (upd H4 z2 (.tup [])) x vx := (PileAt.mono m4 hx).mono (.of s5)
    have m5 := m4.trans (.of s5)
    refine ⟨x, .nil, hx5, ⟨z2, rfl, upd_same⟩, by omega, _, rfl, ?_⟩
    have hM5 := s5 _ _ hM4
    have hL5 := s5 _ _ hL4
    have sm5 := sm4.trans s5
    generalize upd H4 z2 (.tup []) = H5 at hx5 m5 hM5 hL5 sm5
    rw [List.reverse_append, List.flatMap_append] at hflat
    cases x with
    | nil =>
      refine iteF ⟨_, ?_, _, ws, ps, us', r, rfl, sm5, hL5, hM5, PairsAt.mono m5 hps, PilesAt.mono m5 hts', by simpa [T.toL] using hflat, by simp at hlen; omega, rfl⟩
      rw [hsum, List.length_append]
      simp only [T.size, List.length_singleton]; omega
    | node r0 a0 l0 rt0 rc0 hd0 =>
      obtain ⟨p, vl, vr, rfl, hp, hl, hrt⟩ := nodeAt hx5
      refine iteT ?_
      refine ⟨_, rfl, .inl ⟨rfl, _, SqL.of hL5⟩, _, rfl, p, _, _, _, rfl, rfl, SqT.of hp, rfl, _, rfl, p, _, _, _, rfl, rfl, SqT.of hp, rfl, (by show 2 ≤ sizeLine; decide), fun q hq => ?_⟩
      have s6 := same_new hq (.tup [.int r0, .int a0])
      refine ⟨L, _, _, rfl, rfl, s6 _ _ hL5, szl (by omega), ?_⟩
      have m7 : Tups H5 (upd (upd H5 q (.tup [.int r0, .int a0])) L (.lst (ws ++ [.ref q]))) := (Tups.of s6).trans (.put (s6 _ _ hL5))
      have q7 : PairAt (upd (upd H5 q (.tup [.int r0, .int a0])) L (.lst (ws ++ [.ref q]))) (.ref q) (r0, a0) := ⟨q, rfl, Tups.put (s6 _ _ hL5) _ _ upd_same⟩
      have hM7 : (upd (upd H5 q (.tup [.int r0, .int a0])) L (.lst (ws ++ [.ref q]))) M = some (.lst us') := by rw [upd_ne hLM.symm]; exact s6 _ _ hM5
      have hL7 : (upd (upd H5 q (.tup [.int r0, .int a0])) L (.lst (ws ++ [.ref q]))) L = some (.lst (ws ++ [.ref q])) := upd_same
      have sm7 : Same H (upd (upd H5 q (.tup [.int r0, .int a0])) L (.lst (ws ++ [.ref q]))) := same_put hL (sm5.trans s6) _
      generalize upd (upd H5 q (.tup [.int r0, .int a0])) L (.lst (ws ++ [.ref q])) = H7 at m7 q7 hM7 hL7 sm7
      refine ⟨_, rfl, .inl ⟨rfl, _, SqL.of hM7⟩, _, rfl, p, _, _, _, rfl, rfl, SqT.of (m7 _ _ hp), rfl, M, _, _, rfl, rfl, hM7, szl (by omega), ?_⟩
      have m8 := Tups.put (o := .lst (us' ++ [vr])) hM7
      have hM8 : (upd H7 M (.lst (us' ++ [vr]))) M = some (.lst (us' ++ [vr])) := upd_same
      refine ⟨_, rfl, .inl ⟨rfl, _, SqL.of hM8⟩, _, rfl, p, _, _, _, rfl, rfl, SqT.of (m8 _ _ (m7 _ _ hp)), rfl, M, _, _, rfl, rfl, hM8, szl (by simp; omega), ?_⟩
      have m9 := Tups.put (o := .lst (us' ++ [vr] ++ [vl])) hM8
      have mm := (m7.trans m8).trans m9
      refine ⟨_, ?_, _, ws ++ [.ref q], ps ++ [(r0, a0)], us' ++ [vr] ++ [vl], r ++ [rt0] ++ [l0], rfl, same_put hM0 (same_put hM0 sm7 _) _, by rw [upd_ne hLM, upd_ne hLM]; exact hL7, upd_same,
        paired_app (PairsAt.mono (m5.trans mm) hps) (.cons (q7.mono (m8.trans m9)) .nil), paired_app (paired_app (PilesAt.mono (m5.trans mm) hts') (.cons (hrt.mono mm) .nil)) (.cons (hl.mono mm) .nil), ?_, by simp at hlen ⊢; omega, rfl⟩
      · rw [hsum, sumSize_append, sumSize_append, sumSize_cons, sumSize_cons]
        simp only [sumSize, List.map_nil, List.sum_nil, List.length_append, List.length_singleton, T.size]
        omega
      · rw [← hflat]
        simp [T.toL]
end
section
variable {P : Program} {w : World} {K : PySem.W.Frag} {mg : Str → Option Value} {base : Heap}
theorem sc_law_piles_by : FnScope ["_law_cells", "_law_stack", "_law_k", "_law_thing", "_law_one", "_law_two"] ["_law_cells"] (defScope s_law_piles_by) := ⟨rfl, rfl, rfl, by decide +kernel, rfl, by decide +kernel, by decide +kernel⟩
theorem ok_pilesby (O : Own K mg "_law_piles_by" s_law_piles_by) (B : Bare mg) (g_law_on_top : Has P w K mg base 1 "_law_on_top" ["_law_thing", "_law_one", "_law_two"] spOnTop) : Has P w K mg base 2 "_law_piles_by" ["_law_cells"] (spPilesBy K) := by
  refine O.has sc_law_piles_by (fun _ _ _ _ _ _ => by1 fun _ => rfl) (fun vs H Q E h => ?_) (fun f cdv A outer s H vs Q E hr h => ?_)
  · obtain ⟨a, ns, rfl, _⟩ := h; rfl
  obtain ⟨a, ns, rfl, ha, h63, k⟩ := h
  refine ⟨_, (pss_cons (ps_set (i := 1) sc_law_piles_by.nd rfl (Or.inl rfl) (pe_lst pa_nil))
    (pss_cons (ps_for PassesOwn.never rfl (pi_range1 rfl B.range (pa_cons (pe_callB call_len_seq rfl B.len PySem.boot_len (pa_cons (pv 0) pa_nil)) pa_nil)) (pg_name (i := 2) sc_law_piles_by.nd rfl (Or.inl rfl))
      (pss_cons (ps_set (i := 3) sc_law_piles_by.nd rfl (Or.inl rfl) (pe_tup (pa_cons (pe_ix ix_list (pe_lst (pa_cons (pe_op op_sub pe_int (pe_op op_fdiv (pv 2) pe_int)) (pa_cons (pe_op op_pow pe_int pe_int) pa_nil))) (pe_callTy call_int1 rfl B.int boot_int' (pa_cons (pe_cmpR op_lt (pv 2) pe_int (nomark _)) pa_nil)) (fun _ _ => rfl)) (pa_cons (pe_op op_sub pe_int (pv 2)) pa_nil))))
        (pss_cons (ps_set (i := 4) sc_law_piles_by.nd rfl (Or.inl rfl) (pe_tup pa_nil))
        (pss_cons (ps_set (i := 5) sc_law_piles_by.nd rfl (Or.inl rfl) (pe_tup pa_nil))
        (pss_cons (ps_if (pt_and (pt_cmpR op_gt (pe_op op_mod (pe_ix ix_list (pv 0) (pv 2) (fun _ _ => rfl)) pe_int) pe_int (nomark _)) (pw_and1 (pt_cmpR (op_neEmp (hu110 hr)) (pv 1) (pe_lst pa_nil) (nomark _))))
          (pss_one (ps_set (i := 4) sc_law_piles_by.nd rfl (Or.inl rfl) (pe_bm PySem.F.plainAttrs_list PySem.F.slot_list_pop PySem.F.type_list_pop mt_popAt (pv 1) (pa_cons (pe_op op_mod (pe_op op_fdiv (pe_ix ix_list (pv 0) (pv 2) (fun _ _ => rfl)) pe_int) (pe_callB call_len_seq rfl B.len PySem.boot_len (pa_cons (pv 1) pa_nil))) pa_nil))))
          pss_nil)
        (pss_cons (ps_if (pt_and (pt_cmpR op_gt (pe_op op_mod (pe_ix ix_list (pv 0) (pv 2) (fun _ _ => rfl)) pe_int) pe_int (nomark _)) (pw_and1 (pt_cmpR (op_neEmp (hu110 hr)) (pv 1) (pe_lst pa_nil) (nomark _))))
          (pss_one (ps_set (i := 5) sc_law_piles_by.nd rfl (Or.inl rfl) (pe_bm0 PySem.F.plainAttrs_list PySem.F.slot_list_pop PySem.F.type_list_pop mt_pop (pv 1))))
          pss_nil)
        (pss_one (ps_expr (pe_bm PySem.F.plainAttrs_list PySem.F.slot_list_append PySem.F.type_list_append mt_append (pv 1) (pa_cons (pe_fn g_law_on_top hr (pa_cons (pv 3) (pa_cons (pv 4) (pa_cons (pv 5) pa_nil)))) pa_nil))))))))))
    (pss_one (ps_ret (pv 1))))), ?_⟩
  have hlen : (ns.map V.int).length = ns.length := List.length_map _
  refine ⟨(by show 0 ≤ sizeLine; decide), fun L hL => ?_⟩
  refine ⟨_, rfl, a, _, rfl, .inl ((same_new hL _).seq ha), ?_⟩
  refine ⟨_, rfl, by rw [hlen]; omega, by rw [hlen]; omega, ?_⟩
  have en : (((ns.map V.int).length : Nat) : Int).toNat = ns.length := by rw [hlen]; omega
  rw [en]
  refine for_range (n := ns.length) (fun i σ H2 => ∃ k3 k4 k5 k6 ws, σ = [some (.ref a), some (.ref L), k3, k4, k5, k6] ∧ Same H H2 ∧ H2 L = some (.lst ws) ∧ PilesAt H2 ws (pbAt ns i)) ⟨none, none, none, none, [], rfl, same_new hL _, upd_same, .nil⟩ ?_ ?_
  · rintro i σ H2 hi ⟨k3, k4, k5, k6, ws, rfl, s2, hL2, hws⟩
    have hst := pbAt_ok ns i
    have hwl : ws.length = (pbAt ns i).length := paired_len hws
    have hle : (pbAt ns i).length ≤ 63 := by
      have := len_le_sum (l := pbAt ns i) (fun t ht => (hst.all t ht).2)
      rw [hst.sum] at this
      omega
    have szAll : ∀ t ∈ pbAt ns i, t.size ≤ 100 := fun t ht => by
      have := size_le_sum ht
      rw [hst.sum] at this
      omega
    generalize hts : pbAt ns i = ts at *
    have hsq : ∀ {H' : Hp}, Same H H' → SqL K H' a (ns.map V.int) := fun s' => s'.seq ha
    have hcell : atI (ns.map V.int) ((0 : Int) + (i : Int)) = some (.int (ns.getD i 0)) := ints_get hi
    generalize hc : ns.getD i 0 = c at *
    refine ⟨_, rfl, _, _, rfl, rfl, (by show (0 : Int) < 3 ∧ (3 : Int) < 1073741824; decide), _, _, rfl, rfl, _, _, rfl, rfl, (by show (0 : Int) ≤ 30 ∧ (30 : Int) ≤ 1000000 ∧ (10 : Int).natAbs < 2 ^ 64; decide), (by show 2 ≤ sizeLine; decide), fun q1 hq1 => ?_⟩
    have hth : atI ([.int (5 - ((0 : Int) + (i : Int)) / 3), .int ((10 : Int) ^ (30 : Int).toNat)] : List V) (if decide ((0 : Int) + (i : Int) < 2) = true then 1 else 0) = some (.int (thingK i).1) := by
      unfold thingK
      by_cases h2 : i < 2
      · rw [if_pos (decide_eq_true (by omega))]
        simp only [if_pos h2]
        rfl
      · rw [if_neg (by simp; omega)]
        simp only [if_neg h2]
        rw [Int.zero_add]
        rfl
    refine ⟨_, rfl, _, _, rfl, rfl, .inr ⟨_, rfl, q1, _, _, _, rfl, rfl, SqL.of upd_same, hth, ?_⟩⟩
    have e59 : (59 : Int) - ((0 : Int) + (i : Int)) = (thingK i).2 := by unfold thingK; simp only; omega
    refine ⟨_, rfl, _, _, rfl, rfl, (by show 2 ≤ sizeLine; decide), fun q2 hq2 => ?_⟩
    refine ⟨(by show 0 ≤ sizeLine; decide), fun q3 hq3 => ⟨(by show 0 ≤ sizeLine; decide), fun q4 hq4 => ?_⟩⟩
    have s5 := (((same_new hq1 (.lst [.int (5 - ((0 : Int) + (i : Int)) / 3), .int ((10 : Int) ^ (30 : Int).toNat)])).trans (same_new hq2 (.tup [.int (thingK i).1, .int ((59 : Int) - ((0 : Int) + (i : Int)))]))).trans (same_new hq3 (.tup []))).trans (same_new hq4 (.tup []))
    have hth5 := ((same_new hq3 (.tup [])).trans (same_new hq4 (.tup []))) q2 _ (upd_same (a := q2) (o := .tup [.int (thingK i).1, .int ((59 : Int) - ((0 : Int) + (i : Int)))]))
    have hn3 := (same_new hq4 (.tup [])) q3 _ (upd_same (a := q3) (o := .tup []))
    have hn4 := upd_same (H := upd (upd (upd H2 q1 (.lst [.int (5 - ((0 : Int) + (i : Int)) / 3), .int ((10 : Int) ^ (30 : Int).toNat)])) q2 (.tup [.int (thingK i).1, .int ((59 : Int) - ((0 : Int) + (i : Int)))])) q3 (.tup [])) (a := q4) (o := .tup [])
    have s25 := s2.trans s5
    have hL5 := s5 _ _ hL2
    have hws5 := PilesAt.mono (.of s5) hws
    rw [e59] at hth5
    show tSeq _ _ _ [some (.ref a), some (.ref L), some (.int ((0 : Int) + (i : Int))), some (.ref q2), some (.ref q3), some (.ref q4)] (upd (upd (upd (upd H2 q1 (.lst [.int (5 - ((0 : Int) + (i : Int)) / 3), .int ((10 : Int) ^ (30 : Int).toNat)])) q2 (.tup [.int (thingK i).1, .int ((59 : Int) - ((0 : Int) + (i : Int)))])) q3 (.tup [])) q4 (.tup []))
    generalize upd (upd (upd (upd H2 q1 (.lst [.int (5 - ((0 : Int) + (i : Int)) / 3), .int ((10 : Int) ^ (30 : Int).toNat)])) q2 (.tup [.int (thingK i).1, .int ((59 : Int) - ((0 : Int) + (i : Int)))])) q3 (.tup [])) q4 (.tup []) = H5 at *
    have close : ∀ (H6 : Hp) (v4 v5 : V) (ws2 : List V) (one two : T) (ts2 : List T) (D : Ends), Same H H6 → H6 L = some (.lst ws2) → PilesAt H6 ws2 ts2 → PileAt H6 one v4 → PileAt H6 two v5 → PairAt H6 (.ref q2) (thingK i) → one.size ≤ 100 → two.size ≤ 100 → ts2.length ≤ 63 →
        pbStep c i ts = ts2 ++ [leanT (thingK i).1 (thingK i).2 one two] → (∀ k3 k4 k5 k6 ws' H7, Same H H7 → H7 L = some (.lst ws') → PilesAt H7 ws' (pbStep c i ts) → D.nx [some (.ref a), some (.ref L), k3, k4, k5, k6] H7) →
        tDrop (tBM K "list" rAppend (tVar 1) (tCons (tCall spOnTop [] E0 (tCons (tVar 3) (tCons (tVar 4) (tCons (tVar 5) tNil)))) tNil)) D [some (.ref a), some (.ref L), some (.int ((0 : Int) + (i : Int))), some (.ref q2), some v4, some v5] H6 := by
      intro H6 v4 v5 ws2 one two ts2 D s6 hL6 hw6 h4 h5 hq z1 z2 z3 est fin
      refine ⟨_, rfl, .inl ⟨rfl, _, SqL.of hL6⟩, _, rfl, _, rfl, _, rfl, _, _, _, thingK i, one, two, rfl, hq, h4, h5, z1, z2, fun v H7 s7 hv => ?_⟩
      have hL7 := s7 _ _ hL6
      refine ⟨L, _, _, rfl, rfl, hL7, szl (by have := paired_len hw6; omega), ?_⟩
      refine fin _ _ _ _ _ _ (same_put hL (s6.trans s7) _) upd_same ?_
      rw [est]
      exact paired_app (PilesAt.mono ((Tups.of s7).trans (.put hL7)) hw6) (.cons (hv.mono (.put hL7)) .nil)
    have fin : ∀ k3 k4 k5 k6 ws' H7, Same H H7 → H7 L = some (.lst ws') → PilesAt H7 ws' (pbStep c i ts) → ∃ k3' k4' k5' k6' ws'', [some (V.ref a), some (.ref L), k3, k4, k5, k6] = [some (.ref a), some (.ref L), k3', k4', k5', k6'] ∧ Same H H7 ∧ H7 L = some (.lst ws'') ∧ PilesAt H7 ws'' (pbAt ns (i + 1)) := by
      intro k3 k4 k5 k6 ws' H7 s7 h7 hw7
      refine ⟨k3, k4, k5, k6, ws', rfl, s7, h7, ?_⟩
      show PilesAt H7 ws' (pbStep (ns.getD i 0) i (pbAt ns i))
      rw [hts, hc]
      exact hw7
    have second : ∀ (H6 : Hp) (v4 : V) (ws1 : List V) (one : T) (ts1 : List T) (D : Ends), Same H5 H6 ∨ Same H H6 → Same H H6 → H6 L = some (.lst ws1) → PilesAt H6 ws1 ts1 → PileAt H6 one v4 → PairAt H6 (.ref q2) (thingK i) → PileAt H6 .nil (.ref q4) → one.size ≤ 100 → ts1.length ≤ 63 → (∀ t ∈ ts1, t.size ≤ 100) →
        (one, ts1) = pbOne c ts → (∀ k3 k4 k5 k6 ws' H7, Same H H7 → H7 L = some (.lst ws') → PilesAt H7 ws' (pbStep c i ts) → D.nx [some (.ref a), some (.ref L), k3, k4, k5, k6] H7) →
        tSeq (tIfS (tAnd (tTest (tOp (rI0 fun i j => V.bl (decide (j < i))) (tOp (rI (fun x j => 0 < j) fun i j => V.int (i % j)) (tOp (rIxL K) (tVar 0) (tVar 2)) (tC (V.int 4))) (tC (V.int 1)))) (tTest (tOp (rEmp not) (tVar 1) (tLst tNil)))) (tAsg (tBM0 K "list" rPop (tVar 1)) (gName 5)) tNext)
          (tDrop (tBM K "list" rAppend (tVar 1) (tCons (tCall spOnTop [] E0 (tCons (tVar 3) (tCons (tVar 4) (tCons (tVar 5) tNil)))) tNil))) D [some (.ref a), some (.ref L), some (.int ((0 : Int) + (i : Int))), some (.ref q2), some v4, some (.ref q4)] H6 := by
      intro H6 v4 ws1 one ts1 D _ s6 hL6 hw6 h4 hq h5 z1 z3 zall e1 fin
      have lw := paired_len hw6
      have o1 : (pbOne c ts).1 = one := by rw [← e1]
      have o2 : (pbOne c ts).2 = ts1 := by rw [← e1]
      refine rd_if 1 (hsq s6) hcell hL6 (fun c1 ne z hz => ?_) (fun nc H7 s7 => ?_)
      · have s7 := same_new hz (.lst [])
        have hL7 := s7 _ _ hL6
        have hpos : 0 < ts1.length := by
          have := List.length_pos_iff.mpr ne
          omega
        obtain ⟨y, ey, fy⟩ := paired_get' hw6 (i := ts1.length - 1) (y := ts1[ts1.length - 1]'(by omega)) (List.getElem?_eq_getElem _)
        refine ⟨_, rfl, .inl ⟨rfl, _, SqL.of hL7⟩, L, _, y, rfl, rfl, hL7, by rw [lw]; exact ey, ?_⟩
        have m8 := (Tups.of s7).trans (Tups.put (o := .lst ws1.dropLast) hL7)
        have hne : ts1 ≠ [] := fun q => by rw [q] at hpos; simp at hpos
        refine close _ _ _ ws1.dropLast one (ts1[ts1.length - 1]'(by omega)) ts1.dropLast D (same_put hL (s6.trans s7) _) upd_same (PilesAt.mono m8 (paired_dropLast hw6)) (h4.mono m8) (PileAt.mono m8 fy) (hq.mono m8) z1 (zall _ (List.getElem_mem _)) (by rw [List.length_dropLast]; omega) ?_ fin
        unfold pbStep
        rw [o1, o2]
        have e2 : pbTwo c ts1 = (ts1.getD (ts1.length - 1) .nil, ts1.dropLast) := by unfold pbTwo; rw [if_pos ⟨c1, hne⟩]
        have e3 : ts1.getD (ts1.length - 1) .nil = ts1[ts1.length - 1]'(by omega) := by
          have hl' : ts1.length - 1 < ts1.length := by omega
          simp [List.getD, hl']
        rw [e2, e3]
      · refine close H7 v4 _ ws1 one .nil ts1 D (s6.trans s7) (s7 _ _ hL6) (PilesAt.mono (.of s7) hw6) (h4.mono (.of s7)) (h5.mono (.of s7)) (hq.mono (.of s7)) z1 (by simp [T.size]) z3 ?_ fin
        unfold pbStep
        rw [o1, o2]
        have e2 : pbTwo c ts1 = (.nil, ts1) := by
          unfold pbTwo
          rw [if_neg]
          rintro ⟨q1, q2⟩
          refine nc ⟨q1, fun q => ?_⟩
          rw [q] at lw
          exact q2 (List.length_eq_zero_iff.mp lw.symm)
        rw [e2]
    refine rd_if 0 (hsq s25) hcell hL5 (fun c1 ne z hz => ?_) (fun nc H7 s7 => ?_)
    · have s7 := same_new hz (.lst [])
      have hL7 := s7 _ _ hL5
      have hpos : 0 < ts.length := by
        have := List.length_pos_iff.mpr ne
        omega
      have hne : ts ≠ [] := fun q => by rw [q] at hpos; simp at hpos
      have i1 : 0 ≤ c / 4 % (ws.length : Int) := Int.emod_nonneg _ (by omega)
      have i2 : c / 4 % (ws.length : Int) < ws.length := Int.emod_lt_of_pos _ (by omega)
      have i3 : (c / 4 % (ws.length : Int)).toNat < ts.length := by omega
      obtain ⟨y, ey, fy⟩ := paired_get' hws5 (i := (c / 4 % (ws.length : Int)).toNat) (y := ts[(c / 4 % (ws.length : Int)).toNat]) (List.getElem?_eq_getElem _)
      refine ⟨_, rfl, .inl ⟨rfl, _, SqL.of hL7⟩, _, rfl, _, rfl, a, _, _, _, rfl, rfl, hsq (s25.trans s7), hcell, _, _, rfl, rfl, (by show (0 : Int) < 4 ∧ (4 : Int) < 1073741824; decide), _, rfl, L, _, rfl, .inl (SqL.of hL7), _, _, rfl, rfl, (by show (0 : Int) < (ws.length : Int); omega),
        L, _, _, (c / 4 % (ws.length : Int)).toNat, y, rfl, rfl, hL7, by omega, by omega, seqIx i1 i2, ey, ?_⟩
      have m8 := (Tups.of s7).trans (Tups.put (o := .lst (ws.eraseIdx (c / 4 % (ws.length : Int)).toNat)) hL7)
      refine second _ y (ws.eraseIdx (c / 4 % (ws.length : Int)).toNat) ts[(c / 4 % (ws.length : Int)).toNat] (ts.eraseIdx (c / 4 % (ws.length : Int)).toNat) _ (.inr (same_put hL (s25.trans s7) _)) (same_put hL (s25.trans s7) _) upd_same (PilesAt.mono m8 (paired_erase _ hws5)) (PileAt.mono m8 fy)
        ⟨q2, rfl, m8 _ _ hth5⟩ ⟨q4, rfl, m8 _ _ hn4⟩ (szAll _ (List.getElem_mem _)) (Nat.le_trans (len_erase _ _) hle) (fun t ht => szAll t (List.mem_of_mem_eraseIdx ht)) ?_ fin
      unfold pbOne
      rw [if_pos ⟨c1, hne⟩, ← hwl]
      simp [List.getD, i3]
    · refine second H7 _ ws .nil ts _ (.inl s7) (s25.trans s7) (s7 _ _ hL5) (PilesAt.mono (.of s7) hws5) ⟨q3, rfl, s7 _ _ hn3⟩ ⟨q2, rfl, s7 _ _ hth5⟩ ⟨q4, rfl, s7 _ _ hn4⟩ (by simp [T.size]) hle szAll ?_ fin
      unfold pbOne
      rw [if_neg]
      rintro ⟨q1, q2⟩
      refine nc ⟨q1, fun q => ?_⟩
      rw [q] at hwl
      exact q2 (List.length_eq_zero_iff.mp hwl.symm)
  · rintro σ H2 ⟨k3, k4, k5, k6, ws, rfl, s2, hL2, hws⟩
    exact ⟨_, rfl, k L ws H2 s2 hL2 hws⟩
end
def spLaw1 (K : PySem.W.Frag) : Sp := fun vs H Q _ => ∃ (a : Addr) (ns : List Int), vs = [.ref a] ∧ SqL K H a (ns.map V.int) ∧ ns.length ≤ 63 ∧ ns ≠ [] ∧ ∀ H', Q (.bl true) H'
def spRefuses : Sp := fun vs H Q _ => ∃ v r a l rt rc hd, vs = [v] ∧ PileAt H (.node r a l rt rc hd) v ∧ l.size + rt.size ≤ 100 ∧ ∀ H', Same H H' → Q (.bl false) H'
theorem cut_one (x : V) (xs : List V) : cutV (x :: xs) none (some 1) = [x] := by
  unfold cutV
  rw [HT.sIx_none]
  have e : HT.sIx (x :: xs).length (x :: xs).length (some (1 : Int)) = min 1 (x :: xs).length := HT.sIx_nat _ _ 1
  rw [e, show min 1 (x :: xs).length = 1 by simp]
  rfl
theorem cut_rest (x : V) (xs : List V) : cutV (x :: xs) (some 1) none = xs := by
  unfold cutV
  rw [HT.sIx_none]
  have e : HT.sIx (x :: xs).length 0 (some (1 : Int)) = min 1 (x :: xs).length := HT.sIx_nat _ _ 1
  rw [e, show min 1 (x :: xs).length = 1 by simp]
  show List.take xs.length xs = xs
  exact List.take_of_length_le (Nat.le_refl _)
theorem top_ne {k : Nat} {ts : List T} {t1 t2 : T} (h : Top2 ts t1 t2) (st : StOk k ts) (hk : 0 < k) : t1 ≠ .nil := by
  obtain ⟨js, hp, e⟩ := h
  have p := map_perm_self ts hp
  generalize js.map (fun j => ts.getD j T.nil) = xs at *
  have hsum : sumSize xs = k := by rw [sumSize_perm p, st.sum]
  match xs, p, e, hsum with
  | [], _, _, hsum => simp [sumSize] at hsum; omega
  | x :: r, p, e, _ =>
    have e1 : t1 = x := by
      match r, e with
      | [], e => simp at e; exact e.1
      | _ :: _, e => simp at e; exact e.1
    rw [e1]
    exact (st.all x (p.mem_iff.mp List.mem_cons_self)).2
theorem sorted_head {p : Int × Int} {M ps : List (Int × Int)} (hp : ps.Perm (p :: M)) (hs : Sorted2 ps) (hm : ∀ q ∈ M, le2 p q) : ∃ rest, ps = p :: rest ∧ rest.Perm M ∧ Sorted2 rest := by
  match ps, hp, hs with
  | [], hp, _ => have := hp.length_eq; simp at this
  | x :: rest, hp, hs =>
    obtain ⟨h1, h2⟩ := List.pairwise_cons.mp hs
    have hx : x ∈ p :: M := hp.mem_iff.mp List.mem_cons_self
    have hpm : p ∈ x :: rest := hp.mem_iff.mpr List.mem_cons_self
    have e : x = p := by
      refine le2_antisymm ?_ ?_
      · rcases List.mem_cons.mp hpm with z | z
        · rw [z]; exact le2_refl _
        · exact h1 _ z
      · rcases List.mem_cons.mp hx with z | z
        · rw [z]; exact le2_refl _
        · exact hm _ z
    subst e
    exact ⟨rest, rfl, hp.cons_inv, h2⟩
section
variable {P : Program} {w : World} {K : PySem.W.Frag} {mg : Str → Option Value} {base : Heap}
theorem sc_law_refuses : FnScope ["_law_pile"] ["_law_pile"] (defScope s_law_refuses) := ⟨rfl, rfl, rfl, by decide +kernel, rfl, by decide +kernel, by decide +kernel⟩
theorem ok_refuses (O : Own K mg "_law_refuses" s_law_refuses) (B : Bare mg) (g_taken : Has P w K mg base 5 "taken" ["pile"] spTaken) : Has P w K mg base 6 "_law_refuses" ["_law_pile"] spRefuses := by
  refine O.has sc_law_refuses (fun _ _ _ _ _ _ => by1 fun _ => rfl) (fun vs H Q E h => ?_) (fun f cdv A outer s H vs Q E hr h => ?_)
  · obtain ⟨v, r, a, l, rt, rc, hd, rfl, _⟩ := h; rfl
  obtain ⟨v, r, a, l, rt, rc, hd, rfl, hv, hsz, k⟩ := h
  refine ⟨_, (pss_cons (ps_tryN (pss_one (ps_expr (pe_fn g_taken hr (pa_cons (pv 0) pa_nil)))))
    (pss_one (ps_ret pe_bl))), ?_⟩
  exact ⟨_, rfl, v, r, a, l, rt, rc, hd, rfl, hv, hsz, fun q u u' H' s' _ _ _ => k H' s'⟩
theorem sc_law : FnScope ["_law_script", "_law_pile", "_law_refused", "_law_found", "_law_things", "_law_due", "_law_count"] ["_law_script"] (defScope s_law) := ⟨rfl, rfl, rfl, by decide +kernel, rfl, by decide +kernel, by decide +kernel⟩
set_option maxHeartbeats 4000000 in
theorem ok_law {f : Addr} {fd : FuncData} (F : Fun K "law" "law" s_law f fd) (B : Bare mg) (g_law_piles_by : Has P w K mg base 2 "_law_piles_by" ["_law_cells"] (spPilesBy K)) (g_law_greatest : Has P w K mg base 1 "_law_greatest" ["_law_piles"] spGreatest) (g_taken : Has P w K mg base 5 "taken" ["pile"] spTaken)
    (g_law_refuses : Has P w K mg base 6 "_law_refuses" ["_law_pile"] spRefuses) (g_law_form : Has P w K mg base 2 "_law_form" ["_law_found"] spForm) (g_law_all_in : Has P w K mg base 1 "_law_all_in" ["_law_pile"] spAllIn) (g_law_pairs_are : Has P w K mg base 2 "_law_pairs_are" ["_law_found", "_law_due"] spPairsAre)
    (g_law_is_good : Has P w K mg base 1 "_law_is_good" ["_law_pile"] spGood) (g_law_merged : Has P w K mg base 2 "_law_merged" ["_law_one", "_law_two"] spJoined) (g_law_whole : Has P w K mg base 1 "_law_whole" ["_law_found"] spWhole) :
    FnOk P w K mg base CX0 7 f fd ["_law_script"] (spLaw1 K) := by
  refine F.ok sc_law (fun vs H Q E h => ?_) (fun cdv A outer s H vs Q E hr h => ?_)
  · obtain ⟨a, ns, rfl, _⟩ := h; rfl
  obtain ⟨a, ns, rfl, hS, h63, hns, k⟩ := h
  refine ⟨_, (pss_cons (ps_set (i := 0) sc_law.nd rfl (Or.inl rfl) (pe_slice sl_list (pv 0) po_none (po_some pe_int)))
    (pss_cons (ps_set (i := 1) sc_law.nd rfl (Or.inl rfl) (pe_ix ix_list (pe_fn g_law_greatest hr (pa_cons (pe_fn g_law_piles_by hr (pa_cons (pv 0) pa_nil)) pa_nil)) pe_int (fun _ _ => rfl)))
    (pss_cons (ps_set (i := 2) sc_law.nd rfl (Or.inl rfl) pe_bl)
    (pss_cons (ps_set (i := 3) sc_law.nd rfl (Or.inl rfl) pe_non)
    (pss_cons (ps_tryN (pss_one (ps_set (i := 3) sc_law.nd rfl (Or.inl rfl) (pe_fn g_taken hr (pa_cons (pv 1) pa_nil)))))
    (pss_cons (ps_if (pt_cmpR op_ne (pe_fn g_law_refuses hr (pa_cons (pv 1) pa_nil)) (pv 2) (nomark _))
      (pss_one (ps_ret pe_bl))
      pss_nil)
    (pss_cons (ps_if (pt_or (pt_truth (pv 2) (fun _ => rfl)) (pw_or1 (pt_cmpR (op_eqPile (hu110 hr)) (pv 1) (pe_tup pa_nil) (nomark _))))
      (pss_one (ps_ret (pe_and (pv 2) (pe_one (pe_cmpR (op_eqPile (hu110 hr)) (pv 1) (pe_tup pa_nil) (nomark _))))))
      pss_nil)
    (pss_cons (ps_if (pt_or (pt_not (pt_truth (pe_callB call_isi rfl B.isi boot_isi (pa_cons (pv 3) (pa_cons (pe_bltn (v := .ty "tuple") rfl B.tuple boot_tuple' rfl) pa_nil))) (fun _ => rfl))) (pw_or (pt_cmpR op_ne (pe_callB call_len_seq rfl B.len PySem.boot_len (pa_cons (pv 3) pa_nil)) pe_int (nomark _)) (pw_or1 (pt_not (pt_truth (pe_fn g_law_form hr (pa_cons (pe_ix ix_tup (pv 3) pe_int (fun _ _ => rfl)) pa_nil)) (fun _ => rfl))))))
      (pss_one (ps_ret pe_bl))
      pss_nil)
    (pss_cons (ps_set (i := 4) sc_law.nd rfl (Or.inl rfl) (pe_callB call_sorted rfl B.srt boot_srt (pa_cons (pe_fn g_law_all_in hr (pa_cons (pv 1) pa_nil)) pa_nil)))
    (pss_cons (ps_if (pt_or (pt_not (pt_truth (pe_fn g_law_pairs_are hr (pa_cons (pe_lst (pa_cons (pe_ix ix_tup (pv 3) pe_int (fun _ _ => rfl)) pa_nil)) (pa_cons (pe_slice sl_list (pv 4) po_none (po_some pe_int)) pa_nil))) (fun _ => rfl))) (pw_or1 (pt_not (pt_truth (pe_fn g_law_is_good hr (pa_cons (pe_ix ix_tup (pv 3) pe_int (fun _ _ => rfl)) pa_nil)) (fun _ => rfl)))))
      (pss_one (ps_ret pe_bl))
      pss_nil)
    (pss_cons (ps_if (pt_cmpR (op_nePairs (hu110 hr)) (pe_callB call_sorted rfl B.srt boot_srt (pa_cons (pe_fn g_law_all_in hr (pa_cons (pe_ix ix_tup (pv 3) pe_int (fun _ _ => rfl)) pa_nil)) pa_nil)) (pe_slice sl_list (pv 4) (po_some pe_int) po_none) (nomark _))
      (pss_one (ps_ret pe_bl))
      pss_nil)
    (pss_cons (ps_asg (pe_fn g_law_merged hr (pa_cons (pe_ix ix_tup (pv 1) pe_int (fun _ _ => rfl)) (pa_cons (pe_ix ix_tup (pv 1) pe_int (fun _ _ => rfl)) pa_nil))) (pg_tup rfl (pgs_cons (pg_name (i := 5) sc_law.nd rfl (Or.inl rfl)) (pgs_cons (pg_name (i := 6) sc_law.nd rfl (Or.inl rfl)) pgs_nil))))
    (pss_one (ps_ret (pe_and (pe_fn g_law_whole hr (pa_cons (pe_ix ix_tup (pv 3) pe_int (fun _ _ => rfl)) pa_nil)) (pe_and (pe_cmpR op_eq (pe_ix ix_tup (pv 3) pe_int (fun _ _ => rfl)) (pv 6) (nomark _)) (pe_one (pe_cmpR (op_eqPile (hu110 hr)) (pe_ix ix_tup (pv 3) pe_int (fun _ _ => rfl)) (pv 5) (nomark _))))))))))))))))))), ?_⟩
  refine ⟨_, rfl, 500, rfl, a, _, rfl, hS, fun p hp => ?_⟩
  rw [cut_all _ (by rw [List.length_map]; omega)]
  refine ⟨_, rfl, p, ns, rfl, SqL.of upd_same, h63, fun qp ws H2 s2 hqp hws => ?_⟩
  have st := pbAt_ok ns ns.length
  refine ⟨qp, ws, _, rfl, hqp, hws, fun t ht => (st.all t ht).2, ?_, fun qg v1 v2 t1 t2 H3 s3 hqg z1 z2 htop => ?_⟩
  · have := len_le_sum (l := pbAt ns ns.length) (fun t ht => (st.all t ht).2)
    rw [st.sum] at this
    omega
  obtain ⟨o1, o2, o3⟩ := htop.ok st
  have hne : t1 ≠ .nil := top_ne htop st (by cases ns with | nil => exact absurd rfl hns | cons _ _ => simp)
  refine ⟨qg, _, _, v1, rfl, rfl, SqL.of hqg, rfl, ?_⟩
  cases t1 with
  | nil => exact absurd rfl hne
  | node r a0 l rt rc hd =>
  have hn : (T.node r a0 l rt rc hd).size = l.size + rt.size + 1 := rfl
  rw [hn] at o3
  refine ⟨_, rfl, v1, r, a0, l, rt, rc, hd, rfl, z1, by omega, fun qf u u' H4 s4 hqf hu hu' => ?_⟩
  have z14 := z1.mono (.of s4)
  refine ⟨_, rfl, v1, r, a0, l, rt, rc, hd, rfl, z14, by omega, fun H5 s5 => ⟨_, rfl, rfl, _, rfl, ?_⟩⟩
  rw [decide_eq_true rfl]
  refine iteF ?_
  have z15 := z14.mono (.of s5)
  refine ⟨_, rfl, false, rfl, iteF ?_⟩
  refine ⟨_, rfl, (by show 0 ≤ sizeLine; decide), fun z hz => ?_⟩
  have s6 := same_new hz (.tup [])
  refine ⟨_, .nil, z15.mono (.of s6), ⟨z, rfl, upd_same⟩, (by rw [hn]; omega), _, rfl, iteF ?_⟩
  have s46 := s5.trans s6
  have hqf6 := s46 _ _ hqf
  have hu6 := hu.mono (.of s46)
  have hu6' := hu'.mono (.of s46)
  have z16 := z14.mono (.of s46)
  generalize upd H5 z (.tup []) = H6 at *
  have hho : Ho (join l rt) := ho_join _ _ o1.ho.2.1 o1.ho.2.2
  have hnm : Nm (join l rt) := nm_join _ _ o1.nm.2.2.2.1 o1.nm.2.2.2.2
  have hjs := join_size l rt
  have hjp := join_perm l rt
  refine ⟨_, rfl, _, _, _, _, rfl, TyOf.tup hqf6, kit_tt K, _, rfl, iteF ?_⟩
  refine ⟨_, rfl, qf, _, rfl, .inr (SqT.of hqf6), rfl, _, rfl, iteF ?_⟩
  refine ⟨_, rfl, qf, _, _, _, rfl, rfl, SqT.of hqf6, rfl, u', _, rfl, hu6', by omega, fun H7 s7 => ⟨_, rfl, iteF ?_⟩⟩
  have hqf7 := s7 _ _ hqf6
  have hu7 := hu6.mono (.of s7)
  have hu7' := hu6'.mono (.of s7)
  have z17 := z16.mono (.of s7)
  refine ⟨_, rfl, v1, _, rfl, z17, (by rw [hn]; omega), fun qa wa H8 s8 hqa hwa => ?_⟩
  refine ⟨qa, wa, _, rfl, hqa, hwa, by rw [T.length_toL, hn]; omega, fun qs wsd ps hqs hwsd hperm hsrt => ?_⟩
  have sqs := same_new hqs (.lst wsd)
  have s79 := s8.trans sqs
  have hwsd9 := hwsd.mono (.of sqs)
  have hqs9 : (upd H8 qs (.lst wsd)) qs = some (.lst wsd) := upd_same
  generalize upd H8 qs (.lst wsd) = H9 at *
  have hqf9 := s79 _ _ hqf7
  have hu9 := hu7.mono (.of s79)
  have hu9' := hu7'.mono (.of s79)
  have z19 := z17.mono (.of s79)
  obtain ⟨rest, eps, hrp, hrs⟩ := sorted_head hperm hsrt (fun q hq => o1.ho.1 q hq)
  subst eps
  obtain ⟨vx, wr, rfl, hvx, hwr⟩ : ∃ vx wr, wsd = vx :: wr ∧ PairAt H9 vx (r, a0) ∧ PairsAt H9 wr rest := by
    cases hwsd9 with | cons h t => exact ⟨_, _, rfl, h, t⟩
  have lrest : rest.length ≤ 63 := by
    have := hrp.length_eq
    rw [List.length_append, T.length_toL, T.length_toL] at this
    omega
  refine ⟨_, rfl, qf, _, _, _, rfl, rfl, SqT.of hqf9, rfl, (by show 1 ≤ sizeLine; decide), fun y hy => ?_⟩
  have sy := same_new hy (.lst [u])
  refine ⟨_, rfl, 1, rfl, qs, _, rfl, SqL.of (sy _ _ hqs9), fun y2 hy2 => ?_⟩
  rw [cut_one]
  have sy2 := same_new hy2 (.lst [vx])
  have s11 := sy.trans sy2
  refine ⟨y, y2, [u], [vx], [(r, a0)], [(r, a0)], rfl, sy2 _ _ upd_same, upd_same, .cons (hu9.mono (.of s11)) .nil, .cons (hvx.mono (.of s11)) .nil, by simp, by simp, _, rfl, ?_⟩
  rw [decide_eq_true rfl]
  refine iteF ?_
  have hqf11 := s11 _ _ hqf9
  have hu11' := hu9'.mono (.of s11)
  have z111 := z19.mono (.of s11)
  have hqs11 := s11 _ _ hqs9
  have hwr11 := PairsAt.mono (.of s11) hwr
  generalize upd (upd H9 y (.lst [u])) y2 (.lst [vx]) = H11 at *
  refine ⟨_, rfl, qf, _, _, _, rfl, rfl, SqT.of hqf11, rfl, u', _, rfl, hu11', by omega, fun H12 s12 => ⟨_, rfl, ?_⟩⟩
  rw [good_of hho hnm]
  refine iteF ?_
  have hqf12 := s12 _ _ hqf11
  have hu12' := hu11'.mono (.of s12)
  refine ⟨_, rfl, qf, _, _, _, rfl, rfl, SqT.of hqf12, rfl, u', _, rfl, hu12', by omega, fun qc wc H13 s13 hqc hwc => ?_⟩
  refine ⟨qc, wc, _, rfl, hqc, hwc, by rw [T.length_toL]; omega, fun q5 w5 p5 hq5 hw5 hp5 hs5 => ?_⟩
  have sq5 := same_new hq5 (.lst w5)
  have s14 := s13.trans sq5
  have hw5' := hw5.mono (.of sq5)
  have hq5' : (upd H13 q5 (.lst w5)) q5 = some (.lst w5) := upd_same
  generalize upd H13 q5 (.lst w5) = H14 at *
  refine ⟨_, rfl, 1, rfl, qs, _, rfl, SqL.of (s14 _ _ (s12 _ _ hqs11)), fun y3 hy3 => ?_⟩
  rw [cut_rest]
  have sy3 := same_new hy3 (.lst wr)
  have e5 : p5 = rest := sorted2_same (hp5.trans (hjp.trans hrp.symm)) hs5 hrs
  have s15 := s14.trans sy3
  refine ⟨q5, y3, w5, wr, p5, rest, rfl, rfl, sy3 _ _ hq5', upd_same, hw5'.mono (.of sy3), PairsAt.mono (.of (s12.trans s15)) hwr11, _, rfl, ?_⟩
  rw [decide_eq_true e5]
  refine iteF ?_
  have hqf15 := s15 _ _ hqf12
  have hu15' := hu12'.mono (.of s15)
  have z115 := (z111.mono (.of s12)).mono (.of s15)
  generalize upd H14 y3 (.lst wr) = H15 at *
  obtain ⟨pt, vl, vr, rfl, hpt, hl, hrt⟩ := nodeAt z115
  refine ⟨_, rfl, pt, _, _, _, rfl, rfl, SqT.of hpt, rfl, _, rfl, pt, _, _, _, rfl, rfl, SqT.of hpt, rfl, vl, vr, l, rt, rfl, hl, hrt, by omega, fun qm um H16 s16 hqm hum => ?_⟩
  refine ⟨qm, _, rfl, SqT.of hqm, rfl, _, _, rfl, _, _, rfl, rfl, ?_⟩
  have hqf16 := s16 _ _ hqf15
  refine ⟨_, rfl, qf, _, _, _, rfl, rfl, SqT.of hqf16, rfl, _, rfl, _, rfl, iteT ?_⟩
  refine ⟨_, rfl, qf, _, _, _, rfl, rfl, SqT.of hqf16, rfl, _, rfl, rfl, _, rfl, ?_⟩
  rw [decide_eq_true rfl]
  refine iteT ?_
  refine ⟨_, rfl, qf, _, _, _, rfl, rfl, SqT.of hqf16, rfl, _, rfl, _, _, hu15'.mono (.of s16), hum, by omega, ?_⟩
  show Q (.bl (id (decide (join l rt = join l rt)))) H16
  rw [decide_eq_true rfl]
  exact k _
end
theorem fin {l : PySem.W.OpenLaw} {w : World} {K : PySem.W.Frag} {mg : Str → Option Value} {fa : Addr} (N : Nums mg) (B : Bare mg) (hfa : mg "law" = some (.ref fa)) (o1 : Own K mg "thing_on" s_thing_on) (o2 : Own K mg "reach_of" s_reach_of) (o3 : Own K mg "held_of" s_held_of)
    (o4 : Own K mg "comes_ahead" s_comes_ahead) (o5 : Own K mg "topped" s_topped) (o6 : Own K mg "leaning" s_leaning) (o7 : Own K mg "joined" s_joined) (o8 : Own K mg "taken" s_taken)
    (o10 : Own K mg "_law_whole" s_law_whole) (o11 : Own K mg "_law_on_top" s_law_on_top) (o12 : Own K mg "_law_piles_by" s_law_piles_by) (o13 : Own K mg "_law_greatest" s_law_greatest) (o14 : Own K mg "_law_all_in" s_law_all_in) (o15 : Own K mg "_law_form" s_law_form) (o16 : Own K mg "_law_is_good" s_law_is_good)
    (o17 : Own K mg "_law_pairs_are" s_law_pairs_are) (o18 : Own K mg "_law_merged" s_law_merged) (o19 : Own K mg "_law_refuses" s_law_refuses) (o20 : Own K mg "law" s_law) :
    ∃ fd : FuncData, (∀ (s : Shared) (v : Value), BindsTo s fd ⟨[v], []⟩ [("_law_script", v)]) ∧ ∀ base : Heap, K.In base → base.Ns mainGlobals mg → FnOk l.prog w K mg base CX0 7 fa fd ["_law_script"] (spLaw1 K) := by
  obtain ⟨f, fd, F, m⟩ := o20
  have e := hfa.symm.trans m
  cases e
  refine ⟨fd, ?_, fun base _ _ => ?_⟩
  · obtain ⟨oc, od, kV, doc, pm, an, cdv, ct, osl, rfl, _, _⟩ := F.ex
    exact fun s v => .of_eq rfl
  · have g1 := ok_thing (P := l.prog) (w := w) (base := base) o1 N
    have g2 := ok_reach (P := l.prog) (w := w) (base := base) o2 N
    have g3 := ok_held (P := l.prog) (w := w) (base := base) o3 N
    have g4 := ok_ahead o4 g1
    have g5 := ok_topped o5 N g2 g3
    have g6 := ok_leaning o6 g2 g5
    have g7 := ok_joined o7 N B g1 g4 g6
    have g8 := ok_taken o8 N g1 g7
    have g10 := ok_whole (P := l.prog) (w := w) (base := base) o10 B
    have g11 := ok_ontop (P := l.prog) (w := w) (base := base) o11 B
    have g12 := ok_pilesby o12 B g11
    have g13 := ok_greatest (P := l.prog) (w := w) (base := base) o13 B
    have g14 := ok_allin (P := l.prog) (w := w) (base := base) o14
    have g15 := ok_form o15 B g10
    have g16 := ok_good (P := l.prog) (w := w) (base := base) o16 B
    have g17 := ok_pairsare o17 B g10
    have g18 := ok_merged o18 B g11
    have g19 := ok_refuses o19 B g8
    exact ok_law F B g12 g13 g8 g19 g15 g14 g17 g16 g18 g10
def call1 {l : PySem.W.OpenLaw} {w : World} {K : PySem.W.Frag} {mg mb : Str → Option Value} {fa a : Addr} {fd : FuncData} {s₁ : Shared} {vs : List Value} {ns : List Int} (KX : K.In s₁.heap) (hns : s₁.heap.Ns mainGlobals mg) (hb : s₁.heap.Ns builtinsNs mb)
    (hbb : ∀ x : Str, x ≠ "__name__" → mb x = bootBuiltins x) (hlim : s₁.heap.NoLimit) (hg : s₁.gens = #[]) (ha : s₁.heap.get? a = some { cls := .type "list", data := .seq vs.toArray }) (hi : IntsAre vs ns) (hl : ns.length ≤ 63) (hne : ns ≠ [])
    (F : ∀ base : Heap, K.In base → base.Ns mainGlobals mg → FnOk l.prog w K mg base CX0 7 fa fd ["_law_script"] (spLaw1 K)) (hbind : ∀ (s : Shared) (u : Value), BindsTo s fd ⟨[u], []⟩ [("_law_script", u)]) :=
  L2.law_call KX hns hb hbb hlim hg ha hi (Nat.le_trans hl (by decide)) (k := 7) ⟨rfl, by decide, by decide⟩ F hbind (fun H hO hS => ⟨a, ns, rfl, hS, hl, hne, fun _ => rfl⟩) (fun _ _ _ z => z)
section
variable {K : PySem.W.Frag} {mg : Str → Option Value}
theorem int_mk {h : Heap} {x : Str} {i : Int} {t : Tok} (X : K.In h) (G : h.Ns mainGlobals mg) (a : PySem.W.nsIn K mainGlobals x = some (some (.int i t))) : IntAt mg x i := ⟨t, PySem.W.mg_of X G a⟩
theorem bare_mk {h : Heap} {x : Str} (X : K.In h) (G : h.Ns mainGlobals mg) (a : PySem.W.nsIn K mainGlobals x = some none) : mg x = none := PySem.W.mg_none_of X G a
end
end Ph
open PySem PySem.W PyProof.Rows
set_option maxRecDepth 100000 in
set_option maxHeartbeats 0 in
theorem PySem.Challenge.cw_pilehall_k01_taken_holds : PySem.Challenge.rw_pilehall_k01_taken.Holds := by
  w_on; o_law; k_head; (case hw => w_witness2)
  w_strict (
  k_fill
  intro w s₀ s₁ mg mb G Y fa o pm cd doc dV kV ho hd hcd hD hmg hg args vals as hpre hlay hrd hwl hlo
  have KX := kIn_of Y
  by_cases hz : args = [WData.list []]
  · k_behind G ho hd hcd hD hmg hpre hlay hrd hwl hlo cd
    rename List Int => nsX
    have hzz : nsX = [] := by
      cases nsX with
      | nil => rfl
      | cons _ _ => simp [ofPy, ofPys] at hz
    clear hz
    subst hzz
    rename IntsAre _ [] => hIX
    cases hIX
    (k_with "call builtin:isinstance cons nil" => (k_here; (with_reducible show wpAny _ _ (call _ [Value.ref _, Value.type _]) _ _ _); (refine' Ph.exc_isi1 ?exX ?exN ?exG ?exE ?_; (case exG => assumption); (case exN => assumption); (case exX => k_in); (case exE => kit_is); k_whole; intro _)))
    (k_with "subscriptTail Name Slice ref ref" => (rename List.length _ = List.length (List.map _ []) => hLX; have hzX := List.length_eq_zero_iff.mp (hLX.trans rfl); clear hLX; subst hzX; first | (walk_at "subscriptTail Name Slice ref ref") | (simp only [List.nil_append] at *; walk_at "subscriptTail Name Slice ref ref") | fail "Y"))
    (k_with "subscriptTail Name Constant int int" => (first | (rename _ ∈ _ => hmX; simp at hmX; done) | fail "Z"))
    (k_with "call builtin:sorted cons nil" => (rename List.length _ = List.length (List.map _ (rangeKs _ _)) => hLX; have hzX := List.length_eq_zero_iff.mp (hLX.trans rfl); clear hLX; subst hzX; k_here; (with_reducible show wpAny _ _ (call (Value.builtin _) [Value.ref _]) _ _ _); (with_unfolding_all refine' kso_sorted (vs := []) (ns := []) ?k1 ?k2 ?k3 ?k4 ?k5 ?_; (case k1 => k_asm); (case k2 => k_asm); (case k3 => kso_list); (case k4 => exact .nil); (case k5 => decide); k_whole); intro D' v' n' c' h' F' N' l1 i' e' p' o' b'; (try k_lt l1); (have q1 : n' = [] := List.Perm.eq_nil p'); subst q1; (have q2 : v' = [] := by cases i'; rfl); subst q2; (try k_sweep)))
    (k_with "call builtin:sorted" => (rename List.length _ = List.length (List.map _ (rangeKs _ _)) => hLX; have hzX := List.length_eq_zero_iff.mp (hLX.trans rfl); clear hLX; subst hzX; k_here; (with_reducible show wpAny _ _ (call (Value.builtin _) [Value.ref _]) _ _ _); (with_unfolding_all refine' kso_sorted (vs := []) (ns := []) ?k1 ?k2 ?k3 ?k4 ?k5 ?_; (case k1 => k_asm); (case k2 => k_asm); (case k3 => kso_list); (case k4 => exact .nil); (case k5 => decide); k_whole); intro D' v' n' c' h' F' N' l1 i' e' p' o' b'; (try k_lt l1); (have q1 : n' = [] := List.Perm.eq_nil p'); subst q1; (have q2 : v' = [] := by cases i'; rfl); subst q2; (try k_sweep)))
    all_goals k_steps
    all_goals (try k_data)
    all_goals w_report
  · have GN := G.T.g
    have n0 : Ph.IntAt mg "RANK" 0 := by
      refine' Ph.int_mk KX GN ?exqa
      (case exqa => k_is)
    have n1 : Ph.IntAt mg "AGE" 1 := by
      refine' Ph.int_mk KX GN ?exqa
      (case exqa => k_is)
    have n2 : Ph.IntAt mg "LEFT" 2 := by
      refine' Ph.int_mk KX GN ?exqa
      (case exqa => k_is)
    have n3 : Ph.IntAt mg "RIGHT" 3 := by
      refine' Ph.int_mk KX GN ?exqa
      (case exqa => k_is)
    have n4 : Ph.IntAt mg "REACH" 4 := by
      refine' Ph.int_mk KX GN ?exqa
      (case exqa => k_is)
    have n5 : Ph.IntAt mg "HELD" 5 := by
      refine' Ph.int_mk KX GN ?exqa
      (case exqa => k_is)
    have b0 : mg "len" = none := by
      refine' Ph.bare_mk KX GN ?exqa
      (case exqa => k_is)
    have b1 : mg "range" = none := by
      refine' Ph.bare_mk KX GN ?exqa
      (case exqa => k_is)
    have b2 : mg "reversed" = none := by
      refine' Ph.bare_mk KX GN ?exqa
      (case exqa => k_is)
    have b3 : mg "sorted" = none := by
      refine' Ph.bare_mk KX GN ?exqa
      (case exqa => k_is)
    have b4 : mg "isinstance" = none := by
      refine' Ph.bare_mk KX GN ?exqa
      (case exqa => k_is)
    have b5 : mg "int" = none := by
      refine' Ph.bare_mk KX GN ?exqa
      (case exqa => k_is)
    have b6 : mg "bool" = none := by
      refine' Ph.bare_mk KX GN ?exqa
      (case exqa => k_is)
    have b7 : mg "list" = none := by
      refine' Ph.bare_mk KX GN ?exqa
      (case exqa => k_is)
    have b8 : mg "tuple" = none := by
      refine' Ph.bare_mk KX GN ?exqa
      (case exqa => k_is)
    have b9 : mg "str" = none := by
      refine' Ph.bare_mk KX GN ?exqa
      (case exqa => k_is)
    have b10 : mg "max" = none := by
      refine' Ph.bare_mk KX GN ?exqa
      (case exqa => k_is)
    have b11 : mg "any" = none := by
      refine' Ph.bare_mk KX GN ?exqa
      (case exqa => k_is)
    have b12 : mg "all" = none := by
      refine' Ph.bare_mk KX GN ?exqa
      (case exqa => k_is)
    have b13 : mg "sum" = none := by
      refine' Ph.bare_mk KX GN ?exqa
      (case exqa => k_is)
    have o0 : Ph.Own (L2.KOf KX) mg "thing_on" Ph.s_thing_on := by
      dsimp only [L2.KOf]
      refine' Ph.own_mk KX GN ?exqa ?exql ?exqc ?exqk
      (case exqa => k_is); (case exql => k_is); (case exqc => k_is); (case exqk => k_is)
    have o1 : Ph.Own (L2.KOf KX) mg "reach_of" Ph.s_reach_of := by
      dsimp only [L2.KOf]
      refine' Ph.own_mk KX GN ?exqa ?exql ?exqc ?exqk
      (case exqa => k_is); (case exql => k_is); (case exqc => k_is); (case exqk => k_is)
    have o2 : Ph.Own (L2.KOf KX) mg "held_of" Ph.s_held_of := by
      dsimp only [L2.KOf]
      refine' Ph.own_mk KX GN ?exqa ?exql ?exqc ?exqk
      (case exqa => k_is); (case exql => k_is); (case exqc => k_is); (case exqk => k_is)
    have o3 : Ph.Own (L2.KOf KX) mg "comes_ahead" Ph.s_comes_ahead := by
      dsimp only [L2.KOf]
      refine' Ph.own_mk KX GN ?exqa ?exql ?exqc ?exqk
      (case exqa => k_is); (case exql => k_is); (case exqc => k_is); (case exqk => k_is)
    have o4 : Ph.Own (L2.KOf KX) mg "topped" Ph.s_topped := by
      dsimp only [L2.KOf]
      refine' Ph.own_mk KX GN ?exqa ?exql ?exqc ?exqk
      (case exqa => k_is); (case exql => k_is); (case exqc => k_is); (case exqk => k_is)
    have o5 : Ph.Own (L2.KOf KX) mg "leaning" Ph.s_leaning := by
      dsimp only [L2.KOf]
      refine' Ph.own_mk KX GN ?exqa ?exql ?exqc ?exqk
      (case exqa => k_is); (case exql => k_is); (case exqc => k_is); (case exqk => k_is)
    have o6 : Ph.Own (L2.KOf KX) mg "joined" Ph.s_joined := by
      dsimp only [L2.KOf]
      refine' Ph.own_mk KX GN ?exqa ?exql ?exqc ?exqk
      (case exqa => k_is); (case exql => k_is); (case exqc => k_is); (case exqk => k_is)
    have o7 : Ph.Own (L2.KOf KX) mg "taken" Ph.s_taken := by
      dsimp only [L2.KOf]
      refine' Ph.own_mk KX GN ?exqa ?exql ?exqc ?exqk
      (case exqa => k_is); (case exql => k_is); (case exqc => k_is); (case exqk => k_is)
    have o8 : Ph.Own (L2.KOf KX) mg "_law_whole" Ph.s_law_whole := by
      dsimp only [L2.KOf]
      refine' Ph.own_mk KX GN ?exqa ?exql ?exqc ?exqk
      (case exqa => k_is); (case exql => k_is); (case exqc => k_is); (case exqk => k_is)
    have o9 : Ph.Own (L2.KOf KX) mg "_law_on_top" Ph.s_law_on_top := by
      dsimp only [L2.KOf]
      refine' Ph.own_mk KX GN ?exqa ?exql ?exqc ?exqk
      (case exqa => k_is); (case exql => k_is); (case exqc => k_is); (case exqk => k_is)
    have o10 : Ph.Own (L2.KOf KX) mg "_law_piles_by" Ph.s_law_piles_by := by
      dsimp only [L2.KOf]
      refine' Ph.own_mk KX GN ?exqa ?exql ?exqc ?exqk
      (case exqa => k_is); (case exql => k_is); (case exqc => k_is); (case exqk => k_is)
    have o11 : Ph.Own (L2.KOf KX) mg "_law_greatest" Ph.s_law_greatest := by
      dsimp only [L2.KOf]
      refine' Ph.own_mk KX GN ?exqa ?exql ?exqc ?exqk
      (case exqa => k_is); (case exql => k_is); (case exqc => k_is); (case exqk => k_is)
    have o12 : Ph.Own (L2.KOf KX) mg "_law_all_in" Ph.s_law_all_in := by
      dsimp only [L2.KOf]
      refine' Ph.own_mk KX GN ?exqa ?exql ?exqc ?exqk
      (case exqa => k_is); (case exql => k_is); (case exqc => k_is); (case exqk => k_is)
    have o13 : Ph.Own (L2.KOf KX) mg "_law_form" Ph.s_law_form := by
      dsimp only [L2.KOf]
      refine' Ph.own_mk KX GN ?exqa ?exql ?exqc ?exqk
      (case exqa => k_is); (case exql => k_is); (case exqc => k_is); (case exqk => k_is)
    have o14 : Ph.Own (L2.KOf KX) mg "_law_is_good" Ph.s_law_is_good := by
      dsimp only [L2.KOf]
      refine' Ph.own_mk KX GN ?exqa ?exql ?exqc ?exqk
      (case exqa => k_is); (case exql => k_is); (case exqc => k_is); (case exqk => k_is)
    have o15 : Ph.Own (L2.KOf KX) mg "_law_pairs_are" Ph.s_law_pairs_are := by
      dsimp only [L2.KOf]
      refine' Ph.own_mk KX GN ?exqa ?exql ?exqc ?exqk
      (case exqa => k_is); (case exql => k_is); (case exqc => k_is); (case exqk => k_is)
    have o16 : Ph.Own (L2.KOf KX) mg "_law_merged" Ph.s_law_merged := by
      dsimp only [L2.KOf]
      refine' Ph.own_mk KX GN ?exqa ?exql ?exqc ?exqk
      (case exqa => k_is); (case exql => k_is); (case exqc => k_is); (case exqk => k_is)
    have o17 : Ph.Own (L2.KOf KX) mg "_law_refuses" Ph.s_law_refuses := by
      dsimp only [L2.KOf]
      refine' Ph.own_mk KX GN ?exqa ?exql ?exqc ?exqk
      (case exqa => k_is); (case exql => k_is); (case exqc => k_is); (case exqk => k_is)
    have o18 : Ph.Own (L2.KOf KX) mg "law" Ph.s_law := by
      dsimp only [L2.KOf]
      refine' Ph.own_mk KX GN ?exqa ?exql ?exqc ?exqk
      (case exqa => k_is); (case exql => k_is); (case exqc => k_is); (case exqk => k_is)
    obtain ⟨fd, hb, hF⟩ := (Ph.fin (l := PySem.Challenge.rw_pilehall_k01_taken) (w := w) ⟨n0, n1, n2, n3, n4, n5⟩ ⟨b0, b1, b2, b3, b4, b5, b6, b7, b8, b9, b10, b11, b12, b13⟩ hmg o0 o1 o2 o3 o4 o5 o6 o7 o8 o9 o10 o11 o12 o13 o14 o15 o16 o17 o18)
    obtain rfl : dV = .none := Dflts.none hD rfl
    obtain rfl : kV = .none := Dflts.noKw hD
    obtain ⟨a, vs, ns, rfl, rfl, hobj, hints, hlen⟩ := Att.script_of (l := PySem.Challenge.rw_pilehall_k01_taken) (n := 63) rfl hpre hwl
    refine enter_call (codeAny_mono (Ph.call1 (l := PySem.Challenge.rw_pilehall_k01_taken) KX GN G.T.b G.T.builtins G.T.nolimit hg hobj hints hlen (fun e => hz (by rw [e]; rfl)) hF hb) fun r s' hq => ?_)
    obtain ⟨rfl, h2, h3, h4⟩ := hq
    exact ⟨.inl ⟨.bool true, .bool true, [], rfl, fun _ => rfl, .bool true, Att.post_true PySem.Challenge.rw_pilehall_k01_taken _, fun _ => ⟨List.Pairwise.nil, fun _ hm => (nomatch hm)⟩⟩, h2, h3, h4⟩)
#print axioms PySem.Challenge.cw_pilehall_k01_taken_holds
