import PyProof.Rows.All
import Wide.All
import OpenK.AllK
import Wide.FinOn
import Lean
import PyProof.EqAt
import PyProof.EqKinds
import PyProof.TupleCall
import KE.KSortTup
import KE.KPairComp
import KE.KRevIter
import KE.LcSums
import KE.KLam
import KE.KTryMore
import PyProof.ExcBaseAll.ValueError
import PyProof.ExcClass2
import PyProof.ExcArgsOwn
import PySem.Challenge.RW_warebids_k08_refused
set_option Elab.async false
set_option linter.all false
set_option maxRecDepth 100000
namespace L2
open PySem PySem.Spec PyProof.Rows

/-- a key: an int or a str -/
abbrev Key := Sum Int Str
def keyIs : Key → Value → Bool
  | .inl k, v => Value.isInt k v
  | .inr x, v => Value.isStrOf x v
def keyH (w : World) : Key → Int
  | .inl k => hashInt k
  | .inr x => hashStr w x
theorem keyIs_shape : ∀ {k : Key} {v : Value}, keyIs k v = true → (∃ i t, k = Sum.inl i ∧ v = Value.int i t) ∨ (∃ x t, k = Sum.inr x ∧ v = Value.str x t)
  | .inl i, v, h => by
    obtain ⟨t, e⟩ := Value.isInt_shape (k := i) (v := v) h
    exact .inl ⟨i, t, rfl, e⟩
  | .inr x, v, h => by
    obtain ⟨t, e⟩ := Value.isStrOf_shape (x := x) (v := v) h
    exact .inr ⟨x, t, rfl, e⟩
theorem keyIs_int (i : Int) (t : Tok) : keyIs (.inl i) (.int i t) = true := by simp [keyIs, Value.isInt]
theorem keyIs_str (x : Str) (t : Tok) : keyIs (.inr x) (.str x t) = true := by simp [keyIs, Value.isStrOf]
theorem key_ll (a b : Int) : decide ((Sum.inl a : Key) = Sum.inl b) = (a == b) := by
  by_cases e : a = b
  · subst e; simp
  · have h : ¬ (Sum.inl a : Key) = Sum.inl b := fun q => e (Sum.inl.inj q)
    rw [decide_eq_false h]
    exact (beq_eq_false_iff_ne.mpr e).symm
theorem key_rr (a b : Str) : decide ((Sum.inr a : Key) = Sum.inr b) = decide (a = b) := by
  by_cases e : a = b
  · subst e; simp
  · have h : ¬ (Sum.inr a : Key) = Sum.inr b := fun q => e (Sum.inr.inj q)
    rw [decide_eq_false h, decide_eq_false e]
theorem key_lr (a : Int) (b : Str) : decide ((Sum.inl a : Key) = Sum.inr b) = false := decide_eq_false (fun q => nomatch q)
theorem key_rl (a : Str) (b : Int) : decide ((Sum.inr a : Key) = Sum.inl b) = false := decide_eq_false (fun q => nomatch q)

def mixKind (prog : Program) (w : World) : PySem.KeyKind prog w Key where
  is := keyIs
  hash := keyH w
  inj := fun v a b ha hb => by
    rcases keyIs_shape ha with ⟨i, t, rfl, rfl⟩ | ⟨x, t, rfl, rfl⟩
    · rcases keyIs_shape hb with ⟨j, u, rfl, e⟩ | ⟨y, u, rfl, e⟩
      · injection e with e1 _; rw [e1]
      · exact nomatch e
    · rcases keyIs_shape hb with ⟨j, u, rfl, e⟩ | ⟨y, u, rfl, e⟩
      · exact nomatch e
      · injection e with e1 _; rw [e1]
  byValue := fun k v h => by
    rcases keyIs_shape h with ⟨i, t, rfl, rfl⟩ | ⟨x, t, rfl, rfl⟩ <;> rfl
  pyHash := fun hv h => by
    rcases keyIs_shape hv with ⟨i, t, rfl, rfl⟩ | ⟨x, t, rfl, rfl⟩
    · exact wpAny_pyHash_int h
    · exact wpAny_pyHash_str h
  eqBool := fun hu hv h => by
    rcases keyIs_shape hu with ⟨i, t, rfl, rfl⟩ | ⟨x, t, rfl, rfl⟩
    · rcases keyIs_shape hv with ⟨j, u, rfl, rfl⟩ | ⟨y, u, rfl, rfl⟩
      · rw [key_ll] at h; exact wpAny_eqBool_int h
      · rw [key_lr] at h; exact SeqAt.EqAt.int_str i t y u _ _ _ _ h
    · rcases keyIs_shape hv with ⟨j, u, rfl, rfl⟩ | ⟨y, u, rfl, rfl⟩
      · rw [key_rl] at h; exact SeqAt.EqAt.str_int x t j u _ _ _ _ h
      · rw [key_rr] at h; exact wpAny_eqBool_str h
  «strs» := fun k x t v h => by
    rcases keyIs_shape h with ⟨i, u, rfl, e⟩ | ⟨y, u, rfl, e⟩
    · exact nomatch e
    · injection e with e1 _
      subst e1
      cases v <;> rfl

theorem mixKind_is (prog : Program) (w : World) (k : Key) (v : Value) : (mixKind prog w).is k v = keyIs k v := rfl
theorem mixKind_int (prog : Program) (w : World) (i : Int) (t : Tok) : (mixKind prog w).is (.inl i) (.int i t) = true := keyIs_int i t
theorem mixKind_str (prog : Program) (w : World) (x : Str) (t : Tok) : (mixKind prog w).is (.inr x) (.str x t) = true := keyIs_str x t
end L2

namespace L2
open PySem PySem.Spec PyProof.Rows

/-- a value, without the heap -/
inductive V where
  | non | bl (b : Bool) | int (i : Int) | str (x : Str) | byt (b : Array UInt8) | flt (b : UInt64) | ref (a : Addr) | ty (n : String)
  deriving DecidableEq

def RelV : V → Value → Prop
  | .non, u => u = Value.none
  | .bl b, u => u = Value.bool b
  | .int i, u => ∃ t, u = Value.int i t
  | .str x, u => ∃ t, u = Value.str x t
  | .byt b, u => ∃ t, u = Value.bytes b t
  | .flt b, u => ∃ t, u = Value.float b t
  | .ref a, u => u = Value.ref a
  | .ty n, u => u = Value.type n

abbrev Vals : List V → List Value → Prop := Paired RelV
theorem Vals.length {xs : List V} {us : List Value} (r : Vals xs us) : xs.length = us.length := Paired.length r
theorem Vals.get : ∀ {xs : List V} {us : List Value} {i : Nat} {x : V}, Vals xs us → xs[i]? = some x → ∃ u, us[i]? = some u ∧ RelV x u
  | _, _, _, _, .nil, e => by simp at e
  | _, _, 0, _, .cons r _, e => by simp at e; subst e; exact ⟨_, rfl, r⟩
  | _, _, i + 1, x, .cons _ t, e => by
    obtain ⟨u, h1, h2⟩ := Vals.get (i := i) (x := x) t (by simpa using e)
    exact ⟨u, by simpa using h1, h2⟩
theorem Vals.set {x : V} {u : Value} (r : RelV x u) : ∀ {xs : List V} {us : List Value} (i : Nat), Vals xs us → Vals (xs.set i x) (us.set i u)
  | _, _, _, .nil => .nil
  | _, _, 0, .cons _ t => .cons r t
  | _, _, i + 1, .cons q t => .cons q (Vals.set r i t)
theorem Vals.append : ∀ {xs ys : List V} {us ws : List Value}, Vals xs us → Vals ys ws → Vals (xs ++ ys) (us ++ ws)
  | _, _, _, _, .nil, s => s
  | _, _, _, _, .cons r t, s => .cons r (Vals.append t s)
theorem Vals.take : ∀ {xs : List V} {us : List Value} (n : Nat), Vals xs us → Vals (xs.take n) (us.take n)
  | _, _, 0, _ => .nil
  | _, _, _ + 1, .nil => .nil
  | _, _, n + 1, .cons r t => .cons r (Vals.take n t)
theorem Vals.drop : ∀ {xs : List V} {us : List Value} (n : Nat), Vals xs us → Vals (xs.drop n) (us.drop n)
  | _, _, 0, r => r
  | _, _, _ + 1, .nil => .nil
  | _, _, n + 1, .cons _ t => Vals.drop n t
theorem Vals.none_of : ∀ {xs : List V} {us : List Value} {i : Nat}, Vals xs us → xs[i]? = none → us[i]? = none := fun {xs us i} r e => by
  have h1 := r.length
  have h2 : xs.length ≤ i := List.getElem?_eq_none_iff.mp e
  exact List.getElem?_eq_none_iff.mpr (by omega)

def RelO : Option V → Option Value → Prop
  | some v, some u => RelV v u
  | none, none => True
  | _, _ => False
def KV {κ : Type} : List (κ × V) → List (κ × Value) → Prop := Paired fun (p : κ × V) (q : κ × Value) => p.1 = q.1 ∧ RelV p.2 q.2

/-- a key of a dict (00_mix): an int or a text -/
def kV : Key → V
  | .inl i => .int i
  | .inr x => .str x

/-- what stands at a tracked address -/
inductive HO where
  /-- a list -/
  | lst (xs : List V)
  /-- a tuple (never changes) -/
  | tup (xs : List V)
  /-- a dict whose keys are ints and texts; one whose keys are tuples of ints and texts (the empty one is both) -/
  | dK (kvs : List (Key × V)) | dT (kvs : List (List Key × V))
  /-- a set of ints: its members, its size -/
  | set (S : Int → Bool) (n : Nat)
  /-- an instance of the class at C, its dict at dx, its attributes -/
  | ins (C dx : Addr) (fs : List (Str × V))
  /-- the dict of the instance at x -/
  | own (x : Addr)
  /-- the dict of an exception -/
  | xd (fs : List (Str × V))
  /-- a bound method, f of x -/
  | met (f x : Addr)
  /-- a range object lo, lo + 1, .. below hi -/
  | rng (lo hi : Int)
  /-- a thing that is known to the object (the script; a dict while a loop walks it): read, never written while it is so -/
  | frz (o : Obj) (u : HO)
  /-- a code object's table -/
  | tbl (ps : Array Value)
  /-- any other thing, by what is true of its one object (a def of one's own: SetO a S n := HO.ext fun h => ..) -/
  | ext (φ : Heap → Prop)

abbrev Hp := Addr → Option HO
def upd (H : Hp) (a : Addr) (o : HO) : Hp := fun b => if b = a then some o else H b
theorem upd_same {H : Hp} {a : Addr} {o : HO} : upd H a o a = some o := by unfold upd; rw [if_pos rfl]
theorem upd_ne {H : Hp} {a b : Addr} {o : HO} (h : b ≠ a) : upd H a o b = H b := by unfold upd; rw [if_neg h]
theorem upd_upd {H : Hp} {a : Addr} {o u : HO} : upd (upd H a o) a u = upd H a u := by
  funext b; unfold upd; split <;> rfl
/-- two objects of different content stand apart -/
theorem ne_of {H : Hp} {a b : Addr} {o u : HO} (h : H a = some o) (h' : H b = some u) (d : o ≠ u) : a ≠ b := by
  intro e; subst e; rw [h] at h'; exact d (Option.some.inj h')
theorem ne_of_none {H : Hp} {a b : Addr} {o : HO} (h : H a = some o) (h' : H b = none) : a ≠ b := by
  intro e; subst e; rw [h] at h'; cases h'

section
variable (P : Program) (w : World)
def ObjOk (H : Hp) (h : Heap) (a : Addr) : HO → Prop
  | .lst xs => xs.length ≤ sizeLine ∧ ∃ (its : List Value) (n : Nat), Vals xs its ∧ h.get? a = some { cls := .type "list", data := .seq its.toArray n }
  | .tup xs => xs.length ≤ sizeLine ∧ ∃ its : List Value, Vals xs its ∧ IsTup h a its.toArray
  | .dK kvs => kvs.length ≤ sizeLine ∧ (a == sysModules) = false ∧ ∃ vs, KV kvs vs ∧ h.DictOf (mixKind P w) a vs
  | .dT kvs => kvs.length ≤ sizeLine ∧ (a == sysModules) = false ∧ ∃ xs : List (List Key × Addr × Value),
      Paired (fun (p : List Key × V) (q : List Key × Addr × Value) => p.1 = q.1 ∧ H q.2.1 = some (.tup (p.1.map kV)) ∧ RelV p.2 q.2.2) kvs xs ∧
      ∃ o es ep, h.get? a = some o ∧ o.ExactDict ∧ o.data = .dict es ep ∧ es.toList = xs.map (entryOfKey (tupleKind (mixKind P w))) ∧ (xs.map (·.1)).Nodup
  | .set S n => h.SetOf (intKind P w) a S n
  | .ins C dx fs => H dx = some (.own a) ∧ fs.length ≤ 1000 ∧ dx ≠ a ∧ h.get? a = some (PySem.W.instObj C dx) ∧
      ∃ mA, h.Ns1 dx mA ∧ (∀ f, RelO (fs.lookup f) (mA f)) ∧ PySem.Within mA (fs.map (·.1))
  | .own _ => ∃ o, h.get? a = some o
  | .xd fs => ∃ mA, h.Ns1 a mA ∧ ∀ f, RelO (fs.lookup f) (mA f)
  | .rng lo hi => ∃ t u v, h.get? a = some { cls := .type "range", data := .fields #[.int lo t, .int hi u, .int 1 v] }
  | .frz o u => h.get? a = some o ∧ ObjOk H h a u
  | .tbl ps => h.get? a = some { cls := .none, data := .fields ps }
  | .met f x => h.get? a = some (PySem.W.methodObj (.ref f) (.ref x))
  | .ext φ => φ h ∧ (∃ o, h.get? a = some o) ∧ ∀ h1 h2 : Heap, φ h1 → (∀ o, h1.get? a = some o → h2.get? a = some o) → φ h2
/-- the abstract heap is held -/
def HOk (H : Hp) (h : Heap) : Prop := ∀ a o, H a = some o → ObjOk P w H h a o
end

section
variable {P : Program} {w : World} {H H' : Hp} {h h' : Heap} {a : Addr} {o : HO}
theorem ObjOk.lt (x : ObjOk P w H h a o) : a < h.objs.size := by
  cases o with
  | lst xs => obtain ⟨_, _, _, _, e⟩ := x; exact Heap.lt_size e
  | tup xs => obtain ⟨_, _, _, p⟩ := x; exact p.lt
  | dK kvs => obtain ⟨_, _, _, _, o, _, _, e, _⟩ := x; exact Heap.lt_size e
  | dT kvs => obtain ⟨_, _, _, _, o, _, _, e, _⟩ := x; exact Heap.lt_size e
  | set S n => obtain ⟨o, _, _, _, e, _⟩ := x; exact Heap.lt_size e
  | ins C dx fs => obtain ⟨_, _, _, e, _⟩ := x; exact Heap.lt_size e
  | own y => obtain ⟨_, e⟩ := x; exact Heap.lt_size e
  | xd fs => obtain ⟨_, ⟨_, _, _, e, _⟩, _⟩ := x; exact Heap.lt_size e
  | rng lo hi => obtain ⟨_, _, _, e⟩ := x; exact Heap.lt_size e
  | frz ob u => obtain ⟨e, _⟩ := x; exact Heap.lt_size e
  | tbl ps => exact Heap.lt_size (show h.get? a = some _ from x)
  | met f y => exact Heap.lt_size (show h.get? a = some _ from x)
  | ext φ => obtain ⟨_, ⟨_, e⟩, _⟩ := x; exact Heap.lt_size e
theorem Paired.mapP {α β : Type} {F G : α → β → Prop} : ∀ {l₁ : List α} {l₂ : List β}, Paired F l₁ l₂ → (∀ a b, F a b → G a b) → Paired G l₁ l₂
  | _, _, .nil, _ => .nil
  | _, _, .cons r t, f => .cons (f _ _ r) (Paired.mapP t f)
theorem Paired.imp' {α β : Type} {F G : α → β → Prop} (f : ∀ a b, F a b → G a b) {l₁ : List α} {l₂ : List β} (r : Paired F l₁ l₂) : Paired G l₁ l₂ := Paired.mapP r f
/-- what an object's description leans on: its own object, its own dict, the tuples -/
theorem ObjOk.stay (x : ObjOk P w H h a o) (k : ∀ b u, (b = a ∨ H b = some (.own a)) → h.get? b = some u → h'.get? b = some u)
    (ho : ∀ b, H b = some (.own a) → H' b = some (.own a)) (ht : ∀ b xs, H b = some (.tup xs) → H' b = some (.tup xs)) : ObjOk P w H' h' a o := by
  induction o with
  | lst xs => obtain ⟨z, its, n, r, e⟩ := x; exact ⟨z, its, n, r, k _ _ (.inl rfl) e⟩
  | tup xs => obtain ⟨z, its, r, ob, e, c⟩ := x; exact ⟨z, its, r, ob, k _ _ (.inl rfl) e, c⟩
  | dK kvs => obtain ⟨z, y, vs, r, ob, es, ep, e, c⟩ := x; exact ⟨z, y, vs, r, ob, es, ep, k _ _ (.inl rfl) e, c⟩
  | dT kvs =>
    obtain ⟨z, y, xs, r, ob, es, ep, e, c⟩ := x
    exact ⟨z, y, xs, Paired.mapP r fun p q z => ⟨z.1, ht _ _ z.2.1, z.2.2⟩, ob, es, ep, k _ _ (.inl rfl) e, c⟩
  | set S n => obtain ⟨ob, es, ep, t, e, c⟩ := x; exact ⟨ob, es, ep, t, k _ _ (.inl rfl) e, c⟩
  | ins C dx fs =>
    obtain ⟨d, z, ne, e, mA, ⟨od, es, ep, e2, c⟩, r⟩ := x
    exact ⟨ho _ d, z, ne, k _ _ (.inl rfl) e, mA, ⟨od, es, ep, k _ _ (.inr d) e2, c⟩, r⟩
  | own y => obtain ⟨ob, e⟩ := x; exact ⟨ob, k _ _ (.inl rfl) e⟩
  | xd fs => obtain ⟨mA, ⟨od, es, ep, e, c⟩, r⟩ := x; exact ⟨mA, ⟨od, es, ep, k _ _ (.inl rfl) e, c⟩, r⟩
  | rng lo hi => obtain ⟨t, u, v, e⟩ := x; exact ⟨t, u, v, k _ _ (.inl rfl) e⟩
  | frz ob u ih => obtain ⟨e, q⟩ := x; exact ⟨k _ _ (.inl rfl) e, ih q⟩
  | tbl ps =>
    have e : h.get? a = some { cls := .none, data := .fields ps } := x
    show h'.get? a = some { cls := .none, data := .fields ps }
    exact k a _ (.inl rfl) e
  | met f y =>
    have e : h.get? a = some (PySem.W.methodObj (.ref f) (.ref y)) := x
    show h'.get? a = some (PySem.W.methodObj (.ref f) (.ref y))
    exact k a _ (.inl rfl) e
  | ext φ => obtain ⟨p, ⟨o, e⟩, st⟩ := x; exact ⟨st _ _ p fun o q => k _ _ (.inl rfl) q, ⟨o, k _ _ (.inl rfl) e⟩, st⟩
theorem HOk.lt (x : HOk P w H h) (e : H a = some o) : a < h.objs.size := (x a o e).lt
theorem HOk.fresh (x : HOk P w H h) (e : h.objs.size ≤ a) : H a = none := by
  cases q : H a with
  | none => rfl
  | some u => exact absurd (Nat.lt_of_lt_of_le (x.lt q) e) (Nat.lt_irrefl _)
/-- every object of the heap is kept -/
theorem HOk.kept (x : HOk P w H h) (k : ∀ b u, h.get? b = some u → h'.get? b = some u) : HOk P w H h' := fun a o e =>
  (x a o e).stay (fun b u _ q => k b u q) (fun _ q => q) fun _ _ q => q
/-- a new object is laid and tracked -/
theorem HOk.laid (x : HOk P w H h) (k : ∀ b u, h.get? b = some u → h'.get? b = some u) (hp : h.objs.size ≤ a) (new : ObjOk P w (upd H a o) h' a o) : HOk P w (upd H a o) h' := fun b u e => by
  have hn := x.fresh hp
  by_cases hb : b = a
  · subst hb; rw [upd_same] at e; cases e; exact new
  · rw [upd_ne hb] at e
    exact (x b u e).stay (fun c v _ q => k c v q) (fun c q => by rw [upd_ne (ne_of_none q hn)]; exact q) fun c xs q => by rw [upd_ne (ne_of_none q hn)]; exact q
end

/-- what may be read as u: it is u, or a known u -/
def Rd (H : Hp) (a : Addr) (u : HO) : Prop := H a = some u ∨ ∃ o, H a = some (.frz o u)
theorem Rd.of {H : Hp} {a : Addr} {u : HO} (h : H a = some u) : Rd H a u := .inl h
theorem Rd.ok {P : Program} {w : World} {H : Hp} {h : Heap} {a : Addr} {u : HO} (r : Rd H a u) (x : HOk P w H h) : ObjOk P w H h a u := by
  rcases r with r | ⟨o, r⟩
  · exact x a u r
  · obtain ⟨_, q⟩ := x a _ r
    exact q
/-- what may be written -/
def Mut : Option HO → Prop
  | some (.lst _) => True
  | some (.dK _) => True
  | some (.dT _) => True
  | some (.set _ _) => True
  | some (.ins _ _ _) => True
  | some (.ext _) => True
  | _ => False
section
variable {P : Program} {w : World} {H : Hp} {h h' : Heap} {x e : Addr} {o' : HO}
/-- the object at e is changed: x itself, or the dict of the instance x -/
theorem HOk.write (ok : HOk P w H h) (mu : Mut (H x)) (he : e = x ∨ H e = some (.own x)) (k : ∀ b u, b ≠ e → h.get? b = some u → h'.get? b = some u) (heo : ∃ u, h'.get? e = some u)
    (new : ObjOk P w (upd H x o') h' x o') : HOk P w (upd H x o') h' := fun b u q => by
  have nown : ∀ c y, H c = some (.own y) → c ≠ x := fun c y r z => by subst z; rw [r] at mu; exact mu
  have ntup : ∀ c xs, H c = some (.tup xs) → c ≠ x := fun c xs r z => by subst z; rw [r] at mu; exact mu
  by_cases hb : b = x
  · subst hb; rw [upd_same] at q; cases q; exact new
  · rw [upd_ne hb] at q
    by_cases hbe : b = e
    · have q' : H b = some (.own x) := by
        rcases he with z | z
        · exact absurd (hbe.trans z) hb
        · rw [hbe]; exact z
      rw [q] at q'; cases q'
      obtain ⟨v, hv⟩ := heo
      exact ⟨v, by rw [hbe]; exact hv⟩
    · refine (ok b u q).stay (fun c v hc r => k c v ?_ r) (fun c r => by rw [upd_ne (nown c b r)]; exact r) fun c xs r => by rw [upd_ne (ntup c xs r)]; exact r
      rcases hc with rfl | hc
      · exact hbe
      · rintro rfl
        rcases he with z | z
        · exact nown c b hc z
        · rw [hc] at z; cases z; exact hb rfl
end

/-! ### kept unless tracked; of the frames at fs (the callers') the slots may change (an exception that passes writes there); of the records at ex (iterators) nothing is said -/
structure Un (fs ex : List Addr) (H H' : Hp) (h h' : Heap) : Prop where
  keep : ∀ b o, h.get? b = some o → H b = none → b ∉ fs → b ∉ ex → h'.get? b = some o
  slot : ∀ b o, h.get? b = some o → H b = none → b ∈ fs → b ∉ ex → ∃ sl, h'.get? b = some { o with slots := sl }
  free : ∀ b o, h.get? b = some o → H b = none → b ∉ ex → H' b = none
  there : ∀ b o, h.get? b = some o → b ∉ ex → ∃ o', h'.get? b = some o'
  tups : ∀ b xs, H b = some (.tup xs) → H' b = some (.tup xs)
  frzs : ∀ b o u, H b = some (.frz o u) → H' b = some (.frz o u)
  tbls : ∀ b ps, H b = some (.tbl ps) → ∃ more, H' b = some (.tbl (ps ++ more))
section
variable {fs fs' ex ex' : List Addr} {H H1 H2 : Hp} {h h1 h2 h' : Heap} {a x e : Addr} {o : HO}
theorem Un.any (u : Un fs ex H H1 h h1) {b : Addr} {ob : Obj} (q : h.get? b = some ob) (n : H b = none) (hx : b ∉ ex) : ∃ sl, h1.get? b = some { ob with slots := sl } := by
  by_cases hb : b ∈ fs
  · exact u.slot b ob q n hb hx
  · exact ⟨ob.slots, u.keep b ob q n hb hx⟩
theorem Un.trans (a : Un fs ex H H1 h h1) (b : Un fs ex H1 H2 h1 h2) : Un fs ex H H2 h h2 where
  keep := fun c ob q n hc hx => b.keep c ob (a.keep c ob q n hc hx) (a.free c ob q n hx) hc hx
  slot := fun c ob q n hc hx => by
    obtain ⟨sl, e1⟩ := a.slot c ob q n hc hx
    obtain ⟨sl', e2⟩ := b.slot c _ e1 (a.free c ob q n hx) hc hx
    exact ⟨sl', e2⟩
  free := fun c ob q n hx => by
    obtain ⟨o', e1⟩ := a.there c ob q hx
    exact b.free c o' e1 (a.free c ob q n hx) hx
  there := fun c ob q hx => by
    obtain ⟨o', e1⟩ := a.there c ob q hx
    exact b.there c o' e1 hx
  tups := fun c xs q => b.tups c xs (a.tups c xs q)
  frzs := fun c ob xs q => b.frzs c ob xs (a.frzs c ob xs q)
  tbls := fun c ps q => by
    obtain ⟨m1, e1⟩ := a.tbls c ps q
    obtain ⟨m2, e2⟩ := b.tbls c _ e1
    exact ⟨m1 ++ m2, by rw [e2, Array.append_assoc]⟩
theorem Un.kept (k : ∀ b u, h.get? b = some u → h'.get? b = some u) : Un fs ex H H h h' :=
  ⟨fun b ob q _ _ _ => k b ob q, fun b ob q _ _ _ => ⟨ob.slots, k b ob q⟩, fun _ _ _ n _ => n, fun b ob q _ => ⟨ob, k b ob q⟩, fun _ _ q => q, fun _ _ _ q => q, fun _ ps q => ⟨#[], by rw [q]; simp⟩⟩
theorem Un.refl : Un fs ex H H h h := Un.kept fun _ _ q => q
theorem Un.laid (k : ∀ b u, h.get? b = some u → h'.get? b = some u) (hp : h.objs.size ≤ a) (hn : H a = none) : Un fs ex H (upd H a o) h h' where
  keep := fun b u q _ _ _ => k b u q
  slot := fun b u q _ _ _ => ⟨u.slots, k b u q⟩
  free := fun b u q n _ => by rw [upd_ne (Nat.ne_of_lt (Nat.lt_of_lt_of_le (Heap.lt_size q) hp))]; exact n
  there := fun b u q _ => ⟨u, k b u q⟩
  tups := fun b xs q => by rw [upd_ne (ne_of_none q hn)]; exact q
  frzs := fun b u xs q => by rw [upd_ne (ne_of_none q hn)]; exact q
  tbls := fun b ps q => ⟨#[], by rw [upd_ne (ne_of_none q hn), q]; simp⟩
theorem Un.write (mu : Mut (H x)) (he : e = x ∨ H e = some (.own x)) (k : ∀ b u, b ≠ e → h.get? b = some u → h'.get? b = some u) (heo : ∃ u, h'.get? e = some u) : Un fs ex H (upd H x o) h h' := by
  have hx : ∀ b, H b = none → b ≠ x := fun b n z => by subst z; rw [n] at mu; exact mu
  have hb : ∀ b, H b = none → b ≠ e := fun b n z => by
    subst z
    rcases he with r | r
    · exact hx b n r
    · rw [n] at r; cases r
  have hm : ∀ b u, H b = some u → ¬ Mut (some u) → b ≠ x := fun b u q nm z => by subst z; rw [q] at mu; exact nm mu
  refine ⟨fun b u q n _ _ => k b u (hb b n) q, fun b u q n _ _ => ⟨u.slots, k b u (hb b n) q⟩, fun b u q n _ => by rw [upd_ne (hx b n)]; exact n, fun b u q _ => ?_,
    fun b xs q => by rw [upd_ne (hm b _ q fun z => z)]; exact q, fun b u xs q => by rw [upd_ne (hm b _ q fun z => z)]; exact q, fun b ps q => ⟨#[], by rw [upd_ne (hm b _ q fun z => z), q]; simp⟩⟩
  by_cases hbe : b = e
  · subst hbe; exact heo
  · exact ⟨u, k b u hbe q⟩
theorem Un.mono (u : Un fs ex H H1 h h1) (hs : ∀ b ∈ fs, b ∈ fs') (hx : ∀ b ∈ ex, b ∈ ex') : Un fs' ex' H H1 h h1 :=
  ⟨fun b ob q n hb he => u.keep b ob q n (fun z => hb (hs b z)) fun z => he (hx b z), fun _ _ q n _ he => u.any q n fun z => he (hx _ z), fun b ob q n he => u.free b ob q n fun z => he (hx b z), fun b ob q he => u.there b ob q fun z => he (hx b z), u.tups, u.frzs, u.tbls⟩
end

/-! ### the heap without what is tracked -/
def trk (h : Heap) (H : Hp) : List Addr := (List.range h.objs.size).filter fun a => (H a).isSome
def hidT (h : Heap) (H : Hp) : Heap := PySem.W.hideAll h (trk h H)
theorem hidT_size (h : Heap) (H : Hp) : (hidT h H).objs.size = h.objs.size := PySem.W.hideAll_size _ _
theorem hidT_get {h : Heap} {H : Hp} {b : Addr} {o : Obj} (e : h.get? b = some o) (n : H b = none) : (hidT h H).get? b = some o :=
  PySem.W.hideAll_get _ e fun hm => by
    have q : (H b).isSome = true := (List.mem_filter.mp hm).2
    rw [n] at q; simp at q
theorem of_hidT {h : Heap} {H : Hp} {b : Addr} {o : Obj} (e : (hidT h H).get? b = some o) : h.get? b = some o ∧ H b = none := by
  have e' : h.get? b = some o := PySem.W.of_hideAll (trk h H) e
  refine ⟨e', ?_⟩
  cases q : H b with
  | none => rfl
  | some x =>
    have hm : b ∈ trk h H := List.mem_filter.mpr ⟨List.mem_range.mpr (Heap.lt_size e'), by simp [q]⟩
    have z : (hidT h H).get? b = none := PySem.W.hideAll_none (trk h H) hm
    rw [z] at e; cases e

/-! ### OpenK's ledger, filled with every new object but one -/
def allNews (g h : Heap) (L : Addr) : List (Addr × Obj) := (List.range h.objs.size).filterMap fun a => if a = L ∨ (g.get? a).isSome = true then none else (h.get? a).map fun o => (a, o)
theorem mem_allNews {g h : Heap} {L a : Addr} {o : Obj} (h1 : a ≠ L) (h2 : g.get? a = none) (h3 : h.get? a = some o) : (a, o) ∈ allNews g h L :=
  List.mem_filterMap.mpr ⟨a, List.mem_range.mpr (Heap.lt_size h3), by simp [h1, h2, h3]⟩
theorem of_mem_allNews {g h : Heap} {L : Addr} {p : Addr × Obj} (hp : p ∈ allNews g h L) : p.1 ≠ L ∧ g.get? p.1 = none ∧ h.get? p.1 = some p.2 := by
  obtain ⟨b, _, e⟩ := List.mem_filterMap.mp hp
  split at e
  · cases e
  · rename_i hn
    cases q : h.get? b with
    | none => rw [q] at e; simp at e
    | some u =>
      rw [q] at e
      simp only [Option.map_some, Option.some.injEq] at e
      subst e
      refine ⟨fun z => hn (.inl z), ?_, q⟩
      show g.get? b = none
      cases r : g.get? b with
      | none => rfl
      | some v => exact (hn (.inr (by simp [r]))).elim
def rest (g h : Heap) (L d : Addr) : List (Addr × Obj) := (allNews g h L).filter fun p => decide (p.1 ≠ d)
theorem rest_ne {g h : Heap} {L d : Addr} : ∀ p ∈ rest g h L d, p.1 ≠ d := fun p hp => of_decide_eq_true (List.mem_filter.mp hp).2
theorem mem_rest {g h : Heap} {L d a : Addr} {o : Obj} (h1 : a ≠ L) (h2 : g.get? a = none) (h3 : h.get? a = some o) (h4 : a ≠ d) : (a, o) ∈ rest g h L d :=
  List.mem_filter.mpr ⟨mem_allNews h1 h2 h3, decide_eq_true h4⟩
theorem news_all {g h : Heap} {L : Addr} : News g L h (allNews g h L) := fun p hp => let ⟨a, b, c⟩ := of_mem_allNews hp; ⟨c, a, b⟩
theorem news_at {g h : Heap} {L d : Addr} {o : Obj} (h1 : d ≠ L) (h2 : g.get? d = none) (h3 : h.get? d = some o) : News g L h ((d, o) :: rest g h L d) := fun p hp => by
  rcases List.mem_cons.mp hp with rfl | hp
  · exact ⟨h3, h1, h2⟩
  · exact news_all p (List.mem_filter.mp hp).1
/-- behind a rule that changed d alone: all else but the frame is kept -/
theorem kept_of_news {g h h' : Heap} {L d : Addr} {m : Str → Option Value} (k : ∀ b o, g.get? b = some o → h.get? b = some o) (F : Fr g L h' m) (N : News g L h' (rest g h L d)) :
    ∀ b o, b ≠ L → b ≠ d → h.get? b = some o → h'.get? b = some o := fun b o h1 h2 e => by
  cases q : g.get? b with
  | some u =>
    have := k b u q
    rw [e] at this; cases this
    exact F.keep b _ q
  | none => exact (N (b, o) (mem_rest h1 q e h2)).1
end L2

namespace L2
open PySem PySem.Spec PyProof.Rows

/-- the module's facts, over the base: the heap at the law's entry without what is tracked there -/
structure Mod (K : PySem.W.Frag) (mg : Str → Option Value) (base : Heap) : Prop where
  kin : K.In base
  glob : base.Ns mainGlobals mg
  blt : ∃ mb, base.Ns builtinsNs mb ∧ ∀ x : Str, x ≠ "__name__" → mb x = bootBuiltins x
  nolimit : base.NoLimit

/-- the context: a def's body (or a comprehension's block) running. base: fixed through the whole law; s₀, H₀: the entry; outer: the frames whose slots others may change (a def's callers); stack: all frames that run;
   ex: iterators that were made ahead of the entry and are walked here (a comprehension's); fn: the names whose cells were made at the entry (a def: all; a comprehension's block: its own); calm: not within an except suite; pn: pins that every state bears; xe: what is wanted of an exception that leaves the code -/
structure Cx where
  prog : Program
  w : World
  K : PySem.W.Frag
  mg : Str → Option Value
  base : Heap
  A : Around
  N : List Str
  s₀ : Shared
  H₀ : Hp
  env : Env
  outer : List Env
  stack : List Env
  ex : List Addr
  fn : Str → Bool
  calm : Bool
  pn : List (Addr × Obj)
  xe : Value → Shared → Prop
/-- the callers' frames -/
def frs (l : List Env) : List Addr := l.filterMap (·.frame)
abbrev Cx.fs (X : Cx) : List Addr := frs X.outer

def Vis (sc : Scope) (x : Str) : Prop := sc.names.lookup x = some .local ∨ sc.names.lookup x = some .cell ∨ sc.names.lookup x = some .free
def Loc (sc : Scope) (x : Str) : Prop := sc.names.lookup x = some .local ∨ sc.names.lookup x = some .cell
def Look (env : Env) (h : Heap) (m : Str → Option Value) (x : Str) (u : Value) : Prop :=
  (env.kindOf x = some .local ∧ m x = some u) ∨ ((env.kindOf x = some .cell ∨ env.kindOf x = some .free) ∧ ∃ c, env.cells.lookup x = some c ∧ h.IsCell c (some u))

structure Cx.Ok (X : Cx) : Prop where
  mod : Mod X.K X.mg X.base
  kind : X.env.scope.kind = .function
  glob : X.env.globals = mainGlobals
  blt : X.env.builtins = builtinsNs
  above : X.s₀.heap.objs.size ≤ X.env.locals
  inj : ∀ x y c, X.env.cells.lookup x = some c → X.env.cells.lookup y = some c → x = y
  has : ∀ x, (X.env.kindOf x = some .cell ∨ X.env.kindOf x = some .free) → ∃ c, X.env.cells.lookup x = some c
  cab : ∀ x c, X.fn x = true → X.env.cells.lookup x = some c → X.s₀.heap.objs.size ≤ c
  hd : X.calm = true → X.A.handled = none
  frames : X.A.frames = some X.stack
  stk : X.stack = X.outer ∨ (X.stack = X.env :: X.outer ∧ X.env.frame = some X.env.locals)
  exf : ∀ b ∈ X.ex, b ≠ X.env.locals ∧ ∀ x c, X.env.cells.lookup x = some c → c ≠ b
  bs : ∀ b o, X.base.get? b = some o → X.s₀.heap.get? b = some o ∧ X.H₀ b = none
  bsz : X.base.objs.size ≤ X.s₀.heap.objs.size
  noex : ∀ b o, X.base.get? b = some o → b ∉ X.ex
  exfs : ∀ b ∈ X.ex, b ∉ X.fs
  funs : X.s₀.heap.FunFrames X.base X.outer
  frf : ∀ b ∈ X.fs, X.H₀ b = none

structure Inv (X : Cx) (pins : List (Addr × Obj)) (σ : List (Option V)) (H : Hp) (s : Shared) : Prop where
  ok : X.Ok
  os : s.os = X.s₀.os
  bare : AllBare s.gens
  base : Un X.fs X.ex X.H₀ H X.s₀.heap s.heap
  loc : ∃ m, s.heap.Ns X.env.locals m ∧ ∀ (i : Nat) (x : Str) (v : V), X.N[i]? = some x → σ[i]? = some (some v) → Vis X.env.scope x → ∃ u, RelV v u ∧ Look X.env s.heap m x u
  cell : ∀ x c, X.env.cells.lookup x = some c → ∃ v, s.heap.IsCell c v
  free : H X.env.locals = none
  freeC : ∀ x c, X.env.cells.lookup x = some c → H c = none
  pin : ∀ p ∈ X.pn ++ pins, s.heap.get? p.1 = some p.2 ∧ H p.1 = none ∧ p.1 ≠ X.env.locals ∧ p.1 ∉ X.fs ∧ ∀ v, p.2.data ≠ .cell v
  hok : HOk X.prog X.w H s.heap
  len : σ.length = X.N.length

section
variable {X : Cx} {pins : List (Addr × Obj)} {σ : List (Option V)} {H H' : Hp} {s : Shared} {h' : Heap}

theorem Cx.Ok.nofr (ok : X.Ok) {b : Addr} {o : Obj} (e : X.base.get? b = some o) : b ∉ X.fs := fun hb => by
  have := (ok.funs.mem hb).1
  rw [e] at this; cases this
theorem Inv.bs (I : Inv X pins σ H s) : ∀ b o, X.base.get? b = some o → s.heap.get? b = some o ∧ H b = none := fun b o e =>
  ⟨I.base.keep b o (I.ok.bs b o e).1 (I.ok.bs b o e).2 (I.ok.nofr e) (I.ok.noex b o e), I.base.free b o (I.ok.bs b o e).1 (I.ok.bs b o e).2 (I.ok.noex b o e)⟩
theorem Inv.bk (I : Inv X pins σ H s) : ∀ b o, X.base.get? b = some o → s.heap.get? b = some o := fun b o e => (I.bs b o e).1
theorem Inv.mod (I : Inv X pins σ H s) : Mod X.K X.mg X.base := I.ok.mod
theorem Inv.kIn (I : Inv X pins σ H s) : X.K.In s.heap := I.ok.mod.kin.keeps I.bk
theorem Inv.nolimit (I : Inv X pins σ H s) : s.heap.NoLimit := I.ok.mod.nolimit.keeps I.bk
/-- the frame over the base: for OpenK's rules (K.In X.base is I.mod.kin) -/
theorem Inv.fr (I : Inv X pins σ H s) : ∃ m, Fr X.base X.env.locals s.heap m :=
  let ⟨m, hn, _⟩ := I.loc
  ⟨m, hn, I.bk, Nat.le_trans I.ok.bsz I.ok.above⟩
theorem Inv.lt (I : Inv X pins σ H s) : X.env.locals < s.heap.objs.size := let ⟨_, hn, _⟩ := I.loc; hn.lt
theorem Inv.sz (I : Inv X pins σ H s) : X.s₀.heap.objs.size ≤ s.heap.objs.size := Nat.le_trans I.ok.above (Nat.le_of_lt I.lt)
theorem Inv.nofs (I : Inv X pins σ H s) {a : Addr} (h : s.heap.objs.size ≤ a) : a ∉ X.fs := fun hb => by
  obtain ⟨_, o, ho, _⟩ := I.ok.funs.mem hb
  exact absurd (Nat.lt_of_lt_of_le (Heap.lt_size ho) (Nat.le_trans I.sz h)) (Nat.lt_irrefl _)
theorem Inv.cne (I : Inv X pins σ H s) : ∀ x c, X.env.cells.lookup x = some c → c ≠ X.env.locals := fun x c e z => by
  obtain ⟨v, o, ho, hd⟩ := I.cell x c e
  obtain ⟨m, ⟨o', es, ep, ho', hd', _⟩, _⟩ := I.loc
  rw [z, ho'] at ho; cases ho; rw [hd'] at hd; cases hd
theorem Inv.funs (I : Inv X pins σ H s) : s.heap.FunFrames X.base X.outer := by
  have all : ∀ (l : List Env), (∀ b ∈ frs l, b ∈ X.fs) → X.s₀.heap.FunFrames X.base l → s.heap.FunFrames X.base l := by
    intro l
    induction l with
    | nil => intro _ _; trivial
    | cons env r ih =>
      intro hs hl
      obtain ⟨hk, ⟨L, o, hf, hn, ho, hd⟩, hr⟩ := hl
      have hL : L ∈ X.fs := hs L (by unfold frs; rw [List.filterMap_cons, hf]; exact List.mem_cons_self)
      obtain ⟨sl, e⟩ := I.base.slot L o ho (I.ok.frf L hL) hL fun z => I.ok.exfs L z hL
      exact ⟨hk, ⟨L, _, hf, hn, e, hd⟩, ih (fun b hb => hs b (by unfold frs; rw [List.filterMap_cons, hf]; exact List.mem_cons_of_mem _ hb)) hr⟩
  exact all X.outer (fun _ hb => hb) I.ok.funs

/-- the frames that run, for a call -/
theorem Inv.stack (I : Inv X pins σ H s) : s.heap.FunFrames X.base X.stack := by
  rcases I.ok.stk with e | ⟨e, hf⟩
  · rw [e]; exact I.funs
  · rw [e]
    obtain ⟨m, hn, _⟩ := I.loc
    refine .cons (by rw [I.ok.kind]; decide) hf hn ?_ I.funs
    exact Heap.get?_none_of_le (Nat.le_trans I.ok.bsz I.ok.above)
theorem Inv.stkSub (I : Inv X pins σ H s) : ∀ b ∈ frs X.stack, b ∈ X.env.locals :: X.fs := fun b hb => by
  rcases I.ok.stk with e | ⟨e, hf⟩
  · rw [e] at hb; exact List.mem_cons_of_mem _ hb
  · rw [e] at hb
    unfold frs at hb
    rw [List.filterMap_cons, hf] at hb
    exact hb
theorem Inv.stkFree (I : Inv X pins σ H s) : ∀ b ∈ frs X.stack, H b = none := fun b hb => by
  rcases List.mem_cons.mp (I.stkSub b hb) with e | hb
  · rw [e]; exact I.free
  · obtain ⟨_, o, ho, _⟩ := I.ok.funs.mem hb
    exact I.base.free b o ho (I.ok.frf b hb) fun z => I.ok.exfs b z hb

/-- THE STEP: the untracked objects but the frame and the records at ch are kept (the callers' frames up to slots), the frame's map is kept, the new abstract heap is held -/
theorem Inv.step {g' : Array GenState} {t' : Nat} {d' : Drawn} {ch : List Addr} (I : Inv X pins σ H s)
    (hch : ∀ b ∈ ch, (b ∈ X.ex ∨ X.s₀.heap.objs.size ≤ b) ∧ b ≠ X.env.locals ∧ (∀ x c, X.env.cells.lookup x = some c → c ≠ b) ∧ ∀ p ∈ X.pn ++ pins, p.1 ≠ b)
    (keep : ∀ b o, b ≠ X.env.locals → b ∉ X.fs → b ∉ ch → s.heap.get? b = some o → H b = none → h'.get? b = some o)
    (slot : ∀ b o, b ≠ X.env.locals → b ∈ X.fs → b ∉ ch → s.heap.get? b = some o → H b = none → ∃ sl, h'.get? b = some { o with slots := sl }) (free : ∀ b o, b ∉ ch → s.heap.get? b = some o → H b = none → H' b = none)
    (there : ∀ b o, b ∉ ch → s.heap.get? b = some o → ∃ o', h'.get? b = some o')
    (tups : ∀ b xs, H b = some (.tup xs) → H' b = some (.tup xs)) (frzs : ∀ b o u, H b = some (.frz o u) → H' b = some (.frz o u)) (tbls : ∀ b ps, H b = some (.tbl ps) → ∃ more, H' b = some (.tbl (ps ++ more)))
    (ns : ∀ m, s.heap.Ns X.env.locals m → h'.Ns X.env.locals m) (hok : HOk X.prog X.w H' h') (hg : AllBare g') :
    Inv X pins σ H' { s with heap := h', gens := g', drawn := d', toks := t' } := by
  have neL : ∀ b o, X.s₀.heap.get? b = some o → b ≠ X.env.locals := fun b o e => Nat.ne_of_lt (Nat.lt_of_lt_of_le (Heap.lt_size e) I.ok.above)
  have neC : ∀ b o, X.s₀.heap.get? b = some o → b ∉ X.ex → b ∉ ch := fun b o e hx hb => by
    rcases (hch b hb).1 with z | z
    · exact hx z
    · exact absurd (Nat.lt_of_lt_of_le (Heap.lt_size e) z) (Nat.lt_irrefl _)
  have cellK : ∀ x c, X.env.cells.lookup x = some c → ∀ v, s.heap.IsCell c v → h'.IsCell c v := fun x c e v ⟨o, ho, hd⟩ => by
    have nch : c ∉ ch := fun z => (hch c z).2.2.1 x c e rfl
    by_cases hc : c ∈ X.fs
    · obtain ⟨sl, q⟩ := slot c o (I.cne x c e) hc nch ho (I.freeC x c e)
      exact ⟨_, q, hd⟩
    · exact ⟨o, keep c o (I.cne x c e) hc nch ho (I.freeC x c e), hd⟩
  refine ⟨I.ok, I.os, hg, ⟨fun b o e n hb hx => ?_, fun b o e n hb hx => ?_, fun b o e n hx => ?_, fun b o e hx => ?_, fun b xs e => tups b xs (I.base.tups b xs e), fun b o xs e => frzs b o xs (I.base.frzs b o xs e), fun b ps e => ?_⟩, ?_, fun x c e => ?_, ?_, fun x c e => ?_, fun p hp => ?_, hok, I.len⟩
  · exact keep b o (neL b o e) hb (neC b o e hx) (I.base.keep b o e n hb hx) (I.base.free b o e n hx)
  · obtain ⟨sl, e1⟩ := I.base.slot b o e n hb hx
    obtain ⟨sl', e2⟩ := slot b _ (neL b o e) hb (neC b o e hx) e1 (I.base.free b o e n hx)
    exact ⟨sl', e2⟩
  · obtain ⟨o', e1⟩ := I.base.there b o e hx
    exact free b o' (neC b o e hx) e1 (I.base.free b o e n hx)
  · obtain ⟨o', e1⟩ := I.base.there b o e hx
    exact there b o' (neC b o e hx) e1
  · obtain ⟨m1, e1⟩ := I.base.tbls b ps e
    obtain ⟨m2, e2⟩ := tbls b _ e1
    exact ⟨m1 ++ m2, by rw [e2, Array.append_assoc]⟩
  · obtain ⟨m, hn, hl⟩ := I.loc
    refine ⟨m, ns m hn, fun i x v e1 e2 e3 => ?_⟩
    obtain ⟨u, r, l⟩ := hl i x v e1 e2 e3
    refine ⟨u, r, ?_⟩
    rcases l with l | ⟨k, c, e, z⟩
    · exact .inl l
    · exact .inr ⟨k, c, e, cellK x c e _ z⟩
  · obtain ⟨v, z⟩ := I.cell x c e
    exact ⟨v, cellK x c e v z⟩
  · obtain ⟨m, ⟨o, _, _, ho, _⟩, _⟩ := I.loc
    exact free _ o (fun z => (hch _ z).2.1 rfl) ho I.free
  · obtain ⟨v, o, ho, hd⟩ := I.cell x c e
    exact free c o (fun z => (hch c z).2.2.1 x c e rfl) ho (I.freeC x c e)
  · obtain ⟨e, n, ne, nf, d⟩ := I.pin p hp
    have nch : p.1 ∉ ch := fun z => (hch p.1 z).2.2.2 p hp rfl
    exact ⟨keep p.1 p.2 ne nf nch e n, free p.1 p.2 nch e n, ne, nf, d⟩
/-- .. where the frame's own object is kept too -/
theorem Inv.un {t' : Nat} (I : Inv X pins σ H s) (u : Un X.fs [] H H' s.heap h') (hok : HOk X.prog X.w H' h') : Inv X pins σ H' { s with heap := h', toks := t' } := by
  obtain ⟨m, ⟨o, es, ep, ho, r⟩, _⟩ := id I.loc
  obtain ⟨sl, hL⟩ := u.any ho I.free (by simp)
  exact I.step (g' := s.gens) (d' := s.drawn) (ch := []) (fun _ z => nomatch z) (fun b o _ hb _ e n => u.keep b o e n hb (by simp)) (fun b o _ hb _ e n => u.slot b o e n hb (by simp)) (fun b o _ e n => u.free b o e n (by simp)) (fun b o _ e => u.there b o e (by simp)) u.tups u.frzs u.tbls (fun m' hm => by
    obtain ⟨o', es', ep', ho', r'⟩ := hm
    rw [ho] at ho'; cases ho'
    exact ⟨_, es', ep', hL, r'⟩) hok I.bare
/-- behind a call (or a comprehension's block): the slots of this frame may have changed too, the records at ch may have turned -/
theorem Inv.call {g' : Array GenState} {t' : Nat} {d' : Drawn} {ch : List Addr} (I : Inv X pins σ H s) (u : Un (frs X.stack) ch H H' s.heap h') (hok : HOk X.prog X.w H' h') (hg : AllBare g')
    (hch : ∀ b ∈ ch, (b ∈ X.ex ∨ X.s₀.heap.objs.size ≤ b) ∧ b ≠ X.env.locals ∧ (∀ x c, X.env.cells.lookup x = some c → c ≠ b) ∧ ∀ p ∈ X.pn ++ pins, p.1 ≠ b) :
    Inv X pins σ H' { s with heap := h', gens := g', drawn := d', toks := t' } := by
  obtain ⟨m, ⟨o, es, ep, ho, r⟩, _⟩ := id I.loc
  obtain ⟨sl, hL⟩ := u.any ho I.free fun z => (hch _ z).2.1 rfl
  exact I.step (ch := ch) hch (fun b o hL hb hc e n => u.keep b o e n (fun z => (List.mem_cons.mp (I.stkSub b z)).elim hL hb) hc) (fun b o _ _ hc e n => u.any e n hc) (fun b o hc e n => u.free b o e n hc) (fun b o hc e => u.there b o e hc) u.tups u.frzs u.tbls (fun m' hm => by
    obtain ⟨o', es', ep', ho', r'⟩ := hm
    rw [ho] at ho'; cases ho'
    exact ⟨_, es', ep', hL, r'⟩) hok hg
/-- an untracked record of ours (an iterator) has turned -/
theorem Inv.turned {t' : Nat} {it : Addr} (I : Inv X pins σ H s) (k : ∀ b o, b ≠ it → s.heap.get? b = some o → h'.get? b = some o) (hn : H it = none) (hL : it ≠ X.env.locals)
    (h1 : it ∈ X.ex ∨ X.s₀.heap.objs.size ≤ it) (h2 : ∀ x c, X.env.cells.lookup x = some c → c ≠ it) (h3 : ∀ p ∈ X.pn ++ pins, p.1 ≠ it) : Inv X pins σ H { s with heap := h', toks := t' } := by
  have nit : ∀ b u, H b = some u → b ≠ it := fun b u e z => by rw [z, hn] at e; cases e
  refine I.step (g' := s.gens) (d' := s.drawn) (ch := [it]) (fun b hb => ?_) (fun b o _ _ hc e _ => k b o (fun z => hc (by simp [z])) e) (fun b o _ _ hc e _ => ⟨o.slots, k b o (fun z => hc (by simp [z])) e⟩) (fun _ _ _ _ n => n)
    (fun b o hc e => ⟨o, k b o (fun z => hc (by simp [z])) e⟩) (fun _ _ e => e) (fun _ _ _ e => e) (fun b ps e => ⟨#[], by rw [e]; simp⟩) (fun m hm => ?_) (fun b u e => ?_) I.bare
  · have e : b = it := by simpa using hb
    subst e
    exact ⟨h1, hL, h2, h3⟩
  · obtain ⟨o, es, ep, ho, r⟩ := hm
    exact ⟨o, es, ep, k _ o (Ne.symm hL) ho, r⟩
  · refine (I.hok b u e).stay (fun c v hc q => k c v ?_ q) (fun _ q => q) fun _ _ q => q
    rcases hc with z | z
    · rw [z]; exact nit b u e
    · exact nit c _ z
theorem Inv.tok (I : Inv X pins σ H s) (t : Nat) : Inv X pins σ H { s with toks := t } := I.un (h' := s.heap) (t' := t) Un.refl I.hok
/-- all objects kept -/
theorem Inv.kept {t' : Nat} (I : Inv X pins σ H s) (k : ∀ b u, s.heap.get? b = some u → h'.get? b = some u) : Inv X pins σ H { s with heap := h', toks := t' } := I.un (Un.kept k) (I.hok.kept k)
/-- a new object laid and tracked -/
theorem Inv.laid {a : Addr} {o : HO} {t' : Nat} (I : Inv X pins σ H s) (k : ∀ b u, s.heap.get? b = some u → h'.get? b = some u) (hp : s.heap.objs.size ≤ a) (new : ObjOk X.prog X.w (upd H a o) h' a o) :
    Inv X pins σ (upd H a o) { s with heap := h', toks := t' } := I.un (Un.laid k hp (I.hok.fresh hp)) (I.hok.laid k hp new)
/-- an object written -/
theorem Inv.write {x e : Addr} {o : HO} {t' : Nat} (I : Inv X pins σ H s) (mu : Mut (H x)) (he : e = x ∨ H e = some (.own x)) (k : ∀ b u, b ≠ e → s.heap.get? b = some u → h'.get? b = some u) (heo : ∃ u, h'.get? e = some u)
    (new : ObjOk X.prog X.w (upd H x o) h' x o) : Inv X pins σ (upd H x o) { s with heap := h', toks := t' } := I.un (Un.write mu he k heo) (I.hok.write mu he k heo new)
/-- forgetting slots, pins -/
theorem Inv.weak {σ' : List (Option V)} (I : Inv X pins σ H s) (hl : σ'.length = σ.length) (w : ∀ (i : Nat) v, σ'[i]? = some (some v) → σ[i]? = some (some v)) : Inv X pins σ' H s :=
  ⟨I.ok, I.os, I.bare, I.base, let ⟨m, hn, hl'⟩ := I.loc; ⟨m, hn, fun i x v e1 e2 e3 => hl' i x v e1 (w i v e2) e3⟩, I.cell, I.free, I.freeC, I.pin, I.hok, hl.trans I.len⟩
theorem Inv.pins_of {pins' : List (Addr × Obj)} (I : Inv X pins σ H s) (h : ∀ p ∈ pins', s.heap.get? p.1 = some p.2 ∧ H p.1 = none ∧ p.1 ≠ X.env.locals ∧ p.1 ∉ X.fs ∧ ∀ v, p.2.data ≠ .cell v) : Inv X pins' σ H s :=
  ⟨I.ok, I.os, I.bare, I.base, I.loc, I.cell, I.free, I.freeC, fun p hp => (List.mem_append.mp hp).elim (fun z => I.pin p (List.mem_append_left _ z)) (h p), I.hok, I.len⟩

theorem nodup_ix {N : List Str} (hN : N.Nodup) {i j : Nat} {x : Str} (a : N[i]? = some x) (b : N[j]? = some x) : i = j := by
  obtain ⟨h1, e1⟩ := List.getElem?_eq_some_iff.mp a
  obtain ⟨h2, e2⟩ := List.getElem?_eq_some_iff.mp b
  exact (List.getElem_inj hN).mp (e1.trans e2.symm)

/-- a name is stored; what changed -/
theorem store_ok2 {M : Model} {A : Around} {E : Value → Shared → Prop} {i : Nat} {x : Str} {v : V} {u : Value} {Q : Unit → Shared → Prop} (I : Inv X pins σ H s) (hN : X.N.Nodup) (hi : X.N[i]? = some x) (hx : Loc X.env.scope x) (r : RelV v u)
    (h : ∀ s', Inv X pins (σ.set i (some v)) H s' → (∃ a, Heap.SameBut a s.heap s'.heap ∧ (a = X.env.locals ∨ X.env.cells.lookup x = some a)) → Q () s') (hf : X.fn x = true ∨ X.env.scope.names.lookup x = some .local := by first | exact .inl rfl | exact .inr rfl | assumption) : wpAny M A (storeName X.env x u) Q E s := by
  obtain ⟨m, hn, hl⟩ := id I.loc
  have hcls : (X.env.scope.kind == .class || (X.env.scope.kind == .module && X.env.locals != X.env.globals)) = false := by rw [I.ok.kind]; rfl
  have hiσ : i < σ.length := by rw [I.len]; exact (List.getElem?_eq_some_iff.mp hi).1
  have cne := I.cne
  have tracked : ∀ {a : Addr} {h' : Heap}, (∃ o, s.heap.get? a = some o ∧ H a = none) → Heap.SameBut a s.heap h' → HOk X.prog X.w H h' := fun {a h'} ha hs b ob e => by
    obtain ⟨_, _, hfree⟩ := ha
    refine (I.hok b ob e).stay (fun c w' hc q => (hs.2 c ?_).trans q) (fun _ q => q) fun _ _ q => q
    rintro rfl
    rcases hc with rfl | hc
    · rw [hfree] at e; cases e
    · rw [hfree] at hc; cases hc
  rcases hx with hk | hk
  · refine wpAny_storeName_local hk hn (fun h' hn' hs => ?_) hcls
    obtain ⟨oL, _, _, hoL, _⟩ := id hn
    refine h _ ⟨I.ok, I.os, I.bare, ⟨fun b o e n hb hx => ?_, fun b o e n hb hx => ?_, I.base.free, fun b o e hx => ?_, I.base.tups, I.base.frzs, I.base.tbls⟩, ⟨_, hn', fun j y v' e1 e2 e3 => ?_⟩, fun y c e => ?_, I.free, I.freeC, fun p hp => ?_, tracked ⟨oL, hoL, I.free⟩ hs, by simpa using I.len⟩ ⟨_, hs, .inl rfl⟩
    · exact (hs.2 b (Nat.ne_of_lt (Nat.lt_of_lt_of_le (Heap.lt_size e) I.ok.above))).trans (I.base.keep b o e n hb hx)
    · obtain ⟨sl, e1⟩ := I.base.slot b o e n hb hx
      exact ⟨sl, (hs.2 b (Nat.ne_of_lt (Nat.lt_of_lt_of_le (Heap.lt_size e) I.ok.above))).trans e1⟩
    · obtain ⟨o', e1⟩ := I.base.there b o e hx
      exact ⟨o', (hs.2 b (Nat.ne_of_lt (Nat.lt_of_lt_of_le (Heap.lt_size e) I.ok.above))).trans e1⟩
    · by_cases hj : j = i
      · subst hj
        rw [hi] at e1; cases e1
        rw [List.getElem?_set_self hiσ] at e2
        cases e2
        exact ⟨u, r, .inl ⟨hk, by simp⟩⟩
      · rw [List.getElem?_set_ne (Ne.symm hj)] at e2
        obtain ⟨u', r', q⟩ := hl j y v' e1 e2 e3
        refine ⟨u', r', ?_⟩
        rcases q with ⟨k, e⟩ | ⟨k, c, e, z⟩
        · refine .inl ⟨k, ?_⟩
          have : y ≠ x := fun e => hj (nodup_ix hN e1 (e ▸ hi))
          simp [this, e]
        · exact .inr ⟨k, c, e, z.sameBut hs (cne y c e)⟩
    · obtain ⟨w', z⟩ := I.cell y c e
      exact ⟨w', z.sameBut hs (cne y c e)⟩
    · obtain ⟨e, n, ne, nf, d⟩ := I.pin p hp
      exact ⟨(hs.2 p.1 ne).trans e, n, ne, nf, d⟩
  · have hfn : X.fn x = true := by
      rcases hf with z | z
      · exact z
      · rw [z] at hk; cases hk
    obtain ⟨c, hc⟩ := I.ok.has x (.inl hk)
    obtain ⟨w', z⟩ := I.cell x c hc
    refine wpAny_storeName_cell I.ok.kind hk hc z (fun h' hc' hs => ?_)
    obtain ⟨oc, hoc, hocd⟩ := id z
    refine h { s with heap := h' } ⟨I.ok, I.os, I.bare, ⟨fun b o e n hb hx => ?_, fun b o e n hb hx => ?_, I.base.free, fun b o e hx => ?_, I.base.tups, I.base.frzs, I.base.tbls⟩, ⟨m, hn.sameBut hs (Ne.symm (cne x c hc)), fun j y v' e1 e2 e3 => ?_⟩, fun y c' e => ?_, I.free, I.freeC, fun p hp => ?_, tracked ⟨oc, hoc, I.freeC x c hc⟩ hs, by simpa using I.len⟩ ⟨c, hs, .inr hc⟩
    · exact (hs.2 b (Nat.ne_of_lt (Nat.lt_of_lt_of_le (Heap.lt_size e) (I.ok.cab x c hfn hc)))).trans (I.base.keep b o e n hb hx)
    · obtain ⟨sl, e1⟩ := I.base.slot b o e n hb hx
      exact ⟨sl, (hs.2 b (Nat.ne_of_lt (Nat.lt_of_lt_of_le (Heap.lt_size e) (I.ok.cab x c hfn hc)))).trans e1⟩
    · obtain ⟨o', e1⟩ := I.base.there b o e hx
      exact ⟨o', (hs.2 b (Nat.ne_of_lt (Nat.lt_of_lt_of_le (Heap.lt_size e) (I.ok.cab x c hfn hc)))).trans e1⟩
    · by_cases hj : j = i
      · subst hj
        rw [hi] at e1; cases e1
        rw [List.getElem?_set_self hiσ] at e2
        cases e2
        exact ⟨u, r, .inr ⟨.inl hk, c, hc, hc'⟩⟩
      · rw [List.getElem?_set_ne (Ne.symm hj)] at e2
        obtain ⟨u', r', q⟩ := hl j y v' e1 e2 e3
        refine ⟨u', r', ?_⟩
        rcases q with q | ⟨k, c', e, z'⟩
        · exact .inl q
        · refine .inr ⟨k, c', e, z'.sameBut hs ?_⟩
          rintro rfl
          exact hj (nodup_ix hN e1 (I.ok.inj _ _ _ e hc ▸ hi))
    · by_cases hcc : c' = c
      · subst hcc; exact ⟨_, hc'⟩
      · obtain ⟨w2, z2⟩ := I.cell y c' e
        exact ⟨w2, z2.sameBut hs hcc⟩
    · obtain ⟨e, n, ne, nf, d⟩ := I.pin p hp
      refine ⟨(hs.2 p.1 ?_).trans e, n, ne, nf, d⟩
      intro q
      rw [q, hoc] at e
      have q' : oc = p.2 := Option.some.inj e
      exact d w' (by rw [← q']; exact hocd)
theorem store_ok {M : Model} {A : Around} {E : Value → Shared → Prop} {i : Nat} {x : Str} {v : V} {u : Value} {Q : Unit → Shared → Prop} (I : Inv X pins σ H s) (hN : X.N.Nodup) (hi : X.N[i]? = some x) (hx : Loc X.env.scope x) (r : RelV v u)
    (h : ∀ s', Inv X pins (σ.set i (some v)) H s' → Q () s') (hf : X.fn x = true ∨ X.env.scope.names.lookup x = some .local := by first | exact .inl rfl | exact .inr rfl | assumption) : wpAny M A (storeName X.env x u) Q E s :=
  store_ok2 I hN hi hx r (fun s' I' _ => h s' I') hf
/-- behind a call or a block, the state as it is -/
theorem Inv.call' {s' : Shared} {ch : List Addr} (I : Inv X pins σ H s) (ho : s'.os = s.os) (u : Un (frs X.stack) ch H H' s.heap s'.heap) (hok : HOk X.prog X.w H' s'.heap) (hg : AllBare s'.gens)
    (hch : ∀ b ∈ ch, (b ∈ X.ex ∨ X.s₀.heap.objs.size ≤ b) ∧ b ≠ X.env.locals ∧ (∀ x c, X.env.cells.lookup x = some c → c ≠ b) ∧ ∀ p ∈ X.pn ++ pins, p.1 ≠ b) : Inv X pins σ H' s' := by
  obtain ⟨h', g', d', t', o'⟩ := s'
  have e : o' = s.os := ho
  subst e
  exact I.call (g' := g') (t' := t') (d' := d') u hok hg hch
end

/-! ### the judgements -/
/-- an exception: its class, its own dict's address (where it has one), the abstract heap behind it -/
abbrev XK := Value → Option Addr → Hp → Prop
abbrev St := List (Option V)
abbrev VK := V → Hp → Prop
/-- an expression's reading; a test's; an argument list's -/
abbrev TE := St → Hp → VK → Prop
abbrev TT := St → Hp → (Bool → Hp → Prop) → Prop
abbrev TA := St → Hp → (List V → Hp → Prop) → Prop
/-- what is wanted behind a statement -/
structure Ends where
  nx : St → Hp → Prop
  rt : VK
  bk : St → Hp → Prop := fun _ _ => False
  ct : St → Hp → Prop := fun _ _ => False
abbrev TS := Ends → St → Hp → Prop

def EP (X : Cx) (pins : List (Addr × Obj)) (σ : St) (Q : VK) (u : Value) (s' : Shared) : Prop := ∃ v H', Inv X pins σ H' s' ∧ RelV v u ∧ Q v H'
def TP (X : Cx) (pins : List (Addr × Obj)) (σ : St) (Q : Bool → Hp → Prop) (b : Bool) (s' : Shared) : Prop := ∃ H', Inv X pins σ H' s' ∧ Q b H'
def AP (X : Cx) (pins : List (Addr × Obj)) (σ : St) (Q : List V → Hp → Prop) (us : List Value) (s' : Shared) : Prop := ∃ vs H', Inv X pins σ H' s' ∧ Vals vs us ∧ Q vs H'
def SP (X : Cx) (pins : List (Addr × Obj)) (D : Ends) (f : Flow) (s' : Shared) : Prop :=
  match f with
  | .next => ∃ σ' H', Inv X pins σ' H' s' ∧ D.nx σ' H'
  | .brk => ∃ σ' H', Inv X pins σ' H' s' ∧ D.bk σ' H'
  | .cont => ∃ σ' H', Inv X pins σ' H' s' ∧ D.ct σ' H'
  | .ret u => ∃ v σ' H', Inv X pins σ' H' s' ∧ RelV v u ∧ D.rt v H'

def PE (X : Cx) (e : Expr) (t : TE) : Prop :=
  ∀ (pins : List (Addr × Obj)) (s : Shared) (σ : St) (H : Hp) (Q : VK), Inv X pins σ H s → t σ H Q → wpAny (model X.prog X.w) X.A (eval e X.env) (EP X pins σ Q) X.xe s
def PT (X : Cx) (e : Expr) (t : TT) : Prop :=
  ∀ (pins : List (Addr × Obj)) (s : Shared) (σ : St) (H : Hp) (Q : Bool → Hp → Prop), Inv X pins σ H s → t σ H Q → wpAny (model X.prog X.w) X.A (isTrue e X.env (eval e X.env)) (TP X pins σ Q) X.xe s
/-- a test whatever its 'whole' is (and, or) -/
def PW (X : Cx) (e : Expr) (t : TT) : Prop :=
  ∀ (whole : Sem Value) (pins : List (Addr × Obj)) (s : Shared) (σ : St) (H : Hp) (Q : Bool → Hp → Prop), Inv X pins σ H s → t σ H Q → wpAny (model X.prog X.w) X.A (isTrue e X.env whole) (TP X pins σ Q) X.xe s
theorem PW.pt {X : Cx} {e : Expr} {t : TT} (h : PW X e t) : PT X e t := h _
/-- an argument list (no star), from the left -/
def PA (X : Cx) (es : List Expr) (t : TA) : Prop :=
  ∀ (pos : Pos) (pins : List (Addr × Obj)) (s : Shared) (σ : St) (H : Hp) (Q : List V → Hp → Prop), Inv X pins σ H s → t σ H Q → wpAny (model X.prog X.w) X.A (spliced (backTo pos (starEach es X.env))) (AP X pins σ Q) X.xe s
def PS (X : Cx) (st : Stmt) (t : TS) : Prop :=
  ∀ (pins : List (Addr × Obj)) (s : Shared) (σ : St) (H : Hp) (D : Ends), Inv X pins σ H s → t D σ H → wpAny (model X.prog X.w) X.A (exec st X.env) (SP X pins D) X.xe s
def PSs (X : Cx) (st : List Stmt) (t : TS) : Prop :=
  ∀ (pins : List (Addr × Obj)) (s : Shared) (σ : St) (H : Hp) (D : Ends), Inv X pins σ H s → t D σ H → wpAny (model X.prog X.w) X.A (execs st X.env) (SP X pins D) X.xe s
/-- weaken the end -/
theorem thn {α : Type} {t : Sem α} {Q Q' : α → Shared → Prop} {M : Model} {A : Around} {E : Value → Shared → Prop} {s : Shared} (h : wpAny M A t Q E s) (hQ : ∀ a s, Q a s → Q' a s) : wpAny M A t Q' E s := wpAny_mono h hQ fun _ _ x => x
end L2

namespace L2
open PySem PySem.Spec PyProof.Rows
section
variable {X : Cx}

/-- two expressions in a row -/
theorem bin {a b : Expr} {ta tb : TE} (ha : PE X a ta) (hb : PE X b tb) {pins : List (Addr × Obj)} {s : Shared} {σ : St} {H : Hp} {R : V → V → Hp → Prop} (I : Inv X pins σ H s) (h : ta σ H fun x H1 => tb σ H1 fun y H2 => R x y H2)
    {α : Type} {Q : α → Shared → Prop} {f : Value → Value → Sem α}
    (hf : ∀ v u s2 x y H2, Inv X pins σ H2 s2 → RelV x v → RelV y u → R x y H2 → wpAny (model X.prog X.w) X.A (f v u) Q X.xe s2) :
    wpAny (model X.prog X.w) X.A (eval a X.env) (fun v s₁ => wpAny (model X.prog X.w) X.A (eval b X.env) (fun u s₂ => wpAny (model X.prog X.w) X.A (f v u) Q X.xe s₂) X.xe s₁) X.xe s := by
  refine thn (ha pins s σ H _ I h) fun v s1 ⟨x, H1, I1, r1, q1⟩ => ?_
  refine thn (hb pins s1 σ H1 _ I1 q1) fun u s2 ⟨y, H2, I2, r2, q2⟩ => ?_
  exact hf v u s2 x y H2 I2 r1 r2 q2

/-! ### names and constants -/
def tVar (i : Nat) : TE := fun σ H Q => ∃ v, σ[i]? = some (some v) ∧ Q v H
def tC (v : V) : TE := fun _ H Q => Q v H
theorem pe_var {i : Nat} {x : Str} {pos : Pos} (hN : X.N[i]? = some x) (hv : Vis X.env.scope x) (hd : (x == ("__debug__" : Str)) = false := by decide) (hcd : (x == ("__classdict__" : Str)) = false := by decide) : PE X (.Name x pos) (tVar i) := by
  intro pins s σ H Q I h
  obtain ⟨v, e, h⟩ := h
  obtain ⟨m, hn, hl⟩ := I.loc
  obtain ⟨u, r, l⟩ := hl i x v hN e hv
  have fin : EP X pins σ Q u s := ⟨v, H, I, r, h⟩
  rcases l with ⟨hk, hm⟩ | ⟨hk, c, hc, hcell⟩
  · exact wpAny_Name (wpAny_loadName_local I.ok.kind hk hn hm fin) hd
  · rcases hk with hk | hk
    · exact wpAny_Name (wpAny_loadName_cell I.ok.kind hk hc hcell fin) hd
    · exact wpAny_Name (wpAny_loadName_free I.ok.kind hk hc hcell fin hcd) hd
theorem pe_int {i j pos} : PE X (.Constant (.int i) j pos) (tC (.int i)) := fun _ _ _ H _ I h => wpAny_Constant_int ⟨.int i, H, I.tok _, ⟨_, rfl⟩, h⟩
theorem pe_bl {b j pos} : PE X (.Constant (.bool b) j pos) (tC (.bl b)) := fun _ _ _ H _ I h => Constant_bool ⟨.bl b, H, I, rfl, h⟩
theorem pe_non {j pos} : PE X (.Constant .none j pos) (tC .non) := fun _ _ _ H _ I h => Constant_none ⟨.non, H, I, rfl, h⟩
theorem pe_str {x j pos} : PE X (.Constant (.str x) j pos) (tC (.str x)) := fun _ _ _ H _ I h => Calls.Constant_str ⟨.str x, H, I.tok _, ⟨_, rfl⟩, h⟩

/-- a global name of the def -/
def Gl (X : Cx) (x : Str) : Prop := X.env.kindOf x = some .globalImplicit
theorem ld_glob {E : Value → Shared → Prop} {pins : List (Addr × Obj)} {s : Shared} {σ : St} {H : Hp} {x : Str} {u : Value} {pos : Pos} {Q : Value → Shared → Prop} (I : Inv X pins σ H s) (hg : Gl X x) (hm : X.mg x = some u) (h : Q u s)
    (hd : (x == ("__debug__" : Str)) = false := by decide) : wpAny (model X.prog X.w) X.A (eval (.Name x pos) X.env) Q E s :=
  Calls.Name_function_global I.ok.kind hg (Calls.loadGlobal_global (by rw [I.ok.glob]; exact I.mod.glob.keeps I.bk) hm h) hd
theorem ld_blt {E : Value → Shared → Prop} {pins : List (Addr × Obj)} {s : Shared} {σ : St} {H : Hp} {x : Str} {u : Value} {pos : Pos} {Q : Value → Shared → Prop} (I : Inv X pins σ H s) (hg : Gl X x) (hm : X.mg x = none) (hv : bootBuiltins x = some u) (h : Q u s)
    (hn : x ≠ "__name__" := by decide) (hd : (x == ("__debug__" : Str)) = false := by decide) : wpAny (model X.prog X.w) X.A (eval (.Name x pos) X.env) Q E s := by
  obtain ⟨mb, h1, h2⟩ := I.mod.blt
  exact Calls.Name_function_global I.ok.kind hg (Calls.loadGlobal_builtin (by rw [I.ok.glob]; exact I.mod.glob.keeps I.bk) hm (by rw [I.ok.blt]; exact h1.keeps I.bk) ((h2 x hn).trans hv) h) hd
/-- a module's constant, a class, a function, as a value -/
theorem pe_glob {x : Str} {v : V} {u : Value} {pos : Pos} (hg : Gl X x) (hm : X.mg x = some u) (r : RelV v u) (hd : (x == ("__debug__" : Str)) = false := by decide) : PE X (.Name x pos) (tC v) :=
  fun _ _ _ H _ I h => ld_glob I hg hm ⟨v, H, I, r, h⟩ hd
theorem pe_bltn {x : Str} {v : V} {u : Value} {pos : Pos} (hg : Gl X x) (hm : X.mg x = none) (hv : bootBuiltins x = some u) (r : RelV v u) (hn : x ≠ "__name__" := by decide) (hd : (x == ("__debug__" : Str)) = false := by decide) : PE X (.Name x pos) (tC v) :=
  fun _ _ _ H _ I h => ld_blt I hg hm hv ⟨v, H, I, r, h⟩ hn hd

/-! ### arithmetic -/
/-- two ints -/
def t2I (ta tb : TE) (k : Int → Int → Hp → Prop) : St → Hp → Prop := fun σ H => ta σ H fun x H1 => tb σ H1 fun y H2 => ∃ i j, x = .int i ∧ y = .int j ∧ k i j H2
def tAdd (ta tb : TE) : TE := fun σ H Q => t2I ta tb (fun i j H2 => Q (.int (i + j)) H2) σ H
def tSub (ta tb : TE) : TE := fun σ H Q => t2I ta tb (fun i j H2 => Q (.int (i - j)) H2) σ H
/-- the left factor below 2^64 -/
def tMul (ta tb : TE) : TE := fun σ H Q => t2I ta tb (fun i j H2 => (-(2 ^ 64) < i ∧ i < 2 ^ 64) ∧ Q (.int (i * j)) H2) σ H
variable {a b : Expr} {ta tb : TE} {pos : Pos}
theorem pe_add (ha : PE X a ta) (hb : PE X b tb) : PE X (.BinOp a .Add b pos) (tAdd ta tb) := by
  intro pins s σ H Q I h
  refine wpAny_BinOp (bin ha hb I h fun v u s2 x y H2 I2 rx ry q => ?_)
  obtain ⟨i, j, rfl, rfl, q⟩ := q
  obtain ⟨t, rfl⟩ := rx
  obtain ⟨t', rfl⟩ := ry
  exact add_int ⟨.int _, H2, I2.tok _, ⟨_, rfl⟩, q⟩
theorem pe_sub (ha : PE X a ta) (hb : PE X b tb) : PE X (.BinOp a .Sub b pos) (tSub ta tb) := by
  intro pins s σ H Q I h
  refine wpAny_BinOp (bin ha hb I h fun v u s2 x y H2 I2 rx ry q => ?_)
  obtain ⟨i, j, rfl, rfl, q⟩ := q
  obtain ⟨t, rfl⟩ := rx
  obtain ⟨t', rfl⟩ := ry
  exact sub_int ⟨.int _, H2, I2.tok _, ⟨_, rfl⟩, q⟩
theorem pe_mul (ha : PE X a ta) (hb : PE X b tb) : PE X (.BinOp a .Mult b pos) (tMul ta tb) := by
  intro pins s σ H Q I h
  refine wpAny_BinOp (bin ha hb I h fun v u s2 x y H2 I2 rx ry q => ?_)
  obtain ⟨i, j, rfl, rfl, ⟨q1, q2⟩, q⟩ := q
  obtain ⟨t, rfl⟩ := rx
  obtain ⟨t', rfl⟩ := ry
  exact mul_int ⟨.int _, H2, I2.tok _, ⟨_, rfl⟩, q⟩ (.of_left (intBits_le_64 q1 q2))

/-! ### comparisons -/
def PC (X : Cx) (op : CmpOp) (a b : Expr) (t : TE) : Prop :=
  ∀ (pins : List (Addr × Obj)) (s : Shared) (σ : St) (H : Hp) (Q : VK), Inv X pins σ H s → t σ H Q →
    wpAny (model X.prog X.w) X.A (eval a X.env) (fun v s₁ => wpAny (model X.prog X.w) X.A (eval b X.env) (fun u s₂ => wpAny (model X.prog X.w) X.A (compareOp op v u) (EP X pins σ Q) X.xe s₂) X.xe s₁) X.xe s
theorem nobehind (b : Expr) {op : CmpOp} (h : op ≠ .In) (h2 : op ≠ .NotIn) : behindInMarks op b = false := by
  have e1 : (op == CmpOp.In) = false := by cases op <;> first | rfl | exact absurd rfl h
  have e2 : (op == CmpOp.NotIn) = false := by cases op <;> first | rfl | exact absurd rfl h2
  cases b <;> simp [behindInMarks, e1, e2]
def tCmp (p : Int → Int → Bool) (ta tb : TE) : TE := fun σ H Q => t2I ta tb (fun i j H2 => Q (.bl (p i j)) H2) σ H
abbrev tLt : TE → TE → TE := tCmp fun i j => decide (i < j)
abbrev tLe : TE → TE → TE := tCmp fun i j => decide (i ≤ j)
abbrev tGt : TE → TE → TE := tCmp fun i j => decide (j < i)
abbrev tGe : TE → TE → TE := tCmp fun i j => decide (j ≤ i)
abbrev tEqI : TE → TE → TE := tCmp fun i j => decide (i = j)
abbrev tNeI : TE → TE → TE := tCmp fun i j => !decide (i = j)
/-- a comparison of two ints, by its rule -/
theorem pc_int {op : CmpOp} {p : Int → Int → Bool} (ha : PE X a ta) (hb : PE X b tb)
    (rule : ∀ (i j : Int) (t u : Tok) (Q : Value → Shared → Prop) (s : Shared), Q (.bool (p i j)) s → wpAny (model X.prog X.w) X.A (compareOp op (.int i t) (.int j u)) Q X.xe s) : PC X op a b (tCmp p ta tb) := by
  intro pins s σ H Q I h
  refine bin ha hb I h fun v u s2 x y H2 I2 rx ry q => ?_
  obtain ⟨i, j, rfl, rfl, q⟩ := q
  obtain ⟨t, rfl⟩ := rx
  obtain ⟨t', rfl⟩ := ry
  exact rule i j t t' _ s2 ⟨.bl _, H2, I2, rfl, q⟩
theorem pc_lt (ha : PE X a ta) (hb : PE X b tb) : PC X .Lt a b (tLt ta tb) := pc_int ha hb fun _ _ _ _ _ _ h => lt_int h
theorem pc_le (ha : PE X a ta) (hb : PE X b tb) : PC X .LtE a b (tLe ta tb) := pc_int ha hb fun _ _ _ _ _ _ h => le_int h
theorem pc_gt (ha : PE X a ta) (hb : PE X b tb) : PC X .Gt a b (tGt ta tb) := pc_int ha hb fun _ _ _ _ _ _ h => gt_int h
theorem pc_ge (ha : PE X a ta) (hb : PE X b tb) : PC X .GtE a b (tGe ta tb) := pc_int ha hb fun _ _ _ _ _ _ h => ge_int h
theorem pc_eqI (ha : PE X a ta) (hb : PE X b tb) : PC X .Eq a b (tEqI ta tb) := pc_int ha hb fun _ _ _ _ _ _ h => eq_int (by rw [Bool.beq_eq_decide_eq]; exact h)
theorem pc_neI (ha : PE X a ta) (hb : PE X b tb) : PC X .NotEq a b (tNeI ta tb) := pc_int ha hb fun _ _ _ _ _ _ h => ne_int (by rw [bne, Bool.beq_eq_decide_eq]; exact h)
/-- is None -/
def tIsN (ta : TE) : TE := fun σ H Q => ta σ H fun x H1 => Q (.bl (decide (x = .non))) H1
def tNotN (ta : TE) : TE := fun σ H Q => ta σ H fun x H1 => Q (.bl (!decide (x = .non))) H1
theorem RelV.none_iff {x : V} {v : Value} (r : RelV x v) : (v == Value.none) = decide (x = .non) := by
  cases x with
  | non => cases r; rfl
  | bl _ => cases r; rfl
  | int _ => obtain ⟨t, rfl⟩ := r; rfl
  | str _ => obtain ⟨t, rfl⟩ := r; rfl
  | byt _ => obtain ⟨t, rfl⟩ := r; rfl
  | flt _ => obtain ⟨t, rfl⟩ := r; rfl
  | ref _ => cases r; rfl
  | ty _ => cases r; rfl
theorem pc_isN {j pos'} (ha : PE X a ta) : PC X .Is a (.Constant .none j pos') (tIsN ta) := by
  intro pins s σ H Q I h
  refine thn (ha pins s σ H _ I h) fun v s1 ⟨x, H1, I1, r1, q1⟩ => ?_
  exact Constant_none (is_none_gen ⟨.bl _, H1, I1, by rw [r1.none_iff]; rfl, q1⟩)
theorem pc_notN {j pos'} (ha : PE X a ta) : PC X .IsNot a (.Constant .none j pos') (tNotN ta) := by
  intro pins s σ H Q I h
  refine thn (ha pins s σ H _ I h) fun v s1 ⟨x, H1, I1, r1, q1⟩ => ?_
  exact Constant_none (isnot_none_gen ⟨.bl _, H1, I1, by rw [r1.none_iff]; rfl, q1⟩)
/-- a comparison as a value, as a test -/
def tB (t : TE) : TT := fun σ H Q => t σ H fun x H1 => ∃ c, x = .bl c ∧ Q c H1
theorem pe_cmp {op : CmpOp} {t : TE} (h : PC X op a b t) (h1 : behindInMarks op b = false := by first | exact nobehind _ (by decide) (by decide) | rfl) : PE X (.Compare a [op] [b] pos) t := fun pins s σ H Q I hw => wpAny_Compare1 (h pins s σ H Q I hw) h1
theorem pt_cmp {op : CmpOp} {t : TE} (h : PC X op a b t) (h1 : behindInMarks op b = false := by first | exact nobehind _ (by decide) (by decide) | rfl) : PT X (.Compare a [op] [b] pos) (tB t) := by
  intro pins s σ H Q I hw
  refine wpAny_isTrue_Compare1 (thn (h pins s σ H _ I hw) fun v s1 h1 => thn h1 fun u s2 h2 => thn h2 fun c s3 ⟨x, H1, I1, r1, q1⟩ => ?_) h1
  obtain ⟨d, rfl, q⟩ := q1
  cases r1
  exact wpAny_truthy_bool ⟨H1, I1, q⟩
/-- an expression whose value is a bool, as a test -/
theorem pt_val {e : Expr} {t : TE} (h : PE X e t) (he : ∀ whole, isTrue e X.env whole = (do let v ← whole; standAt e.pos; holding [v] (truthy v)) := by intro _; rfl) : PT X e (tB t) := by
  intro pins s σ H Q I hw
  refine isTrue_plain (thn (h pins s σ H _ I hw) fun v s1 ⟨x, H1, I1, r1, q1⟩ => ?_) (he _)
  obtain ⟨d, rfl, q⟩ := q1
  cases r1
  exact wpAny_truthy_bool ⟨H1, I1, q⟩

/-! ### and, or, not -/
variable {tA tB' : TT} {rest : List Expr}
def tAnd (t u : TT) : TT := fun σ H Q => t σ H fun c H1 => if c = true then u σ H1 Q else Q false H1
def tOr (t u : TT) : TT := fun σ H Q => t σ H fun c H1 => if c = true then Q true H1 else u σ H1 Q
def tNot (t : TT) : TT := fun σ H Q => t σ H fun c H1 => Q (!c) H1
theorem pw_and1 (ha : PT X a tA) : PW X (.BoolOp .And [a] pos) tA := by
  intro wh pins s σ H Q I h
  refine isTrue_and (thn (ha pins s σ H Q I h) fun c s1 e => ?_)
  cases c with
  | true => exact isTrue_and_nil e
  | false => exact e
theorem pw_or1 (ha : PT X a tA) : PW X (.BoolOp .Or [a] pos) tA := by
  intro wh pins s σ H Q I h
  refine isTrue_or (thn (ha pins s σ H Q I h) fun c s1 e => ?_)
  cases c with
  | false => exact isTrue_or_nil e
  | true => exact e
theorem pw_and (ha : PT X a tA) (hb : PW X (.BoolOp .And (b :: rest) pos) tB') : PW X (.BoolOp .And (a :: b :: rest) pos) (tAnd tA tB') := by
  intro wh pins s σ H Q I h
  refine isTrue_and (thn (ha pins s σ H _ I h) fun c s1 ⟨H1, I1, q1⟩ => ?_)
  cases c with
  | true => exact hb wh pins s1 σ H1 Q I1 q1
  | false => exact ⟨H1, I1, q1⟩
theorem pw_or (ha : PT X a tA) (hb : PW X (.BoolOp .Or (b :: rest) pos) tB') : PW X (.BoolOp .Or (a :: b :: rest) pos) (tOr tA tB') := by
  intro wh pins s σ H Q I h
  refine isTrue_or (thn (ha pins s σ H _ I h) fun c s1 ⟨H1, I1, q1⟩ => ?_)
  cases c with
  | true => exact ⟨H1, I1, q1⟩
  | false => exact hb wh pins s1 σ H1 Q I1 q1
theorem pt_not (ha : PT X a tA) : PT X (.UnaryOp .Not a pos) (tNot tA) := by
  intro pins s σ H Q I h
  exact isTrue_not (ha pins s σ H (fun c H1 => Q (!c) H1) I h)
/-- .. as values (bools) -/
def tAndV (ta tb : TE) : TE := fun σ H Q => ta σ H fun x H1 => ∃ c, x = .bl c ∧ if c = true then tb σ H1 Q else Q (.bl false) H1
def tOrV (ta tb : TE) : TE := fun σ H Q => ta σ H fun x H1 => ∃ c, x = .bl c ∧ if c = true then Q (.bl true) H1 else tb σ H1 Q
def tNotV (ta : TE) : TE := fun σ H Q => ta σ H fun x H1 => ∃ c, x = .bl c ∧ Q (.bl (!c)) H1
theorem pe_one {op} {t : TE} (h : PE X a t) : PE X (.BoolOp op [a] pos) t := fun pins s σ H Q I hw => BoolOp_one (h pins s σ H Q I hw)
theorem pe_and (ha : PE X a ta) (hb : PE X (.BoolOp .And (b :: rest) pos) tb) : PE X (.BoolOp .And (a :: b :: rest) pos) (tAndV ta tb) := by
  intro pins s σ H Q I h
  refine BoolOp_and (thn (ha pins s σ H _ I h) fun v s1 ⟨x, H1, I1, r1, q1⟩ => ?_)
  obtain ⟨c, rfl, q1⟩ := q1
  cases r1
  refine wpAny_truthy_bool ?_
  cases c with
  | true => exact hb pins s1 σ H1 Q I1 q1
  | false => exact ⟨.bl false, H1, I1, rfl, q1⟩
theorem pe_or (ha : PE X a ta) (hb : PE X (.BoolOp .Or (b :: rest) pos) tb) : PE X (.BoolOp .Or (a :: b :: rest) pos) (tOrV ta tb) := by
  intro pins s σ H Q I h
  refine BoolOp_or (thn (ha pins s σ H _ I h) fun v s1 ⟨x, H1, I1, r1, q1⟩ => ?_)
  obtain ⟨c, rfl, q1⟩ := q1
  cases r1
  refine wpAny_truthy_bool ?_
  cases c with
  | false => exact hb pins s1 σ H1 Q I1 q1
  | true => exact ⟨.bl true, H1, I1, rfl, q1⟩
theorem pe_not (ha : PE X a ta) : PE X (.UnaryOp .Not a pos) (tNotV ta) := by
  intro pins s σ H Q I h
  refine UnaryOp_ (thn (ha pins s σ H _ I h) fun v s1 ⟨x, H1, I1, r1, q1⟩ => ?_)
  obtain ⟨c, rfl, q1⟩ := q1
  cases r1
  exact not_of (wpAny_truthy_bool ⟨.bl (!c), H1, I1, rfl, q1⟩)
/-- a if t else b -/
def tIf (t : TT) (ta tb : TE) : TE := fun σ H Q => t σ H fun c H1 => if c = true then ta σ H1 Q else tb σ H1 Q
theorem pe_ifExp {c : Expr} (hc : PT X c tA) (ha : PE X a ta) (hb : PE X b tb) : PE X (.IfExp c a b pos) (tIf tA ta tb) := by
  intro pins s σ H Q I h
  refine wpAny_IfExp (thn (hc pins s σ H _ I h) fun d s1 ⟨H1, I1, q1⟩ => ?_)
  cases d with
  | true => exact ha pins s1 σ H1 Q I1 q1
  | false => exact hb pins s1 σ H1 Q I1 q1
end
end L2

namespace L2
open PySem PySem.Spec PyProof.Rows

/-! ### a list, a tuple that is read: tracked, frozen, or an object of the module -/
def SqL (K : PySem.W.Frag) (H : Hp) (a : Addr) (xs : List V) : Prop :=
  Rd H a (.lst xs) ∨
    ∃ (o : Obj) (its : Array Value) (n : Nat), K.lookup a = some o ∧ o.cls = .type "list" ∧ o.dict = none ∧ o.data = .seq its n ∧ its.size ≤ sizeLine ∧ Vals xs its.toList
def SqT (K : PySem.W.Frag) (H : Hp) (a : Addr) (xs : List V) : Prop :=
  Rd H a (.tup xs) ∨
    ∃ (o : Obj) (its : Array Value) (n : Nat), K.lookup a = some o ∧ o.cls = .type "tuple" ∧ o.data = .seq its n ∧ its.size ≤ sizeLine ∧ Vals xs its.toList
def absV : Value → Option V
  | .none => some .non
  | .bool b => some (.bl b)
  | .int i _ => some (.int i)
  | .str x _ => some (.str x)
  | .bytes b _ => some (.byt b)
  | .float b _ => some (.flt b)
  | .ref a => some (.ref a)
  | .type n => some (.ty n)
  | _ => none
theorem RelV.abs {x : V} {u : Value} (r : RelV x u) : absV u = some x := by
  cases x with
  | non => cases r; rfl
  | bl _ => cases r; rfl
  | int _ => obtain ⟨t, rfl⟩ := r; rfl
  | str _ => obtain ⟨t, rfl⟩ := r; rfl
  | byt _ => obtain ⟨t, rfl⟩ := r; rfl
  | flt _ => obtain ⟨t, rfl⟩ := r; rfl
  | ref _ => cases r; rfl
  | ty _ => cases r; rfl
theorem RelV.inj {x y : V} {u : Value} (r : RelV x u) (q : RelV y u) : x = y := Option.some.inj (r.abs.symm.trans q.abs)
theorem Vals.inj : ∀ {xs ys : List V} {us : List Value}, Vals xs us → Vals ys us → xs = ys
  | _, _, _, .nil, .nil => rfl
  | _, _, _, .cons r t, .cons r' t' => by rw [r.inj r', Vals.inj t t']
section
variable {X : Cx} {pins : List (Addr × Obj)} {σ : St} {H : Hp} {s : Shared} {a : Addr} {xs ys : List V}
theorem SqL.of {K : PySem.W.Frag} (h : H a = some (.lst xs)) : SqL K H a xs := .inl (.inl h)
theorem SqT.of {K : PySem.W.Frag} (h : H a = some (.tup xs)) : SqT K H a xs := .inl (.inl h)
theorem Inv.list (I : Inv X pins σ H s) (h : SqL X.K H a xs) : ∃ its : List Value, Vals xs its ∧ PlainL s.heap a its.toArray ∧ xs.length ≤ sizeLine := by
  rcases h with h | ⟨o, its, n, hk, hc, hd, hs, hz, r⟩
  · obtain ⟨z, its, n, r, e⟩ := h.ok I.hok
    exact ⟨its, r, ⟨_, n, e, rfl, rfl, rfl⟩, z⟩
  · refine ⟨its.toList, r, ⟨o, n, I.kIn a o hk, hc, hd, by simpa using hs⟩, ?_⟩
    have e := r.length
    simp only [Array.length_toList] at e
    omega
theorem Inv.tuple (I : Inv X pins σ H s) (h : SqT X.K H a xs) : ∃ its : List Value, Vals xs its ∧ IsTup s.heap a its.toArray ∧ xs.length ≤ sizeLine := by
  rcases h with h | ⟨o, its, n, hk, hc, hs, hz, r⟩
  · obtain ⟨z, its, r, p⟩ := h.ok I.hok
    exact ⟨its, r, p, z⟩
  · refine ⟨its.toList, r, ⟨o, I.kIn a o hk, hc, n, by simpa using hs⟩, ?_⟩
    have e := r.length
    simp only [Array.length_toList] at e
    omega
theorem Inv.list_inj (I : Inv X pins σ H s) (h : SqL X.K H a xs) (h' : SqL X.K H a ys) : xs = ys := by
  obtain ⟨its, r, ⟨o, n, e, _, _, d⟩, _⟩ := I.list h
  obtain ⟨its', r', ⟨o', n', e', _, _, d'⟩, _⟩ := I.list h'
  rw [e] at e'; cases e'
  rw [d] at d'
  injection d' with d1 _
  have : its = its' := by simpa using congrArg Array.toList d1
  subst this
  exact r.inj r'
theorem Inv.tuple_inj (I : Inv X pins σ H s) (h : SqT X.K H a xs) (h' : SqT X.K H a ys) : xs = ys := by
  obtain ⟨its, r, ⟨o, e, _, n, d⟩, _⟩ := I.tuple h
  obtain ⟨its', r', ⟨o', e', _, n', d'⟩, _⟩ := I.tuple h'
  rw [e] at e'; cases e'
  rw [d] at d'
  injection d' with d1 _
  have : its = its' := by simpa using congrArg Array.toList d1
  subst this
  exact r.inj r'
end

/-! ### another wish about exceptions -/
abbrev Cx.wish (X : Cx) (E : Value → Shared → Prop) : Cx := { X with xe := E }
/-- no exception leaves -/
abbrev Cx.nox (X : Cx) : Cx := X.wish fun _ _ => False
theorem Cx.Ok.wish {X : Cx} (ok : X.Ok) (E : Value → Shared → Prop) : (X.wish E).Ok :=
  ⟨ok.mod, ok.kind, ok.glob, ok.blt, ok.above, ok.inj, ok.has, ok.cab, ok.hd, ok.frames, ok.stk, ok.exf, ok.bs, ok.bsz, ok.noex, ok.exfs, ok.funs, ok.frf⟩
theorem Cx.Ok.unwish {X : Cx} {E : Value → Shared → Prop} (ok : (X.wish E).Ok) : X.Ok :=
  ⟨ok.mod, ok.kind, ok.glob, ok.blt, ok.above, ok.inj, ok.has, ok.cab, ok.hd, ok.frames, ok.stk, ok.exf, ok.bs, ok.bsz, ok.noex, ok.exfs, ok.funs, ok.frf⟩
section
variable {X : Cx} {pins : List (Addr × Obj)} {σ : St} {H : Hp} {s : Shared} {E : Value → Shared → Prop}
theorem Inv.wish (I : Inv X pins σ H s) (E : Value → Shared → Prop) : Inv (X.wish E) pins σ H s := ⟨I.ok.wish E, I.os, I.bare, I.base, I.loc, I.cell, I.free, I.freeC, I.pin, I.hok, I.len⟩
theorem Inv.unwish (I : Inv (X.wish E) pins σ H s) : Inv X pins σ H s := ⟨I.ok.unwish, I.os, I.bare, I.base, I.loc, I.cell, I.free, I.freeC, I.pin, I.hok, I.len⟩
theorem SP.unwish {D : Ends} {f : Flow} {s' : Shared} (h : SP (X.wish E) pins D f s') : SP X pins D f s' := by
  cases f with
  | next => obtain ⟨σ', H', I, q⟩ := h; exact ⟨σ', H', I.unwish, q⟩
  | brk => obtain ⟨σ', H', I, q⟩ := h; exact ⟨σ', H', I.unwish, q⟩
  | cont => obtain ⟨σ', H', I, q⟩ := h; exact ⟨σ', H', I.unwish, q⟩
  | ret u => obtain ⟨v, σ', H', I, r, q⟩ := h; exact ⟨v, σ', H', I.unwish, r, q⟩
theorem PE.nox {e : Expr} {t : TE} (h : PE X.nox e t) : PE X e t := fun pins s σ H Q I hw =>
  wpAny_mono (h pins s σ H Q (I.wish _) hw) (fun _ _ ⟨v, H', I', r, q⟩ => ⟨v, H', I'.unwish, r, q⟩) fun _ _ z => False.elim z
theorem PT.nox {e : Expr} {t : TT} (h : PT X.nox e t) : PT X e t := fun pins s σ H Q I hw =>
  wpAny_mono (h pins s σ H Q (I.wish _) hw) (fun _ _ ⟨H', I', q⟩ => ⟨H', I'.unwish, q⟩) fun _ _ z => False.elim z
theorem PSs.nox {st : List Stmt} {t : TS} (h : PSs X.nox st t) : PSs X st t := fun pins s σ H D I hw =>
  wpAny_mono (h pins s σ H D (I.wish _) hw) (fun _ _ q => q.unwish) fun _ _ z => False.elim z
end

/-! ### blocks and small statements -/
section
variable {X : Cx} {st : Stmt} {rest : List Stmt} {t u : TS} {e : Expr} {te : TE} {pos : Pos}
def tNext : TS := fun D σ H => D.nx σ H
def tSeq (t u : TS) : TS := fun D σ H => t { D with nx := u D } σ H
theorem pss_nil : PSs X [] tNext := fun _ _ σ H _ I h => wpAny_execs_nil ⟨σ, H, I, h⟩
theorem pss_cons (h1 : PS X st t) (h2 : PSs X rest u) : PSs X (st :: rest) (tSeq t u) := by
  intro pins s σ H D I h
  refine wpAny_execs_cons (thn (h1 pins s σ H { D with nx := u D } I h) fun f s1 q => ?_)
  cases f with
  | next =>
    obtain ⟨σ', H', I', q⟩ := q
    exact h2 pins s1 σ' H' D I' q
  | ret v => exact q
  | brk => exact q
  | cont => exact q
theorem pss_one (h1 : PS X st t) : PSs X [st] t := by
  intro pins s σ H D I h
  refine wpAny_execs_cons (thn (h1 pins s σ H D I h) fun f s1 q => ?_)
  cases f with
  | next => exact wpAny_execs_nil q
  | ret v => exact q
  | brk => exact q
  | cont => exact q
def tBreak : TS := fun D σ H => D.bk σ H
def tCont : TS := fun D σ H => D.ct σ H
theorem ps_pass : PS X (.Pass pos) tNext := fun _ _ σ H _ I h => wpAny_Pass ⟨σ, H, I, h⟩
theorem ps_break : PS X (.Break pos) tBreak := fun _ _ σ H _ I h => wpAny_Break ⟨σ, H, I, h⟩
theorem ps_continue : PS X (.Continue pos) tCont := fun _ _ σ H _ I h => wpAny_Continue ⟨σ, H, I, h⟩
/-- in a def's body nothing is shown -/
theorem Inv.quiet {pins : List (Addr × Obj)} {σ : St} {H : Hp} {s : Shared} (I : Inv X pins σ H s) : interactive X.env = false := by simp [interactive, I.ok.kind]
/-- a docstring -/
theorem ps_doc {x j pos pos'} : PS X (.Expr (.Constant (.str x) j pos) pos') tNext := fun _ s σ H _ I h => wpAny_Expr (Calls.Constant_str (show SP X _ _ .next { s with toks := s.toks + 1 } from ⟨σ, H, I.tok _, h⟩)) I.quiet
/-- an expression whose value is dropped -/
def tDrop (te : TE) : TS := fun D σ H => te σ H fun _ H1 => D.nx σ H1
theorem ps_expr (he : PE X e te) (hs : swapsWith e none pos.line X.env = pure false := by rfl) : PS X (.Expr e pos) (tDrop te) := by
  intro pins s σ H D I h
  exact wpAny_Expr_any (thn (he pins s σ H _ I h) fun v s1 ⟨x, H1, I1, r1, q1⟩ => ⟨σ, H1, I1, q1⟩) I.quiet hs
def tRet (te : TE) : TS := fun D σ H => te σ H D.rt
theorem ps_ret (he : PE X e te) : PS X (.Return (some e) pos) (tRet te) := by
  intro pins s σ H D I h
  exact wpAny_Return_some (thn (he pins s σ H _ I h) fun v s1 ⟨x, H1, I1, r1, q1⟩ => ⟨x, σ, H1, I1, r1, q1⟩)
def tRetN : TS := fun D _ H => D.rt .non H
theorem ps_retN : PS X (.Return none pos) tRetN := fun _ _ σ H _ I h => wpAny_Return_none ⟨.non, σ, H, I, rfl, h⟩
def tIfS (c : TT) (t u : TS) : TS := fun D σ H => c σ H fun b H1 => if b = true then t D σ H1 else u D σ H1
theorem ps_if {c : Expr} {a b : List Stmt} {tc : TT} (hc : PT X c tc) (ha : PSs X a t) (hb : PSs X b u) : PS X (.If c a b pos) (tIfS tc t u) := by
  intro pins s σ H D I h
  refine wpAny_If (thn (hc pins s σ H _ I h) fun d s1 ⟨H1, I1, q1⟩ => ?_)
  cases d with
  | true => exact ha pins s1 σ H1 D I1 q1
  | false => exact hb pins s1 σ H1 D I1 q1
/-- code that the proof never comes to -/
def tNever : TS := fun _ _ _ => False
theorem ps_never : PS X st tNever := fun _ _ _ _ _ _ h => h.elim
theorem pss_never {sts : List Stmt} : PSs X sts tNever := fun _ _ _ _ _ _ h => h.elim
end

/-! ### targets -/
abbrev TG := V → St → Hp → (St → Hp → Prop) → Prop
abbrev TGs := List V → St → Hp → (St → Hp → Prop) → Prop
def PG (X : Cx) (target : Expr) (t : TG) : Prop :=
  ∀ (pins : List (Addr × Obj)) (s : Shared) (σ : St) (H : Hp) (v : V) (u : Value) (Q : St → Hp → Prop), Inv X pins σ H s → RelV v u → t v σ H Q →
    wpAny (model X.prog X.w) X.A (assign target X.env u) (fun _ s' => ∃ σ' H', Inv X pins σ' H' s' ∧ Q σ' H') X.xe s
/-- several targets, one after another -/
def PGs (X : Cx) (ts : List Expr) (t : TGs) : Prop :=
  ∀ (pins : List (Addr × Obj)) (s : Shared) (σ : St) (H : Hp) (vs : List V) (us : List Value) (Q : St → Hp → Prop), Inv X pins σ H s → Vals vs us → t vs σ H Q →
    wpAny (model X.prog X.w) X.A (assignInOrder ((assignEach ts X.env).map (·.2)) us) (fun _ s' => ∃ σ' H', Inv X pins σ' H' s' ∧ Q σ' H') X.xe s
/-- o[i] = v, by values -/
abbrev TSet := V → V → V → Hp → (Hp → Prop) → Prop
def PSet (X : Cx) (t : TSet) : Prop :=
  ∀ (pins : List (Addr × Obj)) (s : Shared) (σ : St) (H : Hp) (o i v : V) (ov iv u : Value) (Q : Hp → Prop), Inv X pins σ H s → RelV o ov → RelV i iv → RelV v u → t o i v H Q →
    wpAny (model X.prog X.w) X.A (setItem ov iv u) (fun _ s' => ∃ H', Inv X pins σ H' s' ∧ Q H') X.xe s
/-- a op= b, by values -/
abbrev TIp := V → V → Hp → VK → Prop
def PIp (X : Cx) (op : Operator) (t : TIp) : Prop :=
  ∀ (pins : List (Addr × Obj)) (s : Shared) (σ : St) (H : Hp) (x y : V) (v u : Value) (Q : VK), Inv X pins σ H s → RelV x v → RelV y u → t x y H Q →
    wpAny (model X.prog X.w) X.A (inplaceOp op v u) (EP X pins σ Q) X.xe s
section
variable {X : Cx} {pos : Pos}
def gName (i : Nat) : TG := fun v σ H Q => Q (σ.set i (some v)) H
theorem pg_name {i : Nat} {x : Str} (hN : X.N.Nodup) (hi : X.N[i]? = some x) (hx : Loc X.env.scope x) (hf : X.fn x = true ∨ X.env.scope.names.lookup x = some .local := by first | exact .inl rfl | exact .inr rfl | assumption) : PG X (.Name x pos) (gName i) := by
  intro pins s σ H v u Q I r h
  exact wpAny_assign_Name (store_ok I hN hi hx r (fun s' I' => ⟨_, H, I', h⟩) hf)
def gNil : TGs := fun vs σ H Q => vs = [] ∧ Q σ H
def gCons (t : TG) (u : TGs) : TGs := fun vs σ H Q => ∃ v r, vs = v :: r ∧ t v σ H fun σ' H' => u r σ' H' Q
theorem pgs_nil : PGs X [] gNil := by
  intro pins s σ H vs us Q I r h
  obtain ⟨e, h⟩ := h
  subst e
  cases r
  exact assignInOrder_nil ⟨σ, H, I, h⟩
theorem pgs_cons {e : Expr} {es : List Expr} {t : TG} {u : TGs} (h1 : PG X e t) (h2 : PGs X es u)
    (hs : (assignEach (e :: es) X.env).map (·.2) = assign e X.env :: (assignEach es X.env).map (·.2) := by rfl) : PGs X (e :: es) (gCons t u) := by
  intro pins s σ H vs us Q I r h
  obtain ⟨v, vr, e1, h⟩ := h
  subst e1
  cases r with
  | cons r rr =>
    rw [hs]
    refine assignInOrder_cons (thn (h1 pins s σ H _ _ _ I r h) fun _ s1 ⟨σ1, H1, I1, q1⟩ => ?_)
    exact h2 pins s1 σ1 H1 _ _ Q I1 rr q1
/-- (a, b, ..) = a tuple of that length -/
def gTup (K : PySem.W.Frag) (n : Nat) (t : TGs) : TG := fun v σ H Q => ∃ a xs, v = .ref a ∧ SqT K H a xs ∧ xs.length = n ∧ t xs σ H Q
theorem pg_tup {es : List Expr} {k : Nat} {t : TGs} {n : Nat} (hc : X.calm = true) (h : PGs X es t)
    (hn : (assignEach es X.env).length = n := by rfl) (hst : (assignEach es X.env).findIdx? (·.1) = none := by rfl) : PG X (.Tuple es k pos) (gTup X.K n t) := by
  intro pins s σ H v u Q I r hw
  obtain ⟨a, xs, e1, hq, hl, hw⟩ := hw
  subst e1
  cases r
  obtain ⟨its, rv, ht, hz⟩ := I.tuple hq
  refine assign_Tuple_tuple (I.ok.hd hc) ht (by simp [hn, ← hl, rv.length]) hst fun h' hx => ?_
  have I1 : Inv X pins σ H { s with heap := h' } := I.kept (t' := s.toks) fun b o e => hx b o (Nat.ne_of_lt (Heap.lt_size e)) e
  exact h pins _ σ H xs _ Q I1 (by simpa using rv) hw
/-- o[i] = .. -/
def gSub (to ti : TE) (t : TSet) : TG := fun v σ H Q => to σ H fun o H1 => ti σ H1 fun i H2 => t o i v H2 fun H3 => Q σ H3
theorem pg_sub {o i : Expr} {to ti : TE} {t : TSet} (ho : PE X o to) (hi : PE X i ti) (hs : PSet X t)
    (ha : ∀ v, assign (.Subscript o i pos) X.env v = (do
      let ov ← holding [v] (eval o X.env)
      let iv ← holding [v, ov] (eval i X.env)
      standAt pos
      holding [v, ov, iv] (setItem ov iv v)
      release [v, ov, iv] []) := by intro _; rfl) : PG X (.Subscript o i pos) (gSub to ti t) := by
  intro pins s σ H v u Q I r h
  rw [ha]
  refine wpAny_bind (wpAny_holding (thn (ho pins s σ H _ I h) fun ov s1 ⟨x, H1, I1, r1, q1⟩ => ?_))
  refine wpAny_bind (wpAny_holding (thn (hi pins s1 σ H1 _ I1 q1) fun iv s2 ⟨y, H2, I2, r2, q2⟩ => ?_))
  refine wpAny_bind (wpAny_standAt (wpAny_bind (wpAny_holding (thn (hs pins s2 σ H2 x y v ov iv u _ I2 r1 r2 r q2) fun _ s3 ⟨H3, I3, q3⟩ => ?_))))
  exact wpAny_release ⟨σ, H3, I3, q3⟩
/-- target = value -/
def tAsg (te : TE) (g : TG) : TS := fun D σ H => te σ H fun x H1 => g x σ H1 D.nx
theorem ps_asg {tg e : Expr} {te : TE} {g : TG} (he : PE X e te) (hg : PG X tg g) (hs : swapsWithSole [tg] e pos.line X.env = pure false := by rfl) (hw : swappedStores [tg] e X.env = pure none := by rfl)
    (h1 : (assignEach [tg] X.env).map (·.2) = [assign tg X.env] := by rfl) : PS X (.Assign [tg] e pos) (tAsg te g) := by
  intro pins s σ H D I h
  refine wpAny_Assign_stores (thn (he pins s σ H _ I h) fun v s1 ⟨x, H1, I1, r1, q1⟩ => ?_) hs hw
  rw [h1]
  exact thn (hg pins s1 σ H1 x v _ I1 r1 q1) fun _ s2 q => q
/-- name = value -/
theorem ps_set {i : Nat} {x : Str} {e : Expr} {te : TE} {pos' : Pos} (hN : X.N.Nodup) (hi : X.N[i]? = some x) (hx : Loc X.env.scope x) (he : PE X e te) (hs : swapsWith e (some (.Name x pos')) pos.line X.env = pure false := by rfl) (hf : X.fn x = true ∨ X.env.scope.names.lookup x = some .local := by first | exact .inl rfl | exact .inr rfl | assumption) :
    PS X (.Assign [.Name x pos'] e pos) (tAsg te (gName i)) := by
  intro pins s σ H D I h
  refine wpAny_Assign_Name (thn (he pins s σ H _ I h) fun v s1 ⟨y, H1, I1, r1, q1⟩ => ?_) hs
  exact store_ok I1 hN hi hx r1 (fun s2 I2 => ⟨_, H1, I2, q1⟩) hf
/-- a, b = x, y with plain local names: stored from the right; the pair itself is not tracked (the opening rows as in PyProof/Rows/TupAssign.lean:23) -/
def tPar (i j : Nat) (ta : TA) : TS := fun D σ H => ta σ H fun vs H1 => ∃ v w, vs = [v, w] ∧ D.nx ((σ.set i (some v)).set j (some w)) H1
theorem ps_par {i j : Nat} {x y : Str} {a b : Expr} {ta : TA} {px py pt : Pos} {kt k2 pt2} (hc : X.calm = true) (hN : X.N.Nodup) (hi : X.N[i]? = some x) (hj : X.N[j]? = some y) (hij : i ≠ j)
    (hx : X.env.scope.names.lookup x = some .local) (hy : X.env.scope.names.lookup y = some .local) (ha : PA X [a, b] ta)
    (hw : swappedStores [.Tuple [.Name x px, .Name y py] kt pt] (.Tuple [a, b] k2 pt2) X.env = pure (some [x, y]))
    (hs : swapsWithSole [.Tuple [.Name x px, .Name y py] kt pt] (.Tuple [a, b] k2 pt2) pos.line X.env = pure false := by rfl) :
    PS X (.Assign [.Tuple [.Name x px, .Name y py] kt pt] (.Tuple [a, b] k2 pt2) pos) (tPar i j ta) := by
  intro pins s σ H D I h
  rw [exec_Assign_arm]
  refine wpAny_bind (wpAny_standAt ?_)
  rw [hs]
  refine wpAny_bind (wpAny_pure ?_)
  rw [if_neg (by decide)]
  refine wpAny_bind (Tuple_ (thn (ha _ pins s σ H _ I h) fun us s1 ⟨vs, H1, I1, r1, q1⟩ => ?_))
  obtain ⟨v, w, e1, q1⟩ := q1
  subst e1
  obtain ⟨u1, u2, rfl, rv, rw'⟩ : ∃ u1 u2, us = [u1, u2] ∧ RelV v u1 ∧ RelV w u2 := by
    cases r1 with
    | cons p q =>
      cases q with
      | cons p' q' =>
        cases q'
        exact ⟨_, _, rfl, p, p'⟩
  refine wpAny_newObj_type ?_ (by show 2 ≤ sizeLine; decide)
  have I2 : Inv X pins σ H1 { s1 with heap := s1.heap.push { cls := .type "tuple", data := .seq [u1, u2].toArray } } := I1.kept (t' := s1.toks) fun b o e => Heap.get?_push_of_some _ e
  rw [hw]
  refine wpAny_bind (wpAny_pure ?_)
  show wpAny (model X.prog X.w) X.A (do rule "assign.swapped-stores"; let items ← unpackItems (.ref s1.heap.objs.size) 2 none; assignInOrder [fun v => bindName X.env y v, fun v => bindName X.env x v] items.reverse; pure Flow.next) _ _ _
  refine wpAny_bind (wpAny_rule (wpAny_bind (unpackItems_tuple (items := #[u1, u2]) (I.ok.hd hc) (IsTup.new s1.heap _) fun h' hx' => ?_)))
  have I3 := I2.kept (h' := h') (t' := s1.toks) fun b o e => hx' b o (Nat.ne_of_lt (Heap.lt_size e)) e
  show wpAny _ _ (assignInOrder [fun v => bindName X.env y v, fun v => bindName X.env x v] [u2, u1] >>= fun _ => pure Flow.next) _ _ _
  refine wpAny_bind (assignInOrder_cons (wpAny_bindName (store_ok I3 hN hj (.inl hy) rw' (fun s2 I4 => ?_) (.inr hy))))
  refine assignInOrder_cons (wpAny_bindName (store_ok I4 hN hi (.inl hx) rv (fun s3 I5 => assignInOrder_nil (wpAny_pure ?_)) (.inr hx)))
  rw [List.set_comm _ _ (Ne.symm hij)] at I5
  exact ⟨_, H1, I5, q1⟩
/-- name op= e -/
def tAug (i : Nat) (te : TE) (ti : TIp) : TS := fun D σ H => ∃ x, σ[i]? = some (some x) ∧ te σ H fun y H1 => ti x y H1 fun z H2 => D.nx (σ.set i (some z)) H2
theorem ps_aug {i : Nat} {x : Str} {e : Expr} {te : TE} {op : Operator} {ti : TIp} {pos' : Pos} (hN : X.N.Nodup) (hi : X.N[i]? = some x) (hx : Loc X.env.scope x) (he : PE X e te) (ho : PIp X op ti) (hf : X.fn x = true ∨ X.env.scope.names.lookup x = some .local := by first | exact .inl rfl | exact .inr rfl | assumption) :
    PS X (.AugAssign (.Name x pos') op e pos) (tAug i te ti) := by
  intro pins s σ H D I h
  obtain ⟨v, e1, h⟩ := h
  obtain ⟨m, hn, hl⟩ := I.loc
  have vis : Vis X.env.scope x := by rcases hx with k | k; exact .inl k; exact .inr (.inl k)
  obtain ⟨u, r, l⟩ := hl i x v hi e1 vis
  refine wpAny_AugAssign_Name ?_
  have go : wpAny (model X.prog X.w) X.A (eval e X.env) (fun w s₂ => wpAny (model X.prog X.w) X.A (inplaceOp op u w) (fun r s₃ => wpAny (model X.prog X.w) X.A (storeName X.env x r) (fun _ => SP X pins D .next) X.xe s₃) X.xe s₂) X.xe s := by
    refine thn (he pins s σ H _ I h) fun w s1 ⟨y, H1, I1, r1, q1⟩ => ?_
    refine thn (ho pins s1 σ H1 v y u w _ I1 r r1 q1) fun z s2 ⟨zv, H2, I2, r2, q2⟩ => ?_
    exact store_ok I2 hN hi hx r2 (fun s3 I3 => ⟨_, H2, I3, q2⟩) hf
  rcases l with ⟨hk, hm⟩ | ⟨hk, c, hc, hcell⟩
  · exact wpAny_loadName_local I.ok.kind hk hn hm go
  · rcases hk with hk | hk
    · exact wpAny_loadName_cell I.ok.kind hk hc hcell go
    · rcases hx with k | k
      · have : X.env.scope.names.lookup x = some .free := hk
        rw [k] at this; cases this
      · have : X.env.scope.names.lookup x = some .free := hk
        rw [k] at this; cases this
/-- o[i] op= e -/
def tAugS (to ti te : TE) (tget : V → V → Hp → VK → Prop) (tip : TIp) (tset : TSet) : TS := fun D σ H => to σ H fun o H1 => ti σ H1 fun i H2 => tget o i H2 fun x H3 => te σ H3 fun y H4 => tip x y H4 fun z H5 => tset o i z H5 fun H6 => D.nx σ H6
/-- o[i], by values -/
def PGet (X : Cx) (t : V → V → Hp → VK → Prop) : Prop :=
  ∀ (pins : List (Addr × Obj)) (s : Shared) (σ : St) (H : Hp) (o i : V) (ov iv : Value) (Q : VK), Inv X pins σ H s → RelV o ov → RelV i iv → t o i H Q →
    wpAny (model X.prog X.w) X.A (getItem ov iv) (EP X pins σ Q) X.xe s
theorem ps_augS {o i e : Expr} {to ti te : TE} {tget : V → V → Hp → VK → Prop} {tip : TIp} {tset : TSet} {op : Operator} {tpos : Pos} (ho : PE X o to) (hi : PE X i ti) (hg : PGet X tget) (he : PE X e te) (hp : PIp X op tip) (hs : PSet X tset)
    (ha : ∀ ov iv new, augStore i ov iv new = (do holding [new, ov, iv] (setItem ov iv new); release [new, ov, iv] []; pure .next) := by intros; rfl) : PS X (.AugAssign (.Subscript o i tpos) op e pos) (tAugS to ti te tget tip tset) := by
  intro pins s σ H D I h
  refine wpAny_AugAssign_SubscriptAny (thn (ho pins s σ H _ I h) fun ov s1 ⟨x1, H1, I1, r1, q1⟩ => ?_) ha
  refine thn (hi pins s1 σ H1 _ I1 q1) fun iv s2 ⟨x2, H2, I2, r2, q2⟩ => ?_
  refine thn (hg pins s2 σ H2 x1 x2 ov iv _ I2 r1 r2 q2) fun old s3 ⟨x3, H3, I3, r3, q3⟩ => ?_
  refine thn (he pins s3 σ H3 _ I3 q3) fun v s4 ⟨x4, H4, I4, r4, q4⟩ => ?_
  refine thn (hp pins s4 σ H4 x3 x4 old v _ I4 r3 r4 q4) fun new s5 ⟨x5, H5, I5, r5, q5⟩ => ?_
  exact thn (hs pins s5 σ H5 x1 x2 x5 ov iv new _ I5 r1 r2 r5 q5) fun _ s6 ⟨H6, I6, q6⟩ => ⟨σ, H6, I6, q6⟩
/-- ints -/
def ipI (f : Int → Int → Int) : TIp := fun x y H Q => ∃ i j, x = .int i ∧ y = .int j ∧ Q (.int (f i j)) H
theorem ip_add : PIp X .Add (ipI fun i j => i + j) := by
  intro pins s σ H x y v u Q I r1 r2 h
  obtain ⟨i, j, e1, e2, q⟩ := h
  subst e1; subst e2
  obtain ⟨t, rfl⟩ := r1
  obtain ⟨t', rfl⟩ := r2
  exact iadd_int ⟨.int _, H, I.tok _, ⟨_, rfl⟩, q⟩
theorem ip_sub : PIp X .Sub (ipI fun i j => i - j) := by
  intro pins s σ H x y v u Q I r1 r2 h
  obtain ⟨i, j, e1, e2, q⟩ := h
  subst e1; subst e2
  obtain ⟨t, rfl⟩ := r1
  obtain ⟨t', rfl⟩ := r2
  exact isub_int ⟨.int _, H, I.tok _, ⟨_, rfl⟩, q⟩
end

/-! ### while -/
section
variable {X : Cx} {pos : Pos}
/-- the invariant W with its measure -/
def tWhile (c : TT) (tb : TS) : TS := fun D σ H => ∃ W : Nat → St → Hp → Prop, (∃ m, W m σ H) ∧ ∀ m σ H, W m σ H →
  c σ H fun b H1 => if b = true then ∃ N : St → Hp → Prop, (∀ σ' H', N σ' H' → ∃ m', m' < m ∧ W m' σ' H') ∧ tb { D with nx := N, ct := N, bk := D.nx } σ H1 else D.nx σ H1
theorem ps_while {c : Expr} {body : List Stmt} {tc : TT} {tb : TS} (hp : PassesOwn (model X.prog X.w) X.A X.env X.xe) (hc : PT X c tc) (hb : PSs X body tb) : PS X (.While c body [] pos) (tWhile tc tb) := by
  intro pins s σ H D I h
  obtain ⟨W, ⟨m0, w0⟩, turn⟩ := h
  refine wpAny_While (codeAny_whileLoop (fun n s' => ∃ σ' H', Inv X pins σ' H' s' ∧ W n σ' H') ?_ m0 ⟨σ, H, I, w0⟩)
  rintro n s1 ⟨σ1, H1, I1, w1⟩
  refine wpAny_passesOwn hp (thn (hc pins s1 σ1 H1 _ I1 (turn n σ1 H1 w1)) fun b s2 ⟨H2, I2, q2⟩ => ?_)
  cases b with
  | true =>
    obtain ⟨N, hN, q2⟩ := q2
    rw [if_pos rfl]
    refine wpAny_passesOwn hp (thn (hb pins s2 σ1 H2 _ I2 q2) fun f s3 q3 => ?_)
    cases f with
    | next =>
      obtain ⟨σ3, H3, I3, n3⟩ := q3
      obtain ⟨m', hm, w3⟩ := hN σ3 H3 n3
      exact ⟨m', hm, σ3, H3, I3, w3⟩
    | cont =>
      obtain ⟨σ3, H3, I3, n3⟩ := q3
      obtain ⟨m', hm, w3⟩ := hN σ3 H3 n3
      exact ⟨m', hm, σ3, H3, I3, w3⟩
    | brk => exact q3
    | ret v => exact q3
  | false =>
    rw [if_neg Bool.false_ne_true]
    exact wpAny_execs_nil ⟨σ1, H2, I2, q2⟩
end

/-! ### what a loop or a comprehension walks -/
/-- at turn i: it yields x (the heap may grow), or it stops -/
structure It where
  go : Nat → Hp → Prop
  yld : Nat → Hp → V → Hp → Prop
  stop : Nat → Hp → Prop
/-- the iterator's own objects may turn: they are not the frame's, not pinned, younger than the entry (or a comprehension's own) -/
def FpOk (X : Cx) (pins : List (Addr × Obj)) (H : Hp) (b : Addr) : Prop :=
  H b = none ∧ b ≠ X.env.locals ∧ b ∉ X.fs ∧ (b ∈ X.ex ∨ X.s₀.heap.objs.size ≤ b) ∧ (∀ x c, X.env.cells.lookup x = some c → c ≠ b) ∧ ∀ p ∈ X.pn ++ pins, p.1 ≠ b
theorem Inv.fpOk {X : Cx} {pins : List (Addr × Obj)} {σ : St} {H H' : Hp} {s : Shared} {b : Addr} (I : Inv X pins σ H s) (hb : s.heap.objs.size ≤ b) (hn : H' b = none) : FpOk X pins H' b := by
  refine ⟨hn, Nat.ne_of_gt (Nat.lt_of_lt_of_le I.lt hb), I.nofs hb, .inr (Nat.le_trans I.sz hb), fun x c e z => ?_, fun p hp z => ?_⟩
  · obtain ⟨v, q⟩ := I.cell x c e
    exact absurd (Nat.lt_of_lt_of_le q.lt (by rw [z]; exact hb)) (Nat.lt_irrefl _)
  · exact absurd (Nat.lt_of_lt_of_le (Heap.lt_size (I.pin p hp).1) (by rw [z]; exact hb)) (Nat.lt_irrefl _)
structure Turn (P : Program) (w : World) (K : PySem.W.Frag) (tg : Expr) (J : It) (fp : List Addr) (it : Addr) (tn : Nat → Heap → Prop) : Prop where
  mem : it ∈ fp
  obj : ∀ i h, tn i h → ∀ b ∈ fp, ∃ o, h.get? b = some o ∧ ∀ v, o.data ≠ .cell v
  keep : ∀ i h h', tn i h → (∀ b ∈ fp, ∀ o, h.get? b = some o → h'.get? b = some o) → tn i h'
  item : ∀ (X : Cx), X.prog = P → X.w = w → X.K = K → X.calm = true → ∀ (i : Nat) (pins : List (Addr × Obj)) (s : Shared) (σ : St) (H : Hp) (E : Value → Shared → Prop), Inv X pins σ H s → (∀ b ∈ fp, FpOk X pins H b) → tn i s.heap → J.go i H →
    wpAny (model P w) X.A (pyNext (.ref it)) (fun r s1 => ∃ u, r = some u ∧
      wpAny (model P w) X.A (letOwnedTupleGo tg (.ref it) u) (fun _ s2 => ∃ x H', Inv X pins σ H' s2 ∧ RelV x u ∧ J.yld i H x H' ∧ tn (i + 1) s2.heap ∧ ∀ b ∈ fp, H' b = none) E s1) E s
  done : ∀ (X : Cx), X.prog = P → X.w = w → X.K = K → X.calm = true → ∀ (i : Nat) (pins : List (Addr × Obj)) (s : Shared) (σ : St) (H : Hp) (E : Value → Shared → Prop), Inv X pins σ H s → (∀ b ∈ fp, FpOk X pins H b) → tn i s.heap → J.stop i H →
    wpAny (model P w) X.A (pyNext (.ref it)) (fun r s1 => r = none ∧ Inv X pins σ H s1) E s
  self : ∀ (A : Around) (i : Nat) (s : Shared) (Q : Value → Shared → Prop) (E : Value → Shared → Prop), tn i s.heap → Q (.ref it) s → wpAny (model P w) A (pyIter (.ref it)) Q E s
abbrev TI := St → Hp → (It → Hp → Prop) → Prop
/-- an iterator has come -/
def PIE (X : Cx) (pins : List (Addr × Obj)) (σ : St) (tg : Expr) (R : It → Hp → Prop) (itv : Value) (s2 : Shared) : Prop :=
  ∃ (it : Addr) (fp : List Addr) (tn : Nat → Heap → Prop) (J : It) (H' : Hp), itv = .ref it ∧ Inv X pins σ H' s2 ∧ Turn X.prog X.w X.K tg J fp it tn ∧ tn 0 s2.heap ∧ (∀ b ∈ fp, FpOk X pins H' b) ∧ R J H'
def PI (X : Cx) (tg iter : Expr) (wi : TI) : Prop :=
  ∀ (pins : List (Addr × Obj)) (s : Shared) (σ : St) (H : Hp) (R : It → Hp → Prop), Inv X pins σ H s → wi σ H R →
    wpAny (model X.prog X.w) X.A (eval iter X.env) (fun v s1 => wpAny (model X.prog X.w) X.A (pyIter v) (PIE X pins σ tg R) X.xe s1) X.xe s

/-- the step ahead of the store is nothing for an iterator that keeps no tuple -/
theorem go_of {M : Model} {A : Around} {E : Value → Shared → Prop} {s : Shared} {tg : Expr} {it : Addr} {u : Value} {o : Obj} {n : String} {vs : Array Value} {Q : Unit → Shared → Prop} (ho : s.heap.get? it = some o) (hc : o.cls = .type n) (hd : o.data = .fields vs)
    (hn : ["enumerate", "zip", "dict_itemiterator", "dict_reverseitemiterator", "odict_iterator", "itertools.zip_longest", "itertools.pairwise"].contains n = false) (hQ : Q () s) : wpAny M A (letOwnedTupleGo tg (.ref it) u) Q E s := by
  unfold letOwnedTupleGo
  cases tg <;> first
    | exact wpAny_pure hQ
    | (cases u <;> first
        | exact wpAny_pure hQ
        | (refine wpAny_bind (wpAny_load ho ?_)
           rw [hc, hd]
           show wpAny M A (if (["enumerate", "zip", "dict_itemiterator", "dict_reverseitemiterator", "odict_iterator", "itertools.zip_longest", "itertools.pairwise"].contains n && vs[0]? == some (rawInt _)) = true then _ else _) Q E s
           rw [if_neg (by intro h; rw [hn, Bool.false_and] at h; cases h)]
           exact wpAny_pure hQ))

/-- the list at a, as it stands at each turn (a loop may append to it) -/
def Itl (K : PySem.W.Frag) (a : Addr) : It :=
  ⟨fun i H => ∃ xs x, SqL K H a xs ∧ xs[i]? = some x, fun i H x H' => H' = H ∧ ∀ xs, SqL K H a xs → xs[i]? = some x, fun i H => ∃ xs, SqL K H a xs ∧ xs.length ≤ i⟩
def Itt (K : PySem.W.Frag) (a : Addr) : It :=
  ⟨fun i H => ∃ xs x, SqT K H a xs ∧ xs[i]? = some x, fun i H x H' => H' = H ∧ ∀ xs, SqT K H a xs → xs[i]? = some x, fun i H => ∃ xs, SqT K H a xs ∧ xs.length ≤ i⟩
/-- lo, lo + 1, .. (n of them) -/
def Itr (lo : Int) (n : Nat) : It := ⟨fun i _ => i < n, fun i H x H' => H' = H ∧ x = .int (lo + i), fun i _ => n ≤ i⟩
theorem turn_list {P : Program} {w : World} {K : PySem.W.Frag} {tg : Expr} (a it : Addr) : Turn P w K tg (Itl K a) [it] it (fun i h => h.IsListIter it a i) where
  mem := by simp
  obj := fun i h st b hb => by
    have e : b = it := by simpa using hb
    subst e
    obtain ⟨o, e, c, d⟩ := st
    exact ⟨o, e, fun v z => by rw [d] at z; cases z⟩
  keep := fun i h h' st k => st.at fun o e => k it (by simp) o e
  item := by
    intro X hP hw hK hc i pins s σ H E I hf st hg
    subst hP hw hK
    obtain ⟨xs, x, hq, hx⟩ := hg
    obtain ⟨its, rv, p, hz⟩ := I.list hq
    obtain ⟨u, hu, ru⟩ := rv.get hx
    obtain ⟨f0, f1, f2, f3, f4, f5⟩ := hf it (by simp)
    refine wpAny_pyNext_list_item st p.isList (x := u) (by simpa using hu) fun h' st' sb => ?_
    have I1 : Inv X pins σ H { s with heap := h' } := I.turned (t' := s.toks) (fun b o hb e => (sb.2 b hb).trans e) f0 f1 f3 f4 f5
    obtain ⟨o, e, c, d⟩ := id st'
    exact ⟨u, rfl, go_of (s := { s with heap := h' }) e c d (by decide) ⟨x, H, I1, ru, ⟨rfl, fun ys hy => by rw [I.list_inj hy hq]; exact hx⟩, st', fun b hb => (hf b hb).1⟩⟩
  done := by
    intro X hP hw hK hc i pins s σ H E I hf st hg
    subst hP hw hK
    obtain ⟨xs, hq, hx⟩ := hg
    obtain ⟨its, rv, p, hz⟩ := I.list hq
    obtain ⟨f0, f1, f2, f3, f4, f5⟩ := hf it (by simp)
    have hl := rv.length
    exact wpAny_pyNext_list_end (I.ok.hd hc) st p.isList (by simp; omega) fun h' eb => ⟨rfl, I.turned (t' := s.toks) (fun b o hb e => eb b o hb e) f0 f1 f3 f4 f5⟩
  self := fun _ _ _ _ _ st h => wpAny_pyIter_listiter st h
theorem turn_tuple {P : Program} {w : World} {K : PySem.W.Frag} {tg : Expr} (a it : Addr) : Turn P w K tg (Itt K a) [it] it (fun i h => h.IsTupleIter it a i) where
  mem := by simp
  obj := fun i h st b hb => by
    have e : b = it := by simpa using hb
    subst e
    obtain ⟨o, e, c, d⟩ := st
    exact ⟨o, e, fun v z => by rw [d] at z; cases z⟩
  keep := fun i h h' st k => st.at fun o e => k it (by simp) o e
  item := by
    intro X hP hw hK hc i pins s σ H E I hf st hg
    subst hP hw hK
    obtain ⟨xs, x, hq, hx⟩ := hg
    obtain ⟨its, rv, p, hz⟩ := I.tuple hq
    obtain ⟨u, hu, ru⟩ := rv.get hx
    obtain ⟨f0, f1, f2, f3, f4, f5⟩ := hf it (by simp)
    refine wpAny_pyNext_tuple_item st (show s.heap.IsTuple a its.toArray from p) (x := u) (by simpa using hu) fun h' st' sb => ?_
    have I1 : Inv X pins σ H { s with heap := h' } := I.turned (t' := s.toks) (fun b o hb e => (sb.2 b hb).trans e) f0 f1 f3 f4 f5
    obtain ⟨o, e, c, d⟩ := id st'
    exact ⟨u, rfl, go_of (s := { s with heap := h' }) e c d (by decide) ⟨x, H, I1, ru, ⟨rfl, fun ys hy => by rw [I.tuple_inj hy hq]; exact hx⟩, st', fun b hb => (hf b hb).1⟩⟩
  done := by
    intro X hP hw hK hc i pins s σ H E I hf st hg
    subst hP hw hK
    obtain ⟨xs, hq, hx⟩ := hg
    obtain ⟨its, rv, p, hz⟩ := I.tuple hq
    obtain ⟨f0, f1, f2, f3, f4, f5⟩ := hf it (by simp)
    have hl := rv.length
    exact wpAny_pyNext_tuple_end (I.ok.hd hc) st (show s.heap.IsTuple a its.toArray from p) (by simp; omega) fun h' eb => ⟨rfl, I.turned (t' := s.toks) (fun b o hb e => eb b o hb e) f0 f1 f3 f4 f5⟩
  self := fun _ _ _ _ _ st h => wpAny_pyIter_tupleiter st h
theorem turn_range {P : Program} {w : World} {K : PySem.W.Frag} {tg : Expr} (it : Addr) (lo : Int) (n : Nat) : Turn P w K tg (Itr lo n) [it] it (fun i h => IsRangeIter h it (lo + (i : Nat) * 1) ((n : Int) - (i : Nat)) 1) where
  mem := by simp
  obj := fun i h st b hb => by
    have e : b = it := by simpa using hb
    subst e
    exact ⟨_, st, fun v z => by
      have z' : Data.fields _ = Data.cell v := z
      cases z'⟩
  keep := fun i h h' st k => k it (by simp) _ st
  item := by
    intro X hP hw hK hc i pins s σ H E I hf st hg
    subst hP hw hK
    obtain ⟨f0, f1, f2, f3, f4, f5⟩ := hf it (by simp)
    have W := Walks.range (prog := X.prog) (w := X.w) (I.ok.hd hc) it lo 1 n
    refine W.item i s _ _ hg st fun v h' tk hv st' kk => ?_
    obtain ⟨t, rfl⟩ := hv
    have I1 : Inv X pins σ H { s with heap := h', toks := tk } := I.turned (fun b o hb e => kk b o (by simpa using hb) e) f0 f1 f3 f4 f5
    refine ⟨_, rfl, go_of (s := { s with heap := h', toks := tk }) (n := "range_iterator") st' rfl rfl (by decide) ⟨.int (lo + i), H, I1, ⟨t, ?_⟩, ⟨rfl, rfl⟩, st', fun b hb => (hf b hb).1⟩⟩
    rw [Int.mul_one]
  done := by
    intro X hP hw hK hc i pins s σ H E I hf st hg
    subst hP hw hK
    obtain ⟨f0, f1, f2, f3, f4, f5⟩ := hf it (by simp)
    exact wpAny_pyNext_range_end (I.ok.hd hc) st (by have : n ≤ i := hg; omega) fun h' eb => ⟨rfl, I.turned (t' := s.toks) (fun b o hb e => eb b o hb e) f0 f1 f3 f4 f5⟩
  self := fun _ _ _ _ _ st h => wpAny_pyIter_rangeiter st h
end L2

namespace L2
open PySem PySem.Spec PyProof.Rows
section
variable {X : Cx} {tg : Expr}
def iList (K : PySem.W.Frag) (tl : TE) : TI := fun σ H R => tl σ H fun x H1 => ∃ a, x = .ref a ∧ (∃ xs, SqL K H1 a xs) ∧ R (Itl K a) H1
def iTup (K : PySem.W.Frag) (tl : TE) : TI := fun σ H R => tl σ H fun x H1 => ∃ a, x = .ref a ∧ (∃ xs, SqT K H1 a xs) ∧ R (Itt K a) H1
theorem pi_list {l : Expr} {tl : TE} (hl : PE X l tl) : PI X tg l (iList X.K tl) := by
  intro pins s σ H R I h
  refine thn (hl pins s σ H _ I h) fun v s1 ⟨x, H1, I1, r1, q1⟩ => ?_
  obtain ⟨a, e, ⟨xs, hq⟩, q⟩ := q1
  subst e
  cases r1
  obtain ⟨its, rv, p, hz⟩ := I1.list hq
  refine wpAny_pyIter_list p.isList ?_
  refine ⟨s1.heap.objs.size, [s1.heap.objs.size], _, _, H1, rfl, I1.kept (t' := s1.toks) fun b o e => Heap.get?_push_of_some _ e, turn_list a _, ⟨_, Heap.get?_push_size _ rfl, rfl, rfl⟩, fun b hb => ?_, q⟩
  have e : b = s1.heap.objs.size := by simpa using hb
  subst e
  exact I1.fpOk (Nat.le_refl _) (I1.hok.fresh (Nat.le_refl _))
theorem pi_tup {l : Expr} {tl : TE} (hl : PE X l tl) : PI X tg l (iTup X.K tl) := by
  intro pins s σ H R I h
  refine thn (hl pins s σ H _ I h) fun v s1 ⟨x, H1, I1, r1, q1⟩ => ?_
  obtain ⟨a, e, ⟨xs, hq⟩, q⟩ := q1
  subst e
  cases r1
  obtain ⟨its, rv, p, hz⟩ := I1.tuple hq
  refine wpAny_pyIter_tuple (show s1.heap.IsTuple a its.toArray from p) ?_
  refine ⟨s1.heap.objs.size, [s1.heap.objs.size], _, _, H1, rfl, I1.kept (t' := s1.toks) fun b o e => Heap.get?_push_of_some _ e, turn_tuple a _, ⟨_, Heap.get?_push_size _ rfl, rfl, rfl⟩, fun b hb => ?_, q⟩
  have e : b = s1.heap.objs.size := by simpa using hb
  subst e
  exact I1.fpOk (Nat.le_refl _) (I1.hok.fresh (Nat.le_refl _))
/-- a range object just made, walked -/
theorem range_it {pins : List (Addr × Obj)} {σ : St} {H : Hp} {s : Shared} {R : It → Hp → Prop} {E : Value → Shared → Prop} {lo hi : Int} {t u v : Tok} {tk : Nat} (I : Inv X pins σ H s) (h1 : -(2 ^ 62) ≤ lo) (h2 : lo < 2 ^ 62) (h3 : -(2 ^ 62) ≤ hi) (h4 : hi < 2 ^ 62)
    (q : R (Itr lo (hi - lo).toNat) H) : wpAny (model X.prog X.w) X.A (pyIter (.ref s.heap.objs.size)) (PIE X pins σ tg R) E { s with heap := s.heap.push { cls := .type "range", data := .fields #[.int lo t, .int hi u, .int 1 v] }, toks := tk } := by
  refine wpAny_pyIter_range (IsRange.new ..) (small_one h1 h2 h3 h4) ?_
  have I1 : Inv X pins σ H { s with heap := s.heap.push { cls := .type "range", data := .fields #[.int lo t, .int hi u, .int 1 v] }, toks := tk } := I.kept fun b o e => Heap.get?_push_of_some _ e
  refine ⟨(s.heap.push { cls := .type "range", data := .fields #[.int lo t, .int hi u, .int 1 v] }).objs.size, [(s.heap.push { cls := .type "range", data := .fields #[.int lo t, .int hi u, .int 1 v] }).objs.size], _, _, H, rfl,
    I1.kept (t' := tk) fun b o e => Heap.get?_push_of_some _ e, turn_range _ lo (hi - lo).toNat, ?_, fun b hb => ?_, q⟩
  · have e1 : lo + ((0 : Nat) : Int) * 1 = lo := by simp
    have e2 : (((hi - lo).toNat : Nat) : Int) - ((0 : Nat) : Int) = Builtin.Range.rangeSize lo hi 1 := by rw [rangeSize_one]; split <;> omega
    show IsRangeIter _ _ (lo + ((0 : Nat) : Int) * 1) ((((hi - lo).toNat : Nat) : Int) - ((0 : Nat) : Int)) 1
    rw [e1, e2]
    exact Heap.get?_push_size _ rfl
  · have e : b = (s.heap.push { cls := .type "range", data := .fields #[.int lo t, .int hi u, .int 1 v] }).objs.size := by simpa using hb
    subst e
    exact I1.fpOk (Nat.le_refl _) (I1.hok.fresh (Nat.le_refl _))
def iRng1 (ta : TA) : TI := fun σ H R => ta σ H fun vs H1 => ∃ j : Int, vs = [.int j] ∧ -(2 ^ 62) ≤ j ∧ j < 2 ^ 62 ∧ R (Itr 0 j.toNat) H1
def iRng2 (ta : TA) : TI := fun σ H R => ta σ H fun vs H1 => ∃ i j : Int, vs = [.int i, .int j] ∧ (-(2 ^ 62) ≤ i ∧ i < 2 ^ 62 ∧ -(2 ^ 62) ≤ j ∧ j < 2 ^ 62) ∧ R (Itr i (j - i).toNat) H1
theorem pi_range1 {a : Expr} {ta : TA} {p pos : Pos} (hg : Gl X "range") (hm : X.mg "range" = none) (ha : PA X [a] ta) (hs : starEach [a] X.env = [(false, eval a X.env)] := by rfl) : PI X tg (.Call (.Name "range" p) [a] [] pos) (iRng1 ta) := by
  intro pins s σ H R I h
  refine Call_ (ld_blt I hg hm boot_range (PyProof.Rows.callWith_type1 (thn (ha pos pins s σ H _ I h) fun us s1 ⟨vs, H1, I1, r1, q1⟩ => ?_) hs rfl))
  obtain ⟨j, e, q1, q2, q⟩ := q1
  subst e
  cases r1 with
  | cons r rr =>
    cases rr
    obtain ⟨t, rfl⟩ := r
    exact call_range_1 (range_it I1 (by omega) (by omega) q1 q2 (by simpa using q))
theorem pi_range2 {a b : Expr} {ta : TA} {p pos : Pos} (hg : Gl X "range") (hm : X.mg "range" = none) (ha : PA X [a, b] ta) (hs : starEach [a, b] X.env = [(false, eval a X.env), (false, eval b X.env)] := by rfl) (hs2 : starEach [b] X.env = [(false, eval b X.env)] := by rfl) :
    PI X tg (.Call (.Name "range" p) [a, b] [] pos) (iRng2 ta) := by
  intro pins s σ H R I h
  refine Call_ (ld_blt I hg hm boot_range (PyProof.Rows.callWith_type1 (thn (ha pos pins s σ H _ I h) fun us s1 ⟨vs, H1, I1, r1, q1⟩ => ?_) (by rw [hs, hs2]) (by rw [hs2]; rfl)))
  obtain ⟨i, j, e, ⟨q1, q2, q3, q4⟩, q⟩ := q1
  subst e
  cases r1 with
  | cons r rr =>
    cases rr with
    | cons r' rr =>
      cases rr
      obtain ⟨t, rfl⟩ := r
      obtain ⟨t', rfl⟩ := r'
      exact call_range_2 (range_it I1 q1 q2 q3 q4 q)

/-! ### for -/
/-- W: the invariant by the turn and a measure; N: what the body is to reach -/
def tFor (wi : TI) (g : TG) (tb : TS) : TS := fun D σ H => wi σ H fun J H1 => ∃ W : Nat → Nat → St → Hp → Prop, (∃ m, W 0 m σ H1) ∧ ∀ i m σ H, W i m σ H →
  (J.stop i H ∧ D.nx σ H) ∨ (J.go i H ∧ ∃ N : St → Hp → Prop, (∀ σ' H', N σ' H' → ∃ m', m' < m ∧ W (i + 1) m' σ' H') ∧ ∀ x H', J.yld i H x H' → g x σ H' fun σ2 H2 => tb { D with nx := N, ct := N, bk := D.nx } σ2 H2)
/-- the records at fp as they stand -/
def pinsAt (fp : List Addr) (h : Heap) : List (Addr × Obj) := fp.filterMap fun b => (h.get? b).map fun o => (b, o)
theorem mem_pinsAt {fp : List Addr} {h : Heap} {b : Addr} {o : Obj} (hb : b ∈ fp) (e : h.get? b = some o) : (b, o) ∈ pinsAt fp h := List.mem_filterMap.mpr ⟨b, hb, by rw [e]; rfl⟩
theorem of_pinsAt {fp : List Addr} {h : Heap} {p : Addr × Obj} (hp : p ∈ pinsAt fp h) : p.1 ∈ fp ∧ h.get? p.1 = some p.2 := by
  obtain ⟨b, hb, e⟩ := List.mem_filterMap.mp hp
  cases q : h.get? b with
  | none => rw [q] at e; cases e
  | some o =>
    rw [q] at e
    have e' : (b, o) = p := Option.some.inj e
    subst e'
    exact ⟨hb, q⟩
theorem Inv.pinned {pins : List (Addr × Obj)} {σ : St} {H : Hp} {s : Shared} {fp : List Addr} (I : Inv X pins σ H s) (hf : ∀ b ∈ fp, FpOk X pins H b) (ho : ∀ b ∈ fp, ∃ o, s.heap.get? b = some o ∧ ∀ v, o.data ≠ .cell v) : Inv X (pins ++ pinsAt fp s.heap) σ H s :=
  I.pins_of fun p hp => (List.mem_append.mp hp).elim (fun z => I.pin p (List.mem_append_right _ z)) fun z => by
    obtain ⟨hb, e⟩ := of_pinsAt z
    obtain ⟨f0, f1, f2, _⟩ := hf p.1 hb
    obtain ⟨o, e', d⟩ := ho p.1 hb
    rw [e] at e'; cases e'
    exact ⟨e, f0, f1, f2, d⟩
theorem Inv.unpinned {pins pl : List (Addr × Obj)} {σ : St} {H : Hp} {s : Shared} (I : Inv X (pins ++ pl) σ H s) : Inv X pins σ H s := I.pins_of fun p hp => I.pin p (List.mem_append_right _ (List.mem_append_left _ hp))
theorem ps_for {iter : Expr} {body : List Stmt} {wi : TI} {g : TG} {tb : TS} {pos : Pos} (hp : PassesOwn (model X.prog X.w) X.A X.env X.xe) (hc : X.calm = true) (hi : PI X tg iter wi) (hg : PG X tg g) (hb : PSs X body tb)
    (hs : ∀ x, foldedSetIterable iter X.env x = pure x := by intro _; rfl) : PS X (.For tg iter body [] pos) (tFor wi g tb) := by
  intro pins s σ H D I h
  refine wpAny_For (thn (hi pins s σ H _ I h) fun v s1 h1 => thn h1 fun itv s2 h2 => ?_) hs
  obtain ⟨it, fp, tn, J, H2, e, I2, T, st2, f2, W, ⟨m0, w0⟩, turn⟩ := h2
  subst e
  -- what stays true of the iterator's objects through the loop
  have stat : ∀ {H' : Hp}, (∀ b ∈ fp, H' b = none) → ∀ b ∈ fp, FpOk X pins H' b := fun hn b hb => ⟨hn b hb, (f2 b hb).2⟩
  refine codeAny_forLoop_any (fun n s' => ∃ i σ' H', Inv X pins σ' H' s' ∧ tn i s'.heap ∧ (∀ b ∈ fp, H' b = none) ∧ W i n σ' H') ?_ m0 ⟨0, σ, H2, I2, st2, fun b hb => (f2 b hb).1, w0⟩
  rintro n s3 ⟨i, σ3, H3, I3, st3, fr3, w3⟩
  rcases turn i n σ3 H3 w3 with ⟨stop, qn⟩ | ⟨go, N, hN, step⟩
  · refine wpAny_passesOwn hp (thn (T.done X rfl rfl rfl hc i pins s3 σ3 H3 X.xe I3 (stat fr3) st3 stop) fun r s4 ⟨hr, I4⟩ => ?_)
    subst hr
    exact wpAny_execs_nil ⟨σ3, H3, I4, qn⟩
  · refine wpAny_passesOwn hp (thn (T.item X rfl rfl rfl hc i pins s3 σ3 H3 X.xe I3 (stat fr3) st3 go) fun r s4 ⟨u, hr, h4⟩ => ?_)
    subst hr
    refine wpAny_passesOwn hp (thn h4 fun _ s5 ⟨x, H5, I5, r5, y5, st5, fr5⟩ => ?_)
    have I5' := I5.pinned (stat fr5) (T.obj _ _ st5)
    refine wpAny_passesOwn hp (thn (hg _ s5 σ3 H5 x u _ I5' r5 (step x H5 y5)) fun _ s6 ⟨σ6, H6, I6, q6⟩ => ?_)
    refine wpAny_passesOwn hp (thn (hb _ s6 σ6 H6 _ I6 q6) fun f s7 q7 => ?_)
    have again : ∀ {σ7 : St} {H7 : Hp}, Inv X (pins ++ pinsAt fp s5.heap) σ7 H7 s7 → N σ7 H7 → ∃ m, m < n ∧ ∃ i σ' H', Inv X pins σ' H' s7 ∧ tn i s7.heap ∧ (∀ b ∈ fp, H' b = none) ∧ W i m σ' H' := fun {σ7 H7} I7 n7 => by
      obtain ⟨m', hm, w7⟩ := hN σ7 H7 n7
      refine ⟨m', hm, i + 1, σ7, H7, I7.unpinned, T.keep _ _ _ st5 fun b hb o e => (I7.pin (b, o) (List.mem_append_right _ (List.mem_append_right _ (mem_pinsAt hb e)))).1, fun b hb => ?_, w7⟩
      obtain ⟨o, e, d⟩ := T.obj _ _ st5 b hb
      exact (I7.pin (b, o) (List.mem_append_right _ (List.mem_append_right _ (mem_pinsAt hb e)))).2.1
    cases f with
    | next => obtain ⟨σ7, H7, I7, n7⟩ := q7; exact again I7 n7
    | cont => obtain ⟨σ7, H7, I7, n7⟩ := q7; exact again I7 n7
    | brk => obtain ⟨σ7, H7, I7, q7⟩ := q7; exact ⟨σ7, H7, I7.unpinned, q7⟩
    | ret v => obtain ⟨x7, σ7, H7, I7, r7, q7⟩ := q7; exact ⟨x7, σ7, H7, I7.unpinned, r7, q7⟩
end

/-! ### the forms one uses -/
/-- over a list that the body leaves as it is -/
theorem for_list {K : PySem.W.Frag} {a : Addr} {xs : List V} {g : TG} {tb : TS} {D : Ends} {σ : St} {H : Hp} (Pv : Nat → St → Hp → Prop) (h0 : Pv 0 σ H) (hl : ∀ i σ H, i ≤ xs.length → Pv i σ H → SqL K H a xs)
    (hs : ∀ i x σ H, xs[i]? = some x → Pv i σ H → g x σ H fun σ2 H2 => tb { D with nx := Pv (i + 1), ct := Pv (i + 1), bk := D.nx } σ2 H2) (hd : ∀ σ H, Pv xs.length σ H → D.nx σ H) :
    ∃ W : Nat → Nat → St → Hp → Prop, (∃ m, W 0 m σ H) ∧ ∀ i m σ H, W i m σ H →
      ((Itl K a).stop i H ∧ D.nx σ H) ∨ ((Itl K a).go i H ∧ ∃ N : St → Hp → Prop, (∀ σ' H', N σ' H' → ∃ m', m' < m ∧ W (i + 1) m' σ' H') ∧ ∀ x H', (Itl K a).yld i H x H' → g x σ H' fun σ2 H2 => tb { D with nx := N, ct := N, bk := D.nx } σ2 H2) := by
  refine ⟨fun i m σ H => m = xs.length - i ∧ i ≤ xs.length ∧ Pv i σ H, ⟨xs.length, by simp, Nat.zero_le _, h0⟩, ?_⟩
  rintro i m σ H ⟨rfl, hi, p⟩
  have q := hl i σ H hi p
  by_cases hlt : i < xs.length
  · refine .inr ⟨⟨xs, xs[i], q, by simp [hlt]⟩, Pv (i + 1), fun σ' H' p' => ⟨xs.length - (i + 1), by omega, rfl, hlt, p'⟩, fun x H' y => ?_⟩
    obtain ⟨e, y⟩ := y
    subst e
    exact hs i x σ _ (y xs q) p
  · have e : i = xs.length := by omega
    subst e
    exact .inl ⟨⟨xs, q, Nat.le_refl _⟩, hd σ H p⟩
theorem for_tup {K : PySem.W.Frag} {a : Addr} {xs : List V} {g : TG} {tb : TS} {D : Ends} {σ : St} {H : Hp} (Pv : Nat → St → Hp → Prop) (h0 : Pv 0 σ H) (hl : ∀ i σ H, i ≤ xs.length → Pv i σ H → SqT K H a xs)
    (hs : ∀ i x σ H, xs[i]? = some x → Pv i σ H → g x σ H fun σ2 H2 => tb { D with nx := Pv (i + 1), ct := Pv (i + 1), bk := D.nx } σ2 H2) (hd : ∀ σ H, Pv xs.length σ H → D.nx σ H) :
    ∃ W : Nat → Nat → St → Hp → Prop, (∃ m, W 0 m σ H) ∧ ∀ i m σ H, W i m σ H →
      ((Itt K a).stop i H ∧ D.nx σ H) ∨ ((Itt K a).go i H ∧ ∃ N : St → Hp → Prop, (∀ σ' H', N σ' H' → ∃ m', m' < m ∧ W (i + 1) m' σ' H') ∧ ∀ x H', (Itt K a).yld i H x H' → g x σ H' fun σ2 H2 => tb { D with nx := N, ct := N, bk := D.nx } σ2 H2) := by
  refine ⟨fun i m σ H => m = xs.length - i ∧ i ≤ xs.length ∧ Pv i σ H, ⟨xs.length, by simp, Nat.zero_le _, h0⟩, ?_⟩
  rintro i m σ H ⟨rfl, hi, p⟩
  have q := hl i σ H hi p
  by_cases hlt : i < xs.length
  · refine .inr ⟨⟨xs, xs[i], q, by simp [hlt]⟩, Pv (i + 1), fun σ' H' p' => ⟨xs.length - (i + 1), by omega, rfl, hlt, p'⟩, fun x H' y => ?_⟩
    obtain ⟨e, y⟩ := y
    subst e
    exact hs i x σ _ (y xs q) p
  · have e : i = xs.length := by omega
    subst e
    exact .inl ⟨⟨xs, q, Nat.le_refl _⟩, hd σ H p⟩
theorem for_range {lo : Int} {n : Nat} {g : TG} {tb : TS} {D : Ends} {σ : St} {H : Hp} (Pv : Nat → St → Hp → Prop) (h0 : Pv 0 σ H)
    (hs : ∀ i σ H, i < n → Pv i σ H → g (.int (lo + i)) σ H fun σ2 H2 => tb { D with nx := Pv (i + 1), ct := Pv (i + 1), bk := D.nx } σ2 H2) (hd : ∀ σ H, Pv n σ H → D.nx σ H) :
    ∃ W : Nat → Nat → St → Hp → Prop, (∃ m, W 0 m σ H) ∧ ∀ i m σ H, W i m σ H →
      ((Itr lo n).stop i H ∧ D.nx σ H) ∨ ((Itr lo n).go i H ∧ ∃ N : St → Hp → Prop, (∀ σ' H', N σ' H' → ∃ m', m' < m ∧ W (i + 1) m' σ' H') ∧ ∀ x H', (Itr lo n).yld i H x H' → g x σ H' fun σ2 H2 => tb { D with nx := N, ct := N, bk := D.nx } σ2 H2) := by
  refine ⟨fun i m σ H => m = n - i ∧ i ≤ n ∧ Pv i σ H, ⟨n, by simp, Nat.zero_le _, h0⟩, ?_⟩
  rintro i m σ H ⟨rfl, hi, p⟩
  by_cases hlt : i < n
  · refine .inr ⟨hlt, Pv (i + 1), fun σ' H' p' => ⟨n - (i + 1), by omega, rfl, hlt, p'⟩, fun x H' y => ?_⟩
    obtain ⟨e, y⟩ := y
    subst e y
    exact hs i σ _ hlt p
  · have e : i = n := by omega
    subst e
    exact .inl ⟨Nat.le_refl _, hd σ H p⟩
/-- while, by a word and a measure of the state -/
theorem while_by {c : TT} {tb : TS} {D : Ends} {σ : St} {H : Hp} (Pv : St → Hp → Prop) (μ : St → Hp → Nat) (h0 : Pv σ H)
    (hs : ∀ σ H, Pv σ H → c σ H fun b H1 => if b = true then tb { D with nx := fun σ' H' => Pv σ' H' ∧ μ σ' H' < μ σ H, ct := fun σ' H' => Pv σ' H' ∧ μ σ' H' < μ σ H, bk := D.nx } σ H1 else D.nx σ H1)
    (mono : ∀ σ H Q Q', (∀ b H1, Q b H1 → Q' b H1) → c σ H Q → c σ H Q') : tWhile c tb D σ H := by
  refine ⟨fun m σ H => m = μ σ H ∧ Pv σ H, ⟨_, rfl, h0⟩, ?_⟩
  rintro m σ H ⟨rfl, p⟩
  refine mono σ H _ _ (fun b H1 q => ?_) (hs σ H p)
  cases b with
  | true => exact ⟨_, fun σ' H' ⟨p', l⟩ => ⟨_, l, rfl, p'⟩, q⟩
  | false => exact q
end L2

namespace L2
open PySem PySem.Spec PyProof.Rows

abbrev R2 := V → V → Hp → VK → Prop
/-- a two-place operation on values: f is binaryOp op, inplaceOp op or compareOp op -/
def OpR (X : Cx) (f : Value → Value → Sem Value) (r : R2) : Prop :=
  ∀ (pins : List (Addr × Obj)) (s : Shared) (σ : St) (H : Hp) (x y : V) (v u : Value) (Q : VK), Inv X pins σ H s → RelV x v → RelV y u → r x y H Q →
    wpAny (model X.prog X.w) X.A (f v u) (EP X pins σ Q) X.xe s
/-- a one-place operation -/
def UnR (X : Cx) (f : Value → Sem Value) (r : V → Hp → VK → Prop) : Prop :=
  ∀ (pins : List (Addr × Obj)) (s : Shared) (σ : St) (H : Hp) (x : V) (v : Value) (Q : VK), Inv X pins σ H s → RelV x v → r x H Q →
    wpAny (model X.prog X.w) X.A (f v) (EP X pins σ Q) X.xe s
/-- a call of a value that is known (a builtin, a type) with values -/
def CallR (X : Cx) (f : Value) (r : List V → Hp → VK → Prop) : Prop :=
  ∀ (pins : List (Addr × Obj)) (s : Shared) (σ : St) (H : Hp) (xs : List V) (us : List Value) (Q : VK), Inv X pins σ H s → Vals xs us → r xs H Q →
    wpAny (model X.prog X.w) X.A (call f us) (EP X pins σ Q) X.xe s
/-- a value's truth -/
def TruR (X : Cx) (r : V → Hp → (Bool → Hp → Prop) → Prop) : Prop :=
  ∀ (pins : List (Addr × Obj)) (s : Shared) (σ : St) (H : Hp) (x : V) (v : Value) (Q : Bool → Hp → Prop), Inv X pins σ H s → RelV x v → r x H Q →
    wpAny (model X.prog X.w) X.A (truthy v) (TP X pins σ Q) X.xe s

def tOp (r : R2) (ta tb : TE) : TE := fun σ H Q => ta σ H fun x H1 => tb σ H1 fun y H2 => r x y H2 Q
def tUn (r : V → Hp → VK → Prop) (ta : TE) : TE := fun σ H Q => ta σ H fun x H1 => r x H1 Q
/-- ints in, under C, and a value out -/
def rI (C : Int → Int → Prop) (g : Int → Int → V) : R2 := fun x y H Q => ∃ i j, x = .int i ∧ y = .int j ∧ C i j ∧ Q (g i j) H
def rI0 (g : Int → Int → V) : R2 := fun x y H Q => ∃ i j, x = .int i ∧ y = .int j ∧ Q (g i j) H
def rU (g : Int → V) : V → Hp → VK → Prop := fun x H Q => ∃ i, x = .int i ∧ Q (g i) H

section
variable {X : Cx} {a b c : Expr} {ta tb tc : TE} {pos : Pos}

theorem binT (ha : PE X a ta) (hb : PE X b tb) {pins : List (Addr × Obj)} {s : Shared} {σ : St} {H : Hp} {R : V → V → Hp → Prop} (I : Inv X pins σ H s)
    (h : ta σ H fun x H1 => tb σ H1 fun y H2 => R x y H2) {Q : Value → Shared → Prop} {f : Value → Value → Sem Value}
    (hf : ∀ v u s2 x y H2, Inv X pins σ H2 s2 → RelV x v → RelV y u → R x y H2 → wpAny (model X.prog X.w) X.A (f v u) Q X.xe s2) :
    wpAny (model X.prog X.w) X.A (eval a X.env) (fun v s₁ => wpAny (model X.prog X.w) X.A (eval b X.env) (fun u s₂ => wpAny (model X.prog X.w) X.A (f v u) Q X.xe s₂) X.xe s₁) X.xe s := by
  refine thn (ha pins s σ H _ I h) fun v s1 ⟨x, H1, I1, r1, q1⟩ => ?_
  refine thn (hb pins s1 σ H1 _ I1 q1) fun u s2 ⟨y, H2, I2, r2, q2⟩ => ?_
  exact hf v u s2 x y H2 I2 r1 r2 q2

theorem pe_op {op : Operator} {r : R2} (ho : OpR X (binaryOp op) r) (ha : PE X a ta) (hb : PE X b tb) : PE X (.BinOp a op b pos) (tOp r ta tb) := by
  intro pins s σ H Q I h
  exact wpAny_BinOp (binT ha hb I h fun v u s2 x y H2 I2 rx ry q => ho pins s2 σ H2 x y v u Q I2 rx ry q)
theorem pe_un {op : UnaryOp} {r : V → Hp → VK → Prop} (ho : UnR X (unaryOp op) r) (ha : PE X a ta) : PE X (.UnaryOp op a pos) (tUn r ta) := by
  intro pins s σ H Q I h
  exact UnaryOp_ (thn (ha pins s σ H _ I h) fun v s1 ⟨x, H1, I1, r1, q1⟩ => ho pins s1 σ H1 x v Q I1 r1 q1)
/-- a op= e at a name: the name's slot i -/
theorem augR {op : Operator} {r : R2} (ho : OpR X (inplaceOp op) r) {pins : List (Addr × Obj)} {s : Shared} {σ : St} {H : Hp} {x y : V} {v u : Value} {Q : VK} (I : Inv X pins σ H s)
    (rx : RelV x v) (ry : RelV y u) (q : r x y H Q) : wpAny (model X.prog X.w) X.A (inplaceOp op v u) (EP X pins σ Q) X.xe s := ho pins s σ H x y v u Q I rx ry q

/-! ### ints -/
theorem opI {f : Value → Value → Sem Value} {C : Int → Int → Prop} {g : Int → Int → Int}
    (rule : ∀ (i j : Int) (t u : Tok) (s : Shared) (Q : Value → Shared → Prop) (E : Value → Shared → Prop), C i j → Q (.int (g i j) s.toks) { s with toks := s.toks + 1 } → wpAny (model X.prog X.w) X.A (f (.int i t) (.int j u)) Q E s) :
    OpR X f (rI C fun i j => .int (g i j)) := by
  intro pins s σ H x y v u Q I rx ry h
  obtain ⟨i, j, rfl, rfl, hc, q⟩ := h
  obtain ⟨t, rfl⟩ := rx
  obtain ⟨t', rfl⟩ := ry
  exact rule i j t t' s _ _ hc ⟨.int (g i j), H, I.tok _, ⟨_, rfl⟩, q⟩
theorem opI0 {f : Value → Value → Sem Value} {g : Int → Int → Int}
    (rule : ∀ (i j : Int) (t u : Tok) (s : Shared) (Q : Value → Shared → Prop) (E : Value → Shared → Prop), Q (.int (g i j) s.toks) { s with toks := s.toks + 1 } → wpAny (model X.prog X.w) X.A (f (.int i t) (.int j u)) Q E s) :
    OpR X f (rI0 fun i j => .int (g i j)) := by
  intro pins s σ H x y v u Q I rx ry h
  obtain ⟨i, j, rfl, rfl, q⟩ := h
  obtain ⟨t, rfl⟩ := rx
  obtain ⟨t', rfl⟩ := ry
  exact rule i j t t' s _ _ ⟨.int (g i j), H, I.tok _, ⟨_, rfl⟩, q⟩
theorem opB0 {f : Value → Value → Sem Value} {g : Int → Int → Bool}
    (rule : ∀ (i j : Int) (t u : Tok) (s : Shared) (Q : Value → Shared → Prop) (E : Value → Shared → Prop), Q (.bool (g i j)) s → wpAny (model X.prog X.w) X.A (f (.int i t) (.int j u)) Q E s) :
    OpR X f (rI0 fun i j => .bl (g i j)) := by
  intro pins s σ H x y v u Q I rx ry h
  obtain ⟨i, j, rfl, rfl, q⟩ := h
  obtain ⟨t, rfl⟩ := rx
  obtain ⟨t', rfl⟩ := ry
  exact rule i j t t' s _ _ ⟨.bl (g i j), H, I, rfl, q⟩

def CDiv (i j : Int) : Prop := 0 < j ∧ j < 1073741824
def CDivN (i j : Int) : Prop := j ≠ 0 ∧ j.natAbs < 1073741824
def CPow (i j : Int) : Prop := 0 ≤ j ∧ j ≤ 1000000 ∧ i.natAbs < 2 ^ 64
def CMul (i j : Int) : Prop := (-(2 ^ 64) < i ∧ i < 2 ^ 64) ∨ (-(2 ^ 64) < j ∧ j < 2 ^ 64)
theorem CMul.ok {i j : Int} (h : CMul i j) : IntMulOk i j := by
  rcases h with ⟨h1, h2⟩ | ⟨h1, h2⟩
  · exact .of_left (intBits_le_64 h1 h2)
  · exact .of_right (intBits_le_64 h1 h2)
theorem two_pow_nn (k : Nat) : (0 : Int) ≤ 2 ^ k := by
  rw [two_pow_cast]
  exact Int.natCast_nonneg _

theorem op_add : OpR X (binaryOp .Add) (rI0 fun i j => .int (i + j)) := opI0 fun _ _ _ _ _ _ _ q => add_int q
theorem op_sub : OpR X (binaryOp .Sub) (rI0 fun i j => .int (i - j)) := opI0 fun _ _ _ _ _ _ _ q => sub_int q
theorem op_mul : OpR X (binaryOp .Mult) (rI CMul fun i j => .int (i * j)) := opI fun _ _ _ _ _ _ _ hc q => mul_int q hc.ok
/-- // by a positive divisor -/
theorem op_fdiv : OpR X (binaryOp .FloorDiv) (rI CDiv fun i j => .int (i / j)) := opI fun i j _ _ _ _ _ hc q => by
  have h1 : (0 : Int) < j := hc.1
  have h2 : j < 1073741824 := hc.2
  exact floordiv_int (by omega) (by rw [Int.fdiv_eq_ediv_of_nonneg i (by omega)]; exact q) (.inl (PyProof.noPylong_small (by omega)))
theorem op_fdivN : OpR X (binaryOp .FloorDiv) (rI CDivN fun i j => .int (i.fdiv j)) := opI fun _ _ _ _ _ _ _ hc q => floordiv_int hc.1 q (.inl (PyProof.noPylong_small hc.2))
/-- % by a positive divisor of any size -/
theorem op_mod : OpR X (binaryOp .Mod) (rI (fun _ j => 0 < j) fun i j => .int (i % j)) := opI fun i j _ _ _ _ _ hc q => by
  have h1 : (0 : Int) < j := hc
  exact mod_int' (by omega) (by rw [Int.fmod_eq_emod_of_nonneg i (by omega)]; exact q)
theorem op_modN : OpR X (binaryOp .Mod) (rI (fun _ j => j ≠ 0) fun i j => .int (i.fmod j)) := opI fun _ _ _ _ _ _ _ hc q => mod_int' hc q
theorem op_pow : OpR X (binaryOp .Pow) (rI CPow fun i j => .int (i ^ j.toNat)) := opI fun _ _ _ _ _ _ _ hc q => pow_int_small hc.1 hc.2.1 hc.2.2 q
theorem op_shl : OpR X (binaryOp .LShift) (rI CPow fun i j => .int (i * 2 ^ j.toNat)) := opI fun _ _ _ _ _ _ _ hc q => lshift_int_small hc.1 hc.2.1 hc.2.2 q
theorem op_shr : OpR X (binaryOp .RShift) (rI (fun _ j => 0 ≤ j) fun i j => .int (i / 2 ^ j.toNat)) := opI fun i j _ _ _ _ _ hc q =>
  rshift_int hc (by rw [Int.fdiv_eq_ediv_of_nonneg i (two_pow_nn _)]; exact q)
theorem op_and : OpR X (binaryOp .BitAnd) (rI0 fun i j => .int (Builtin.bitAnd i j)) := opI0 fun _ _ _ _ _ _ _ q => and_int q
theorem op_or : OpR X (binaryOp .BitOr) (rI0 fun i j => .int (Builtin.bitOr i j)) := opI0 fun _ _ _ _ _ _ _ q => or_int q
theorem op_xor : OpR X (binaryOp .BitXor) (rI0 fun i j => .int (Builtin.bitXor i j)) := opI0 fun _ _ _ _ _ _ _ q => xor_int q

theorem iop_add : OpR X (inplaceOp .Add) (rI0 fun i j => .int (i + j)) := opI0 fun _ _ _ _ _ _ _ q => iadd_int q
theorem iop_sub : OpR X (inplaceOp .Sub) (rI0 fun i j => .int (i - j)) := opI0 fun _ _ _ _ _ _ _ q => isub_int q
theorem iop_mul : OpR X (inplaceOp .Mult) (rI CMul fun i j => .int (i * j)) := opI fun _ _ _ _ _ _ _ hc q => imul_int q hc.ok
theorem iop_fdiv : OpR X (inplaceOp .FloorDiv) (rI CDiv fun i j => .int (i / j)) := opI fun i j _ _ _ _ _ hc q => by
  have h1 : (0 : Int) < j := hc.1
  have h2 : j < 1073741824 := hc.2
  exact ifloordiv_int (by omega) (by rw [Int.fdiv_eq_ediv_of_nonneg i (by omega)]; exact q) (.inl (PyProof.noPylong_small (by omega)))
theorem iop_mod : OpR X (inplaceOp .Mod) (rI (fun _ j => 0 < j) fun i j => .int (i % j)) := opI fun i j _ _ _ _ _ hc q => by
  have h1 : (0 : Int) < j := hc
  exact imod_int (by omega) (by rw [Int.fmod_eq_emod_of_nonneg i (by omega)]; exact q)
theorem iop_shl : OpR X (inplaceOp .LShift) (rI CPow fun i j => .int (i * 2 ^ j.toNat)) := opI fun _ _ _ _ _ _ _ hc q => ilshift_int_small hc.1 hc.2.1 hc.2.2 q
theorem iop_shr : OpR X (inplaceOp .RShift) (rI (fun _ j => 0 ≤ j) fun i j => .int (i / 2 ^ j.toNat)) := opI fun i j _ _ _ _ _ hc q =>
  irshift_int hc (by rw [Int.fdiv_eq_ediv_of_nonneg i (two_pow_nn _)]; exact q)
theorem iop_and : OpR X (inplaceOp .BitAnd) (rI0 fun i j => .int (Builtin.bitAnd i j)) := opI0 fun _ _ _ _ _ _ _ q => iand_int q
theorem iop_or : OpR X (inplaceOp .BitOr) (rI0 fun i j => .int (Builtin.bitOr i j)) := opI0 fun _ _ _ _ _ _ _ q => ior_int q
theorem iop_xor : OpR X (inplaceOp .BitXor) (rI0 fun i j => .int (Builtin.bitXor i j)) := opI0 fun _ _ _ _ _ _ _ q => ixor_int q

theorem unI {f : Value → Sem Value} {g : Int → Int}
    (rule : ∀ (i : Int) (t : Tok) (s : Shared) (Q : Value → Shared → Prop) (E : Value → Shared → Prop), Q (.int (g i) s.toks) { s with toks := s.toks + 1 } → wpAny (model X.prog X.w) X.A (f (.int i t)) Q E s) :
    UnR X f (rU fun i => .int (g i)) := by
  intro pins s σ H x v Q I rx h
  obtain ⟨i, rfl, q⟩ := h
  obtain ⟨t, rfl⟩ := rx
  exact rule i t s _ _ ⟨.int (g i), H, I.tok _, ⟨_, rfl⟩, q⟩
theorem un_neg : UnR X (unaryOp .USub) (rU fun i => .int (-i)) := unI fun _ _ _ _ _ q => neg_int q
theorem un_inv : UnR X (unaryOp .Invert) (rU fun i => .int (Builtin.bitNot i)) := unI fun _ _ _ _ _ q => invert_int q

/-! ### bools among ints: n += (a < b) -/
theorem op_add_ib : OpR X (binaryOp .Add) (fun x y H Q => ∃ i k, x = .int i ∧ y = .bl k ∧ Q (.int (i + b2i k)) H) := by
  intro pins s σ H x y v u Q I rx ry h
  obtain ⟨i, k, rfl, rfl, q⟩ := h
  obtain ⟨t, rfl⟩ := rx
  cases ry
  exact add_int_bool ⟨.int (i + b2i k), H, I.tok _, ⟨_, rfl⟩, q⟩
end

/-! ### comparisons -/
/-- the scalars that == tells apart as data does -/
def scal : V → V → Bool
  | .non, .non => true | .non, .int _ => true | .int _, .non => true | .non, .bl _ => true | .bl _, .non => true | .non, .str _ => true | .str _, .non => true
  | .int _, .int _ => true | .bl _, .bl _ => true | .str _, .str _ => true | .byt _, .byt _ => true
  | .int _, .str _ => true | .str _, .int _ => true | .bl _, .str _ => true | .str _, .bl _ => true
  | _, _ => false
def rEq : R2 := fun x y H Q => scal x y = true ∧ Q (.bl (decide (x = y))) H
def rNe : R2 := fun x y H Q => scal x y = true ∧ Q (.bl (!decide (x = y))) H

theorem dec_int {i j : Int} : decide (V.int i = V.int j) = (i == j) := by
  rw [Bool.eq_iff_iff]
  simp
theorem dec_bl {i j : Bool} : decide (V.bl i = V.bl j) = (i == j) := by
  rw [Bool.eq_iff_iff]
  simp
theorem dec_str {i j : Str} : decide (V.str i = V.str j) = (i == j) := by
  rw [Bool.eq_iff_iff]
  simp
theorem dec_byt {i j : Array UInt8} : decide (V.byt i = V.byt j) = (i.toList == j.toList) := by
  rw [Bool.eq_iff_iff]
  cases i
  cases j
  simp

section
variable {X : Cx} {a b c : Expr} {ta tb tc : TE} {pos : Pos}
theorem fin_bl {pins : List (Addr × Obj)} {σ : St} {H : Hp} {s : Shared} {Q : VK} {k k' : Bool} (I : Inv X pins σ H s) (q : Q (.bl k) H) (e : k = k') : EP X pins σ Q (.bool k') s := by
  subst e
  exact ⟨.bl k, H, I, rfl, q⟩
theorem op_eq : OpR X (compareOp .Eq) rEq := by
  intro pins s σ H x y v u Q I rx ry h
  obtain ⟨hs, q⟩ := h
  cases x with
  | non =>
    cases rx
    cases y with
    | non => cases ry; exact PySem.EqNone.eq_none_none (fin_bl I q (by simp))
    | bl j => cases ry; exact PySem.EqNone.eq_none_bool (fin_bl I q (by simp))
    | int j => obtain ⟨t', rfl⟩ := ry; exact PySem.EqNone.eq_none_int (fin_bl I q (by simp))
    | str j => obtain ⟨t', rfl⟩ := ry; exact PySem.EqNone.eq_none_str (fin_bl I q (by simp))
    | _ => exact absurd (show false = true from hs) Bool.false_ne_true
  | bl i =>
    cases rx
    cases y with
    | non => cases ry; exact PySem.EqNone.eq_bool_none (fin_bl I q (by simp))
    | bl j => cases ry; exact eq_bool (fin_bl I q dec_bl)
    | str j => obtain ⟨t', rfl⟩ := ry; exact PySem.EqMixed.eq_bool_str (fin_bl I q (by simp))
    | _ => exact absurd (show false = true from hs) Bool.false_ne_true
  | int i =>
    obtain ⟨t, rfl⟩ := rx
    cases y with
    | non => cases ry; exact PySem.EqNone.eq_int_none (fin_bl I q (by simp))
    | int j => obtain ⟨t', rfl⟩ := ry; exact eq_int (fin_bl I q dec_int)
    | str j => obtain ⟨t', rfl⟩ := ry; exact PySem.EqMixed.eq_int_str (fin_bl I q (by simp))
    | _ => exact absurd (show false = true from hs) Bool.false_ne_true
  | str i =>
    obtain ⟨t, rfl⟩ := rx
    cases y with
    | non => cases ry; exact PySem.EqNone.eq_str_none (fin_bl I q (by simp))
    | bl j => cases ry; exact PySem.EqMixed.eq_str_bool (fin_bl I q (by simp))
    | int j => obtain ⟨t', rfl⟩ := ry; exact PySem.EqMixed.eq_str_int (fin_bl I q (by simp))
    | str j => obtain ⟨t', rfl⟩ := ry; exact eq_str (fin_bl I q dec_str)
    | _ => exact absurd (show false = true from hs) Bool.false_ne_true
  | byt i =>
    obtain ⟨t, rfl⟩ := rx
    cases y with
    | byt j => obtain ⟨t', rfl⟩ := ry; exact PySem.W.eq_bytes (fin_bl I q dec_byt)
    | _ => exact absurd (show false = true from hs) Bool.false_ne_true
  | _ => cases y <;> exact absurd (show false = true from hs) Bool.false_ne_true
theorem op_ne : OpR X (compareOp .NotEq) rNe := by
  intro pins s σ H x y v u Q I rx ry h
  obtain ⟨hs, q⟩ := h
  cases x with
  | non =>
    cases rx
    cases y with
    | non => cases ry; exact PySem.EqNone.ne_none_none (fin_bl I q (by simp))
    | bl j => cases ry; exact PySem.EqNone.ne_none_bool (fin_bl I q (by simp))
    | int j => obtain ⟨t', rfl⟩ := ry; exact PySem.EqNone.ne_none_int (fin_bl I q (by simp))
    | str j => obtain ⟨t', rfl⟩ := ry; exact PySem.EqNone.ne_none_str (fin_bl I q (by simp))
    | _ => exact absurd (show false = true from hs) Bool.false_ne_true
  | bl i =>
    cases rx
    cases y with
    | non => cases ry; exact PySem.EqNone.ne_bool_none (fin_bl I q (by simp))
    | bl j => cases ry; exact ne_bool (fin_bl I q (congrArg not dec_bl))
    | str j => obtain ⟨t', rfl⟩ := ry; exact PySem.EqMixed.ne_bool_str (fin_bl I q (by simp))
    | _ => exact absurd (show false = true from hs) Bool.false_ne_true
  | int i =>
    obtain ⟨t, rfl⟩ := rx
    cases y with
    | non => cases ry; exact PySem.EqNone.ne_int_none (fin_bl I q (by simp))
    | int j => obtain ⟨t', rfl⟩ := ry; exact ne_int (fin_bl I q (congrArg not dec_int))
    | str j => obtain ⟨t', rfl⟩ := ry; exact PySem.EqMixed.ne_int_str (fin_bl I q (by simp))
    | _ => exact absurd (show false = true from hs) Bool.false_ne_true
  | str i =>
    obtain ⟨t, rfl⟩ := rx
    cases y with
    | non => cases ry; exact PySem.EqNone.ne_str_none (fin_bl I q (by simp))
    | bl j => cases ry; exact PySem.EqMixed.ne_str_bool (fin_bl I q (by simp))
    | int j => obtain ⟨t', rfl⟩ := ry; exact PySem.EqMixed.ne_str_int (fin_bl I q (by simp))
    | str j => obtain ⟨t', rfl⟩ := ry; exact ne_str (fin_bl I q (congrArg not dec_str))
    | _ => exact absurd (show false = true from hs) Bool.false_ne_true
  | byt i =>
    obtain ⟨t, rfl⟩ := rx
    cases y with
    | byt j => obtain ⟨t', rfl⟩ := ry; exact PySem.W.ne_bytes (fin_bl I q (congrArg not dec_byt))
    | _ => exact absurd (show false = true from hs) Bool.false_ne_true
  | _ => cases y <;> exact absurd (show false = true from hs) Bool.false_ne_true

theorem op_lt : OpR X (compareOp .Lt) (rI0 fun i j => .bl (decide (i < j))) := opB0 fun _ _ _ _ _ _ _ q => lt_int q
theorem op_le : OpR X (compareOp .LtE) (rI0 fun i j => .bl (decide (i ≤ j))) := opB0 fun _ _ _ _ _ _ _ q => le_int q
theorem op_gt : OpR X (compareOp .Gt) (rI0 fun i j => .bl (decide (j < i))) := opB0 fun _ _ _ _ _ _ _ q => gt_int q
theorem op_ge : OpR X (compareOp .GtE) (rI0 fun i j => .bl (decide (j ≤ i))) := opB0 fun _ _ _ _ _ _ _ q => ge_int q
theorem op_lt_str : OpR X (compareOp .Lt) (fun x y H Q => ∃ i j, x = .str i ∧ y = .str j ∧ Q (.bl (decide (i.cps.toList < j.cps.toList))) H) := by
  intro pins s σ H x y v u Q I rx ry h
  obtain ⟨i, j, rfl, rfl, q⟩ := h
  obtain ⟨t, rfl⟩ := rx
  obtain ⟨t', rfl⟩ := ry
  exact lt_str (fin_bl I q rfl)
/-- the one string within the other -/
theorem op_in_str : OpR X (compareOp .In) (fun x y H Q => ∃ i j, x = .str i ∧ y = .str j ∧ Q (.bl (!(Builtin.Str.occurrences j i 0 j.length 1).isEmpty)) H) := by
  intro pins s σ H x y v u Q I rx ry h
  obtain ⟨i, j, rfl, rfl, q⟩ := h
  obtain ⟨t, rfl⟩ := rx
  obtain ⟨t', rfl⟩ := ry
  exact in_str (fin_bl I q rfl)

/-- is None, is not None: the right side a value none -/
theorem op_isN : OpR X (compareOp .Is) (fun x y H Q => y = .non ∧ Q (.bl (decide (x = .non))) H) := by
  intro pins s σ H x y v u Q I rx ry h
  obtain ⟨rfl, q⟩ := h
  cases ry
  refine is_none_gen (fin_bl I q ?_)
  cases x <;> first
    | (cases rx; rfl)
    | (obtain ⟨t, rfl⟩ := rx; rfl)
theorem op_notN : OpR X (compareOp .IsNot) (fun x y H Q => y = .non ∧ Q (.bl (!decide (x = .non))) H) := by
  intro pins s σ H x y v u Q I rx ry h
  obtain ⟨rfl, q⟩ := h
  cases ry
  refine isnot_none_gen (fin_bl I q ?_)
  cases x <;> first
    | (cases rx; rfl)
    | (obtain ⟨t, rfl⟩ := rx; rfl)

theorem op_notin_str : OpR X (compareOp .NotIn) (fun x y H Q => ∃ i j, x = .str i ∧ y = .str j ∧ Q (.bl (!(!(Builtin.Str.occurrences j i 0 j.length 1).isEmpty))) H) := by
  intro pins s σ H x y v u Q I rx ry h
  obtain ⟨i, j, rfl, rfl, q⟩ := h
  obtain ⟨t, rfl⟩ := rx
  obtain ⟨t', rfl⟩ := ry
  exact notIn_str (fin_bl I q rfl)
/-- is, is not of two objects that are tracked lists or instances -/
def isObj : HO → Bool
  | .lst _ => true
  | .ins _ _ _ => true
  | _ => false
theorem obj_there {pins : List (Addr × Obj)} {s : Shared} {σ : St} {H : Hp} {a : Addr} {o : HO} (I : Inv X pins σ H s) (h : H a = some o) (p : isObj o = true) : ∃ ob, s.heap.get? a = some ob ∧ ob.cls ≠ .type "tuple" := by
  cases o with
  | lst xs =>
    obtain ⟨_, its, n, _, e⟩ : xs.length ≤ sizeLine ∧ ∃ (its : List Value) (n : Nat), Vals xs its ∧ s.heap.get? a = some { cls := .type "list", data := .seq its.toArray n } := I.hok a _ h
    exact ⟨_, e, (by show Value.type "list" ≠ .type "tuple"; decide +kernel)⟩
  | ins C dx fs =>
    have x := I.hok a _ h
    obtain ⟨_, _, _, e, _⟩ := x
    exact ⟨_, e, (by show Value.ref C ≠ .type "tuple"; exact fun z => by cases z)⟩
  | _ => exact absurd (show false = true from p) Bool.false_ne_true
theorem op_is_ref : OpR X (compareOp .Is) (fun x y H Q => ∃ a b oa ob, x = .ref a ∧ y = .ref b ∧ H a = some oa ∧ isObj oa = true ∧ H b = some ob ∧ isObj ob = true ∧ Q (.bl (decide (a = b))) H) := by
  intro pins s σ H x y v u Q I rx ry h
  obtain ⟨a, b, oa, ob, rfl, rfl, ha, pa, hb, pb, q⟩ := h
  cases rx
  cases ry
  obtain ⟨o1, e1, n1⟩ := obj_there I ha pa
  obtain ⟨o2, e2, _⟩ := obj_there I hb pb
  by_cases z : a = b
  · subst z
    exact wpAny_is_ref_self (fin_bl I q (by simp))
  · exact wpAny_is_ref_other z e1 e2 n1 (fin_bl I q (by simp [z]))
theorem op_isnot_ref : OpR X (compareOp .IsNot) (fun x y H Q => ∃ a b oa ob, x = .ref a ∧ y = .ref b ∧ H a = some oa ∧ isObj oa = true ∧ H b = some ob ∧ isObj ob = true ∧ Q (.bl (!decide (a = b))) H) := by
  intro pins s σ H x y v u Q I rx ry h
  obtain ⟨a, b, oa, ob, rfl, rfl, ha, pa, hb, pb, q⟩ := h
  cases rx
  cases ry
  obtain ⟨o1, e1, n1⟩ := obj_there I ha pa
  obtain ⟨o2, e2, _⟩ := obj_there I hb pb
  by_cases z : a = b
  · subst z
    exact wpAny_isNot_ref_self (fin_bl I q (by simp))
  · exact wpAny_isNot_ref_other z e1 e2 n1 (fin_bl I q (by simp [z]))

/-- two rules for one operation: by cases -/
theorem OpR.or {f : Value → Value → Sem Value} {r r' : R2} (h : OpR X f r) (h' : OpR X f r') : OpR X f (fun x y H Q => r x y H Q ∨ r' x y H Q) := by
  intro pins s σ H x y v u Q I rx ry q
  rcases q with q | q
  · exact h pins s σ H x y v u Q I rx ry q
  · exact h' pins s σ H x y v u Q I rx ry q

theorem nomark (b : Expr) {op : CmpOp} (h : op ≠ .In := by decide) (h2 : op ≠ .NotIn := by decide) : behindInMarks op b = false := by
  have e1 : (op == CmpOp.In) = false := by cases op <;> first | rfl | exact absurd rfl h
  have e2 : (op == CmpOp.NotIn) = false := by cases op <;> first | rfl | exact absurd rfl h2
  cases b <;> simp [behindInMarks, e1, e2]
/-- a comparison as a value; hm: nomark b, or (for in, not in) by with_unfolding_all rfl -/
theorem pe_cmpR {op : CmpOp} {r : R2} (ho : OpR X (compareOp op) r) (ha : PE X a ta) (hb : PE X b tb) (hm : behindInMarks op b = false) : PE X (.Compare a [op] [b] pos) (tOp r ta tb) := by
  intro pins s σ H Q I h
  exact wpAny_Compare1 (binT ha hb I h fun v u s2 x y H2 I2 rx ry q => ho pins s2 σ H2 x y v u Q I2 rx ry q) hm
/-- a reading of a value as a test -/
def tTest (t : TE) : TT := fun σ H Q => t σ H fun x H' => ∃ k, x = .bl k ∧ Q k H'
theorem pt_cmpR {op : CmpOp} {r : R2} (ho : OpR X (compareOp op) r) (ha : PE X a ta) (hb : PE X b tb) (hm : behindInMarks op b = false) : PT X (.Compare a [op] [b] pos) (tTest (tOp r ta tb)) := by
  intro pins s σ H Q I h
  refine wpAny_isTrue_Compare1 (thn (ha pins s σ H _ I h) fun v s1 ⟨x, H1, I1, r1, q1⟩ => thn (hb pins s1 σ H1 _ I1 q1) fun u s2 ⟨y, H2, I2, r2, q2⟩ =>
    thn (ho pins s2 σ H2 x y v u _ I2 r1 r2 q2) fun c s3 ⟨z, H3, I3, r3, k, e, q3⟩ => ?_) hm
  subst e
  cases r3
  exact wpAny_truthy_bool ⟨H3, I3, q3⟩
/-- a op1 b op2 c -/
def tChain (r r' : R2) (ta tb tc : TE) : TE := fun σ H Q => ta σ H fun x H1 => tb σ H1 fun y H2 => r x y H2 fun z H3 => ∃ k, z = .bl k ∧
  (if k = true then tc σ H3 fun w' H4 => r' y w' H4 Q else Q (.bl false) H3)
theorem pe_chain {op op' : CmpOp} {r r' : R2} (ho : OpR X (compareOp op) r) (ho' : OpR X (compareOp op') r') (ha : PE X a ta) (hb : PE X b tb) (hc : PE X c tc)
    (hm : lastMarks [op, op'] [b, c] = false := by with_unfolding_all rfl) : PE X (.Compare a [op, op'] [b, c] pos) (tChain r r' ta tb tc) := by
  intro pins s σ H Q I h
  refine Compare_chain (thn (ha pins s σ H _ I h) fun v s1 ⟨x, H1, I1, r1, q1⟩ => chain_link (thn (hb pins s1 σ H1 _ I1 q1) fun u s2 ⟨y, H2, I2, r2, q2⟩ =>
    thn (ho pins s2 σ H2 x y v u _ I2 r1 r2 q2) fun d s3 ⟨z, H3, I3, r3, k, e, q3⟩ => ?_)) hm
  subst e
  cases r3
  refine wpAny_truthy_bool ?_
  cases k with
  | false => exact ite_ff ⟨.bl false, H3, I3, rfl, q3⟩
  | true => exact ite_tt (chain_last (thn (hc pins s3 σ H3 _ I3 q3) fun w' s4 ⟨z', H4, I4, r4, q4⟩ => ho' pins s4 σ H4 y z' u w' Q I4 r2 r4 q4))
theorem pt_chain {op op' : CmpOp} {r r' : R2} (ho : OpR X (compareOp op) r) (ho' : OpR X (compareOp op') r') (ha : PE X a ta) (hb : PE X b tb) (hc : PE X c tc)
    (hm : lastMarks [op, op'] [b, c] = false := by with_unfolding_all rfl) : PT X (.Compare a [op, op'] [b, c] pos) (tTest (tChain r r' ta tb tc)) := by
  intro pins s σ H Q I h
  refine isTrue_chain (thn (ha pins s σ H _ I h) fun v s1 ⟨x, H1, I1, r1, q1⟩ => test_link (thn (hb pins s1 σ H1 _ I1 q1) fun u s2 ⟨y, H2, I2, r2, q2⟩ =>
    thn (ho pins s2 σ H2 x y v u _ I2 r1 r2 q2) fun d s3 ⟨z, H3, I3, r3, k, e, q3⟩ => ?_)) hm
  subst e
  cases r3
  refine wpAny_truthy_bool ?_
  cases k with
  | false =>
    obtain ⟨k', e', q'⟩ := q3
    cases e'
    exact ite_ff ⟨H3, I3, q'⟩
  | true =>
    refine ite_tt (test_last (thn (hc pins s3 σ H3 _ I3 q3) fun w' s4 ⟨z', H4, I4, r4, q4⟩ => thn (ho' pins s4 σ H4 y z' u w' _ I4 r2 r4 q4) fun d' s5 ⟨z2, H5, I5, r5, k2, e2, q5⟩ => ?_))
    subst e2
    cases r5
    exact wpAny_truthy_bool ⟨H5, I5, q5⟩

/-! ### truth -/
/-- a value's truth by the abstract heap -/
def TruV (K : PySem.W.Frag) (x : V) (H : Hp) (k : Bool) : Prop :=
  match x with
  | .non => k = false
  | .bl b => k = b
  | .int i => k = (i != 0)
  | .str y => y.length ≤ sizeLine ∧ k = ((y.length : Int) != 0)
  | .byt y => y.size ≤ sizeLine ∧ k = ((y.size : Int) != 0)
  | .ref p => (∃ xs, SqL K H p xs ∧ k = !xs.isEmpty) ∨ (∃ xs, SqT K H p xs ∧ k = !xs.isEmpty) ∨ ∃ kvs, H p = some (.dK kvs) ∧ k = !kvs.isEmpty
  | _ => False
theorem isEmpty_kv {κ : Type} {kvs : List (κ × V)} {vs : List (κ × Value)} (r : KV kvs vs) : (!vs.isEmpty) = !kvs.isEmpty := by
  cases r <;> rfl
theorem isEmpty_of {xs : List V} {its : List Value} (r : Vals xs its) : (!its.toArray.isEmpty) = !xs.isEmpty := by
  cases r <;> simp
theorem line63 : (sizeLine : Nat) < 2 ^ 63 := by rw [sizeLine_eq]; decide
theorem tru_ok : TruR X (fun x H Q => ∃ k, TruV X.K x H k ∧ Q k H) := by
  intro pins s σ H x v Q I rx h
  obtain ⟨k, e, q⟩ := h
  have hl := line63
  have hs : sizeLine = 16777216 := sizeLine_eq
  cases x with
  | non =>
    cases rx
    have e' : k = false := e
    subst e'
    exact truthy_none ⟨H, I, q⟩
  | bl b =>
    cases rx
    have e' : k = b := e
    subst e'
    exact wpAny_truthy_bool ⟨H, I, q⟩
  | int i =>
    obtain ⟨t, rfl⟩ := rx
    have e' : k = (i != 0) := e
    subst e'
    exact PySem.P.truthy_int ⟨H, I, q⟩
  | str y =>
    obtain ⟨t, rfl⟩ := rx
    obtain ⟨hy, e'⟩ : y.length ≤ sizeLine ∧ k = ((y.length : Int) != 0) := e
    subst e'
    exact PySem.P.truthy_str (by omega) ⟨H, I.tok _, q⟩
  | byt y =>
    obtain ⟨t, rfl⟩ := rx
    obtain ⟨hy, e'⟩ : y.size ≤ sizeLine ∧ k = ((y.size : Int) != 0) := e
    subst e'
    exact PySem.W.truthy_bytes (by omega) ⟨H, I.tok _, q⟩
  | ref p =>
    cases rx
    have e' : (∃ xs, SqL X.K H p xs ∧ k = !xs.isEmpty) ∨ (∃ xs, SqT X.K H p xs ∧ k = !xs.isEmpty) ∨ ∃ kvs, H p = some (.dK kvs) ∧ k = !kvs.isEmpty := e
    rcases e' with ⟨xs, hx, e'⟩ | ⟨xs, hx, e'⟩ | ⟨kvs, hx, e'⟩
    · subst e'
      obtain ⟨its, r, pl, hz⟩ := I.list hx
      have hlen := r.length
      exact wpAny_truthy_list pl.isList (by simp only [List.size_toArray]; omega) ⟨H, I.tok _, by rw [isEmpty_of r]; exact q⟩
    · subst e'
      obtain ⟨its, r, pl, hz⟩ := I.tuple hx
      have hlen := r.length
      exact truthy_tuple pl (by simp only [List.size_toArray]; omega) ⟨H, I.tok _, by rw [isEmpty_of r]; exact q⟩
    · subst e'
      obtain ⟨hz, hS, vs, r, m⟩ : kvs.length ≤ sizeLine ∧ (p == sysModules) = false ∧ ∃ vs, KV kvs vs ∧ s.heap.DictOf (mixKind X.prog X.w) p vs := I.hok p _ hx
      have hlen : kvs.length = vs.length := Paired.length r
      exact wpAny_truthy_dict hS m (by omega) ⟨H, I.tok _, by rw [isEmpty_kv r]; exact q⟩
  | _ => exact (show False from e).elim
/-- any expression whose test is its value's truth (a name, a call, a subscript, a field ..: he by fun _ => rfl) -/
theorem pt_truth (ha : PE X a ta) (he : ∀ whole, isTrue a X.env whole = (do let v ← whole; standAt a.pos; holding [v] (truthy v))) :
    PT X a (fun σ H Q => ta σ H fun x H' => ∃ k, TruV X.K x H' k ∧ Q k H') := by
  intro pins s σ H Q I h
  exact isTrue_plain (thn (ha pins s σ H _ I h) fun v s1 ⟨x, H1, I1, r1, q1⟩ => tru_ok pins s1 σ H1 x v Q I1 r1 q1) (he _)

/-! ### strs and bytes -/
theorem pe_byt {x : List UInt8} {k : Nat} : PE X (.Constant (.bytes x) k pos) (fun _ H Q => Q (.byt x.toArray) H) := fun _ _ _ H _ I h => PySem.W.Constant_bytes ⟨.byt x.toArray, H, I.tok _, ⟨_, rfl⟩, h⟩
theorem op_add_str : OpR X (binaryOp .Add) (fun x y H Q => ∃ i j, x = .str i ∧ y = .str j ∧ i.length + j.length ≤ sizeLine ∧ Q (.str (i ++ j)) H) := by
  intro pins s σ H x y v u Q I rx ry h
  obtain ⟨i, j, rfl, rfl, hz, q⟩ := h
  obtain ⟨t, rfl⟩ := rx
  obtain ⟨t', rfl⟩ := ry
  exact add_str (fun t' tk => ⟨.str (i ++ j), H, I.tok _, ⟨_, rfl⟩, q⟩) hz
theorem iop_add_str : OpR X (inplaceOp .Add) (fun x y H Q => ∃ i j, x = .str i ∧ y = .str j ∧ i.length + j.length ≤ sizeLine ∧ Q (.str (i ++ j)) H) := by
  intro pins s σ H x y v u Q I rx ry h
  obtain ⟨i, j, rfl, rfl, hz, q⟩ := h
  obtain ⟨t, rfl⟩ := rx
  obtain ⟨t', rfl⟩ := ry
  exact iadd_str (fun t' tk => ⟨.str (i ++ j), H, I.tok _, ⟨_, rfl⟩, q⟩) hz
theorem op_add_byt : OpR X (binaryOp .Add) (fun x y H Q => ∃ i j, x = .byt i ∧ y = .byt j ∧ i.size + j.size ≤ 16777216 ∧ Q (.byt (i ++ j)) H) := by
  intro pins s σ H x y v u Q I rx ry h
  obtain ⟨i, j, rfl, rfl, hz, q⟩ := h
  obtain ⟨t, rfl⟩ := rx
  obtain ⟨t', rfl⟩ := ry
  exact PySem.W.KBy.add_bytes hz (fun t' tk => ⟨.byt (i ++ j), H, I.tok _, ⟨_, rfl⟩, q⟩)

def PlainIxT (b : Expr) : Prop := ∀ o i, subscripted b false o i = operate [o, i] (getItem o i)
/-- s[i], 0 ≤ i < len -/
theorem pe_item_str (ha : PE X a ta) (hb : PE X b tb) (hs : PlainIxT b) :
    PE X (.Subscript a b pos) (tOp (fun x y H Q => ∃ z i c, x = .str z ∧ y = .int i ∧ 0 ≤ i ∧ i < 2 ^ 63 ∧ i < z.length ∧ z.cps[i.toNat]? = some c ∧ Q (.str ⟨#[c]⟩) H) ta tb) := by
  intro pins s σ H Q I h
  refine Subscript_ (binT ha hb I h fun v u s2 x y H2 I2 rx ry q => ?_)
  obtain ⟨z, i, c, rfl, rfl, h0, h63, h1, hc, q⟩ := q
  obtain ⟨t, rfl⟩ := rx
  obtain ⟨t', rfl⟩ := ry
  have e : seqIndex? i z.length = some i.toNat := PySem.StrLaws.seqIndex_nonneg h0 h1
  exact tail_any (typeIs_str s2 z t) slot_str_getitem.lookup (getItem_str (c := c) (by
    have e1 : decide (i < -(2 ^ 63 : Int)) = false := decide_eq_false (by omega)
    have e2 : decide (i ≥ 2 ^ 63) = false := decide_eq_false (by omega)
    rw [e1, e2] <;> rfl) (by rw [e]; exact hc) ⟨.str ⟨#[c]⟩, H2, I2.tok _, ⟨_, rfl⟩, q⟩) (hs _ _)
/-- b[i], 0 ≤ i < len -/
theorem pe_item_byt (ha : PE X a ta) (hb : PE X b tb) (hs : PlainIxT b) :
    PE X (.Subscript a b pos) (tOp (fun x y H Q => ∃ (z : List UInt8) (i : Int), x = .byt z.toArray ∧ y = .int i ∧ z.length ≤ sizeLine ∧ 0 ≤ i ∧ i < z.length ∧ Q (.int ((z.getD i.toNat 0).toNat : Nat)) H) ta tb) := by
  intro pins s σ H Q I h
  refine Subscript_ (binT ha hb I h fun v u s2 x y H2 I2 rx ry q => ?_)
  obtain ⟨z, i, rfl, rfl, hz, h0, h1, q⟩ := q
  obtain ⟨t, rfl⟩ := rx
  obtain ⟨t', rfl⟩ := ry
  have hl : sizeLine = 16777216 := sizeLine_eq
  exact tail_any (PySem.W.typeIs_bytes s2 z.toArray t) PySem.W.FB.slot_bytes_getitem.lookup (PySem.W.getItem_bytes (by omega) h0 h1 ⟨.int ((z.getD i.toNat 0).toNat : Nat), H2, I2.tok _, ⟨_, rfl⟩, q⟩) (hs _ _)

/-! ### scalar builtins, by CallR -/
theorem vals1 {x : V} {us : List Value} (r : Vals [x] us) : ∃ u, us = [u] ∧ RelV x u := by
  cases r with
  | cons r1 r2 => cases r2; exact ⟨_, rfl, r1⟩
theorem vals2 {x y : V} {us : List Value} (r : Vals [x, y] us) : ∃ u w', us = [u, w'] ∧ RelV x u ∧ RelV y w' := by
  cases r with
  | cons r1 r2 =>
    cases r2 with
    | cons r3 r4 => cases r4; exact ⟨_, _, rfl, r1, r3⟩
theorem call_abs : CallR X (.builtin "abs") (fun xs H Q => ∃ i, xs = [.int i] ∧ Q (.int (if i < 0 then -i else i)) H) := by
  intro pins s σ H xs us Q I r h
  obtain ⟨i, rfl, q⟩ := h
  obtain ⟨u, rfl, t, rfl⟩ := vals1 r
  exact call_abs_int fun u tk => ⟨.int (if i < 0 then -i else i), H, I.tok _, ⟨_, rfl⟩, q⟩
theorem call_max2 (hc : X.calm = true) : CallR X (.builtin "max") (fun xs H Q => ∃ i j, xs = [.int i, .int j] ∧ Q (.int (if j > i then j else i)) H) := by
  intro pins s σ H xs us Q I r h
  obtain ⟨i, j, rfl, q⟩ := h
  obtain ⟨u, w', rfl, ⟨t, rfl⟩, ⟨t', rfl⟩⟩ := vals2 r
  refine max_two_ints (I.ok.hd hc) fun h' tk k => ⟨_, H, I.kept k, ?_, q⟩
  by_cases hj : j > i
  · rw [if_pos hj, if_pos hj]; exact ⟨_, rfl⟩
  · rw [if_neg hj, if_neg hj]; exact ⟨_, rfl⟩
theorem call_min2 (hc : X.calm = true) : CallR X (.builtin "min") (fun xs H Q => ∃ i j, xs = [.int i, .int j] ∧ Q (.int (if j < i then j else i)) H) := by
  intro pins s σ H xs us Q I r h
  obtain ⟨i, j, rfl, q⟩ := h
  obtain ⟨u, w', rfl, ⟨t, rfl⟩, ⟨t', rfl⟩⟩ := vals2 r
  refine min_two_ints (I.ok.hd hc) fun h' tk k => ⟨_, H, I.kept k, ?_, q⟩
  by_cases hj : j < i
  · rw [if_pos hj, if_pos hj]; exact ⟨_, rfl⟩
  · rw [if_neg hj, if_neg hj]; exact ⟨_, rfl⟩
theorem call_int1 : CallR X (.type "int") (fun xs H Q => (∃ i, xs = [.int i] ∧ Q (.int i) H) ∨ ∃ k, xs = [.bl k] ∧ Q (.int (if k then 1 else 0)) H) := by
  intro pins s σ H xs us Q I r h
  rcases h with ⟨i, rfl, q⟩ | ⟨k, rfl, q⟩
  · obtain ⟨u, rfl, t, rfl⟩ := vals1 r
    exact call_int_int ⟨.int i, H, I, ⟨_, rfl⟩, q⟩
  · obtain ⟨u, rfl, r1⟩ := vals1 r
    cases r1
    exact call_int_bool ⟨.int (if k then 1 else 0), H, I.tok _, ⟨_, rfl⟩, q⟩
theorem call_bool1 : CallR X (.type "bool") (fun xs H Q => (∃ i, xs = [.int i] ∧ Q (.bl (i != 0)) H) ∨ ∃ k, xs = [.bl k] ∧ Q (.bl k) H) := by
  intro pins s σ H xs us Q I r h
  rcases h with ⟨i, rfl, q⟩ | ⟨k, rfl, q⟩
  · obtain ⟨u, rfl, t, rfl⟩ := vals1 r
    exact call_bool_int ⟨.bl (i != 0), H, I, rfl, q⟩
  · obtain ⟨u, rfl, r1⟩ := vals1 r
    cases r1
    exact call_bool_bool ⟨.bl k, H, I, rfl, q⟩
theorem call_str_int : CallR X (.type "str") (fun xs H Q => ∃ i, xs = [.int i] ∧ i.natAbs.log2 < 1920 ∧ Q (.str (toString i)) H) := by
  intro pins s σ H xs us Q I r h
  obtain ⟨i, rfl, hz, q⟩ := h
  obtain ⟨u, rfl, t, rfl⟩ := vals1 r
  exact PySem.P.str_of_int hz ⟨.str _, H, I.tok _, ⟨_, rfl⟩, q⟩
theorem call_ord : CallR X (.builtin "ord") (fun xs H Q => ∃ x, xs = [.str x] ∧ x.length = 1 ∧ Q (.int (x.cps.getD 0 0 : Nat)) H) := by
  intro pins s σ H xs us Q I r h
  obtain ⟨x, rfl, hz, q⟩ := h
  obtain ⟨u, rfl, t, rfl⟩ := vals1 r
  exact ord_of_one hz ⟨.int _, H, I.tok _, ⟨_, rfl⟩, q⟩
theorem call_chr : CallR X (.builtin "chr") (fun xs H Q => ∃ i, xs = [.int i] ∧ 0 ≤ i ∧ i ≤ 1114111 ∧ Q (.str ⟨#[i.toNat]⟩) H) := by
  intro pins s σ H xs us Q I r h
  obtain ⟨i, rfl, h0, h1, q⟩ := h
  obtain ⟨u, rfl, t, rfl⟩ := vals1 r
  exact chr_of_range h0 h1 ⟨.str _, H, I.tok _, ⟨_, rfl⟩, q⟩
/-- len of a str, a bytes, a list, a tuple -/
def LenV (K : PySem.W.Frag) (x : V) (H : Hp) (n : Nat) : Prop :=
  match x with
  | .str y => y.length ≤ sizeLine ∧ n = y.length
  | .byt y => y.size ≤ sizeLine ∧ n = y.size
  | .ref p => (∃ xs, SqL K H p xs ∧ n = xs.length) ∨ ∃ xs, SqT K H p xs ∧ n = xs.length
  | _ => False
theorem call_len : CallR X (.builtin "len") (fun xs H Q => ∃ x n, xs = [x] ∧ LenV X.K x H n ∧ Q (.int n) H) := by
  intro pins s σ H xs us Q I r h
  obtain ⟨x, n, rfl, e, q⟩ := h
  obtain ⟨u, rfl, rx⟩ := vals1 r
  have hl := line63
  have hs : sizeLine = 16777216 := sizeLine_eq
  cases x with
  | str y =>
    obtain ⟨t, rfl⟩ := rx
    obtain ⟨hy, e'⟩ : y.length ≤ sizeLine ∧ n = y.length := e
    subst e'
    exact len_str (by omega) ⟨.int _, H, I.tok _, ⟨_, rfl⟩, q⟩
  | byt y =>
    obtain ⟨t, rfl⟩ := rx
    obtain ⟨hy, e'⟩ : y.size ≤ sizeLine ∧ n = y.size := e
    subst e'
    exact PySem.W.len_bytes (by omega) ⟨.int _, H, I.tok _, ⟨_, rfl⟩, q⟩
  | ref p =>
    cases rx
    have e' : (∃ xs, SqL X.K H p xs ∧ n = xs.length) ∨ ∃ xs, SqT X.K H p xs ∧ n = xs.length := e
    rcases e' with ⟨xs, hx, e'⟩ | ⟨xs, hx, e'⟩
    · subst e'
      obtain ⟨its, r', pl, hz⟩ := I.list hx
      have hlen := r'.length
      exact Calls.call_len_list pl.isList (by simp only [List.size_toArray]; omega) ⟨.int xs.length, H, I.tok _, ⟨_, by simp only [List.size_toArray]; rw [hlen]⟩, q⟩
    · subst e'
      obtain ⟨its, r', pl, hz⟩ := I.tuple hx
      have hlen := r'.length
      exact len_tuple pl (by simp only [List.size_toArray]; omega) ⟨.int xs.length, H, I.tok _, ⟨_, by simp only [List.size_toArray]; rw [hlen]⟩, q⟩
  | _ => exact (show False from e).elim
/-- divmod: a new tuple -/
theorem call_divmod : CallR X (.builtin "divmod") (fun xs H Q => ∃ i j, xs = [.int i, .int j] ∧ CDiv i j ∧ ∀ p, H p = none → Q (.ref p) (upd H p (.tup [.int (i / j), .int (i % j)]))) := by
  intro pins s σ H xs us Q I r h
  obtain ⟨i, j, rfl, ⟨h1, h2⟩, q⟩ := h
  obtain ⟨u, w', rfl, ⟨t, rfl⟩, ⟨t', rfl⟩⟩ := vals2 r
  refine divmod_int (by omega) ?_ (.inl (PyProof.noPylong_small (by omega)))
  rw [Int.fdiv_eq_ediv_of_nonneg i (by omega), Int.fmod_eq_emod_of_nonneg i (by omega)]
  have hn : H s.heap.objs.size = none := I.hok.fresh (Nat.le_refl _)
  refine ⟨.ref s.heap.objs.size, _, ?_, rfl, q _ hn⟩
  refine I.laid (fun b o e => Heap.get?_push_of_some _ e) (Nat.le_refl _) ⟨by simp only [List.length_cons, List.length_nil]; rw [sizeLine_eq]; decide, [.int (i / j) s.toks, .int (i % j) (s.toks + 1)], .cons ⟨_, rfl⟩ (.cons ⟨_, rfl⟩ .nil), ?_⟩
  exact ⟨_, Heap.get?_push_size s.heap rfl, rfl, 0, rfl⟩
end
end L2

namespace L2
open PySem PySem.Spec PyProof.Rows

/-! ### an instance, its attributes a map -/
structure ObjM (h : Heap) (x dx C : Addr) (mA : Str → Option Value) : Prop where
  obj : h.get? x = some (PySem.W.instObj C dx)
  ns : h.Ns1 dx mA
  ne : dx ≠ x

theorem lookIn_ns {h : Heap} {dx : Addr} {mA : Str → Option Value} (n : h.Ns1 dx mA) : ∃ od, h.get? dx = some od ∧ ∀ name, PySem.W.lookIn name od = some (mA name) := by
  obtain ⟨o, es, ep, ho, hd, hk, _, hm⟩ := n
  refine ⟨o, ho, fun name => ?_⟩
  have e := hm name
  unfold nsFind findBy at e
  rw [← Array.find?_toList] at e
  unfold PySem.W.lookIn
  rw [hd]
  dsimp only
  split
  · rename_i y q
    rw [q] at e
    exact congrArg some e
  · rename_i q
    rw [q] at e
    have a : es.toList.any (·.refKey) = false := by
      rw [List.any_eq_false]
      intro y hy
      obtain ⟨z, t, hkey⟩ := hk y (Array.mem_toList_iff.mp hy)
      simp [DictEntry.refKey, hkey]
    have a' : ¬ es.toList.any (·.refKey) = true := by rw [a]; exact Bool.false_ne_true
    rw [if_neg a']
    exact congrArg some e

theorem ObjM.look {h : Heap} {x dx C : Addr} {mA : Str → Option Value} (I : ObjM h x dx C mA) : ∃ od, PySem.W.InstAt h x (PySem.W.instObj C dx) C (some od) ∧ ∀ name, PySem.W.lookIn name od = some (mA name) :=
  let ⟨od, ho, hl⟩ := lookIn_ns I.ns
  ⟨od, ⟨I.obj, rfl, rfl, ho⟩, hl⟩

section
variable {prog : Program} {w : World} {A : Around} {E : Value → Shared → Prop} {s : Shared} {K : PySem.W.Frag} {x dx C f : Addr} {mA : Str → Option Value} {name : Str} {v : Value}

theorem get_map {expr : Bool} {Q : Value → Shared → Prop} (X : K.In s.heap) (I : ObjM s.heap x dx C mA) (hg : PySem.W.plainGet K C name = true) (hh : PySem.W.hasDictIn K C = true)
    (ha : PySem.W.findIn K (.ref C) name = some none) (hv : mA name = some v) (hv' : PySem.W.handedIn v = true) (h : Q v { s with toks := s.toks + 1 }) :
    wpAny (model prog w) A (getAttr (.ref x) name expr) Q E s := by
  obtain ⟨od, J, hl⟩ := I.look
  exact PySem.W.get_value X J (PySem.W.plainGet_of hg).1 (PySem.W.findObj_own hh ha rfl (by rw [hl, hv])) hv' h

theorem get_const {expr : Bool} {a : Value} {Q : Value → Shared → Prop} (X : K.In s.heap) (I : ObjM s.heap x dx C mA) (hg : PySem.W.plainGet K C name = true) (hh : PySem.W.hasDictIn K C = true)
    (ha : PySem.W.findIn K (.ref C) name = some (some a)) (hn : PySem.W.specialIn K a "__get__" = some none) (hc : PySem.W.copiedNames.contains name = false) (hv : mA name = none) (hv' : PySem.W.handedIn a = true)
    (h : Q a { s with toks := s.toks + 1 }) : wpAny (model prog w) A (getAttr (.ref x) name expr) Q E s := by
  obtain ⟨od, J, hl⟩ := I.look
  exact PySem.W.get_value X J (PySem.W.plainGet_of hg).1 (PySem.W.findObj_cls hh ha hn hv' hc (by rw [hl, hv])) hv' h

theorem get_meth {pl : Sem Bool} {Q : Value × List Value → Shared → Prop} (X : K.In s.heap) (I : ObjM s.heap x dx C mA) (hg : PySem.W.plainGet K C name = true)
    (hf : PySem.W.findIn K (.ref C) name = some (some (.ref f))) (ht : PySem.W.isFn K (.ref f) = true) (hv : mA name = none) (h : Q (.ref f, [.ref x]) s) :
    wpAny (model prog w) A (getMethod (.ref x) name pl) Q E s := by
  obtain ⟨od, J, hl⟩ := I.look
  exact PySem.W.method_fn X J (PySem.W.plainGet_of hg).1 (PySem.W.plainGet_of hg).2 hf (beq_iff_eq.mp ht) (by show (PySem.W.lookIn name od).map (·.isSome) = some false; rw [hl, hv]; rfl) h

theorem set_map {ns : List Str} {Q : Unit → Shared → Prop} (X : K.In s.heap) (I : ObjM s.heap x dx C mA)
    (hs : PySem.W.findIn K (.ref C) "__setattr__" = some (some (.builtin "object.__setattr__"))) (hp : PySem.W.plainOver K C = true) (ht : PySem.W.takerIn K C name = some none) (hh : PySem.W.hasDictIn K C = true)
    (hw : PySem.Within mA ns) (hsz : ns.length ≤ sizeLine)
    (h : ∀ h', ObjM h' x dx C (fun y => if y = name then some v else mA y) → Heap.SameBut dx s.heap h' → Q () { s with heap := h', toks := s.toks + 2 }) :
    wpAny (model prog w) A (setAttr (.ref x) name v) Q E s := by
  obtain ⟨od, J, hl⟩ := I.look
  refine PySem.W.set_plain X J hs (PySem.W.osa_open (s := { s with toks := s.toks + 1 }) (r := none) X J hp ht fun b => ?_)
  obtain ⟨cd, hc, hd'⟩ := PySem.W.any_some hh
  have hx : s.heap.get? x = some ⟨.ref C, some dx, .plain, #[]⟩ := I.obj
  refine wpAny_bind (wpAny_pure (wpAny_bind (wpAny_bind (wpAny_loadPart hx (wpAny_bind (PySem.W.Looks.here (s := { s with toks := s.toks + 1 }) (PySem.W.looks_clsIn X hc) ?_))))))
  rw [hd']
  refine wpAny_pure (a := some dx) (wpAny_bind (wpAny_pure (wpAny_bind ?_)))
  refine wpAny_nsSet1 (s := { s with toks := s.toks + 1 }) I.ns fun h' hn2 hs2 => ?_
  obtain ⟨oD, esD, epD, hoD, hdD, hcD⟩ := hn2.count (PySem.Within.cons name v hw)
  refine wpAny_bind (wpAny_lookBehind hoD (by rw [hdD]; exact pastItsLine_dict (Nat.le_trans hcD (by rw [List.length_cons]; omega))) ?_)
  exact wpAny_pure (h _ ⟨(hs2.2 _ (Ne.symm I.ne)).trans I.obj, hn2, I.ne⟩ hs2)

/-- C(..): the dict at the heap's end, the instance behind it; then its __init__ -/
theorem make_map {R : Result → Shared → Prop} {vs : List Value} {kw : List (Str × Value)} (X : K.In s.heap) (hm : PySem.W.makesIn K C = true)
    (hi : PySem.W.findIn K (.ref C) "__init__" = some (some (.ref f))) (hf : PySem.W.typeIn K (.ref f) = some (.type "function"))
    (h : codeAny (model prog w) (A.under (.builtin "type.__call__" ⟨.ref C :: vs, kw⟩)) (.call (.ref f) ⟨.ref (s.heap.objs.size + 1) :: vs, kw⟩) (PySem.W.InitBack (s.heap.objs.size + 1) R)
      { s with heap := (s.heap.push PySem.W.emptyDict).push (PySem.W.instObj C s.heap.objs.size) }) :
    codeAny (model prog w) A (.call (.ref C) ⟨vs, kw⟩) R s := by
  obtain ⟨hh, g, d, t, os⟩ := s
  exact PySem.W.make_core (PySem.W.makes_of X hm) (PySem.W.looks_findIn X hi) (fun self => PySem.W.bind_fn X self hf) (.inl rfl) h
/-- C() where there is no __init__ but object's -/
theorem make_map0 {R : Result → Shared → Prop} (X : K.In s.heap) (hm : PySem.W.makesIn K C = true)
    (hi : PySem.W.findIn K (.ref C) "__init__" = some (some (.builtin "object.__init__")))
    (hb : ∀ self, PySem.W.Looks (model prog w) s.heap (bindSpecial (.builtin "object.__init__") self) (.builtin "object.__init__", [self]))
    (h : codeAny (model prog w) (A.under (.builtin "type.__call__" ⟨[.ref C], []⟩)) (.call (.builtin "object.__init__") ⟨[.ref (s.heap.objs.size + 1)], []⟩) (PySem.W.InitBack (s.heap.objs.size + 1) R)
      { s with heap := (s.heap.push PySem.W.emptyDict).push (PySem.W.instObj C s.heap.objs.size) }) :
    codeAny (model prog w) A (.call (.ref C) ⟨[], []⟩) R s := by
  obtain ⟨hh, g, d, t, os⟩ := s
  exact PySem.W.make_core (PySem.W.makes_of X hm) (PySem.W.looks_findIn X hi) hb (.inr ⟨rfl, rfl⟩) h
end

/-! ### the attributes as a list of pairs -/
def putF (f : Str) (v : V) : List (Str × V) → List (Str × V)
  | [] => [(f, v)]
  | (g, x) :: r => if g = f then (g, v) :: r else (g, x) :: putF f v r
theorem lookup_putF (f g : Str) (v : V) : ∀ fs : List (Str × V), (putF f v fs).lookup g = if g = f then some v else fs.lookup g
  | [] => by
    show List.lookup g [(f, v)] = _
    by_cases h : g = f
    · have hb : (g == f) = true := beq_iff_eq.mpr h
      simp only [List.lookup, hb, if_pos h]
    · have hb : (g == f) = false := beq_eq_false_iff_ne.mpr h
      simp only [List.lookup, hb, if_neg h]
  | (k, x) :: r => by
    have ih := lookup_putF f g v r
    rw [show putF f v ((k, x) :: r) = (if k = f then (k, v) :: r else (k, x) :: putF f v r) from rfl]
    by_cases hk : k = f
    · rw [if_pos hk]
      by_cases h : g = k
      · have hb : (g == k) = true := beq_iff_eq.mpr h
        simp only [List.lookup, hb, if_pos (h.trans hk)]
      · have hb : (g == k) = false := beq_eq_false_iff_ne.mpr h
        simp only [List.lookup, hb, if_neg (fun e : g = f => h (e.trans hk.symm))]
    · rw [if_neg hk]
      by_cases h : g = k
      · have hb : (g == k) = true := beq_iff_eq.mpr h
        simp only [List.lookup, hb, if_neg (fun e : g = f => hk (h.symm.trans e))]
      · have hb : (g == k) = false := beq_eq_false_iff_ne.mpr h
        simp only [List.lookup, hb]
        exact ih
theorem keys_putF (f : Str) (v : V) : ∀ fs : List (Str × V), f ∈ (putF f v fs).map (·.1) ∧ ∀ g, g ∈ fs.map (·.1) → g ∈ (putF f v fs).map (·.1)
  | [] => ⟨by simp [putF], fun g h => by simp at h⟩
  | (k, x) :: r => by
    obtain ⟨i1, i2⟩ := keys_putF f v r
    rw [show putF f v ((k, x) :: r) = (if k = f then (k, v) :: r else (k, x) :: putF f v r) from rfl]
    by_cases hk : k = f
    · rw [if_pos hk]
      subst hk
      exact ⟨by simp, fun g h => by simpa using h⟩
    · rw [if_neg hk]
      refine ⟨?_, fun g h => ?_⟩
      · rw [List.map_cons]
        exact List.mem_cons_of_mem _ i1
      · rw [List.map_cons] at h ⊢
        rcases List.mem_cons.mp h with e | e
        · exact List.mem_cons.mpr (.inl e)
        · exact List.mem_cons_of_mem _ (i2 g e)
theorem length_putF (f : Str) (v : V) : ∀ fs : List (Str × V), (putF f v fs).length ≤ fs.length + 1
  | [] => by simp [putF]
  | (k, x) :: r => by
    have ih := length_putF f v r
    rw [show putF f v ((k, x) :: r) = (if k = f then (k, v) :: r else (k, x) :: putF f v r) from rfl]
    by_cases hk : k = f
    · rw [if_pos hk, List.length_cons, List.length_cons]; omega
    · rw [if_neg hk, List.length_cons, List.length_cons]; omega

theorem RelO.some_of {v : V} {o : Option Value} (r : RelO (some v) o) : ∃ u, o = some u ∧ RelV v u := by
  cases o with
  | none => exact (show False from r).elim
  | some u => exact ⟨u, rfl, r⟩
theorem RelO.none_of {o : Option Value} (r : RelO none o) : o = none := by
  cases o with
  | none => rfl
  | some u => exact (show False from r).elim
theorem handed_of {v : V} {u : Value} (r : RelV v u) : PySem.W.handedIn u = true := by
  cases v with
  | non => cases (show u = Value.none from r); rfl
  | bl b => cases (show u = Value.bool b from r); rfl
  | int i => obtain ⟨t, e⟩ := (show ∃ t, u = Value.int i t from r); cases e; rfl
  | str x => obtain ⟨t, e⟩ := (show ∃ t, u = Value.str x t from r); cases e; rfl
  | byt b => obtain ⟨t, e⟩ := (show ∃ t, u = Value.bytes b t from r); cases e; rfl
  | flt b => obtain ⟨t, e⟩ := (show ∃ t, u = Value.float b t from r); cases e; rfl
  | ref a => cases (show u = Value.ref a from r); rfl
  | ty n => cases (show u = Value.type n from r); rfl

section
variable {P : Program} {w : World} {H H' : Hp} {h h' : Heap} {a C dx : Addr} {fs fs' : List (Str × V)}
theorem ins_get (hok : HOk P w H h) (e : H a = some (.ins C dx fs)) : ∃ mA, ObjM h a dx C mA ∧ (∀ f, RelO (fs.lookup f) (mA f)) ∧ PySem.Within mA (fs.map (·.1)) ∧ fs.length ≤ 1000 ∧ H dx = some (.own a) := by
  obtain ⟨d, z, ne, ob, mA, n, r, q⟩ := (show ObjOk P w H h a (.ins C dx fs) from hok a _ e)
  exact ⟨mA, ⟨ob, n, ne⟩, r, q, z, d⟩
end

/-! ### what of the text a class must have -/
structure Cls (K : PySem.W.Frag) (C : Addr) : Prop where
  pg : PySem.W.plainGet K C Str.empty = true
  hd : PySem.W.hasDictIn K C = true
  po : PySem.W.plainOver K C = true
  sa : PySem.W.findIn K (.ref C) "__setattr__" = some (some (.builtin "object.__setattr__"))
theorem Cls.get {K : PySem.W.Frag} {C : Addr} (c : Cls K C) (f : Str) : PySem.W.plainGet K C f = true := c.pg
/-- no class of it has the name -/
def NoAttr (K : PySem.W.Frag) (C : Addr) (f : Str) : Prop := PySem.W.findIn K (.ref C) f = some none
theorem NoAttr.taker {K : PySem.W.Frag} {C : Addr} {f : Str} (n : NoAttr K C f) : PySem.W.takerIn K C f = some none := by
  unfold PySem.W.takerIn
  rw [show PySem.W.findIn K (.ref C) f = some none from n]
  rfl
/-- a constant of the class -/
structure Con (K : PySem.W.Frag) (C : Addr) (f : Str) (v : V) (u : Value) : Prop where
  at_ : PySem.W.findIn K (.ref C) f = some (some u)
  rel : RelV v u
  get : PySem.W.specialIn K u "__get__" = some none
  cp : PySem.W.copiedNames.contains f = false
/-- a method: a plain def of the class or of one above it -/
structure Meth (K : PySem.W.Frag) (C : Addr) (m : Str) (f : Addr) : Prop where
  at_ : PySem.W.findIn K (.ref C) m = some (some (.ref f))
  fn : PySem.W.isFn K (.ref f) = true
  kp : PySem.W.keepIn K (.ref f) = true

section
variable {X : Cx} {pins : List (Addr × Obj)} {σ : St} {H : Hp} {s : Shared} {a C dx : Addr} {fs : List (Str × V)} {f : Str} {v : V} {A : Around} {E : Value → Shared → Prop}

theorem getattr_ok {b : Bool} {Q : Value → Shared → Prop} (I : Inv X pins σ H s) (e : H a = some (.ins C dx fs)) (c : Cls X.K C) (n : NoAttr X.K C f) (l : fs.lookup f = some v)
    (h : ∀ u s', Inv X pins σ H s' → RelV v u → Q u s') : wpAny (model X.prog X.w) A (getAttr (.ref a) f b) Q E s := by
  obtain ⟨mA, O, r, _, _, _⟩ := ins_get I.hok e
  obtain ⟨u, hu, ru⟩ := RelO.some_of (v := v) (o := mA f) (by rw [← l]; exact r f)
  exact get_map I.kIn O (c.get f) c.hd n hu (handed_of ru) (h u _ (I.tok _) ru)

theorem getcon_ok {b : Bool} {u : Value} {Q : Value → Shared → Prop} (I : Inv X pins σ H s) (e : H a = some (.ins C dx fs)) (c : Cls X.K C) (k : Con X.K C f v u) (l : fs.lookup f = none)
    (h : ∀ s', Inv X pins σ H s' → Q u s') : wpAny (model X.prog X.w) A (getAttr (.ref a) f b) Q E s := by
  obtain ⟨mA, O, r, _, _, _⟩ := ins_get I.hok e
  have hn : mA f = none := RelO.none_of (by rw [← l]; exact r f)
  exact get_const I.kIn O (c.get f) c.hd k.at_ k.get k.cp hn (handed_of k.rel) (h _ (I.tok _))

theorem getmeth_ok {m : Str} {g : Addr} {pl : Sem Bool} {Q : Value × List Value → Shared → Prop} (I : Inv X pins σ H s) (e : H a = some (.ins C dx fs)) (c : Cls X.K C) (k : Meth X.K C m g) (l : fs.lookup m = none)
    (h : Q (.ref g, [.ref a]) s) : wpAny (model X.prog X.w) A (getMethod (.ref a) m pl) Q E s := by
  obtain ⟨mA, O, r, _, _, _⟩ := ins_get I.hok e
  have hn : mA m = none := RelO.none_of (by rw [← l]; exact r m)
  exact get_meth I.kIn O (c.get m) k.at_ k.fn hn h

theorem setattr_ok {y : V} {u : Value} {Q : Unit → Shared → Prop} (I : Inv X pins σ H s) (e : H a = some (.ins C dx fs)) (c : Cls X.K C) (n : NoAttr X.K C f) (hl : fs.length < 1000) (ry : RelV y u)
    (h : ∀ s', Inv X pins σ (upd H a (.ins C dx (putF f y fs))) s' → Q () s') : wpAny (model X.prog X.w) A (setAttr (.ref a) f u) Q E s := by
  obtain ⟨mA, O, r, wi, _, ho⟩ := ins_get I.hok e
  have hz : (fs.map (·.1)).length ≤ sizeLine := by rw [List.length_map, sizeLine_eq]; omega
  refine set_map I.kIn O c.sa c.po n.taker c.hd wi hz fun h' O' sb => h _ ?_
  have hd : ∃ o, h'.get? dx = some o := let ⟨o, _, _, e', _⟩ := O'.ns; ⟨o, e'⟩
  refine I.write (x := a) (e := dx) (by rw [e]; exact True.intro) (.inr ho) (fun b q hb z => (sb.2 b hb).trans z) hd ?_
  refine ⟨by rw [upd_ne O.ne]; exact ho, ?_, O.ne, O'.obj, _, O'.ns, fun g => ?_, fun g hg => ?_⟩
  · have := length_putF f y fs; omega
  · show RelO ((putF f y fs).lookup g) (if g = f then some u else mA g)
    rw [lookup_putF]
    by_cases q : g = f
    · rw [if_pos q, if_pos q]; exact ry
    · rw [if_neg q, if_neg q]; exact r g
  · by_cases q : g = f
    · rw [q]; exact (keys_putF f y fs).1
    · refine (keys_putF f y fs).2 g (wi g fun z => hg ?_)
      show (if g = f then some u else mA g) = none
      rw [if_neg q]; exact z

/-- a new instance, tracked, without attributes -/
theorem Inv.made (I : Inv X pins σ H s) : Inv X pins σ (upd (upd H s.heap.objs.size (.own (s.heap.objs.size + 1))) (s.heap.objs.size + 1) (.ins C s.heap.objs.size []))
    { s with heap := (s.heap.push PySem.W.emptyDict).push (PySem.W.instObj C s.heap.objs.size) } := by
  have e1 : (s.heap.push PySem.W.emptyDict).get? s.heap.objs.size = some PySem.W.emptyDict := Heap.get?_push_size s.heap rfl
  have e2 : ((s.heap.push PySem.W.emptyDict).push (PySem.W.instObj C s.heap.objs.size)).get? (s.heap.objs.size + 1) = some (PySem.W.instObj C s.heap.objs.size) := by
    have := Heap.get?_push_size (s.heap.push PySem.W.emptyDict) (o := PySem.W.instObj C s.heap.objs.size) rfl
    rwa [Heap.size_push] at this
  have e3 : (s.heap.push PySem.W.emptyDict).Ns s.heap.objs.size (fun _ => none) := ⟨PySem.W.emptyDict, #[], _, e1, rfl, (fun e he => absurd he (by simp)), fun _ => rfl⟩
  have I1 := I.laid (a := s.heap.objs.size) (o := .own (s.heap.objs.size + 1)) (h' := s.heap.push PySem.W.emptyDict) (t' := s.toks) (fun b u q => Heap.get?_push_of_some _ q) (Nat.le_refl _) ⟨_, e1⟩
  refine I1.laid (a := s.heap.objs.size + 1) (o := .ins C s.heap.objs.size []) (t' := s.toks) (fun b u q => Heap.get?_push_of_some _ q) (Nat.le_of_eq (Heap.size_push _ _)) ?_
  have ne : s.heap.objs.size ≠ s.heap.objs.size + 1 := Nat.ne_of_lt (Nat.lt_succ_self _)
  refine ⟨by rw [upd_ne ne, upd_same], Nat.zero_le _, ne, e2, fun _ => none, (Heap.Ns1.of_empty e3).at fun o q => Heap.get?_push_of_some _ q, fun _ => True.intro, fun y hy => absurd rfl hy⟩

/-- e.f where nothing but the object is asked: through attributeBase (super) and the last hold -/
theorem attr_of {prog : Program} {w : World} {env : Env} {e : Expr} {f : Str} {pos : Pos} {s : Shared} {Q : Value → Shared → Prop} (hb : attributeBase e f env (eval e env) = eval e env)
    (h : wpAny (model prog w) A (eval e env) (fun o s₁ => wpAny (model prog w) A (getAttr o f true) Q E s₁) E s) : wpAny (model prog w) A (eval (.Attribute e f pos) env) Q E s :=
  Attribute_any_ h (by rw [arm_eval_Attribute, hb])
end

/-! ### readings and rules -/
/-- e.f, an attribute of the instance -/
def tFld (K : PySem.W.Frag) (ta : TE) (f : Str) : TE := fun σ H Q => ta σ H fun x H1 => ∃ a C dx fs v, x = .ref a ∧ H1 a = some (.ins C dx fs) ∧ Cls K C ∧ NoAttr K C f ∧ fs.lookup f = some v ∧ Q v H1
/-- e.f, a constant of the class -/
def tCon (K : PySem.W.Frag) (ta : TE) (f : Str) : TE := fun σ H Q => ta σ H fun x H1 => ∃ a C dx fs v u, x = .ref a ∧ H1 a = some (.ins C dx fs) ∧ Cls K C ∧ Con K C f v u ∧ fs.lookup f = none ∧ Q v H1
/-- e.f = value -/
def sFld (K : PySem.W.Frag) (ta tv : TE) (f : Str) : TS := fun D σ H => tv σ H fun y H1 => ta σ H1 fun x H2 => ∃ a C dx fs, x = .ref a ∧ H2 a = some (.ins C dx fs) ∧ Cls K C ∧ NoAttr K C f ∧ fs.length < 1000 ∧
  D.nx σ (upd H2 a (.ins C dx (putF f y fs)))
/-- an augmented operator on two values -/
def InOp (X : Cx) (op : Operator) (rd : V → V → Hp → VK → Prop) : Prop :=
  ∀ (pins : List (Addr × Obj)) (s : Shared) (σ : St) (H : Hp) (x y : V) (u v : Value) (Q : VK), Inv X pins σ H s → RelV x u → RelV y v → rd x y H Q → wpAny (model X.prog X.w) X.A (inplaceOp op u v) (EP X pins σ Q) X.xe s
/-- e.f op= value -/
def sFldAug (K : PySem.W.Frag) (ta tv : TE) (rd : V → V → Hp → VK → Prop) (f : Str) : TS := fun D σ H => ta σ H fun x H1 => ∃ a C dx fs v, x = .ref a ∧ H1 a = some (.ins C dx fs) ∧ Cls K C ∧ NoAttr K C f ∧ fs.lookup f = some v ∧
  tv σ H1 fun y H2 => rd v y H2 fun z H3 => ∃ dx' fs', H3 a = some (.ins C dx' fs') ∧ fs'.length < 1000 ∧ D.nx σ (upd H3 a (.ins C dx' (putF f z fs')))

section
variable {X : Cx} {o e value : Expr} {f : Str} {pos pos' tpos : Pos} {ta tv : TE}
theorem pe_fld (he : PE X e ta) (hb : attributeBase e f X.env (eval e X.env) = eval e X.env) : PE X (.Attribute e f pos) (tFld X.K ta f) := by
  intro pins s σ H Q I h
  refine attr_of hb (thn (he pins s σ H _ I h) fun u s1 ⟨x, H1, I1, rx, a, C, dx, fs, v, ex, ea, c, n, l, q⟩ => ?_)
  subst ex
  obtain rfl : u = Value.ref a := rx
  exact getattr_ok I1 ea c n l fun u' s2 I2 ru => ⟨v, H1, I2, ru, q⟩
theorem pe_con (he : PE X e ta) (hb : attributeBase e f X.env (eval e X.env) = eval e X.env) : PE X (.Attribute e f pos) (tCon X.K ta f) := by
  intro pins s σ H Q I h
  refine attr_of hb (thn (he pins s σ H _ I h) fun u s1 ⟨x, H1, I1, rx, a, C, dx, fs, v, u0, ex, ea, c, k, l, q⟩ => ?_)
  subst ex
  obtain rfl : u = Value.ref a := rx
  exact getcon_ok I1 ea c k l fun s2 I2 => ⟨v, H1, I2, k.rel, q⟩
theorem ps_fld (ha : PE X o ta) (hv : PE X value tv) (hs : swapsWith value (some (.Attribute o f pos')) pos.line X.env = pure false) : PS X (.Assign [.Attribute o f pos'] value pos) (sFld X.K ta tv f) := by
  intro pins s σ H D I h
  refine plainObj_wpAny_Assign_Attribute (thn (hv pins s σ H _ I h) fun u s1 ⟨y, H1, I1, ry, q⟩ => thn (ha pins s1 σ H1 _ I1 q) fun ov s2 ⟨x, H2, I2, rx, a, C, dx, fs, ex, ea, c, n, l, q2⟩ => ?_) hs
  subst ex
  obtain rfl : ov = Value.ref a := rx
  exact setattr_ok I2 ea c n l ry fun s3 I3 => ⟨σ, _, I3, q2⟩
theorem ps_fldaug {op : Operator} {rd : V → V → Hp → VK → Prop} (ha : PE X o ta) (hv : PE X value tv) (hop : InOp X op rd) : PS X (.AugAssign (.Attribute o f tpos) op value pos) (sFldAug X.K ta tv rd f) := by
  intro pins s σ H D I h
  refine wpAny_AugAssign_AttributeAny (thn (ha pins s σ H _ I h) fun ov s1 ⟨x, H1, I1, rx, a, C, dx, fs, v, ex, ea, c, n, l, q⟩ => ?_)
  subst ex
  obtain rfl : ov = Value.ref a := rx
  refine getattr_ok I1 ea c n l fun u s2 I2 ru => thn (hv pins s2 σ H1 _ I2 q) fun w3 s3 ⟨y, H2, I3, ry, q3⟩ => thn (hop pins s3 σ H2 v y u w3 _ I3 ru ry q3) fun w4 s4 ⟨z, H3, I4, rz, dx', fs', ea', l', q4⟩ => ?_
  exact setattr_ok I4 ea' c n l' rz fun s5 I5 => ⟨σ, _, I5, q4⟩
def rAdd : V → V → Hp → VK → Prop := fun x y H Q => ∃ i j, x = .int i ∧ y = .int j ∧ Q (.int (i + j)) H
def rSub : V → V → Hp → VK → Prop := fun x y H Q => ∃ i j, x = .int i ∧ y = .int j ∧ Q (.int (i - j)) H
theorem in_add : InOp X .Add rAdd := by
  rintro pins s σ H x y u v Q I rx ry ⟨i, j, rfl, rfl, q⟩
  obtain ⟨t, rfl⟩ := (show ∃ t, u = Value.int i t from rx)
  obtain ⟨t', rfl⟩ := (show ∃ t', v = Value.int j t' from ry)
  exact PyProof.Rows.iadd_int ⟨.int (i + j), H, I.tok _, ⟨_, rfl⟩, q⟩
theorem in_sub : InOp X .Sub rSub := by
  rintro pins s σ H x y u v Q I rx ry ⟨i, j, rfl, rfl, q⟩
  obtain ⟨t, rfl⟩ := (show ∃ t, u = Value.int i t from rx)
  obtain ⟨t', rfl⟩ := (show ∃ t', v = Value.int j t' from ry)
  exact PyProof.Rows.isub_int ⟨.int (i - j), H, I.tok _, ⟨_, rfl⟩, q⟩

/-- what is between an instance and its method: the tree of a method call -/
theorem methcall_of {pl : Sem Bool} {m : Str} {apos : Pos} {args : List Expr} {pins : List (Addr × Obj)} {s : Shared} {σ : St} {H : Hp} {Q : Value → Shared → Prop} {te : TE} (he : PE X e te) (I : Inv X pins σ H s)
    (h : te σ H fun x H1 => ∃ a C dx fs g, x = .ref a ∧ H1 a = some (.ins C dx fs) ∧ Cls X.K C ∧ Meth X.K C m g ∧ fs.lookup m = none ∧
      ∀ s1, Inv X pins σ H1 s1 → wpAny (model X.prog X.w) X.A (callWith pos (.ref g) [.ref a] (backTo pos (starEach args X.env)) (backToKw pos (keywordEach [] X.env))) Q X.xe s1)
    (ht : eval (.Call (.Attribute e m apos) args [] pos) X.env = (do
      let ov ← eval e X.env
      standAt apos.atName
      let (f, first) ← holding [ov] (getMethod ov m pl)
      callWith pos f first (backTo pos (starEach args X.env)) (backToKw pos (keywordEach [] X.env)))) :
    wpAny (model X.prog X.w) X.A (eval (.Call (.Attribute e m apos) args [] pos) X.env) Q X.xe s := by
  refine PySem.W.methodCall_KW (pl := pl) (thn (he pins s σ H _ I h) fun u s1 ⟨x, H1, I1, rx, a, C, dx, fs, g, ex, ea, c, k, l, q⟩ => ?_) ht
  subst ex
  obtain rfl : u = Value.ref a := rx
  exact getmeth_ok I1 ea c k l (q s1 I1)
end

/-! ### isinstance -/
section
variable {X : Cx} {pins : List (Addr × Obj)} {σ : St} {H : Hp} {s : Shared} {A : Around} {E : Value → Shared → Prop} {Q : Value → Shared → Prop} {c : Value} {b : Bool}
/-- the type of a value, as the fragment's deciders take it; for an instance its class -/
inductive TyOf (K : PySem.W.Frag) (H : Hp) : V → Value → Prop where
  | non : TyOf K H .non (.type "NoneType")
  | bl (x : Bool) : TyOf K H (.bl x) (.type "bool")
  | int (i : Int) : TyOf K H (.int i) (.type "int")
  | str (x : Str) : TyOf K H (.str x) (.type "str")
  | flt (x : UInt64) : TyOf K H (.flt x) (.type "float")
  | lst {a : Addr} {xs : List V} (e : H a = some (.lst xs)) : TyOf K H (.ref a) (.type "list")
  | frz {a : Addr} {o : Obj} {xs : List V} (e : H a = some (.frz o (.lst xs))) : TyOf K H (.ref a) (.type "list")
  | tup {a : Addr} {xs : List V} (e : H a = some (.tup xs)) : TyOf K H (.ref a) (.type "tuple")
  | dK {a : Addr} {kvs : List (Key × V)} (e : H a = some (.dK kvs)) : TyOf K H (.ref a) (.type "dict")
  | dT {a : Addr} {kvs : List (List Key × V)} (e : H a = some (.dT kvs)) : TyOf K H (.ref a) (.type "dict")
  | ins {a C dx : Addr} {fs : List (Str × V)} (e : H a = some (.ins C dx fs)) (cl : Cls K C) (ha : PySem.W.findIn K (.ref C) "__class__" = some (some (.builtin "object.__class__")))
      (hn : PySem.W.specialIn K (.builtin "object.__class__") "__get__" = some (some (.builtin "getset_descriptor.__get__"))) (htk : PySem.W.takesIn K (.builtin "object.__class__") = some true)
      (hm : PySem.W.mroIn K C (.type "object") = some true) : TyOf K H (.ref a) (.ref C)
/-- isinstance(x, c) for one class c, a built-in or an own one: kitOne's answer -/
theorem isinst_ok {x : V} {u t : Value} (I : Inv X pins σ H s) (rx : RelV x u) (ty : TyOf X.K H x t) (e : PySem.W.kitOne X.K t c = some b) (h : ∀ tk, Q (.bool b) { s with toks := tk }) :
    wpAny (model X.prog X.w) A (call (.builtin "isinstance") [u, c]) Q E s := by
  cases ty with
  | non => cases (show u = Value.none from rx); exact PySem.W.kia_one PySem.W.kitx_none I.kIn True.intro e (fun z => nomatch z) h
  | bl y => cases (show u = Value.bool y from rx); exact PySem.W.kia_one PySem.W.kitx_bool I.kIn True.intro e (fun z => nomatch z) h
  | int i => obtain ⟨t, q⟩ := (show ∃ t, u = Value.int i t from rx); cases q; exact PySem.W.kia_one PySem.W.kitx_int I.kIn True.intro e (fun z => nomatch z) h
  | str y => obtain ⟨t, q⟩ := (show ∃ t, u = Value.str y t from rx); cases q; exact PySem.W.kia_one PySem.W.kitx_str I.kIn True.intro e (fun z => nomatch z) h
  | flt y => obtain ⟨t, q⟩ := (show ∃ t, u = Value.float y t from rx); cases q; exact PySem.W.kia_one PySem.W.kitx_float I.kIn True.intro e (fun z => nomatch z) h
  | @lst a xs ea =>
    cases (show u = Value.ref a from rx)
    obtain ⟨_, _, n, _, h1⟩ := (show ObjOk X.prog X.w H s.heap a (.lst xs) from I.hok a _ ea)
    exact PySem.W.kia_one PySem.W.kitx_list I.kIn ⟨_, h1, rfl⟩ e (fun z => nomatch z) h
  | @frz a ob xs ea =>
    cases (show u = Value.ref a from rx)
    obtain ⟨_, _, _, n, _, h1⟩ := (show ObjOk X.prog X.w H s.heap a (.frz ob (.lst xs)) from I.hok a _ ea)
    exact PySem.W.kia_one PySem.W.kitx_list I.kIn ⟨_, h1, rfl⟩ e (fun z => nomatch z) h
  | @tup a xs ea =>
    cases (show u = Value.ref a from rx)
    obtain ⟨_, _, _, p⟩ := (show ObjOk X.prog X.w H s.heap a (.tup xs) from I.hok a _ ea)
    obtain ⟨o, h1, h2, _⟩ := p
    exact PySem.W.kia_one PySem.W.kitx_tuple I.kIn ⟨o, h1, h2⟩ e (fun z => nomatch z) h
  | @dK a kvs ea =>
    cases (show u = Value.ref a from rx)
    obtain ⟨_, _, vs, _, p⟩ := (show ObjOk X.prog X.w H s.heap a (.dK kvs) from I.hok a _ ea)
    obtain ⟨o, es, ep, h1, h2, _⟩ := p
    exact PySem.W.kia_one PySem.W.kitx_dict I.kIn ⟨o, h1, h2.1⟩ e (fun z => nomatch z) h
  | @dT a kvs ea =>
    cases (show u = Value.ref a from rx)
    obtain ⟨_, _, xs, _, o, es, ep, h1, h2, _⟩ := (show ObjOk X.prog X.w H s.heap a (.dT kvs) from I.hok a _ ea)
    exact PySem.W.kia_one PySem.W.kitx_dict I.kIn ⟨o, h1, h2.1⟩ e (fun z => nomatch z) h
  | @ins a C dx fs ea cl ha hn htk hm =>
    cases (show u = Value.ref a from rx)
    obtain ⟨mA, O, _⟩ := ins_get I.hok ea
    obtain ⟨od, J, _⟩ := O.look
    exact PySem.W.kia_one (PySem.W.kitx_own (cl.get _) cl.hd ha hn htk hm) I.kIn J e (fun z => nomatch z) h
end
end L2

namespace L2
open PySem PySem.Spec PyProof.Rows

/-! ### room -/
structure Room (k : Nat) (A : Around) : Prop where
  hd : A.handled = none
  dp : A.depth + 3 * k + 5 < recursionLimit
  un : A.units + 16 * k + 200 < cLine
theorem Room.mono {j k : Nat} {A : Around} (r : Room k A) (h : j ≤ k) : Room j A := ⟨r.hd, by have := r.dp; omega, by have := r.un; omega⟩
theorem Room.deeper {k : Nat} {A : Around} (r : Room (k + 1) A) (env : Env) : Room k (A.deeper env) :=
  ⟨r.hd, by have := r.dp; show A.depth + 1 + 3 * k + 5 < _; omega, by have := r.un; show A.units + 3 + 16 * k + 200 < _; omega⟩
theorem Room.in1 {k : Nat} {A : Around} (r : Room (k + 1) A) : Room k A.in1 :=
  ⟨r.hd, by have := r.dp; show A.depth + 3 * k + 5 < _; omega, by have := r.un; show A.units + 1 + 16 * k + 200 < _; omega⟩
theorem make_depth {A : Around} {C : Addr} {us : List Value} {kw : List (Str × Value)} : (A.under (.builtin "type.__call__" ⟨.ref C :: us, kw⟩)).depth = A.depth + 1 := by
  first | rfl | simp [Around.under, Code.weight, Code.isCreation, Code.isGuard, Code.isCaller, Code.frames, Code.isFrame, guardIds]
theorem make_units {A : Around} {C : Addr} {us : List Value} {kw : List (Str × Value)} : (A.under (.builtin "type.__call__" ⟨.ref C :: us, kw⟩)).units = A.units + 1 := by
  first | rfl | simp [Around.under, Code.cUnits, Code.frames, Code.isFrame]
theorem Room.make {k : Nat} {A : Around} (r : Room (k + 1) A) (C : Addr) (us : List Value) (kw : List (Str × Value)) : Room k (A.under (.builtin "type.__call__" ⟨.ref C :: us, kw⟩)) :=
  ⟨r.hd, by have := r.dp; rw [make_depth]; omega, by have := r.un; rw [make_units]; omega⟩
theorem Room.depth {k : Nat} {A : Around} (r : Room k A) : A.depth < recursionLimit := by have := r.dp; omega
theorem Room.units {k : Nat} {A : Around} (r : Room k A) : A.units + 64 < cLine := by have := r.un; omega
theorem Room.units0 {k : Nat} {A : Around} (r : Room k A) : A.units < cLine := by have := r.un; omega

/-! ### argument lists and displays -/
def tNil : TA := fun _ H Q => Q [] H
def tCons (ta : TE) (tr : TA) : TA := fun σ H Q => ta σ H fun x H1 => tr σ H1 fun xs H2 => Q (x :: xs) H2
section
variable {X : Cx} {e : Expr} {es : List Expr} {te : TE} {t : TA} {pos : Pos}
theorem pa_nil : PA X [] tNil := fun _ _ _ _ H Q I h => Calls.spliced_nil ⟨[], H, I, .nil, h⟩
theorem pa_cons (ha : PE X e te) (hr : PA X es t) (hs : starEach (e :: es) X.env = (false, eval e X.env) :: starEach es X.env := by rfl) : PA X (e :: es) (tCons te t) := by
  intro pos pins s σ H Q I h
  rw [hs]
  show wpAny _ _ (spliced ((false, eval e X.env) :: backTo pos (starEach es X.env))) _ _ s
  refine Calls.spliced_cons (thn (ha pins s σ H _ I h) fun u s1 ⟨x, H1, I1, r1, q1⟩ => ?_)
  exact thn (hr pos pins s1 σ H1 _ I1 q1) fun us s2 ⟨xs, H2, I2, r2, q2⟩ => ⟨x :: xs, H2, I2, .cons r1 r2, q2⟩

/-- a tuple, a list of written items -/
def tTup (t : TA) : TE := fun σ H Q => t σ H fun xs H1 => xs.length ≤ sizeLine ∧ ∀ p, H1 p = none → Q (.ref p) (upd H1 p (.tup xs))
def tLst (t : TA) : TE := fun σ H Q => t σ H fun xs H1 => xs.length ≤ sizeLine ∧ ∀ p, H1 p = none → Q (.ref p) (upd H1 p (.lst xs))
theorem pe_tup {x1} (h : PA X es t) : PE X (.Tuple es x1 pos) (tTup t) := by
  intro pins s σ H Q I hq
  refine wpAny_Tuple_spliced (thn (h pos pins s σ H _ I hq) fun us s1 ⟨xs, H1, I1, r, z, q⟩ => ⟨by rw [← r.length]; exact z, ?_⟩)
  have hf : H1 s1.heap.objs.size = none := I1.hok.fresh (Nat.le_refl _)
  refine ⟨.ref s1.heap.objs.size, upd H1 s1.heap.objs.size (.tup xs), I1.laid (t' := s1.toks) (fun b u e => Heap.get?_push_of_some _ e) (Nat.le_refl _) ?_, rfl, q _ hf⟩
  exact ⟨z, us, r, ⟨_, Heap.get?_push_size _ rfl, rfl, _, rfl⟩⟩
theorem pe_lst (h : PA X es t) : PE X (.List es pos) (tLst t) := by
  intro pins s σ H Q I hq
  refine wpAny_List_spliced (thn (h pos pins s σ H _ I hq) fun us s1 ⟨xs, H1, I1, r, z, q⟩ => ⟨by rw [← r.length]; exact z, ?_⟩)
  have hf : H1 s1.heap.objs.size = none := I1.hok.fresh (Nat.le_refl _)
  refine ⟨.ref s1.heap.objs.size, upd H1 s1.heap.objs.size (.lst xs), I1.laid (t' := s1.toks) (fun b u e => Heap.get?_push_of_some _ e) (Nat.le_refl _) ?_, rfl, q _ hf⟩
  exact ⟨z, us, 0, r, Heap.get?_push_size _ rfl⟩
end

/-! ### what a def promises -/
/-- a def's promise: the bound arguments in the parameters' order, the heap, the wanted end, the wanted exception -/
abbrev Sp := List V → Hp → VK → XK → Prop
/-- how an exception lies behind a call (file 08 gives it): the callers' frames, abstract heap and state ahead of the call, the wish, the exception, the state -/
abbrev CXT := List Env → Hp → Shared → XK → Value → Shared → Prop

/-- the state at a call -/
structure Env0 (P : Program) (w : World) (K : PySem.W.Frag) (mg : Str → Option Value) (base : Heap) (A : Around) (outer : List Env) (s : Shared) (H : Hp) : Prop where
  frames : A.frames = some outer
  mod : Mod K mg base
  bs : ∀ b o, base.get? b = some o → s.heap.get? b = some o ∧ H b = none
  bsz : base.objs.size ≤ s.heap.objs.size
  funs : s.heap.FunFrames base outer
  frf : ∀ b ∈ frs outer, H b = none
  hok : HOk P w H s.heap
  bare : AllBare s.gens
/-- a call's end -/
def CE (outer : List Env) (P : Program) (w : World) (H : Hp) (s : Shared) (Q : VK) (u : Value) (s' : Shared) : Prop :=
  ∃ v H', s'.os = s.os ∧ AllBare s'.gens ∧ Un (frs outer) [] H H' s.heap s'.heap ∧ HOk P w H' s'.heap ∧ RelV v u ∧ Q v H'
def CR (CX : CXT) (outer : List Env) (P : Program) (w : World) (H : Hp) (s : Shared) (Q : VK) (E : XK) (r : Result) (s' : Shared) : Prop :=
  match r with
  | .ok (.ret u) => CE outer P w H s Q u s'
  | .ok _ => False
  | .error e => CX outer H s E e s'
structure FnOk (P : Program) (w : World) (K : PySem.W.Frag) (mg : Str → Option Value) (base : Heap) (CX : CXT) (k : Nat) (f : Addr) (fd : FuncData) (ps : List Str) (sp : Sp) : Prop where
  len : ∀ vs H Q E, sp vs H Q E → vs.length = ps.length
  run : ∀ (A : Around) (outer : List Env) (s : Shared) (H : Hp) (args : Args) (us : List Value) (vs : List V) (Q : VK) (E : XK), Room k A → Env0 P w K mg base A outer s H → BindsTo s fd args (ps.zip us) → Vals vs us → sp vs H Q E →
    codeAny (model P w) A (.call (.ref f) args) (CR CX outer P w H s Q E) s
theorem FnOk.mono {P : Program} {w : World} {K : PySem.W.Frag} {mg : Str → Option Value} {base : Heap} {CX : CXT} {j k : Nat} {f : Addr} {fd : FuncData} {ps : List Str} {sp : Sp} (F : FnOk P w K mg base CX j f fd ps sp) (h : j ≤ k) :
    FnOk P w K mg base CX k f fd ps sp := ⟨F.len, fun A outer s H args us vs Q E hr => F.run A outer s H args us vs Q E (hr.mono h)⟩
/-- a weaker promise -/
theorem FnOk.imp {P : Program} {w : World} {K : PySem.W.Frag} {mg : Str → Option Value} {base : Heap} {CX : CXT} {k : Nat} {f : Addr} {fd : FuncData} {ps : List Str} {sp sp' : Sp} (F : FnOk P w K mg base CX k f fd ps sp)
    (h : ∀ vs H Q E, sp' vs H Q E → sp vs H Q E) : FnOk P w K mg base CX k f fd ps sp' :=
  ⟨fun vs H Q E q => F.len vs H Q E (h _ _ _ _ q), fun A outer s H args us vs Q E hr he hb hv hs => F.run A outer s H args us vs Q E hr he hb hv (h _ _ _ _ hs)⟩

theorem Env0.make {P : Program} {w : World} {K : PySem.W.Frag} {mg : Str → Option Value} {base : Heap} {A : Around} {outer : List Env} {s : Shared} {H : Hp} (e : Env0 P w K mg base A outer s H) (C : Addr) (us : List Value) (kw : List (Str × Value)) :
    Env0 P w K mg base (A.under (.builtin "type.__call__" ⟨.ref C :: us, kw⟩)) outer s H := ⟨by first | exact e.frames | (simpa [Around.under, Code.envs, Code.isFrame, pushEnvs] using e.frames), e.mod, e.bs, e.bsz, e.funs, e.frf, e.hok, e.bare⟩
theorem Env0.in1 {P : Program} {w : World} {K : PySem.W.Frag} {mg : Str → Option Value} {base : Heap} {A : Around} {outer : List Env} {s : Shared} {H : Hp} (e : Env0 P w K mg base A outer s H) :
    Env0 P w K mg base A.in1 outer s H := ⟨e.frames, e.mod, e.bs, e.bsz, e.funs, e.frf, e.hok, e.bare⟩

section
variable {X : Cx} {pins : List (Addr × Obj)} {σ : St} {H : Hp} {s s' : Shared}
/-- from a body: what a callee wants -/
theorem Inv.env0 (I : Inv X pins σ H s) : Env0 X.prog X.w X.K X.mg X.base X.A X.stack s H :=
  ⟨I.ok.frames, I.ok.mod, I.bs, Nat.le_trans I.ok.bsz I.sz, I.stack, I.stkFree, I.hok, I.bare⟩
/-- behind a call -/
theorem Inv.after {Q : VK} {u : Value} (I : Inv X pins σ H s) (h : CE X.stack X.prog X.w H s Q u s') : EP X pins σ Q u s' := by
  obtain ⟨v, H', os, bare, un, hok, r, q⟩ := h
  obtain ⟨hh, g, d, t, os'⟩ := s'
  obtain rfl : os' = s.os := os
  exact ⟨v, H', I.call (h' := hh) (g' := g) (d' := d) (t' := t) (ch := []) un hok bare (fun b z => absurd z (by simp)), r, q⟩
end

/-! ### calls -/
/-- f(..): the written arguments, then the defaults dvs; E: what is wanted of an exception -/
def tCall (sp : Sp) (dvs : List V) (E : XK) (t : TA) : TE := fun σ H Q => t σ H fun vs H1 => sp (vs ++ dvs) H1 Q E
/-- o.m(..) of an instance of the class at C -/
def tMeth (C : Addr) (m : Str) (sp : Sp) (dvs : List V) (E : XK) (ta : TE) (t : TA) : TE := fun σ H Q => ta σ H fun x H1 => ∃ a dx fs, x = .ref a ∧ H1 a = some (.ins C dx fs) ∧ fs.lookup m = none ∧
  t σ H1 fun vs H2 => sp (x :: (vs ++ dvs)) H2 Q E
/-- C(..): a new instance and its dict, then __init__ -/
def tMake (C : Addr) (sp : Sp) (dvs : List V) (E : XK) (t : TA) : TE := fun σ H Q => t σ H fun vs H1 => ∀ x dx, H1 x = none → H1 dx = none → dx ≠ x →
  sp (.ref x :: (vs ++ dvs)) (upd (upd H1 dx (.own x)) x (.ins C dx [])) (fun v H2 => v = .non ∧ Q (.ref x) H2) E

/-- how the parameters are bound: us the positional arguments, kw the keywords' values by name, ds the defaults that fill up -/
def Binds (K : PySem.W.Frag) (fd : FuncData) (ps : List Str) (ds : List Value) : Prop :=
  ∀ (s : Shared) (us : List Value), K.In s.heap → (us ++ ds).length = ps.length → BindsTo s fd ⟨us, []⟩ (ps.zip (us ++ ds))
/-- every parameter is given -/
theorem Binds.all {K : PySem.W.Frag} {fd : FuncData} {ps : List Str} (h : ∀ us : List Value, us.length = ps.length → bindArgs fd ⟨us, []⟩ = pure (ps.zip us)) : Binds K fd ps [] := fun s us _ hl => by
  rw [List.append_nil] at hl ⊢
  exact .of_eq (h us hl)

/-- an exception of a callee reaches what this body wants of exceptions -/
def Passes (CX : CXT) (X : Cx) (E : XK) : Prop := ∀ (pins : List (Addr × Obj)) (σ : St) (H : Hp) (s : Shared) (e : Value) (s' : Shared), Inv X pins σ H s → CX X.stack H s E e s' → X.xe e s'

section
variable {X : Cx} {CX : CXT} {k : Nat} {f C : Addr} {fd : FuncData} {ps : List Str} {sp : Sp} {dvs : List V} {ds : List Value} {E : XK} {x m : Str} {p pos apos : Pos} {e o : Expr} {es : List Expr} {ta : TE} {t : TA}

/-- the callee runs -/
theorem run_fn {pins : List (Addr × Obj)} {σ : St} {H : Hp} {s : Shared} {Q : VK} {us : List Value} {vs : List V} (F : FnOk X.prog X.w X.K X.mg X.base CX k f fd ps sp) (hr : Room k X.A) (hb : Binds X.K fd ps ds) (hd : Vals dvs ds) (hx : Passes CX X E)
    (I : Inv X pins σ H s) (r : Vals vs us) (h : sp (vs ++ dvs) H Q E) : wpAny (model X.prog X.w) X.A (call (.ref f) us) (EP X pins σ Q) X.xe s := by
  have r2 : Vals (vs ++ dvs) (us ++ ds) := r.append hd
  have hl : (us ++ ds).length = ps.length := by rw [← r2.length]; exact F.len _ _ _ _ h
  refine wpAny_call (codeAny_mono (F.run X.A X.stack s H ⟨us, []⟩ (us ++ ds) (vs ++ dvs) Q E hr I.env0 (hb s us I.kIn hl) r2 h) fun r s' hq => ?_)
  cases r with
  | error e => exact hx pins σ H s e s' I hq
  | ok fl =>
    cases fl with
    | ret u => exact I.after hq
    | next => exact False.elim hq
    | brk => exact False.elim hq
    | cont => exact False.elim hq

theorem pe_call (F : FnOk X.prog X.w X.K X.mg X.base CX k f fd ps sp) (hr : Room k X.A) (hg : Gl X x) (hm : X.mg x = some (.ref f)) (hk : PySem.W.keepIn X.K (.ref f) = true) (hb : Binds X.K fd ps ds) (hd : Vals dvs ds) (hx : Passes CX X E)
    (ha : PA X (e :: es) t) (hdb : (x == ("__debug__" : Str)) = false := by decide) (he : starEach (e :: es) X.env = (false, eval e X.env) :: starEach es X.env := by rfl) (hpl : (backTo pos (starEach es X.env)).any (·.1) = false := by rfl) :
    PE X (.Call (.Name x p) (e :: es) [] pos) (tCall sp dvs E t) := by
  intro pins s σ H Q I h
  refine wpAny_Call_Name_kw (ld_glob I hg hm ?_ hdb)
  refine PySem.W.callWith_K (h₀ := X.base) I.ok.mod.kin hk (thn (ha pos pins s σ H _ I h) fun us s1 ⟨vs, H1, I1, r, q⟩ => ⟨I1.kIn, ?_⟩) he hpl
  exact run_fn F hr hb hd hx I1 r q
theorem pe_call0 (F : FnOk X.prog X.w X.K X.mg X.base CX k f fd ps sp) (hr : Room k X.A) (hg : Gl X x) (hm : X.mg x = some (.ref f)) (hk : PySem.W.keepIn X.K (.ref f) = true) (hb : Binds X.K fd ps ds) (hd : Vals dvs ds) (hx : Passes CX X E)
    (hdb : (x == ("__debug__" : Str)) = false := by decide) : PE X (.Call (.Name x p) [] [] pos) (tCall sp dvs E tNil) := by
  intro pins s σ H Q I h
  refine wpAny_Call_Name_kw (ld_glob I hg hm ?_ hdb)
  exact PySem.W.callWith_K0 I.kIn hk (run_fn (us := []) F hr hb hd hx I .nil h)

/-- o.m(e, ..) -/
theorem pe_meth {pl : Sem Bool} (he : PE X o ta) (c : Cls X.K C) (hm : Meth X.K C m f) (F : FnOk X.prog X.w X.K X.mg X.base CX k f fd ps sp) (hr : Room k X.A) (hb : Binds X.K fd ps ds) (hd : Vals dvs ds) (hx : Passes CX X E) (ha : PA X (e :: es) t)
    (hst : starEach (e :: es) X.env = (false, eval e X.env) :: starEach es X.env := by rfl) (hpl : (backTo pos (starEach es X.env)).any (·.1) = false := by rfl)
    (ht : eval (.Call (.Attribute o m apos) (e :: es) [] pos) X.env = (do
      let ov ← eval o X.env
      standAt apos.atName
      let (f, first) ← holding [ov] (getMethod ov m pl)
      callWith pos f first (backTo pos (starEach (e :: es) X.env)) (backToKw pos (keywordEach [] X.env))) := by rfl) :
    PE X (.Call (.Attribute o m apos) (e :: es) [] pos) (tMeth C m sp dvs E ta t) := by
  intro pins s σ H Q I h
  refine PySem.W.methodCall_KW (pl := pl) (thn (he pins s σ H _ I h) fun u s1 ⟨x, H1, I1, rx, a, dx, fs, ex, ea, l, q⟩ => ?_) ht
  subst ex
  obtain rfl : u = Value.ref a := rx
  refine getmeth_ok I1 ea c hm l ?_
  refine PySem.W.callWith_K (first := [.ref a]) (h₀ := X.base) I.ok.mod.kin hm.kp (thn (ha pos pins s1 σ H1 _ I1 q) fun us s2 ⟨vs, H2, I2, r, q2⟩ => ⟨I2.kIn, ?_⟩) hst hpl
  exact run_fn (us := .ref a :: us) (vs := .ref a :: vs) F hr hb hd hx I2 (.cons rfl r) q2
/-- o.m() -/
theorem pe_meth0 {pl : Sem Bool} (he : PE X o ta) (c : Cls X.K C) (hm : Meth X.K C m f) (F : FnOk X.prog X.w X.K X.mg X.base CX k f fd ps sp) (hr : Room k X.A) (hb : Binds X.K fd ps ds) (hd : Vals dvs ds) (hx : Passes CX X E)
    (ht : eval (.Call (.Attribute o m apos) [] [] pos) X.env = (do
      let ov ← eval o X.env
      standAt apos.atName
      let (f, first) ← holding [ov] (getMethod ov m pl)
      callWith pos f first (backTo pos (starEach [] X.env)) (backToKw pos (keywordEach [] X.env))) := by rfl) :
    PE X (.Call (.Attribute o m apos) [] [] pos) (tMeth C m sp dvs E ta tNil) := by
  intro pins s σ H Q I h
  refine PySem.W.methodCall_KW (pl := pl) (thn (he pins s σ H _ I h) fun u s1 ⟨x, H1, I1, rx, a, dx, fs, ex, ea, l, q⟩ => ?_) ht
  subst ex
  obtain rfl : u = Value.ref a := rx
  refine getmeth_ok I1 ea c hm l ?_
  exact PySem.W.callWith_K0 (first := [.ref a]) I1.kIn hm.kp (run_fn (us := [.ref a]) (vs := [.ref a]) F hr hb hd hx I1 (.cons rfl .nil) q)

/-- what a class must have to be made -/
structure Mk (K : PySem.W.Frag) (C f : Addr) : Prop where
  makes : PySem.W.makesIn K C = true
  init : PySem.W.findIn K (.ref C) "__init__" = some (some (.ref f))
  fn : PySem.W.isFn K (.ref f) = true
  kp : PySem.W.keepIn K (.ref C) = true

theorem run_make {pins : List (Addr × Obj)} {σ : St} {H : Hp} {s : Shared} {Q : VK} {us : List Value} {vs : List V} (M : Mk X.K C f) (F : FnOk X.prog X.w X.K X.mg X.base CX k f fd ps sp) (hr : Room (k + 1) X.A) (hb : Binds X.K fd ps ds) (hd : Vals dvs ds)
    (hx : Passes CX X E) (I : Inv X pins σ H s) (r : Vals vs us)
    (h : ∀ x dx, H x = none → H dx = none → dx ≠ x → sp (.ref x :: (vs ++ dvs)) (upd (upd H dx (.own x)) x (.ins C dx [])) (fun v H2 => v = .non ∧ Q (.ref x) H2) E) :
    wpAny (model X.prog X.w) X.A (call (.ref C) us) (EP X pins σ Q) X.xe s := by
  have hq := h (s.heap.objs.size + 1) s.heap.objs.size (I.hok.fresh (Nat.le_succ _)) (I.hok.fresh (Nat.le_refl _)) (Nat.ne_of_lt (Nat.lt_succ_self _))
  have I2 := Inv.made (C := C) I
  have r2 : Vals (V.ref (s.heap.objs.size + 1) :: (vs ++ dvs)) (Value.ref (s.heap.objs.size + 1) :: (us ++ ds)) := .cons rfl (r.append hd)
  have hl : (Value.ref (s.heap.objs.size + 1) :: us ++ ds).length = ps.length := by
    have e := r2.length
    rw [F.len _ _ _ _ hq] at e
    exact e.symm
  refine wpAny_call (make_map (f := f) I.kIn M.makes M.init (beq_iff_eq.mp M.fn) (codeAny_mono (F.run _ X.stack _ _ ⟨Value.ref (s.heap.objs.size + 1) :: us, []⟩ (Value.ref (s.heap.objs.size + 1) :: (us ++ ds)) _ _ E (hr.make C us [])
    (I2.env0.make C us []) (hb _ (Value.ref (s.heap.objs.size + 1) :: us) I2.kIn hl) r2 hq) fun r s' hq' => ?_))
  cases r with
  | error e => exact hx pins σ _ _ e s' I2 hq'
  | ok fl =>
    cases fl with
    | ret u =>
      obtain ⟨v, H', I3, rv, ev, q3⟩ := I2.after hq'
      subst ev
      exact ⟨rv, ⟨V.ref (s.heap.objs.size + 1), H', I3, rfl, q3⟩⟩
    | next => exact False.elim hq'
    | brk => exact False.elim hq'
    | cont => exact False.elim hq'
theorem pe_make (M : Mk X.K C f) (F : FnOk X.prog X.w X.K X.mg X.base CX k f fd ps sp) (hr : Room (k + 1) X.A) (hg : Gl X x) (hm : X.mg x = some (.ref C)) (hb : Binds X.K fd ps ds) (hd : Vals dvs ds) (hx : Passes CX X E)
    (ha : PA X (e :: es) t) (hdb : (x == ("__debug__" : Str)) = false := by decide) (he : starEach (e :: es) X.env = (false, eval e X.env) :: starEach es X.env := by rfl) (hpl : (backTo pos (starEach es X.env)).any (·.1) = false := by rfl) :
    PE X (.Call (.Name x p) (e :: es) [] pos) (tMake C sp dvs E t) := by
  intro pins s σ H Q I h
  refine wpAny_Call_Name_kw (ld_glob I hg hm ?_ hdb)
  refine PySem.W.callWith_K (h₀ := X.base) I.ok.mod.kin M.kp (thn (ha pos pins s σ H _ I h) fun us s1 ⟨vs, H1, I1, r, q⟩ => ⟨I1.kIn, ?_⟩) he hpl
  exact run_make M F hr hb hd hx I1 r q
theorem pe_make0 (M : Mk X.K C f) (F : FnOk X.prog X.w X.K X.mg X.base CX k f fd ps sp) (hr : Room (k + 1) X.A) (hg : Gl X x) (hm : X.mg x = some (.ref C)) (hb : Binds X.K fd ps ds) (hd : Vals dvs ds) (hx : Passes CX X E)
    (hdb : (x == ("__debug__" : Str)) = false := by decide) : PE X (.Call (.Name x p) [] [] pos) (tMake C sp dvs E tNil) := by
  intro pins s σ H Q I h
  refine wpAny_Call_Name_kw (ld_glob I hg hm ?_ hdb)
  exact PySem.W.callWith_K0 I.kIn M.kp (run_make (us := []) M F hr hb hd hx I .nil h)
end

/-! ### keywords -/
/-- the values of the keywords, from the left -/
def PK (X : Cx) (kws : List Keyword) (t : TA) : Prop :=
  ∀ (pos : Pos) (pins : List (Addr × Obj)) (s : Shared) (σ : St) (H : Hp) (Q : List V → Hp → Prop), Inv X pins σ H s → t σ H Q → wpAny (model X.prog X.w) X.A (evalAll ((backToKw pos (keywordEach kws X.env)).map (·.2))) (AP X pins σ Q) X.xe s
section
variable {X : Cx} {CX : CXT} {k : Nat} {f C : Addr} {fd : FuncData} {ps ks : List Str} {sp : Sp} {E : XK} {x m : Str} {p pos apos kpos : Pos} {e o : Expr} {es : List Expr} {kws : List Keyword} {te ta : TE} {t tk : TA} {nm : Option Str}
theorem pk_nil : PK X [] tNil := fun _ _ _ _ H Q I h => wpAny_evalAll_nil ⟨[], H, I, .nil, h⟩
theorem pk_cons (ha : PE X e te) (hr : PK X kws t) : PK X (⟨nm, e, kpos⟩ :: kws) (tCons te t) := by
  intro pos pins s σ H Q I h
  show wpAny _ _ (evalAll ((do let v ← eval e X.env; standAt pos; pure v) :: (backToKw pos (keywordEach kws X.env)).map (·.2))) _ _ s
  refine wpAny_evalAll_cons (wpAny_bind (thn (ha pins s σ H _ I h) fun u s1 ⟨x, H1, I1, r1, q1⟩ => wpAny_bind (wpAny_standAt (wpAny_pure ?_))))
  exact thn (hr pos pins s1 σ H1 _ I1 q1) fun us s2 ⟨xs, H2, I2, r2, q2⟩ => ⟨x :: xs, H2, I2, .cons r1 r2, q2⟩

/-- how a call with keywords binds: g puts the positional values us and the keywords' values ws (names ks) in the parameters' order, defaults among them -/
structure KBinds (K : PySem.W.Frag) (fd : FuncData) (ps ks : List Str) (g : List Value → List Value → List Value) (gV : List V → List V → List V) : Prop where
  to : ∀ (s : Shared) (us ws : List Value), K.In s.heap → (g us ws).length = ps.length → BindsTo s fd ⟨us, ks.zip ws⟩ (ps.zip (g us ws))
  rel : ∀ {vs : List V} {us : List Value} {zs : List V} {ws : List Value}, Vals vs us → Vals zs ws → Vals (gV vs zs) (g us ws)
def tCallK (sp : Sp) (gV : List V → List V → List V) (E : XK) (t tk : TA) : TE := fun σ H Q => t σ H fun vs H1 => tk σ H1 fun zs H2 => sp (gV vs zs) H2 Q E
variable {g : List Value → List Value → List Value} {gV : List V → List V → List V}
theorem run_fnk {pins : List (Addr × Obj)} {σ : St} {H : Hp} {s : Shared} {Q : VK} {us ws : List Value} {vs zs : List V} (F : FnOk X.prog X.w X.K X.mg X.base CX k f fd ps sp) (hr : Room k X.A) (hb : KBinds X.K fd ps ks g gV) (hx : Passes CX X E)
    (I : Inv X pins σ H s) (r : Vals vs us) (rz : Vals zs ws) (h : sp (gV vs zs) H Q E) : wpAny (model X.prog X.w) X.A (call (.ref f) us (ks.zip ws)) (EP X pins σ Q) X.xe s := by
  have r2 := hb.rel r rz
  have hl : (g us ws).length = ps.length := by rw [← r2.length]; exact F.len _ _ _ _ h
  refine wpAny_call (codeAny_mono (F.run X.A X.stack s H ⟨us, ks.zip ws⟩ (g us ws) (gV vs zs) Q E hr I.env0 (hb.to s us ws I.kIn hl) r2 h) fun r s' hq => ?_)
  cases r with
  | error e => exact hx pins σ H s e s' I hq
  | ok fl =>
    cases fl with
    | ret u => exact I.after hq
    | next => exact False.elim hq
    | brk => exact False.elim hq
    | cont => exact False.elim hq
/-- f(e, .., k = v, ..) -/
theorem pe_callK (F : FnOk X.prog X.w X.K X.mg X.base CX k f fd ps sp) (hr : Room k X.A) (hg : Gl X x) (hm : X.mg x = some (.ref f)) (hk : PySem.W.keepIn X.K (.ref f) = true) (hb : KBinds X.K fd ps ks g gV) (hx : Passes CX X E)
    (ha : PA X (e :: es) t) (hkw : PK X kws tk) (hall : (backToKw pos (keywordEach kws X.env)).all (·.1.isSome) = true := by rfl) (hks : (backToKw pos (keywordEach kws X.env)).filterMap (·.1) = ks := by rfl)
    (hdb : (x == ("__debug__" : Str)) = false := by decide) (he : starEach (e :: es) X.env = (false, eval e X.env) :: starEach es X.env := by rfl)
    (hpl : ((backTo pos (starEach (e :: es) X.env)).any (·.1) || (backToKw pos (keywordEach kws X.env)).any (·.1.isNone)) = false := by rfl) :
    PE X (.Call (.Name x p) (e :: es) kws pos) (tCallK sp gV E t tk) := by
  intro pins s σ H Q I h
  refine wpAny_Call_Name_kw (ld_glob I hg hm ?_ hdb)
  refine PySem.W.callWith_KW (h₀ := X.base) I.ok.mod.kin hk hall (thn (ha pos pins s σ H _ I h) fun us s1 ⟨vs, H1, I1, r, q⟩ => ?_) hpl he
  refine thn (hkw pos pins s1 σ H1 _ I1 q) fun ws s2 ⟨zs, H2, I2, rz, q2⟩ => ⟨I2.kIn, ?_⟩
  rw [hks]
  exact run_fnk F hr hb hx I2 r rz q2
end

/-! ### a def's body keeps its promise -/
/-- names: the parameters first -/
structure FnScope (N P : List Str) (sc : Scope) : Prop where
  kind : sc.kind = .function
  co : sc.isCoroutine = false
  gen : sc.isGenerator = false
  nd : N.Nodup
  pre : N.take P.length = P
  par : ∀ x ∈ P, sc.names.lookup x = some .local ∨ sc.names.lookup x = some .cell
  nofree : ∀ y ∈ sc.names, y.2 ≠ .free

theorem bindL_out {kindOf : Str → Option NameKind} {x : Str} : ∀ {binds : List (Str × Value)} {m : Str → Option Value}, (∀ v, (x, v) ∉ binds) → bindL kindOf binds m x = m x
  | [], _, _ => rfl
  | (n, v) :: r, m, h => by
    unfold bindL
    rw [bindL_out fun w hw => h w (List.mem_cons_of_mem _ hw)]
    split
    · have : x ≠ n := by rintro rfl; exact h v List.mem_cons_self
      simp [this]
    · rfl
theorem bindC_out {kindOf : Str → Option NameKind} {x : Str} : ∀ {binds : List (Str × Value)} {m : Str → Option Value}, (∀ v, (x, v) ∉ binds) → bindC kindOf binds m x = m x
  | [], _, _ => rfl
  | (n, v) :: r, m, h => by
    unfold bindC
    rw [bindC_out fun w hw => h w (List.mem_cons_of_mem _ hw)]
    split
    · rfl
    · have : x ≠ n := by rintro rfl; exact h v List.mem_cons_self
      simp [this]
theorem bindL_get {kindOf : Str → Option NameKind} {x : Str} {v : Value} : ∀ {P : List Str} {vs : List Value} {i : Nat} {m : Str → Option Value}, P.Nodup → P[i]? = some x → vs[i]? = some v → kindOf x = some .local →
    bindL kindOf (P.zip vs) m x = some v
  | [], _, _, _, _, h, _, _ => by simp at h
  | _ :: _, [], _, _, _, _, h, _ => by simp at h
  | p :: P, w :: vs, 0, m, nd, h1, h2, hk => by
    simp at h1 h2; subst h1; subst h2
    show bindL kindOf ((p, w) :: P.zip vs) m p = _
    unfold bindL
    rw [bindL_out fun v hv => (List.nodup_cons.mp nd).1 (List.of_mem_zip hv).1, if_pos hk]
    simp
  | p :: P, w :: vs, i + 1, m, nd, h1, h2, hk => by
    show bindL kindOf ((p, w) :: P.zip vs) m x = _
    unfold bindL
    exact bindL_get (i := i) (List.nodup_cons.mp nd).2 (by simpa using h1) (by simpa using h2) hk
theorem bindC_get {kindOf : Str → Option NameKind} {x : Str} {v : Value} : ∀ {P : List Str} {vs : List Value} {i : Nat} {m : Str → Option Value}, P.Nodup → P[i]? = some x → vs[i]? = some v → kindOf x ≠ some .local →
    bindC kindOf (P.zip vs) m x = some v
  | [], _, _, _, _, h, _, _ => by simp at h
  | _ :: _, [], _, _, _, _, h, _ => by simp at h
  | p :: P, w :: vs, 0, m, nd, h1, h2, hk => by
    simp at h1 h2; subst h1; subst h2
    show bindC kindOf ((p, w) :: P.zip vs) m p = _
    unfold bindC
    rw [bindC_out fun v hv => (List.nodup_cons.mp nd).1 (List.of_mem_zip hv).1, if_neg hk]
    simp
  | p :: P, w :: vs, i + 1, m, nd, h1, h2, hk => by
    show bindC kindOf ((p, w) :: P.zip vs) m x = _
    unfold bindC
    exact bindC_get (i := i) (List.nodup_cons.mp nd).2 (by simpa using h1) (by simpa using h2) hk

/-- the names' values at the entry -/
def start (N : List Str) (vs : List V) : St := vs.map some ++ List.replicate (N.length - vs.length) none

/-- the context of a def's body, at its entry; an exception leaves the frame, then lies as CX says -/
def cxOf (CX : CXT) (P : Program) (w : World) (K : PySem.W.Frag) (mg : Str → Option Value) (base : Heap) (N : List Str) (qual : Str) (scope : Scope) (f : Addr) (cd : Value) (A : Around) (outer : List Env) (s : Shared) (H : Hp) (E : XK) : Cx where
  prog := P
  w := w
  K := K
  mg := mg
  base := base
  A := A.deeper (envOfC qual scope s.heap.objs.size f cd)
  N := N
  s₀ := s
  H₀ := H
  env := envOfC qual scope s.heap.objs.size f cd
  outer := outer
  stack := envOfC qual scope s.heap.objs.size f cd :: outer
  ex := []
  calm := true
  fn := fun _ => true
  pn := []
  xe := fun e s' => wpAny (model P w) (A.deeper (envOfC qual scope s.heap.objs.size f cd)) (leaving (envOfC qual scope s.heap.objs.size f cd) e) (fun _ s'' => CX outer H s E e s'') (fun e' s'' => CX outer H s E e' s'') s'

theorem cell_has {sc : Scope} {n : Nat} {x : Str} (h : sc.names.lookup x = some .cell) : ∃ c, (cellsFrom n sc.names []).lookup x = some c := by
  have q := PySem.W.cellsFrom_some sc.names n [] (.inl h)
  exact Option.isSome_iff_exists.mp q

theorem inv_start {CX : CXT} {P : Program} {w : World} {K : PySem.W.Frag} {mg : Str → Option Value} {base : Heap} {N ps : List Str} {qual : Str} {scope : Scope} {f : Addr} {cd : Value} {A : Around} {outer : List Env} {s s1 : Shared} {H : Hp} {E : XK} {us : List Value} {vs : List V}
    (S : FnScope N ps scope) (hd : A.handled = none) (e0 : Env0 P w K mg base A outer s H) (hl : vs.length = ps.length) (r : Vals vs us)
    (x : InCallC s s.heap.objs.size (bindL (envOfC qual scope s.heap.objs.size f cd).kindOf (ps.zip us) fun _ => none) (cellsFrom (s.heap.objs.size + 1) scope.names []) (bindC (envOfC qual scope s.heap.objs.size f cd).kindOf (ps.zip us) fun _ => none) s1) :
    Inv (cxOf CX P w K mg base N qual scope f cd A outer s H E) [] (start N vs) H s1 := by
  have hpl : ps.length ≤ N.length := by have := congrArg List.length S.pre; rw [List.length_take] at this; omega
  obtain ⟨h1, tk, rfl, hk⟩ := x.done
  have noA : ∀ b : Addr, b ∉ (cxOf CX P w K mg base N qual scope f cd A outer s H E).ex := fun b z => absurd (show b ∈ ([] : List Addr) from z) (by simp)
  refine ⟨⟨e0.mod, S.kind, rfl, rfl, Nat.le_refl _, fun y z c h1 h2 => ?_, fun y hy => ?_, fun y c _ h => ?_, fun _ => hd, Around.frames_deeper e0.frames, .inr ⟨rfl, rfl⟩, fun b z => absurd z (noA b), e0.bs, e0.bsz, fun b _ _ => noA b, fun b z => absurd z (noA b), e0.funs, e0.frf⟩,
    rfl, e0.bare, Un.kept hk, ⟨_, x.toInCall.ns, fun i y v h1 h2 h3 => ?_⟩, fun y c h => ⟨_, x.cell y c h⟩, e0.hok.fresh (Nat.le_refl _), fun y c h => ?_, fun p hp => absurd (show p ∈ ([] : List (Addr × Obj)) from hp) (by simp), e0.hok.kept hk, ?_⟩
  · exact name_of_addr x.apart (PySem.mem_of_lookup h1) (PySem.mem_of_lookup h2)
  · have hy : scope.names.lookup y = some .cell ∨ scope.names.lookup y = some .free := hy
    rcases hy with hy | hy
    · exact cell_has hy
    · exact absurd rfl (S.nofree _ (PySem.mem_of_lookup hy))
  · exact Nat.le_of_lt (x.above y c (PySem.mem_of_lookup h))
  · have hi : i < vs.length := by
      unfold start at h2
      by_cases hi : i < vs.length
      · exact hi
      · rw [List.getElem?_append_right (by simpa using hi)] at h2
        rw [List.getElem?_replicate] at h2
        split at h2 <;> cases h2
    have ha : vs[i]? = some v := by
      unfold start at h2
      rw [List.getElem?_append_left (by simpa using hi), List.getElem?_map] at h2
      cases e : vs[i]? with
      | none => rw [e] at h2; cases h2
      | some a => rw [e] at h2; cases h2; rfl
    obtain ⟨u, hu, rv⟩ := r.get ha
    have hp : ps[i]? = some y := by
      rw [← S.pre, List.getElem?_take_of_lt (by omega)]; exact h1
    have ndP : ps.Nodup := by rw [← S.pre]; exact S.nd.sublist (List.take_sublist _ _)
    refine ⟨u, rv, ?_⟩
    rcases S.par y (List.mem_of_getElem? hp) with k | k
    · exact .inl ⟨k, bindL_get ndP hp hu k⟩
    · obtain ⟨c, e⟩ := cell_has (n := s.heap.objs.size + 1) k
      refine .inr ⟨.inl k, c, e, ?_⟩
      have q := x.cell y c e
      rw [bindC_get ndP hp hu (by show scope.names.lookup y ≠ _; rw [k]; decide)] at q
      exact q
  · exact e0.hok.fresh (Nat.le_of_lt (x.above y c (PySem.mem_of_lookup h)))
  · unfold start
    show _ = N.length
    rw [List.length_append, List.length_map, List.length_replicate]
    omega

/-- THE RULE: a def (or a method) of the text, by its body. The body's reading t is chosen for each entry; it is run at the parameters' values -/
theorem fn_of {CX : CXT} {P : Program} {w : World} {K : PySem.W.Frag} {mg : Str → Option Value} {base : Heap} {k : Nat} {f : Addr} {name qual : Str} {params : Arguments} {body : List Stmt} {scope : Scope} {dV kV doc pm cdv ct oc : Value} {an od : Option Addr}
    {osl : Array (Option Value)} {N ps : List Str} {sp : Sp} (lk : K.lookup f = some ⟨oc, od, .func (PySem.W.fnOf name qual params body scope dV kV doc pm an cdv ct), osl⟩) (hcd : PySem.W.codeIn K cdv qual = true) (S : FnScope N ps scope)
    (len : ∀ vs H Q E, sp vs H Q E → vs.length = ps.length)
    (hbody : ∀ (A : Around) (outer : List Env) (s : Shared) (H : Hp) (vs : List V) (Q : VK) (E : XK), Room k (A.deeper (envOfC qual scope s.heap.objs.size f cdv)) → sp vs H Q E →
      ∃ t, PSs (cxOf CX P w K mg base N qual scope f cdv A outer s H E) body t ∧ t { nx := fun _ H' => Q .non H', rt := Q } (start N vs) H) :
    FnOk P w K mg base CX (k + 1) f (PySem.W.fnOf name qual params body scope dV kV doc pm an cdv ct) ps sp := by
  refine ⟨len, fun A outer s H args us vs Q E hr e0 hb r hsp => ?_⟩
  have hl := len _ _ _ _ hsp
  have KX : K.In s.heap := e0.mod.kin.keeps fun b o e => (e0.bs b o e).1
  have lim : s.heap.NoLimit := e0.mod.nolimit.keeps fun b o e => (e0.bs b o e).1
  have hkind : ∀ y ∈ ps.zip us, scope.names.lookup y.1 = some .local ∨ (scope.names.lookup y.1 = some .cell ∧ ((cellsFrom (s.heap.objs.size + 1) scope.names []).lookup y.1).isSome = true) := fun ⟨n, v⟩ hy => by
    rcases S.par n (List.of_mem_zip hy).1 with q | q
    · exact .inl q
    · exact .inr ⟨q, PySem.W.cellsFrom_some _ _ _ (.inl q)⟩
  refine codeAny_call_function hr.depth (KX _ _ lk) rfl S.co S.gen rfl (PySem.W.codeRec_of KX hcd) (hb _ _ _ _ ?_)
  refine wpAny_newFunctionEnv_cells S.kind hkind fun env he s1 x => ?_
  subst he
  refine ⟨lim.keeps x.toInCall.keep, codeAny_func ?_⟩
  obtain ⟨t, ht, hq⟩ := hbody A outer s H vs Q E (hr.deeper _) hsp
  have I : Inv (cxOf CX P w K mg base N qual scope f cdv A outer s H E) [] (start N vs) H s1 := inv_start S hr.hd e0 hl r x
  refine wpAny_mono (ht [] s1 (start N vs) H _ I hq) (fun fl s' hs => ?_) fun e s' hs => hs
  have fin : ∀ {σ' : St} {H' : Hp} {v : V} {u : Value}, Inv (cxOf CX P w K mg base N qual scope f cdv A outer s H E) [] σ' H' s' → RelV v u → Q v H' → CE outer P w H s Q u s' :=
    fun {σ' H' v u} J rv q => ⟨v, H', J.os, J.bare, J.base, J.hok, rv, q⟩
  cases fl with
  | ret u =>
    obtain ⟨v, σ', H', J, rv, q⟩ := hs
    exact fin J rv q
  | next =>
    obtain ⟨σ', H', J, q⟩ := hs
    exact fin (v := V.non) (u := Value.none) J rfl q
  | brk =>
    obtain ⟨_, _, _, q⟩ := hs
    exact False.elim q
  | cont =>
    obtain ⟨_, _, _, q⟩ := hs
    exact False.elim q
end L2

namespace L2
open PySem PySem.Spec PyProof.Rows
section
variable {X : Cx} {x : Str} {p pos : Pos} {e : Expr} {es : List Expr} {t : TA} {id T : String} {r : List V → Hp → VK → Prop}

def tCB (r : List V → Hp → VK → Prop) (t : TA) : TE := fun σ H Q => t σ H fun vs H1 => r vs H1 Q
/-- f(e, ..), f a built-in function -/
theorem pe_callB (hc : CallR X (.builtin id) r) (hg : Gl X x) (hm : X.mg x = none) (hv : bootBuiltins x = some (.builtin id)) (ha : PA X (e :: es) t) (hn : x ≠ "__name__" := by decide) (hdb : (x == ("__debug__" : Str)) = false := by decide)
    (he : starEach (e :: es) X.env = (false, eval e X.env) :: starEach es X.env := by rfl) (hpl : (backTo pos (starEach es X.env)).any (·.1) = false := by rfl) : PE X (.Call (.Name x p) (e :: es) [] pos) (tCB r t) := by
  intro pins s σ H Q I h
  refine wpAny_Call_Name_kw (ld_blt I hg hm hv ?_ hn hdb)
  exact PyProof.Rows.callWith_builtin1 (thn (ha pos pins s σ H _ I h) fun us s1 ⟨vs, H1, I1, r1, q1⟩ => hc pins s1 σ H1 vs us Q I1 r1 q1) he hpl
/-- T(e, ..), T a built-in type -/
theorem pe_callTy (hc : CallR X (.type T) r) (hg : Gl X x) (hm : X.mg x = none) (hv : bootBuiltins x = some (.type T)) (ha : PA X (e :: es) t) (hn : x ≠ "__name__" := by decide) (hdb : (x == ("__debug__" : Str)) = false := by decide)
    (he : starEach (e :: es) X.env = (false, eval e X.env) :: starEach es X.env := by rfl) (hpl : (backTo pos (starEach es X.env)).any (·.1) = false := by rfl) : PE X (.Call (.Name x p) (e :: es) [] pos) (tCB r t) := by
  intro pins s σ H Q I h
  refine wpAny_Call_Name_kw (ld_blt I hg hm hv ?_ hn hdb)
  exact PyProof.Rows.callWith_type1 (thn (ha pos pins s σ H _ I h) fun us s1 ⟨vs, H1, I1, r1, q1⟩ => hc pins s1 σ H1 vs us Q I1 r1 q1) he hpl
/-- T() -/
theorem pe_callTy0 (hc : CallR X (.type T) r) (hg : Gl X x) (hm : X.mg x = none) (hv : bootBuiltins x = some (.type T)) (hn : x ≠ "__name__" := by decide) (hdb : (x == ("__debug__" : Str)) = false := by decide) :
    PE X (.Call (.Name x p) [] [] pos) (tCB r tNil) := by
  intro pins s σ H Q I h
  refine wpAny_Call_Name_kw (ld_blt I hg hm hv ?_ hn hdb)
  exact PyProof.Rows.callWith_type0 (hc pins s σ H [] [] Q I .nil h)
end
end L2

namespace HT
open PySem PyProof.Rows

/-- t < u of tuples of ints -/
def lexLt : List Int → List Int → Bool
  | [], [] => false
  | [], _ :: _ => true
  | _ :: _, [] => false
  | x :: xs, y :: ys => if x = y then lexLt xs ys else decide (x < y)
theorem lexLt_cons (x y : Int) (xs ys : List Int) : lexLt (x :: xs) (y :: ys) = if x = y then lexLt xs ys else decide (x < y) := rfl
theorem lexLt_nil_nil : lexLt [] [] = false := rfl
theorem lexLt_nil_cons (y : Int) (ys : List Int) : lexLt [] (y :: ys) = true := rfl
theorem lexLt_cons_nil (x : Int) (xs : List Int) : lexLt (x :: xs) [] = false := rfl

theorem eqAt_int (A : Around) (s : Shared) (a : Int) (t : Tok) (c : Int) (u : Tok) : ∃ e, SeqAt.EqAt A s (.int a t) (.int c u) e ∧ (e = true ↔ a = c) :=
  ⟨(a == c), SeqAt.EqAt.int_int a t c u, by simp⟩
theorem rcLt_int (A : Around) (s : Shared) (a : Int) (t : Tok) (c : Int) (u : Tok) (prog : Program) (w : World) (E : Value → Shared → Prop) (Q : Value → Shared → Prop) (h : Q (.bool (decide (a < c))) s) :
    wpAny (model prog w) A (richCompare .Lt (.int a t) (.int c u)) Q E s :=
  (PyProof.Rows.lt_int h : wpAny (model prog w) A (compareOp .Lt (.int a t) (.int c u)) Q E s)

section
open PySem.SeqAt
open PySem.AutoSeq1 (wpAny_loadPart')
open PySem.MeetsSeq PySem.MeetsSeq2 PySem.MeetsSeq3

theorem tuple_lt_ints (l b : Addr) (items items2 : Array Value) (n n2 : Nat) (dd dd2 : Option Addr) (sl sl2 : Array (Option Value)) (ns ms : List Int) (hi : IntsAre items.toList ns) (hj : IntsAre items2.toList ms) :
    Meets (Builtin.«tuple.__lt__» ⟨[.ref l, .ref b], []⟩)
      (fun _ R s => s.heap.get? l = some { cls := .type "tuple", dict := dd, data := .seq items n, slots := sl } ∧ s.heap.get? b = some { cls := .type "tuple", dict := dd2, data := .seq items2 n2, slots := sl2 } ∧
        R (.ok (.ret (.bool (lexLt ns ms)))) s) :=
  .of_wp fun prog w A R s h => by
    obtain ⟨hp, g, d, tk, os⟩ := s; obtain ⟨hl, hb, h⟩ := h
    have f2 := AutoSeq1.sub_tuple_tuple
    have z1 : items.size = ns.length := by rw [← hi.length]; simp
    have z2 : items2.size = ms.length := by rw [← hj.length]; simp
    wp_walk using wpAny_loadPart' hl, wpAny_loadPart' hb, wpAny_forIn_list _ (fun rest b s' => b.1 = none ∧ s' = ⟨hp, g, d, tk, os⟩ ∧ ∃ (vs ws : List Value) (ns' ms' : List Int), rest = vs.zip ws ∧
      IntsAre vs ns' ∧ IntsAre ws ms' ∧ ns'.length + items2.size = ms'.length + items.size ∧ R (.ok (.ret (.bool (lexLt ns' ms')))) ⟨hp, g, d, tk, os⟩) _
    case turn =>
      rintro ⟨y, x⟩ rest b s' ⟨hb', rfl, vs, ws, ns', ms', hz, hvi, hwi, hlen, hR⟩
      cases hvi with
      | nil => rw [List.zip_nil_left] at hz; cases hz
      | cons a t hvi' =>
        cases hwi with
        | nil => rw [List.zip_nil_right] at hz; cases hz
        | cons c u hwi' =>
          rw [List.zip_cons_cons] at hz
          injection hz with hyx hrest
          injection hyx with hy hx
          subst hy hx
          rw [lexLt_cons] at hR
          simp only [List.length_cons] at hlen
          obtain ⟨e, he, hiff⟩ := eqAt_int A.in1 ⟨hp, g, d, tk, os⟩ a t c u
          refine wpAny_bind (he prog w _ _ ?_)
          cases e with
          | true =>
            rw [if_pos (hiff.mp rfl)] at hR
            wp_walk
            exact ⟨rfl, rfl, _, _, _, _, hrest, hvi', hwi', by omega, hR⟩
          | false =>
            rw [if_neg (fun q => absurd (hiff.mpr q) Bool.false_ne_true)] at hR
            have hri := rcLt_int A.in1 ⟨hp, g, d, tk, os⟩ a t c u prog w
            wp_walk using hri
            exact ⟨_, rfl, by simpa using hR⟩
    case fin =>
      rintro ⟨b1, b2⟩ s' ⟨hb', rfl, vs, ws, ns', ms', hz, hvi, hwi, hlen, hR⟩
      simp only at hb'
      subst hb'
      have hv : lexLt ns' ms' = decide (items.size < items2.size) := by
        cases hvi with
        | nil =>
          cases hwi with
          | nil =>
            simp only [List.length_nil] at hlen
            rw [lexLt_nil_nil]
            exact (decide_eq_false (by omega)).symm
          | cons c u hw =>
            simp only [List.length_nil, List.length_cons] at hlen
            rw [lexLt_nil_cons]
            exact (decide_eq_true (by omega)).symm
        | cons a t hv =>
          cases hwi with
          | nil =>
            simp only [List.length_nil, List.length_cons] at hlen
            rw [lexLt_cons_nil]
            exact (decide_eq_false (by omega)).symm
          | cons c u hw =>
            rw [List.zip_cons_cons] at hz
            cases hz
      rw [hv] at hR
      wp_walk
      exact ⟨_, rfl, by simpa [Builtin.Tuple.tupleCompareSizes] using hR⟩
    case h =>
      exact ⟨rfl, rfl, items.toList, items2.toList, ns, ms, rfl, hi, hj, by omega, h⟩
end

section
variable {prog : Program} {w : World} {A : Around} {E : Value → Shared → Prop} {s : Shared}

theorem lt_tupInts {l b : Addr} {items items2 : Array Value} {ns ms : List Int} {Q : Value → Shared → Prop} (hl : IsTup s.heap l items) (hb : IsTup s.heap b items2) (hi : IntsAre items.toList ns) (hj : IntsAre items2.toList ms)
    (hu : A.units < cLine) (h : Q (.bool (lexLt ns ms)) s) : wpAny (model prog w) A (compareOp .Lt (.ref l) (.ref b)) Q E s := by
  obtain ⟨⟨cls, dd, data, sl⟩, ho, hc, n, hd⟩ := id hl
  obtain ⟨⟨cls2, dd2, data2, sl2⟩, ho2, hc2, n2, hd2⟩ := id hb
  simp only at hc hd hc2 hd2
  subst hc hd hc2 hd2
  exact richCompare_meets_room (op := .Lt) ⟨_, ho, rfl⟩ ⟨_, ho2, rfl⟩ PySem.F.slot_tuple_lt PySem.F.entry_tuple_lt (PySem.F.args_tuple_lt_2 _ _) (tuple_lt_ints l b items items2 n n2 dd dd2 sl sl2 ns ms hi hj)
    ⟨ho, ho2, show Value.bool (lexLt ns ms) ≠ Value.notImplemented ∧ Q (.bool (lexLt ns ms)) s from ⟨(fun x => nomatch x), h⟩⟩ hu

/-- t + u, t not empty -/
theorem cat_tup {t b : Addr} {vs ws : List Value} {Q : Value → Shared → Prop} (ht : IsTup s.heap t vs.toArray) (hb : IsTup s.heap b ws.toArray) (hv : vs ≠ [])
    (h1 : ws = [] → Q (.ref t) s) (h2 : ws ≠ [] → Q (.ref s.heap.objs.size) { s with heap := s.heap.push { cls := .type "tuple", data := .seq (vs ++ ws).toArray } })
    (hsz : vs.length + ws.length ≤ sizeLine) : wpAny (model prog w) A (binaryOp .Add (.ref t) (.ref b)) Q E s := by
  obtain ⟨⟨cls, dd, data, sl⟩, ho, hc, n, hd⟩ := id ht
  obtain ⟨⟨cls2, dd2, data2, sl2⟩, ho2, hc2, n2, hd2⟩ := id hb
  simp only at hc hd hc2 hd2
  subst hc hd hc2 hd2
  have e : vs.toArray ++ ws.toArray = (vs ++ ws).toArray := by simp
  by_cases hw : ws = []
  · exact concat_meets ⟨_, ho, rfl⟩ ⟨_, ho2, rfl⟩ noFill_tuple_add seq_tuple_add PySem.F.slot_tuple_add PySem.F.entry_tuple_add (PySem.F.args_tuple_add_2 _ _)
      (tuple_addW1 t b vs.toArray ws.toArray n n2 dd dd2 sl sl2 (by simpa using hv) (by simp [hw])) ⟨ho, ho2, h1 hw⟩
  · refine concat_meets ⟨_, ho, rfl⟩ ⟨_, ho2, rfl⟩ noFill_tuple_add seq_tuple_add PySem.F.slot_tuple_add PySem.F.entry_tuple_add (PySem.F.args_tuple_add_2 _ _)
      (tuple_addW2 t b vs.toArray ws.toArray n n2 dd dd2 sl sl2 (by simpa using hv) (by simpa using hw) (by rw [List.size_toArray, List.size_toArray]; exact hsz)) ⟨ho, ho2, ?_⟩
    rw [e]
    exact h2 hw

/-! ### t[a:b], not the whole -/
/-- a slice's bound as a place among n (d where it is left out) -/
def sIx (n d : Nat) : Option Int → Nat
  | none => d
  | some v => if v < 0 then (v + (n : Int)).toNat else min v.toNat n
theorem sIx_none (n d : Nat) : sIx n d none = d := rfl
theorem sIx_nat (n d k : Nat) : sIx n d (some (k : Int)) = min k n := by
  show (if (k : Int) < 0 then ((k : Int) + (n : Int)).toNat else min (k : Int).toNat n) = min k n
  rw [if_neg (by omega), Int.toNat_natCast]
theorem sIx_le (n d : Nat) (hd : d ≤ n) (o : Option Int) : sIx n d o ≤ n := by
  cases o with
  | none => exact hd
  | some v =>
    show (if v < 0 then (v + (n : Int)).toNat else min v.toNat n) ≤ n
    by_cases hv : v < 0
    · rw [if_pos hv]; omega
    · rw [if_neg hv]; exact Nat.min_le_right _ _
theorem clip_eq (v : Int) (n d : Nat) : (if v < 0 then max (v + (n : Int)) 0 else min v (n : Int)) = ((sIx n d (some v) : Nat) : Int) := by
  show (if v < 0 then max (v + (n : Int)) 0 else min v (n : Int)) = (((if v < 0 then (v + (n : Int)).toNat else min v.toNat n) : Nat) : Int)
  by_cases hv : v < 0
  · simp only [if_pos hv]; omega
  · simp only [if_neg hv]; omega
theorem adjust_gen (lo hi : Option Int) (n : Nat) : Builtin.Slice.sliceAdjust lo hi 1 (n : Int) = (((sIx n 0 lo : Nat) : Int), ((sIx n n hi : Nat) : Int)) := by
  have h1 : ¬ ((1 : Int) < 0) := by omega
  unfold Builtin.Slice.sliceAdjust
  simp only [h1, if_false]
  refine Prod.ext ?_ ?_
  · cases lo with
    | none => rfl
    | some v => exact clip_eq v n 0
  · cases hi with
    | none => rfl
    | some v => exact clip_eq v n n
theorem places_gen (i j : Nat) : Builtin.Slice.slicePlaces (i : Int) (j : Int) 1 = j - i := by
  unfold Builtin.Slice.slicePlaces
  have h1 : (1 : Int) > 0 := by omega
  simp only [h1, if_true, Int.ediv_one]
  split <;> omega
theorem slicePart_ {v : Value} {o : Option Int} {Q : Option Int → Shared → Prop} (p : IsPart v o) (h : Q o s) : wpAny (model prog w) A (Builtin.Slice.slicePartIndex v) Q E s := by
  cases p with
  | none => exact slicePart_none h
  | int i t => exact slicePart_int h
theorem sliceApplied_gen {sl : Addr} {vl vu : Value} {lo hi : Option Int} {n : Nat} {Q : Int × Int × Nat → Shared → Prop} (hs : s.heap.IsSliceOf sl vl vu .none) (pl : IsPart vl lo) (pu : IsPart vu hi)
    (h : Q (((sIx n 0 lo : Nat) : Int), 1, sIx n n hi - sIx n 0 lo) s) : wpAny (model prog w) A (Builtin.Slice.sliceApplied (.ref sl) (pure (n : Int))) Q E s := by
  obtain ⟨os, hos, hcs, hds⟩ := id hs
  unfold Builtin.Slice.sliceApplied Builtin.Slice.sliceFields
  refine wpAny_bind (wpAny_bind (wpAny_field hos hds (x := vl) rfl (wpAny_bind (wpAny_field hos hds (x := vu) rfl (wpAny_bind (wpAny_field hos hds (x := .none) rfl (wpAny_pure ?_)))))))
  refine wpAny_bind (slicePart_none ?_)
  show wpAny _ _ (if ((1 : Int) == 0) = true then _ else _) _ _ s
  rw [if_neg (by decide)]
  refine wpAny_bind (slicePart_ pl (wpAny_bind (slicePart_ pu (wpAny_bind (wpAny_pure ?_)))))
  show wpAny _ _ (match Builtin.Slice.sliceAdjust lo hi 1 (n : Int) with | (lo, hi) => pure (lo, (1 : Int), Builtin.Slice.slicePlaces lo hi 1)) _ _ s
  rw [adjust_gen lo hi n]
  show wpAny _ _ (pure (((sIx n 0 lo : Nat) : Int), (1 : Int), Builtin.Slice.slicePlaces ((sIx n 0 lo : Nat) : Int) ((sIx n n hi : Nat) : Int) 1)) _ _ s
  rw [places_gen]
  exact wpAny_pure h
theorem pick_gen (xs : Array Value) (i k : Nat) : ((List.range k).filterMap fun (m : Nat) => xs[((i : Int) + (m : Int) * 1).toNat]?).toArray = ((xs.toList.drop i).take k).toArray := by
  have e : (fun (m : Nat) => xs[((i : Int) + (m : Int) * 1).toNat]?) = fun m => xs[i + m]? := by
    funext m
    have : ((i : Int) + (m : Int) * 1).toNat = i + m := by omega
    rw [this]
  rw [e]
  have := pick_run xs i k
  rw [List.filterMap_map] at this
  have e2 : ((fun x => xs[x]?) ∘ fun x => i + x) = fun m => xs[i + m]? := rfl
  rw [e2] at this
  rw [this]

theorem getItem_tuple_cut {t sl : Addr} {items : Array Value} {vl vu : Value} {lo hi : Option Int} {Q : Value → Shared → Prop} (ht : IsTup s.heap t items) (hs : s.heap.IsSliceOf sl vl vu .none) (pl : IsPart vl lo) (pu : IsPart vu hi)
    (hw : ¬ (sIx items.size 0 lo = 0 ∧ sIx items.size items.size hi = items.size))
    (h : Q (.ref s.heap.objs.size) { s with heap := s.heap.push { cls := .type "tuple", data := .seq ((items.toList.drop (sIx items.size 0 lo)).take (sIx items.size items.size hi - sIx items.size 0 lo)).toArray } })
    (hsz : items.size ≤ sizeLine) : wpAny (model prog w) A (getItem (.ref t) (.ref sl)) Q E s := by
  have htake : sizeOk (.seq ((items.toList.drop (sIx items.size 0 lo)).take (sIx items.size items.size hi - sIx items.size 0 lo)).toArray) := by
    show ((items.toList.drop (sIx items.size 0 lo)).take (sIx items.size items.size hi - sIx items.size 0 lo)).toArray.size ≤ sizeLine
    rw [List.size_toArray, List.length_take, List.length_drop, Array.length_toList]
    omega
  have hj : sIx items.size items.size hi ≤ items.size := sIx_le _ _ (Nat.le_refl _) hi
  obtain ⟨os, hos, hcs, hds⟩ := id hs
  have hTs : s.TypeIs (.ref sl) "slice" := ⟨os, hos, hcs⟩
  unfold getItem
  try with_reducible refine wpAny_holding ?_
  first | refine wpAny_bind (wpAny_pure ?_) | skip
  refine wpAny_bind (wpAny_sequenceKey ht.typeIs (by decide) ?_)
  refine wpAny_bind (wpAny_callSpecial?_slot (name := Str.ofString "__getitem__") ht.typeIs PyProof.Rows.slot_tuple_getitem
    (wpAny_call_entry PyProof.Rows.slot_tuple_getitem ht.typeIs entry_tuple_getitem ?_ (args_tuple_getitem _ _)))
  show wpAny _ _ (Builtin.Tuple.tupleItemsOf (.ref t) >>= _) _ _ s
  refine wpAny_bind (tupleItemsOf_ ht ?_)
  refine wpAny_bind (wpAny_typeOf hTs ?_)
  rw [if_pos (by decide)]
  refine wpAny_bind (sliceApplied_gen hs pl pu ?_)
  have hno : ¬ ((((sIx items.size 0 lo : Nat) : Int) == 0 && (1 : Int) == 1 && (sIx items.size items.size hi - sIx items.size 0 lo) == items.size) = true) := by
    intro q
    rw [Bool.and_eq_true, Bool.and_eq_true] at q
    have q1 : ((sIx items.size 0 lo : Nat) : Int) = 0 := eq_of_beq q.1.1
    have q2 : sIx items.size items.size hi - sIx items.size 0 lo = items.size := eq_of_beq q.2
    exact hw ⟨by omega, by omega⟩
  show wpAny _ _ (if (((sIx items.size 0 lo : Nat) : Int) == 0 && (1 : Int) == 1 && (sIx items.size items.size hi - sIx items.size 0 lo) == items.size) = true then _ else _) _ _ s
  rw [if_neg hno, pick_gen]
  first
    | exact wpAny_bind (m := Builtin.Tuple.tupleExact _) (wpAny_newObj_type (wpAny_pure ⟨_, rfl, wpAny_pure h⟩) htake)
    | exact wpAny_bind (m := Builtin.Tuple.tupleExact _) (wpAny_newObj_type (wpAny_bind (wpAny_pure (wpAny_pure ⟨_, rfl, wpAny_pure h⟩))) htake)
    | exact wpAny_bind (wpAny_bind (m := Builtin.Tuple.tupleExact _) (wpAny_newObj_type (wpAny_pure (wpAny_pure ⟨_, rfl, wpAny_pure h⟩)) htake))
    | exact wpAny_bind (wpAny_bind (m := Builtin.Tuple.tupleExact _) (wpAny_newObj_type (wpAny_pure ⟨_, rfl, wpAny_pure h⟩) htake))
end
end HT

namespace L2
open PySem PySem.Spec PyProof.Rows

/-! ### the parts of a slice -/
abbrev TO := St → Hp → (Option Int → Hp → Prop) → Prop
/-- a slice's part (left out, or an int) -/
def PO (X : Cx) (e : Option Expr) (t : TO) : Prop :=
  ∀ (pins : List (Addr × Obj)) (s : Shared) (σ : St) (H : Hp) (Q : Option Int → Hp → Prop), Inv X pins σ H s → t σ H Q →
    wpAny (model X.prog X.w) X.A (evalPart e X.env) (fun u s' => ∃ o H', Inv X pins σ H' s' ∧ IsPart u o ∧ Q o H') X.xe s
def tNoPart : TO := fun _ H Q => Q none H
def tPart (t : TE) : TO := fun σ H Q => t σ H fun x H1 => ∃ i, x = .int i ∧ Q (some i) H1

theorem intsAre_of {ns : List Int} : ∀ {us : List Value}, Vals (ns.map V.int) us → IntsAre us ns := by
  induction ns with
  | nil => intro us r; rw [List.map_nil] at r; cases r; exact .nil
  | cons n ns ih =>
    intro us r
    rw [List.map_cons] at r
    cases r with
    | cons r1 r2 =>
      obtain ⟨t, e⟩ := r1
      subst e
      exact .cons n t (ih r2)

section
variable {X : Cx} {e : Expr} {te : TE} {lo hi : Option Expr} {tl th : TO} {pos p2 : Pos}

theorem po_none : PO X none tNoPart := by
  intro pins s σ H Q I h
  rw [evalPart_none]
  exact wpAny_pure ⟨none, H, I, .none, h⟩
theorem po_some (h : PE X e te) : PO X (some e) (tPart te) := by
  intro pins s σ H Q I hw
  rw [evalPart_some]
  refine thn (h pins s σ H _ I hw) fun u s1 ⟨x, H1, I1, r1, q1⟩ => ?_
  obtain ⟨i, rfl, q⟩ := q1
  obtain ⟨t, rfl⟩ := r1
  exact ⟨some i, H1, I1, .int i t, q⟩

/-- what a slice of a value is, by values: the slice object stands at sl -/
def SlR (X : Cx) (r : V → Option Int → Option Int → Hp → VK → Prop) : Prop :=
  ∀ (pins : List (Addr × Obj)) (s : Shared) (σ : St) (H : Hp) (x : V) (v vl vu : Value) (lo hi : Option Int) (sl : Addr) (Q : VK), Inv X pins σ H s → RelV x v → s.heap.IsSliceOf sl vl vu .none → IsPart vl lo → IsPart vu hi → r x lo hi H Q →
    ∃ T id, typeLookup (.type T) "__getitem__" = pure (some (.builtin id)) ∧ s.TypeIs v T ∧ wpAny (model X.prog X.w) X.A (getItem v (.ref sl)) (EP X pins σ Q) X.xe s
theorem SlR.or {r r' : V → Option Int → Option Int → Hp → VK → Prop} (h : SlR X r) (h' : SlR X r') : SlR X (fun x lo hi H Q => r x lo hi H Q ∨ r' x lo hi H Q) := by
  intro pins s σ H x v vl vu lo hi sl Q I rx hs pl pu q
  rcases q with q | q
  · exact h pins s σ H x v vl vu lo hi sl Q I rx hs pl pu q
  · exact h' pins s σ H x v vl vu lo hi sl Q I rx hs pl pu q
def tSl (r : V → Option Int → Option Int → Hp → VK → Prop) (te : TE) (tl th : TO) : TE := fun σ H Q => te σ H fun x H1 => tl σ H1 fun l H2 => th σ H2 fun u H3 => r x l u H3 Q
/-- a[lo:hi], any a -/
theorem pe_slice {r : V → Option Int → Option Int → Hp → VK → Prop} (hr : SlR X r) (he : PE X e te) (hl : PO X lo tl) (hu : PO X hi th) : PE X (.Subscript e (.Slice lo hi none p2) pos) (tSl r te tl th) := by
  intro pins s σ H Q I h
  refine Subscript_ (thn (he pins s σ H _ I h) fun v s1 ⟨x, H1, I1, r1, q1⟩ => ?_)
  refine wpAny_Slice (thn (hl pins s1 σ H1 _ I1 q1) fun vl s2 ⟨l, H2, I2, pl, q2⟩ => thn (hu pins s2 σ H2 _ I2 q2) fun vu s3 ⟨u, H3, I3, pu, q3⟩ => ?_)
  rw [evalPart_none]
  refine wpAny_pure ?_
  have I4 : Inv X pins σ H3 { s3 with heap := s3.heap.push { cls := .type "slice", data := .fields #[vl, vu, .none] } } := I3.kept (t' := s3.toks) fun b ob q => Heap.get?_push_of_some _ q
  obtain ⟨T, id, hT, ht, hg⟩ := hr pins { s3 with heap := s3.heap.push { cls := .type "slice", data := .fields #[vl, vu, .none] } } σ H3 x v vl vu l u s3.heap.objs.size Q I4 r1 (Heap.IsSliceOf.new ..) pl pu q3
  show wpAny (model X.prog X.w) X.A (subscriptTail e (.Slice lo hi none p2) v (.ref s3.heap.objs.size)) (EP X pins σ Q) X.xe { s3 with heap := s3.heap.push { cls := .type "slice", data := .fields #[vl, vu, .none] } }
  exact tail_any (ops := [.ref s3.heap.objs.size, v]) ht hT hg (by with_unfolding_all rfl)

/-- the items of xs[lo:hi] -/
def cutV (xs : List V) (lo hi : Option Int) : List V := (xs.drop (HT.sIx xs.length 0 lo)).take (HT.sIx xs.length xs.length hi - HT.sIx xs.length 0 lo)
theorem cutV_length (xs : List V) (lo hi : Option Int) : (cutV xs lo hi).length ≤ xs.length := by
  unfold cutV
  rw [List.length_take, List.length_drop]
  omega
/-- t[lo:hi], not the whole of it (the whole would be t itself) -/
def rSlT (K : PySem.W.Frag) : V → Option Int → Option Int → Hp → VK → Prop := fun x lo hi H Q => ∃ a xs, x = .ref a ∧ SqT K H a xs ∧
  ¬ (HT.sIx xs.length 0 lo = 0 ∧ HT.sIx xs.length xs.length hi = xs.length) ∧ ∀ p, H p = none → Q (.ref p) (upd H p (.tup (cutV xs lo hi)))
theorem sl_tup : SlR X (rSlT X.K) := by
  intro pins s σ H x v vl vu lo hi sl Q I rx hs pl pu h
  obtain ⟨a, xs, rfl, hx, hw, q⟩ := h
  cases rx
  obtain ⟨its, r, ht, hz⟩ := I.tuple hx
  have hlen : its.toArray.size = xs.length := by rw [List.size_toArray]; exact r.length.symm
  refine ⟨"tuple", _, PyProof.Rows.slot_tuple_getitem.lookup, ht.typeIs, ?_⟩
  refine HT.getItem_tuple_cut ht hs pl pu (by rw [hlen]; exact hw) ?_ (by rw [hlen]; exact hz)
  rw [hlen]
  refine ⟨.ref s.heap.objs.size, _, I.laid (t' := s.toks) (o := .tup (cutV xs lo hi)) (fun b ob q => Heap.get?_push_of_some _ q) (Nat.le_refl _) ?_, rfl, q _ (I.hok.fresh (Nat.le_refl _))⟩
  exact ⟨Nat.le_trans (cutV_length xs lo hi) hz, _, (r.drop (HT.sIx xs.length 0 lo)).take (HT.sIx xs.length xs.length hi - HT.sIx xs.length 0 lo), IsTup.new _ _⟩

/-! ### t < u, t + u -/
def rLtT (K : PySem.W.Frag) : R2 := fun x y H Q => ∃ a b ns ms, x = .ref a ∧ y = .ref b ∧ SqT K H a (ns.map V.int) ∧ SqT K H b (ms.map V.int) ∧ Q (.bl (HT.lexLt ns ms)) H
theorem op_ltT (hu : X.A.units < cLine) : OpR X (compareOp .Lt) (rLtT X.K) := by
  intro pins s σ H x y v u Q I rx ry h
  obtain ⟨a, b, ns, ms, rfl, rfl, ha, hb, q⟩ := h
  cases rx
  cases ry
  obtain ⟨its, r1, p1, _⟩ := I.tuple ha
  obtain ⟨its2, r2, p2, _⟩ := I.tuple hb
  have i1 : IntsAre its.toArray.toList ns := intsAre_of r1
  have i2 : IntsAre its2.toArray.toList ms := intsAre_of r2
  exact HT.lt_tupInts p1 p2 i1 i2 hu ⟨.bl (HT.lexLt ns ms), H, I, rfl, q⟩
/-- t + u, t not empty: u empty gives t itself -/
def rCatT (K : PySem.W.Frag) : R2 := fun x y H Q => ∃ a b xs ys, x = .ref a ∧ y = .ref b ∧ SqT K H a xs ∧ SqT K H b ys ∧ xs ≠ [] ∧ xs.length + ys.length ≤ sizeLine ∧
  (ys = [] → Q (.ref a) H) ∧ (ys ≠ [] → ∀ p, H p = none → Q (.ref p) (upd H p (.tup (xs ++ ys))))
theorem Vals.nil_iff {xs : List V} {us : List Value} (r : Vals xs us) : us = [] ↔ xs = [] := by
  cases r with
  | nil => simp
  | cons _ _ => simp
theorem op_catT : OpR X (binaryOp .Add) (rCatT X.K) := by
  intro pins s σ H x y v u Q I rx ry h
  obtain ⟨a, b, xs, ys, rfl, rfl, ha, hb, hx, hz, q1, q2⟩ := h
  cases rx
  cases ry
  obtain ⟨its, r1, p1, _⟩ := I.tuple ha
  obtain ⟨its2, r2, p2, _⟩ := I.tuple hb
  refine HT.cat_tup p1 p2 (fun z => hx (r1.nil_iff.mp z)) (fun z => ⟨.ref a, H, I, rfl, q1 (r2.nil_iff.mp z)⟩) (fun z => ?_) (by rw [← r1.length, ← r2.length]; exact hz)
  refine ⟨.ref s.heap.objs.size, _, I.laid (t' := s.toks) (o := .tup (xs ++ ys)) (fun b ob q => Heap.get?_push_of_some _ q) (Nat.le_refl _) ?_, rfl, q2 (fun w => z (r2.nil_iff.mpr w)) _ (I.hok.fresh (Nat.le_refl _))⟩
  exact ⟨by rw [List.length_append]; exact hz, _, r1.append r2, IsTup.new _ _⟩
/-- tuple(t) -/
theorem call_tupleT : CallR X (.type "tuple") (fun xs H Q => ∃ a ys, xs = [.ref a] ∧ SqT X.K H a ys ∧ Q (.ref a) H) := by
  intro pins s σ H xs us Q I r h
  obtain ⟨a, ys, rfl, ha, q⟩ := h
  obtain ⟨u, rfl, ru⟩ := vals1 r
  cases ru
  obtain ⟨its, _, p1, _⟩ := I.tuple ha
  exact call_tuple_same (items := its.toArray) p1 ⟨.ref a, H, I, rfl, q⟩
end
end L2

namespace L2
open PySem PySem.Spec PyProof.Rows

/-! ### places -/
/-- the place that an index of any sign means -/
def ixN (n : Nat) (i : Int) : Option Nat := if 0 ≤ i then (if i < n then some i.toNat else none) else if -(n : Int) ≤ i then some (i + n).toNat else none
def atI {α : Type} (xs : List α) (i : Int) : Option α := (ixN xs.length i).bind fun j => xs[j]?
theorem ixN_seq {n : Nat} {i : Int} {j : Nat} (h : ixN n i = some j) : seqIndex? i n = some j ∧ j < n ∧ -(n : Int) ≤ i ∧ i < n := by
  unfold ixN at h
  by_cases h0 : 0 ≤ i
  · rw [if_pos h0] at h
    by_cases h1 : i < n
    · rw [if_pos h1] at h
      have e : i.toNat = j := Option.some.inj h
      exact ⟨by rw [seqIndex_of h0 h1, e], by omega, by omega, h1⟩
    · rw [if_neg h1] at h; cases h
  · rw [if_neg h0] at h
    by_cases h1 : -(n : Int) ≤ i
    · rw [if_pos h1] at h
      have e : (i + n).toNat = j := Option.some.inj h
      exact ⟨by rw [seqIndex_neg (by omega) h1, e], by omega, h1, by omega⟩
    · rw [if_neg h1] at h; cases h
theorem atI_get {α : Type} {xs : List α} {i : Int} {v : α} (h : atI xs i = some v) : ∃ j, seqIndex? i xs.length = some j ∧ xs[j]? = some v ∧ j < xs.length ∧ -(xs.length : Int) ≤ i ∧ i < xs.length := by
  unfold atI at h
  cases e : ixN xs.length i with
  | none => rw [e] at h; cases h
  | some j =>
    rw [e] at h
    obtain ⟨h1, h2, h3, h4⟩ := ixN_seq e
    exact ⟨j, h1, h, h2, h3, h4⟩
theorem atI_nat {α : Type} {xs : List α} {j : Nat} {v : α} (h : xs[j]? = some v) : atI xs (j : Int) = some v := by
  have hj : j < xs.length := (List.getElem?_eq_some_iff.mp h).1
  have e : ixN xs.length (j : Int) = some j := by
    unfold ixN
    rw [if_pos (by omega), if_pos (by omega)]; simp
  unfold atI; rw [e]; exact h
theorem atI_last {α : Type} (xs : List α) (v : α) : atI (xs ++ [v]) (-1) = some v := by
  have hl : (xs ++ [v]).length = xs.length + 1 := by simp
  have e : ixN (xs ++ [v]).length (-1) = some xs.length := by
    unfold ixN
    rw [hl, if_neg (by decide), if_pos (by omega)]
    congr 1
    omega
  unfold atI
  rw [e]
  show (xs ++ [v])[xs.length]? = some v
  simp

/-! ### what may be subscripted -/
/-- what stands as an index of a plain subscript -/
def PlainIx (b : Expr) : Prop := ∀ o i, subscripted b false o i = operate [o, i] (getItem o i)
/-- a subscript by values -/
def IxR (X : Cx) (r : R2) : Prop :=
  ∀ (value slice : Expr) (pins : List (Addr × Obj)) (s : Shared) (σ : St) (H : Hp) (x y : V) (v u : Value) (Q : VK), Inv X pins σ H s → RelV x v → RelV y u → r x y H Q →
    subscripted slice false v u = operate [v, u] (getItem v u) → wpAny (model X.prog X.w) X.A (subscriptTail value slice v u) (EP X pins σ Q) X.xe s
/-- a call of a builtin's method by values: the receiver, the arguments -/
def MtR (X : Cx) (id : String) (r : V → List V → Hp → VK → Prop) : Prop :=
  ∀ (pins : List (Addr × Obj)) (s : Shared) (σ : St) (H : Hp) (x : V) (xs : List V) (v : Value) (us : List Value) (Q : VK), Inv X pins σ H s → RelV x v → Vals xs us → r x xs H Q →
    wpAny (model X.prog X.w) X.A (call (.builtin id) (v :: us)) (EP X pins σ Q) X.xe s
section
variable {X : Cx} {a b : Expr} {ta tb : TE} {pos : Pos}
theorem IxR.or {r r' : R2} (h : IxR X r) (h' : IxR X r') : IxR X (fun x y H Q => r x y H Q ∨ r' x y H Q) := by
  intro value slice pins s σ H x y v u Q I rx ry q hs
  rcases q with q | q
  · exact h value slice pins s σ H x y v u Q I rx ry q hs
  · exact h' value slice pins s σ H x y v u Q I rx ry q hs
theorem MtR.or {id : String} {r r' : V → List V → Hp → VK → Prop} (h : MtR X id r) (h' : MtR X id r') : MtR X id (fun x xs H Q => r x xs H Q ∨ r' x xs H Q) := by
  intro pins s σ H x xs v us Q I rx rs q
  rcases q with q | q
  · exact h pins s σ H x xs v us Q I rx rs q
  · exact h' pins s σ H x xs v us Q I rx rs q
/-- a[b] -/
theorem pe_ix {r : R2} (hr : IxR X r) (ha : PE X a ta) (hb : PE X b tb) (hs : PlainIx b) : PE X (.Subscript a b pos) (tOp r ta tb) := by
  intro pins s σ H Q I h
  exact Subscript_ (binT ha hb I h fun v u s2 x y H2 I2 rx ry q => hr a b pins s2 σ H2 x y v u Q I2 rx ry q (hs _ _))

def rIxL (K : PySem.W.Frag) : R2 := fun x y H Q => ∃ p xs i v, x = .ref p ∧ y = .int i ∧ SqL K H p xs ∧ atI xs i = some v ∧ Q v H
def rIxT (K : PySem.W.Frag) : R2 := fun x y H Q => ∃ p xs i v, x = .ref p ∧ y = .int i ∧ SqT K H p xs ∧ atI xs i = some v ∧ Q v H
def rIxS : R2 := fun x y H Q => ∃ z i c, x = .str z ∧ y = .int i ∧ z.length ≤ sizeLine ∧ atI z.cps.toList i = some c ∧ Q (.str ⟨#[c]⟩) H
theorem ix_list : IxR X (rIxL X.K) := by
  intro value slice pins s σ H x y v u Q I rx ry h hs
  obtain ⟨p, xs, i, z, rfl, rfl, hq, he, q⟩ := h
  cases rx
  obtain ⟨t, rfl⟩ := ry
  obtain ⟨its, r, pl, hz⟩ := I.list hq
  obtain ⟨j, h1, h2, h3, h4, h5⟩ := atI_get he
  obtain ⟨w, ew, rw'⟩ := r.get h2
  have hl := r.length
  have hn := line63
  have fin : EP X pins σ Q w s := ⟨z, H, I, rw', q⟩
  by_cases h0 : 0 ≤ i
  · have hj : i.toNat = j := by
      rw [seqIndex_of h0 h5] at h1
      exact Option.some.inj h1
    exact item_listR pl.isList h0 (by omega) (by rw [hj]; simpa using ew) fin hs
  · have hj : (i + (its.toArray.size : Int)).toNat = j := by
      rw [seqIndex_neg (by omega) h4] at h1
      rw [List.size_toArray, ← hl]
      exact Option.some.inj h1
    exact subscriptTail_builtinR (x := w) pl.isList.typeIs slot_list_getitem.lookup
      (wpAny_getItem_list_neg (Q := fun r s' => r = w ∧ EP X pins σ Q r s') pl.isList (by omega) (by rw [List.size_toArray] <;> omega) (by omega) (by rw [hj]; simpa using ew) ⟨rfl, fin⟩) hs
theorem ix_tup : IxR X (rIxT X.K) := by
  intro value slice pins s σ H x y v u Q I rx ry h hs
  obtain ⟨p, xs, i, z, rfl, rfl, hq, he, q⟩ := h
  cases rx
  obtain ⟨t, rfl⟩ := ry
  obtain ⟨its, r, pl, hz⟩ := I.tuple hq
  obtain ⟨j, h1, h2, h3, h4, h5⟩ := atI_get he
  obtain ⟨w, ew, rw'⟩ := r.get h2
  have hl := r.length
  have hn := line63
  have fin : EP X pins σ Q w s := ⟨z, H, I, rw', q⟩
  exact subscriptTail_builtinR (x := w) pl.typeIs slot_tuple_getitem.lookup
    (getItem_tuple (j := j) (Q := fun r s' => r = w ∧ EP X pins σ Q r s') pl (by omega) (by omega) (by rw [List.size_toArray, ← hl]; exact h1) (by simpa using ew) ⟨rfl, fin⟩) hs
theorem ix_str : IxR X rIxS := by
  intro value slice pins s σ H x y v u Q I rx ry h hs
  obtain ⟨z, i, c, rfl, rfl, hz, he, q⟩ := h
  obtain ⟨t, rfl⟩ := rx
  obtain ⟨t', rfl⟩ := ry
  obtain ⟨j, h1, h2, h3, h4, h5⟩ := atI_get he
  have hl : z.cps.toList.length = z.length := by simp [Str.length]
  rw [hl] at h1 h4 h5
  have hn := line63
  exact tail_any (typeIs_str s z t) slot_str_getitem.lookup (getItem_str (c := c) (by
    have e1 : decide (i < -(2 ^ 63 : Int)) = false := decide_eq_false (by omega)
    have e2 : decide (i ≥ 2 ^ 63) = false := decide_eq_false (by omega)
    rw [e1, e2, Bool.or_false]) (by rw [h1]; simpa using h2) ⟨.str ⟨#[c]⟩, H, I.tok _, ⟨_, rfl⟩, q⟩) hs
/-- list, tuple or str -/
def rIx (K : PySem.W.Frag) : R2 := fun x y H Q => rIxL K x y H Q ∨ rIxT K x y H Q ∨ rIxS x y H Q
theorem ix_seq : IxR X (rIx X.K) := ix_list.or (ix_tup.or ix_str)

/-! ### xs[i] = v, any sign -/
/-- the list's object behind a store -/
theorem mapSeq_set (its : List Value) (n j : Nat) (u : Value) : Obj.mapSeq (·.setIfInBounds j u) { cls := .type "list", data := .seq its.toArray n } = { cls := .type "list", data := .seq (its.set j u).toArray n } := by
  simp [Obj.mapSeq]
theorem Inv.lst {pins : List (Addr × Obj)} {σ : St} {H : Hp} {s : Shared} {p : Addr} {xs : List V} (I : Inv X pins σ H s) (h : H p = some (.lst xs)) :
    ∃ (its : List Value) (n : Nat), Vals xs its ∧ s.heap.get? p = some { cls := .type "list", data := .seq its.toArray n } ∧ xs.length ≤ sizeLine := by
  obtain ⟨z, its, n, r, e⟩ := I.hok p _ h
  exact ⟨its, n, r, e, z⟩
/-- the list at p is written by an update of its object -/
theorem Inv.lstUpd {pins : List (Addr × Obj)} {σ : St} {H : Hp} {s : Shared} {p : Addr} {xs ys : List V} {its its' : List Value} {n n' : Nat} {f : Obj → Obj} (I : Inv X pins σ H s) (h : H p = some (.lst xs))
    (ho : s.heap.get? p = some { cls := .type "list", data := .seq its.toArray n }) (hf : f { cls := .type "list", data := .seq its.toArray n } = { cls := .type "list", data := .seq its'.toArray n' }) (r : Vals ys its') (hz : ys.length ≤ sizeLine) (t : Nat) :
    Inv X pins σ (upd H p (.lst ys)) { s with heap := s.heap.update p f, toks := t } := by
  have e : (s.heap.update p f).get? p = some { cls := .type "list", data := .seq its'.toArray n' } := by
    rw [Heap.get?_update_self f ho (by rw [hf] <;> rfl), hf]
  refine I.write (x := p) (e := p) (by rw [h]; trivial) (.inl rfl) (fun b u hb q => (Heap.get?_update_other _ _ (Ne.symm hb)).trans q) ⟨_, e⟩ ?_
  exact ⟨hz, its', n', r, e⟩
def rSetL : V → V → V → Hp → (Hp → Prop) → Prop := fun o i v H Q => ∃ p xs k j, o = .ref p ∧ i = .int k ∧ H p = some (.lst xs) ∧ ixN xs.length k = some j ∧ Q (upd H p (.lst (xs.set j v)))
theorem set_list : PSet X rSetL := by
  intro pins s σ H o i v ov iv u Q I ro ri rv h
  obtain ⟨p, xs, k, j, rfl, rfl, hp, hj, q⟩ := h
  cases ro
  obtain ⟨t, rfl⟩ := ri
  obtain ⟨its, n, r, ho, hz⟩ := I.lst hp
  obtain ⟨h1, h2, h3, h4⟩ := ixN_seq hj
  have hl := r.length
  have hn := line63
  have I' : Inv X pins σ (upd H p (.lst (xs.set j v))) { s with heap := s.heap.update p (Obj.mapSeq (·.setIfInBounds j u)) } :=
    I.lstUpd hp ho (mapSeq_set its n j u) (r.set rv j) (by rw [List.length_set]; exact hz) s.toks
  by_cases h0 : 0 ≤ k
  · have hk : k.toNat = j := by
      rw [seqIndex_of h0 h4] at h1
      exact Option.some.inj h1
    exact PySem.W.ki_setAt ho h0 (by omega) (by rw [List.size_toArray, ← hl]; exact h4) (by rw [hk]; exact ⟨_, I', q⟩)
  · have hk : (k + (its.toArray.size : Int)).toNat = j := by
      rw [seqIndex_neg (by omega) h3] at h1
      rw [List.size_toArray, ← hl]
      exact Option.some.inj h1
    exact PySem.W.ki_setBack ho (by omega) (by rw [List.size_toArray, ← hl]; exact h3) (by omega) (by rw [hk]; exact ⟨_, I', q⟩)

/-! ### slices -/
theorem slice_bounds (lo hi : Option Int) (n : Nat) : (sliceBounds lo hi none n).1 = ((HT.sIx n 0 lo : Nat) : Int) ∧ (sliceBounds lo hi none n).2.1 = ((HT.sIx n n hi : Nat) : Int) ∧ (sliceBounds lo hi none n).2.2 = 1 := by
  refine ⟨?_, ?_, rfl⟩
  · cases lo with
    | none => simp [sliceBounds, HT.sIx]
    | some i =>
      simp only [sliceBounds, HT.sIx, Option.getD_none, show (1 : Int) > 0 by decide, if_true]
      by_cases h : i < 0
      · simp only [h, if_true] <;> omega
      · simp only [h, if_false] <;> omega
  · cases hi with
    | none => simp [sliceBounds, HT.sIx]
    | some i =>
      simp only [sliceBounds, HT.sIx, Option.getD_none, show (1 : Int) > 0 by decide, if_true]
      by_cases h : i < 0
      · simp only [h, if_true] <;> omega
      · simp only [h, if_false] <;> omega
theorem slicePick_cut (its : List Value) (lo hi : Option Int) : slicePick its.toArray lo hi none = ((its.drop (HT.sIx its.length 0 lo)).take (HT.sIx its.length its.length hi - HT.sIx its.length 0 lo)).toArray := by
  obtain ⟨h1, h2, h3⟩ := slice_bounds lo hi its.toArray.size
  unfold slicePick
  rw [h1, h2, h3]
  simp only [sliceRange_one, pick_run, List.size_toArray] <;> rfl
/-- xs[lo:hi] of a list: a new list -/
def rSlL (K : PySem.W.Frag) : V → Option Int → Option Int → Hp → VK → Prop := fun x lo hi H Q => ∃ a xs, x = .ref a ∧ SqL K H a xs ∧ ∀ p, H p = none → Q (.ref p) (upd H p (.lst (cutV xs lo hi)))
theorem sl_list : SlR X (rSlL X.K) := by
  intro pins s σ H x v vl vu lo hi sl Q I rx hs pl pu h
  obtain ⟨a, xs, rfl, hx, q⟩ := h
  cases rx
  obtain ⟨its, r, ht, hz⟩ := I.list hx
  have hlen := r.length
  refine ⟨"list", _, slot_list_getitem.lookup, ht.isList.typeIs, ?_⟩
  refine wpAny_getItem_list_slice ht.isList hs pl pu .none (by simp) ?_ (by rw [List.size_toArray] <;> omega)
  rw [slicePick_cut, ← hlen]
  refine ⟨.ref s.heap.objs.size, _, I.laid (t' := s.toks) (o := .lst (cutV xs lo hi)) (fun b ob q => Heap.get?_push_of_some _ q) (Nat.le_refl _) ?_, rfl, q _ (I.hok.fresh (Nat.le_refl _))⟩
  exact ⟨Nat.le_trans (cutV_length xs lo hi) hz, _, 0, (r.drop (HT.sIx xs.length 0 lo)).take (HT.sIx xs.length xs.length hi - HT.sIx xs.length 0 lo), Heap.get?_push_size _ rfl⟩

/-! ### in, not in: flat items -/
def flatV : V → Bool
  | .non => true
  | .bl _ => true
  | .int _ => true
  | .str _ => true
  | _ => false
/-- == of flat values -/
def eqV : V → V → Bool
  | .non, .non => true
  | .bl a, .bl b => a == b
  | .bl a, .int b => (if a then 1 else 0) == b
  | .int a, .bl b => a == (if b then 1 else 0)
  | .int a, .int b => a == b
  | .str a, .str b => a == b
  | _, _ => false
theorem eqAt_V {A : Around} {s : Shared} {y x : V} {u v : Value} (ry : RelV y u) (rx : RelV x v) (fy : flatV y = true) (fx : flatV x = true) : SeqAt.EqAt A s u v (eqV y x) := by
  cases y with
  | non =>
    cases ry
    cases x with
    | non => cases rx; exact SeqAt.EqAt.same _
    | bl b => cases rx; exact SeqAt.EqAt.none_bool b
    | int b => obtain ⟨t, rfl⟩ := rx; exact SeqAt.EqAt.none_int b t
    | str b => obtain ⟨t, rfl⟩ := rx; exact SeqAt.EqAt.none_str b t
    | _ => exact absurd (show false = true from fx) Bool.false_ne_true
  | bl a =>
    cases ry
    cases x with
    | non => cases rx; exact SeqAt.EqAt.bool_none a
    | bl b => cases rx; exact SeqAt.EqAt.bool_bool a b
    | int b => obtain ⟨t, rfl⟩ := rx; exact SeqAt.EqAt.bool_int a b t
    | str b => obtain ⟨t, rfl⟩ := rx; exact SeqAt.EqAt.bool_str a b t
    | _ => exact absurd (show false = true from fx) Bool.false_ne_true
  | int a =>
    obtain ⟨t', rfl⟩ := ry
    cases x with
    | non => cases rx; exact SeqAt.EqAt.int_none a t'
    | bl b => cases rx; exact SeqAt.EqAt.int_bool a t' b
    | int b => obtain ⟨t, rfl⟩ := rx; exact SeqAt.EqAt.int_int a t' b t
    | str b => obtain ⟨t, rfl⟩ := rx; exact SeqAt.EqAt.int_str a t' b t
    | _ => exact absurd (show false = true from fx) Bool.false_ne_true
  | str a =>
    obtain ⟨t', rfl⟩ := ry
    cases x with
    | non => cases rx; exact SeqAt.EqAt.str_none a t'
    | bl b => cases rx; exact SeqAt.EqAt.str_bool a t' b
    | int b => obtain ⟨t, rfl⟩ := rx; exact SeqAt.EqAt.str_int a t' b t
    | str b => obtain ⟨t, rfl⟩ := rx; exact SeqAt.EqAt.str_str a t' b t
    | _ => exact absurd (show false = true from fx) Bool.false_ne_true
  | _ => exact absurd (show false = true from fy) Bool.false_ne_true
/-- the items' answers, read off the values (a value's own answer does not lean on its token) -/
def eqU (x : V) (u : Value) : Bool := match u with
  | .none => eqV .non x
  | .bool b => eqV (.bl b) x
  | .int i _ => eqV (.int i) x
  | .str z _ => eqV (.str z) x
  | _ => false
theorem eqU_of {x y : V} {u : Value} (r : RelV y u) (f : flatV y = true) : eqU x u = eqV y x := by
  cases y with
  | non => cases r; rfl
  | bl b => cases r; rfl
  | int i => obtain ⟨t, rfl⟩ := r; rfl
  | str z => obtain ⟨t, rfl⟩ := r; rfl
  | _ => exact absurd (show false = true from f) Bool.false_ne_true
theorem any_eqU {x : V} : ∀ {xs : List V} {us : List Value}, Vals xs us → xs.all flatV = true → us.any (eqU x) = xs.any fun y => eqV y x
  | _, _, .nil, _ => rfl
  | y :: xs, u :: us, .cons r t, f => by
    rw [List.all_cons, Bool.and_eq_true] at f
    rw [List.any_cons, List.any_cons, eqU_of r f.1, any_eqU t f.2]
theorem mem_eqAt {A : Around} {s : Shared} {x : V} {v : Value} (rx : RelV x v) (fx : flatV x = true) : ∀ {xs : List V} {us : List Value}, Vals xs us → xs.all flatV = true → ∀ u ∈ us, SeqAt.EqAt A s u v (eqU x u)
  | _, _, .nil, _ => fun u hu => by cases hu
  | y :: xs, u :: us, .cons r t, f => fun u' hu => by
    rw [List.all_cons, Bool.and_eq_true] at f
    rcases List.mem_cons.mp hu with rfl | hu
    · rw [eqU_of r f.1]; exact eqAt_V r rx f.1 fx
    · exact mem_eqAt rx fx t f.2 u' hu
def inV (x : V) (xs : List V) : Bool := xs.any fun y => eqV y x
/-- x in a list or tuple of flat items -/
def rIn (K : PySem.W.Frag) (neg : Bool) : R2 := fun x y H Q => ∃ p xs, y = .ref p ∧ (SqL K H p xs ∨ SqT K H p xs) ∧ flatV x = true ∧ xs.all flatV = true ∧ Q (.bl (if neg then !inV x xs else inV x xs)) H
theorem op_in_seq : OpR X (compareOp .In) (rIn X.K false) := by
  intro pins s σ H x y v u Q I rx ry h
  obtain ⟨p, xs, rfl, hq, fx, fs, q⟩ := h
  cases ry
  rcases hq with hq | hq
  · obtain ⟨its, r, pl, hz⟩ := I.list hq
    refine SeqAt.in_listAt (eqU x) pl.isList (fun w hw => mem_eqAt rx fx r fs w (by simpa using hw)) ⟨.bl _, H, I, rfl, ?_⟩
    rw [show its.toArray.any (eqU x) = its.any (eqU x) by simp, any_eqU r fs]
    exact q
  · obtain ⟨its, r, pl, hz⟩ := I.tuple hq
    refine SeqAt.in_tupleAt (eqU x) pl (fun w hw => mem_eqAt rx fx r fs w (by simpa using hw)) ⟨.bl _, H, I, rfl, ?_⟩
    rw [show its.toArray.any (eqU x) = its.any (eqU x) by simp, any_eqU r fs]
    exact q
theorem op_notIn_seq : OpR X (compareOp .NotIn) (rIn X.K true) := by
  intro pins s σ H x y v u Q I rx ry h
  obtain ⟨p, xs, rfl, hq, fx, fs, q⟩ := h
  cases ry
  rcases hq with hq | hq
  · obtain ⟨its, r, pl, hz⟩ := I.list hq
    refine SeqAt.notIn_listAt (eqU x) pl.isList (fun w hw => mem_eqAt rx fx r fs w (by simpa using hw)) ⟨.bl _, H, I, rfl, ?_⟩
    rw [show its.toArray.any (eqU x) = its.any (eqU x) by simp, any_eqU r fs]
    exact q
  · obtain ⟨its, r, pl, hz⟩ := I.tuple hq
    refine SeqAt.notIn_tupleAt (eqU x) pl (fun w hw => mem_eqAt rx fx r fs w (by simpa using hw)) ⟨.bl _, H, I, rfl, ?_⟩
    rw [show its.toArray.any (eqU x) = its.any (eqU x) by simp, any_eqU r fs]
    exact q
theorem op_notIn_str : OpR X (compareOp .NotIn) (fun x y H Q => ∃ i j, x = .str i ∧ y = .str j ∧ Q (.bl (!(!(Builtin.Str.occurrences j i 0 j.length 1).isEmpty))) H) := by
  intro pins s σ H x y v u Q I rx ry h
  obtain ⟨i, j, rfl, rfl, q⟩ := h
  obtain ⟨t, rfl⟩ := rx
  obtain ⟨t', rfl⟩ := ry
  exact notIn_str ⟨.bl _, H, I, rfl, q⟩

/-! ### len, list(x), tuple(x) of any list or tuple that is read -/
theorem call_len_seq : CallR X (.builtin "len") (fun xs H Q => ∃ p ys, xs = [.ref p] ∧ (SqL X.K H p ys ∨ SqT X.K H p ys) ∧ Q (.int ys.length) H) := by
  intro pins s σ H xs us Q I r h
  obtain ⟨p, ys, rfl, hq, q⟩ := h
  obtain ⟨u, rfl, rx⟩ := vals1 r
  cases rx
  have hn := line63
  rcases hq with hq | hq
  · obtain ⟨its, r', pl, hz⟩ := I.list hq
    have hlen := r'.length
    exact Calls.call_len_list pl.isList (by simp only [List.size_toArray] <;> omega) ⟨.int ys.length, H, I.tok _, ⟨s.toks + 1, by rw [List.size_toArray, hlen]⟩, q⟩
  · obtain ⟨its, r', pl, hz⟩ := I.tuple hq
    have hlen := r'.length
    exact len_tuple pl (by simp only [List.size_toArray] <;> omega) ⟨.int ys.length, H, I.tok _, ⟨s.toks + 1, by rw [List.size_toArray, hlen]⟩, q⟩
theorem call_len_str : CallR X (.builtin "len") (fun xs H Q => ∃ z, xs = [.str z] ∧ z.length ≤ sizeLine ∧ Q (.int z.length) H) := by
  intro pins s σ H xs us Q I r h
  obtain ⟨z, rfl, hz, q⟩ := h
  obtain ⟨u, rfl, t, rfl⟩ := vals1 r
  have hn := line63
  exact len_str (by omega) ⟨.int z.length, H, I.tok _, ⟨_, rfl⟩, q⟩
theorem CallR.or {f : Value} {r r' : List V → Hp → VK → Prop} (h : CallR X f r) (h' : CallR X f r') : CallR X f (fun xs H Q => r xs H Q ∨ r' xs H Q) := by
  intro pins s σ H xs us Q I rs q
  rcases q with q | q
  · exact h pins s σ H xs us Q I rs q
  · exact h' pins s σ H xs us Q I rs q
theorem call_list_of : CallR X (.type "list") (fun xs H Q => ∃ p ys, xs = [.ref p] ∧ (SqL X.K H p ys ∨ SqT X.K H p ys) ∧ ∀ l, H l = none → Q (.ref l) (upd H l (.lst ys))) := by
  intro pins s σ H xs us Q I r h
  obtain ⟨p, ys, rfl, hq, q⟩ := h
  obtain ⟨u, rfl, rx⟩ := vals1 r
  cases rx
  have fin : ∀ (its : List Value), Vals ys its → ys.length ≤ sizeLine → ∀ (h' : Heap) (c' : Nat), (∀ b o', s.heap.get? b = some o' → h'.get? b = some o') →
      h'.get? s.heap.objs.size = some { cls := .type "list", dict := none, data := .seq its.toArray c', slots := #[] } → EP X pins σ Q (.ref s.heap.objs.size) { s with heap := h' } := fun its r' hz h' c' kp e =>
    ⟨.ref s.heap.objs.size, _, I.laid (t' := s.toks) kp (Nat.le_refl _) (show ObjOk X.prog X.w _ h' _ (.lst ys) from ⟨hz, its, c', r', e⟩), rfl, q _ (I.hok.fresh (Nat.le_refl _))⟩
  rcases hq with hq | hq
  · obtain ⟨its, r', pl, hz⟩ := I.list hq
    have hlen := r'.length
    obtain ⟨o, ho, hc, n, hd⟩ := pl.isList
    exact call_list_seq p (.inl rfl) ho hc hd (fun h' c' kp e => fin its r' hz h' c' kp e) (by simp only [List.size_toArray] <;> omega)
  · obtain ⟨its, r', pl, hz⟩ := I.tuple hq
    have hlen := r'.length
    obtain ⟨o, ho, hc, n, hd⟩ := pl
    exact call_list_seq p (.inr rfl) ho hc hd (fun h' c' kp e => fin its r' hz h' c' kp e) (by simp only [List.size_toArray] <;> omega)
theorem call_tuple_of : CallR X (.type "tuple") (fun xs H Q => ∃ p ys, xs = [.ref p] ∧ ((SqL X.K H p ys ∧ ∀ l, H l = none → Q (.ref l) (upd H l (.tup ys))) ∨ (SqT X.K H p ys ∧ Q (.ref p) H))) := by
  intro pins s σ H xs us Q I r h
  obtain ⟨p, ys, rfl, h⟩ := h
  obtain ⟨u, rfl, rx⟩ := vals1 r
  cases rx
  rcases h with ⟨hq, q⟩ | ⟨hq, q⟩
  · obtain ⟨its, r', pl, hz⟩ := I.list hq
    have hlen := r'.length
    refine call_tuple_list pl.isList (fun h' kp => ?_) (by simp only [List.size_toArray] <;> omega)
    have I1 : Inv X pins σ H { s with heap := h' } := I.kept (t' := s.toks) kp
    have I2 : Inv X pins σ (upd H h'.objs.size (.tup ys)) { s with heap := h'.push { cls := .type "tuple", data := .seq its.toArray } } :=
      I1.laid (t' := s.toks) (fun b o e => Heap.get?_push_of_some _ e) (Nat.le_refl _) (show ObjOk X.prog X.w _ _ _ (.tup ys) from ⟨hz, its, r', IsTup.new _ _⟩)
    exact ⟨.ref h'.objs.size, _, I2, rfl, q _ (I1.hok.fresh (Nat.le_refl _))⟩
  · obtain ⟨its, r', pl, hz⟩ := I.tuple hq
    exact call_tuple_same pl ⟨.ref p, H, I, rfl, q⟩

/-! ### the call of a builtin's method: o.m(..) -/
/-- the value is of that builtin type -/
def tyV (K : PySem.W.Frag) (T : String) (x : V) (H : Hp) : Prop := match x with
  | .str _ => T = "str"
  | .int _ => T = "int"
  | .ref p => (T = "list" ∧ ∃ xs, SqL K H p xs) ∨ (T = "tuple" ∧ ∃ o, K.lookup p = some o ∧ o.cls = .type "tuple" ∧ o.dict = none) ∨
      (T = "dict" ∧ ((∃ kvs, H p = some (.dK kvs)) ∨ ∃ kvs, H p = some (.dT kvs))) ∨ (T = "set" ∧ ∃ S n, H p = some (.set S n))
  | _ => False
theorem tyV_is {pins : List (Addr × Obj)} {σ : St} {H : Hp} {s : Shared} {T : String} {x : V} {v : Value} (I : Inv X pins σ H s) (r : RelV x v) (ty : tyV X.K T x H) :
    s.TypeIs v T ∧ ∀ a, v = .ref a → ∃ ob, s.heap.get? a = some ob ∧ ob.dict = none := by
  cases x with
  | str z =>
    obtain ⟨t, rfl⟩ := r
    cases (show T = "str" from ty)
    exact ⟨typeIs_str s z t, fun _ e => nomatch e⟩
  | int i =>
    obtain ⟨t, rfl⟩ := r
    cases (show T = "int" from ty)
    exact ⟨typeIs_int s i t, fun _ e => nomatch e⟩
  | ref p =>
    cases r
    rcases ty with ⟨rfl, xs, hq⟩ | ⟨rfl, o, hk, hc, hd⟩ | ⟨rfl, hk⟩ | ⟨rfl, S, n, hk⟩
    · obtain ⟨its, _, pl, _⟩ := I.list hq
      refine ⟨pl.isList.typeIs, fun a e => ?_⟩
      cases e
      obtain ⟨o, n, e, c, hd, _⟩ := pl
      exact ⟨o, e, hd⟩
    · refine ⟨⟨o, I.kIn p o hk, hc⟩, fun a e => ?_⟩
      cases e
      exact ⟨o, I.kIn _ o hk, hd⟩
    · have z : ∃ o, s.heap.get? p = some o ∧ o.ExactDict := by
        rcases hk with ⟨kvs, hk⟩ | ⟨kvs, hk⟩
        · obtain ⟨_, _, _, _, o, _, _, e, ex, _⟩ := I.hok p _ hk
          exact ⟨o, e, ex⟩
        · obtain ⟨_, _, _, _, o, _, _, e, ex, _⟩ := I.hok p _ hk
          exact ⟨o, e, ex⟩
      obtain ⟨o, e, ex⟩ := z
      refine ⟨⟨o, e, ex.1⟩, fun a e2 => ?_⟩
      cases e2
      exact ⟨o, e, ex.2.1⟩
    · obtain ⟨o, _, _, _, e, ex, _⟩ := I.hok p _ hk
      refine ⟨⟨o, e, ex.1⟩, fun a e2 => ?_⟩
      cases e2
      exact ⟨o, e, ex.2.1⟩
  | _ => exact False.elim ty
def tBM0 (K : PySem.W.Frag) (T : String) (r : V → List V → Hp → VK → Prop) (to : TE) : TE := fun σ H Q => to σ H fun x H1 => tyV K T x H1 ∧ r x [] H1 Q
def tBM (K : PySem.W.Frag) (T : String) (r : V → List V → Hp → VK → Prop) (to : TE) (t : TA) : TE := fun σ H Q => to σ H fun x H1 => tyV K T x H1 ∧ t σ H1 fun xs H2 => r x xs H2 Q
variable {o e : Expr} {es : List Expr} {to : TE} {t : TA} {name : Str} {apos cpos : Pos} {T id : String} {r : V → List V → Hp → VK → Prop}
theorem pe_bm0 (pa : PlainAttrs T) (slot : Slot T name id) (hty : typeOf (.builtin id) = pure (.type "method_descriptor")) (hm : MtR X id r) (ho : PE X o to)
    (hbase : attributeBase o name X.env (eval o X.env) = eval o X.env := by rfl) (hline : (apos.endLine == cpos.line) = true := by rfl) : PE X (.Call (.Attribute o name apos) [] [] cpos) (tBM0 X.K T r to) := by
  intro pins s σ H Q I h
  refine wpAny_Call_method0_late hbase hline (thn (ho pins s σ H _ I h) fun v s1 ⟨x, H1, I1, r1, ty, q1⟩ => ?_)
  obtain ⟨h1, h2⟩ := tyV_is I1 r1 ty
  exact ⟨T, id, pa, slot, hty, h1, h2, Calls.callWith_builtin rfl (PySem.evalArgs_none (hm pins s1 σ H1 x [] v [] Q I1 r1 .nil q1))⟩
theorem pe_bm (pa : PlainAttrs T) (slot : Slot T name id) (hty : typeOf (.builtin id) = pure (.type "method_descriptor")) (hm : MtR X id r) (ho : PE X o to) (ha : PA X (e :: es) t)
    (hbase : attributeBase o name X.env (eval o X.env) = eval o X.env := by rfl)
    (hfew : ((backTo cpos (starEach (e :: es) X.env)).all (fun x => !x.1) && (backToKw cpos (keywordEach [] X.env)).all (fun x => x.1.isSome)
      && decide ((e :: es).length + ([] : List Keyword).length + (if ([] : List Keyword).isEmpty then 0 else 1) < 30)) = true := by rfl)
    (hline : (apos.endLine == cpos.line) = true := by rfl) (hs : starEach (e :: es) X.env = (false, eval e X.env) :: starEach es X.env := by rfl) (hplain : (backTo cpos (starEach es X.env)).any (·.1) = false := by rfl) :
    PE X (.Call (.Attribute o name apos) (e :: es) [] cpos) (tBM X.K T r to t) := by
  intro pins s σ H Q I h
  refine wpAny_Call_method_late hbase hfew hline rfl (thn (ho pins s σ H _ I h) fun v s1 ⟨x, H1, I1, r1, ty, q1⟩ => ?_)
  obtain ⟨h1, h2⟩ := tyV_is I1 r1 ty
  refine ⟨T, id, pa, slot, hty, h1, h2, ?_⟩
  have hA := ha cpos pins s1 σ H1 _ I1 q1
  rw [hs] at hA ⊢
  refine Calls.callWith_builtin (by show (false || (backTo cpos (starEach es X.env)).any (·.1)) = false; rw [hplain] <;> rfl) (Calls.evalArgs_plain ?_)
  exact thn hA fun us s2 ⟨vs, H2, I2, r2, q2⟩ => hm pins s2 σ H2 x vs v us Q I2 r1 r2 q2
/- xs.append(e), list.index on a module's tuple .. are MtR facts of 06m -/
end
end L2

namespace L2
open PySem PySem.Spec PyProof.Rows

def MtM (X : Cx) (id : String) (r : V → List V → Hp → VK → Prop) : Prop :=
  ∀ (pins : List (Addr × Obj)) (s : Shared) (σ : St) (H : Hp) (x : V) (xs : List V) (v : Value) (us : List Value) (Q : VK), Inv X pins σ H s → RelV x v → Vals xs us → r x xs H Q →
    wpAny (model X.prog X.w) X.A (call (.builtin id) (v :: us)) (EP X pins σ Q) X.xe s

/-! ### lists of values -/
theorem Vals.one : ∀ {x : V} {us : List Value}, Vals [x] us → ∃ u, us = [u] ∧ RelV x u
  | _, _, .cons r .nil => ⟨_, rfl, r⟩
theorem Vals.two : ∀ {x y : V} {us : List Value}, Vals [x, y] us → ∃ u v, us = [u, v] ∧ RelV x u ∧ RelV y v
  | _, _, _, .cons r (.cons q .nil) => ⟨_, _, rfl, r, q⟩
theorem Vals.zero : ∀ {us : List Value}, Vals [] us → us = []
  | _, .nil => rfl
theorem Vals.dropLast {xs : List V} {us : List Value} (h : Vals xs us) : Vals xs.dropLast us.dropLast := by
  induction h with
  | nil => exact .nil
  | cons r t ih =>
    cases t with
    | nil => exact .nil
    | cons q t' => exact .cons r ih
theorem Vals.eraseIdx : ∀ {xs : List V} {us : List Value} (i : Nat), Vals xs us → Vals (xs.eraseIdx i) (us.eraseIdx i)
  | _, _, _, .nil => .nil
  | _, _, 0, .cons _ t => t
  | _, _, i + 1, .cons r t => .cons r (Vals.eraseIdx i t)
theorem Vals.reverse {xs : List V} {us : List Value} (h : Vals xs us) : Vals xs.reverse us.reverse := by
  induction h with
  | nil => exact .nil
  | cons r t ih => rw [List.reverse_cons, List.reverse_cons]; exact Vals.append ih (.cons r .nil)
theorem Vals.rep {xs : List V} {us : List Value} (h : Vals xs us) : ∀ k : Nat, Vals (List.replicate k xs).flatten (List.replicate k us).flatten
  | 0 => .nil
  | k + 1 => by
    rw [List.replicate_succ, List.replicate_succ, List.flatten_cons, List.flatten_cons]
    exact Vals.append h (Vals.rep h k)
theorem erase_last {α : Type} (l : List α) : l.eraseIdx (l.length - 1) = l.dropLast := by
  induction l with
  | nil => rfl
  | cons a r ih =>
    cases r with
    | nil => rfl
    | cons b r =>
      have e : (a :: b :: r).length - 1 = ((b :: r).length - 1) + 1 := by
        have h1 : (a :: b :: r).length = r.length + 2 := rfl
        have h2 : (b :: r).length = r.length + 1 := rfl
        omega
      rw [e, List.eraseIdx_cons_succ, ih]
      all_goals rfl
theorem len_erase {α : Type} : ∀ (l : List α) (i : Nat), (l.eraseIdx i).length ≤ l.length
  | [], _ => Nat.le_refl _
  | _ :: _, 0 => Nat.le_succ _
  | _ :: r, i + 1 => Nat.succ_le_succ (len_erase r i)
theorem foldl_rep (its : List Value) : ∀ (k : Nat) (acc : List Value),
    List.foldl (fun x1 x2 => x1 ++ x2) acc.toArray (List.replicate k its.toArray) = (acc ++ (List.replicate k its).flatten).toArray
  | 0, acc => by simp
  | k + 1, acc => by
    have e : acc.toArray ++ its.toArray = (acc ++ its).toArray := by simp
    have e2 : (acc ++ its) ++ (List.replicate k its).flatten = acc ++ (List.replicate (k + 1) its).flatten := by
      rw [List.replicate_succ, List.flatten_cons, List.append_assoc]
    rw [← e2, ← foldl_rep its k (acc ++ its), ← e, List.replicate_succ, List.foldl_cons]

section
variable {X : Cx} {pins : List (Addr × Obj)} {σ : St} {H : Hp} {s : Shared} {l b : Addr} {xs ys zs : List V}

/-! ### the two steps: a tracked list is rewritten, a new list is laid -/
theorem Inv.lset {its its' : List Value} {n : Nat} {f : Array Value → Array Value} {t' : Nat} (I : Inv X pins σ H s) (hH : H l = some (.lst xs))
    (e : s.heap.get? l = some { cls := .type "list", data := .seq its.toArray n }) (hf : f its.toArray = its'.toArray) (hv : Vals ys its') (hz : ys.length ≤ sizeLine) :
    Inv X pins σ (upd H l (.lst ys)) { s with heap := s.heap.update l (Obj.mapSeq f), toks := t' } := by
  have q := PySem.IsL.update e f
  rw [hf] at q
  refine I.write (x := l) (e := l) (by rw [hH]; exact trivial) (.inl rfl) (fun b' u hb hu => (Heap.get?_update_other s.heap (Obj.mapSeq f) (Ne.symm hb)).trans hu) ⟨_, q⟩ ?_
  exact ⟨hz, its', _, hv, q⟩
theorem Inv.lnew {its : List Value} {t' : Nat} (I : Inv X pins σ H s) (hv : Vals ys its) (hz : ys.length ≤ sizeLine) :
    Inv X pins σ (upd H s.heap.objs.size (.lst ys)) { s with heap := s.heap.push { cls := .type "list", data := .seq its.toArray }, toks := t' } :=
  I.laid (fun _ _ q => Heap.get?_push_of_some _ q) (Nat.le_refl _) ⟨hz, its, 0, hv, Heap.get?_push_size _ rfl⟩
theorem Inv.fresh (I : Inv X pins σ H s) : H s.heap.objs.size = none := I.hok.fresh (Nat.le_refl _)
theorem Inv.lstM (I : Inv X pins σ H s) (hH : H l = some (.lst xs)) : xs.length ≤ sizeLine ∧ ∃ (its : List Value) (n : Nat), Vals xs its ∧ xs.length = its.length ∧ s.heap.get? l = some { cls := .type "list", data := .seq its.toArray n } := by
  obtain ⟨z, its, n, r, e⟩ := I.hok l _ hH
  exact ⟨z, its, n, r, r.length, e⟩

theorem notLongL {n : Nat} (h : n ≤ sizeLine) : Builtin.List.listTooLong n = false := by
  unfold Builtin.List.listTooLong
  exact decide_eq_false (by omega)
end

section
variable {X : Cx}

/-! ### methods -/
def rAppend : V → List V → Hp → VK → Prop := fun x vs H Q => ∃ l xs y, x = .ref l ∧ vs = [y] ∧ H l = some (.lst xs) ∧ xs.length < sizeLine ∧ Q .non (upd H l (.lst (xs ++ [y])))
theorem mt_append : MtM X "list.append" rAppend := by
  intro pins s σ H x vs v us Q I rx rv h
  obtain ⟨l, xs, y, rfl, rfl, hH, hz, q⟩ := h
  cases rx
  obtain ⟨u, rfl, ru⟩ := rv.one
  obtain ⟨z, its, n, r, hl, e⟩ := I.lstM hH
  refine call_meets F.slot_list_append ⟨_, e, rfl⟩ F.entry_list_append (F.args_list_append_2 _ _) (PySem.list_append l its.toArray n u (by rw [List.size_toArray]; omega)) ⟨e, ?_⟩
  refine ⟨.non, _, I.lset (its' := its ++ [u]) hH e (by simp) (r.append (.cons ru .nil)) ?_, rfl, q⟩
  rw [List.length_append, List.length_singleton]
  omega

def rExtend : V → List V → Hp → VK → Prop := fun x vs H Q => ∃ l b xs zs, x = .ref l ∧ vs = [.ref b] ∧ H l = some (.lst xs) ∧ H b = some (.lst zs) ∧ xs.length + zs.length ≤ sizeLine ∧ Q .non (upd H l (.lst (xs ++ zs)))
theorem mt_extend : MtM X "list.extend" rExtend := by
  intro pins s σ H x vs v us Q I rx rv h
  obtain ⟨l, b, xs, zs, rfl, rfl, hH, hB, hz, q⟩ := h
  cases rx
  obtain ⟨u, rfl, ru⟩ := rv.one
  cases ru
  obtain ⟨z, its, n, r, hl, e⟩ := I.lstM hH
  obtain ⟨z2, its2, n2, r2, hl2, e2⟩ := I.lstM hB
  have hsz : its.toArray.size + its2.toArray.size ≤ sizeLine := by rw [List.size_toArray, List.size_toArray]; omega
  have hlong : ¬ (!its.toArray.isEmpty && Builtin.List.listTooLong (its.toArray.size + its2.toArray.size)) = true := by
    rw [notLongL hsz, Bool.and_false]
    exact Bool.false_ne_true
  refine call_meets F.slot_list_extend ⟨_, e, rfl⟩ F.entry_list_extend (F.args_list_extend_2 _ _)
    (AutoSeq1.list_extend_list_list_0 l its.toArray n b its2.toArray n2 hlong (by rw [List.size_toArray]; omega) (by omega)) ⟨e, e2, ?_⟩
  refine ⟨.non, _, I.lset (its' := its ++ its2) hH e (by simp) (r.append r2) ?_, rfl, q⟩
  rw [List.length_append]
  omega

def rPop : V → List V → Hp → VK → Prop := fun x vs H Q => ∃ l xs y, x = .ref l ∧ vs = [] ∧ H l = some (.lst xs) ∧ xs[xs.length - 1]? = some y ∧ Q y (upd H l (.lst xs.dropLast))
theorem mt_pop : MtM X "list.pop" rPop := by
  intro pins s σ H x vs v us Q I rx rv h
  obtain ⟨l, xs, y, rfl, rfl, hH, hy, q⟩ := h
  cases rx
  have hus := rv.zero
  subst hus
  obtain ⟨z, its, n, r, hl, e⟩ := I.lstM hH
  obtain ⟨u, hu, ru⟩ := r.get hy
  have hy' : its.toArray[its.toArray.size - 1]? = some u := by
    show its.toArray[its.length - 1]? = some u
    rw [← Array.getElem?_toList, ← hl]
    exact hu
  refine call_meets F.slot_list_pop ⟨_, e, rfl⟩ F.entry_list_pop (F.args_list_pop_1 _) (MeetsSeq.list_pop_last l its.toArray n u hy' (by rw [List.size_toArray]; omega)) ⟨e, ?_⟩
  refine ⟨y, _, I.lset (its' := its.dropLast) hH e ?_ r.dropLast ?_, ru, q⟩
  · show its.toArray.eraseIdxIfInBounds (its.toArray.size - 1) = its.dropLast.toArray
    rw [List.size_toArray, List.eraseIdxIfInBounds_toArray, erase_last]
  · rw [List.length_dropLast]
    omega

def rPopAt : V → List V → Hp → VK → Prop := fun x vs H Q => ∃ l xs i k y, x = .ref l ∧ vs = [.int i] ∧ H l = some (.lst xs) ∧ -(2 ^ 63) ≤ i ∧ i < 2 ^ 63 ∧ seqIndex? i xs.length = some k ∧ xs[k]? = some y ∧ Q y (upd H l (.lst (xs.eraseIdx k)))
theorem mt_popAt : MtM X "list.pop" rPopAt := by
  intro pins s σ H x vs v us Q I rx rv h
  obtain ⟨l, xs, i, k, y, rfl, rfl, hH, h1, h2, hk, hy, q⟩ := h
  cases rx
  obtain ⟨u, rfl, ru⟩ := rv.one
  obtain ⟨t, rfl⟩ := ru
  obtain ⟨z, its, n, r, hl, e⟩ := I.lstM hH
  obtain ⟨w, hw, rw'⟩ := r.get hy
  refine call_meets F.slot_list_pop ⟨_, e, rfl⟩ F.entry_list_pop (F.args_list_pop_2 _ _)
    (MeetsSeq.list_pop_at l its.toArray n i t k w (fitsIndex_both h1 h2) (by rw [List.size_toArray, ← hl]; exact hk) (by rw [← Array.getElem?_toList]; exact hw) (by rw [List.size_toArray]; omega)) ⟨e, ?_⟩
  refine ⟨y, _, I.lset (its' := its.eraseIdx k) hH e ?_ (r.eraseIdx k) ?_, rw', q⟩
  · show its.toArray.eraseIdxIfInBounds k = (its.eraseIdx k).toArray
    rw [List.eraseIdxIfInBounds_toArray]
  · have := len_erase xs k
    omega

def rReverse : V → List V → Hp → VK → Prop := fun x vs H Q => ∃ l xs, x = .ref l ∧ vs = [] ∧ H l = some (.lst xs) ∧ Q .non (upd H l (.lst xs.reverse))
theorem mt_reverse : MtM X "list.reverse" rReverse := by
  intro pins s σ H x vs v us Q I rx rv h
  obtain ⟨l, xs, rfl, rfl, hH, q⟩ := h
  cases rx
  have hus := rv.zero
  subst hus
  obtain ⟨z, its, n, r, hl, e⟩ := I.lstM hH
  refine call_meets F.slot_list_reverse ⟨_, e, rfl⟩ F.entry_list_reverse (F.args_list_reverse_1 _) (AutoSeq1.list_reverse_list_0 l its.toArray n (by rw [List.size_toArray]; omega)) ⟨e, ?_⟩
  refine ⟨.non, _, I.lset (its' := its.reverse) hH e (by simp) r.reverse ?_, rfl, q⟩
  rw [List.length_reverse]
  omega

def rClear : V → List V → Hp → VK → Prop := fun x vs H Q => ∃ l xs, x = .ref l ∧ vs = [] ∧ H l = some (.lst xs) ∧ Q .non (upd H l (.lst []))
theorem mt_clear : MtM X "list.clear" rClear := by
  intro pins s σ H x vs v us Q I rx rv h
  obtain ⟨l, xs, rfl, rfl, hH, q⟩ := h
  cases rx
  have hus := rv.zero
  subst hus
  obtain ⟨z, its, n, r, hl, e⟩ := I.lstM hH
  refine call_meets F.slot_list_clear ⟨_, e, rfl⟩ F.entry_list_clear (F.args_list_clear_1 _) (AutoSeq1.list_clear_list_0 l its.toArray n (by rw [List.size_toArray]; omega)) ⟨e, ?_⟩
  exact ⟨.non, _, I.lset (its' := []) (ys := []) hH e rfl .nil (Nat.zero_le _), rfl, q⟩

/-! ### list + list, list += list, list * int -/
def rCat : R2 := fun x y H Q => ∃ l b xs zs, x = .ref l ∧ y = .ref b ∧ H l = some (.lst xs) ∧ H b = some (.lst zs) ∧ xs.length + zs.length ≤ sizeLine ∧ ∀ p, H p = none → Q (.ref p) (upd H p (.lst (xs ++ zs)))
theorem op_cat : OpR X (binaryOp .Add) rCat := by
  intro pins s σ H x y v u Q I rx ry h
  obtain ⟨l, b, xs, zs, rfl, rfl, hH, hB, hz, q⟩ := h
  cases rx
  cases ry
  obtain ⟨z, its, n, r, hl, e⟩ := I.lstM hH
  obtain ⟨z2, its2, n2, r2, hl2, e2⟩ := I.lstM hB
  refine PySem.P.add_list e e2 ?_ (by rw [List.size_toArray, List.size_toArray]; omega)
  have ea : its.toArray ++ its2.toArray = (its ++ its2).toArray := by simp
  rw [ea]
  exact ⟨.ref _, _, I.lnew (t' := s.toks) (r.append r2) (by rw [List.length_append]; omega), rfl, q _ I.fresh⟩
/-- a list times an int (a negative one is nothing) -/
def rRep : R2 := fun x y H Q => ∃ l k xs, x = .ref l ∧ y = .int k ∧ H l = some (.lst xs) ∧ -(2 ^ 63) ≤ k ∧ k < 2 ^ 63 ∧ xs.length * k.toNat ≤ sizeLine ∧
  ∀ p, H p = none → Q (.ref p) (upd H p (.lst (List.replicate k.toNat xs).flatten))
theorem len_rep {α : Type} (xs : List α) (k : Nat) : (List.replicate k xs).flatten.length = k * xs.length := by
  induction k with
  | zero => simp
  | succ k ih => rw [List.replicate_succ, List.flatten_cons, List.length_append, ih, Nat.succ_mul, Nat.add_comm]
theorem op_rep : OpR X (binaryOp .Mult) rRep := by
  intro pins s σ H x y v u Q I rx ry h
  obtain ⟨l, k, xs, rfl, rfl, hH, h1, h2, hz, q⟩ := h
  cases rx
  obtain ⟨t, rfl⟩ := ry
  obtain ⟨z, its, n, r, hl, e⟩ := I.lstM hH
  have hlen : its.toArray.size * k.toNat ≤ sizeLine := by rw [List.size_toArray, ← hl]; exact hz
  have hcap : ¬ its.toArray.size * k.toNat > (2 ^ 63 - 1) / 8 := by
    have : (sizeLine : Nat) ≤ (2 ^ 63 - 1) / 8 := by decide
    omega
  have hfit : ¬ (!Builtin.List.listFitsIndex k) = true := by
    rw [fitsIndex_both h1 h2]
    exact Bool.false_ne_true
  have hlong : ¬ Builtin.List.listTooLong (its.toArray.size * k.toNat) = true := by
    rw [notLongL hlen]
    exact Bool.false_ne_true
  have hnew : List.foldl (fun x1 x2 => x1 ++ x2) #[] (List.replicate (if its.toArray.isEmpty = true then 0 else k.toNat) its.toArray) = (List.replicate k.toNat its).flatten.toArray := by
    have f0 : ∀ m : Nat, List.foldl (fun x1 x2 => x1 ++ x2) #[] (List.replicate m its.toArray) = (List.replicate m its).flatten.toArray := fun m => by
      have := foldl_rep its m []
      rw [List.nil_append] at this
      exact this
    rw [f0]
    cases its with
    | nil => simp
    | cons a r' => rw [if_neg (by simp)]
  refine wpAny_binaryOp_repeat_ref (T := "list") (U := "int") (by decide) ⟨_, e, rfl⟩ (fun s' => typeIs_int s' k t) noFill_list_mul F.fills_int_mul F.slot_int_rmul repeat_list F.slot_int_index.lookup
    (call_meets F.slot_int_rmul (typeIs_int s k t) F.entry_int_rmul (F.args_int_rmul_2 _ _) (int___rmul___int_list k t l its.toArray n)
      ⟨e, rfl, ⟨_, e, rfl⟩, call_meets F.slot_list_mul ⟨_, e, rfl⟩ F.entry_list_mul (F.args_list_mul_2 _ _) (AutoListH.list___mul___list_int_3 l its.toArray n k t hfit hcap hlong) ⟨e, ?_⟩⟩)
  rw [hnew]
  exact ⟨.ref _, _, I.lnew (t' := s.toks) (r.rep k.toNat) (by rw [len_rep, Nat.mul_comm]; exact hz), rfl, q _ I.fresh⟩

/-! ### del xs[i] -/
theorem del_list {pins : List (Addr × Obj)} {s : Shared} {σ : St} {H : Hp} {l : Addr} {xs : List V} {i : Int} {t : Tok} {k : Nat} {Q : Unit → Shared → Prop} (I : Inv X pins σ H s) (hH : H l = some (.lst xs))
    (h1 : -(2 ^ 63) ≤ i) (h2 : i < 2 ^ 63) (hk : seqIndex? i xs.length = some k) (h : ∀ s', Inv X pins σ (upd H l (.lst (xs.eraseIdx k))) s' → Q () s') :
    wpAny (model X.prog X.w) X.A (delItem (.ref l) (.int i t)) Q X.xe s := by
  obtain ⟨z, its, n, r, hl, e⟩ := I.lstM hH
  refine PySem.P.delItem_list (k := k) e (fitsIndex_both h1 h2) (by rw [List.size_toArray, ← hl]; exact hk) (h _ ?_) (by rw [List.size_toArray]; omega)
  refine I.lset (its' := its.eraseIdx k) (t' := s.toks) hH e ?_ (r.eraseIdx k) ?_
  · show its.toArray.eraseIdxIfInBounds k = (its.eraseIdx k).toArray
    rw [List.eraseIdxIfInBounds_toArray]
  · have := len_erase xs k
    omega
end

/-! ### xs[a:b] = ys -/
section
variable {prog : Program} {w : World} {A : Around} {E : Value → Shared → Prop} {s : Shared}
theorem splice_eq (its its2 : List Value) (a c : Nat) : its.toArray.extract 0 a ++ its2.toArray ++ its.toArray.extract c its.toArray.size = (its.take a ++ its2 ++ its.drop c).toArray := by
  apply Array.toList_inj.mp
  first
    | (simp
       exact List.take_of_length_le (by simp))
    | simp [List.take_of_length_le]
    | simp
theorem bounds_run {a c n : Nat} (hac : a ≤ c) (hc : c ≤ n) : sliceBounds (some (a : Int)) (some (c : Int)) none n = ((a : Int), (c : Int), 1) := by
  simp only [sliceBounds, Option.getD_none]
  have h1 : ¬ ((a : Int) < 0) := by omega
  have h2 : ¬ ((c : Int) < 0) := by omega
  simp only [h1, h2, if_false, show (1 : Int) > 0 by decide, if_true]
  congr 1
  · omega
  · congr 1; omega
set_option maxRecDepth 100000 in
/-- list.__setitem__ with a slice of step one and another list -/
theorem setItem_slice {l b sl : Addr} {items new : Array Value} {n n2 : Nat} {vl vu : Value} {a c : Nat} {Q : Unit → Shared → Prop}
    (e : s.heap.get? l = some { cls := .type "list", data := .seq items n }) (e2 : s.heap.get? b = some { cls := .type "list", data := .seq new n2 }) (hne : l ≠ b)
    (hs : s.heap.IsSliceOf sl vl vu .none) (pl : IsPart vl (some (a : Int))) (pu : IsPart vu (some (c : Int))) (hac : a ≤ c) (hc : c ≤ items.size)
    (hsz : items.size + new.size ≤ sizeLine) (h : Q () { s with heap := s.heap.update l (Obj.mapSeq fun xs => xs.extract 0 a ++ new ++ xs.extract c xs.size) }) :
    wpAny (model prog w) A (setItem (.ref l) (.ref sl) (.ref b)) Q E s := by
  have hl : s.heap.IsList l items := PySem.IsL.isList e
  have hb : s.heap.IsList b new := PySem.IsL.isList e2
  obtain ⟨os, hos, hcs, hds⟩ := id hs
  have hTs : s.TypeIs (.ref sl) "slice" := ⟨os, hos, hcs⟩
  have hstep : ¬ ((rawPart none == rawInt 0) = true) := Bool.false_ne_true
  have hsame : Builtin.List.listSameRef (.ref l) (.ref b) = false := by
    unfold Builtin.List.listSameRef
    exact beq_eq_false_iff_ne.mpr hne
  have hmax : (max (a : Int) (c : Int)).toNat = c := by omega
  have hz' : ((fun xs : Array Value => xs.extract 0 a ++ new ++ xs.extract c xs.size) items).size ≤ sizeLine + 1 := by
    simp only [Array.size_append, Array.size_extract]
    omega
  unfold setItem
  try with_reducible refine wpAny_holding ?_
  first | refine wpAny_bind (wpAny_pure ?_) | skip
  refine wpAny_bind (wpAny_sequenceKey hl.typeIs (by decide) ?_)
  refine wpAny_bind (wpAny_callSpecial?_slot (name := Str.ofString "__setitem__") hl.typeIs slot_list_setitem
    (wpAny_call_entry slot_list_setitem hl.typeIs entry_list_setitem ?_ (args_list_setitem _ _ _)))
  show wpAny _ _ (Builtin.List.listSubscript? (.ref sl) >>= _) _ _ s
  refine wpAny_bind ?_
  unfold Builtin.List.listSubscript?
  refine wpAny_bind (wpAny_specialOf hTs slice_no_index ?_)
  simp only [Option.isNone_none, if_true]
  refine wpAny_pure ?_
  show wpAny _ _ (typeOf (.ref sl) >>= _) _ _ s
  refine wpAny_bind (wpAny_typeOf hTs ?_)
  first
    | rw [if_neg (by decide)]
    | refine PySem.W.KFB.if_not (by decide) ?_
  rw [listSliceParts_eq]
  refine wpAny_bind (wpAny_bind (wpAny_field hos hds (x := .none) rfl (wpAny_bind (wpAny_listPart .none ?_))))
  rw [if_neg hstep]
  refine wpAny_bind (wpAny_field hos hds (x := vl) rfl (wpAny_bind (wpAny_listPart pl ?_)))
  refine wpAny_bind (wpAny_field hos hds (x := vu) rfl (wpAny_bind (wpAny_listPart pu (wpAny_pure ?_))))
  first
    | simp only [hsame, Bool.false_eq_true, if_false]
    | refine PySem.W.KFB.if_not hsame ?_
    | (dsimp only
       rw [if_neg (by rw [hsame]; exact Bool.false_ne_true)])
  refine wpAny_bind (m := Builtin.List.listAllItems (.ref b) "must assign iterable to extended slice") ?_
  unfold Builtin.List.listAllItems
  refine wpAny_bind (wpAny_typeOf hb.typeIs ?_)
  first
    | refine PySem.W.KFB.if_so (by decide) ?_
    | rw [if_pos (by decide)]
    | simp only [beq_self_eq_true, Bool.true_or, if_true]
  unfold Builtin.List.listItems
  refine wpAny_bind (wpAny_seqItems e2 rfl (wpAny_pure ?_))
  refine wpAny_bind (wpAny_bind (wpAny_seqItems e rfl (wpAny_pure ?_)))
  refine wpAny_bind (wpAny_of_eq ((sliceIndices_raw (some (a : Int)) (some (c : Int)) none items.size (by simp)).trans (congrArg (pure : Int × Int × Int → Sem (Int × Int × Int)) (bounds_run hac hc))) ?_)
  show wpAny _ _ (if ((1 : Int) == 1) = true then _ else _) _ _ s
  rw [if_pos (by decide)]
  refine wpAny_bind (wpAny_rule ?_)
  first
    | simp only [notLongL hsz, Bool.false_eq_true, if_false]
    | refine PySem.W.KFB.if_not (notLongL hsz) ?_
  first | refine wpAny_bind (wpAny_pure ?_) | skip
  show wpAny _ _ (updateSeq l (fun xs => xs.extract 0 ((a : Int)).toNat ++ new ++ xs.extract (max (a : Int) (c : Int)).toNat xs.size) >>= _) _ _ s
  rw [hmax, Int.toNat_natCast]
  refine wpAny_bind (wpAny_updateSeq (hz := Nat.le_trans (Nat.le_add_right _ _) hsz) (_hz' := hz') e rfl ?_)
  refine wpAny_bind (wpAny_letGo ?_)
  first
    | exact wpAny_bind (wpAny_pure (wpAny_pure ⟨.none, rfl, wpAny_pure h⟩))
    | exact wpAny_pure ⟨.none, rfl, wpAny_pure h⟩
end

section
variable {X : Cx}
/-- xs[a:c] = ys of another list, at the value level: sl is the slice object that was just made -/
theorem set_slice {pins : List (Addr × Obj)} {s : Shared} {σ : St} {H : Hp} {l b sl : Addr} {xs ys : List V} {a c : Int} {vl vu : Value} {Q : Unit → Shared → Prop} (I : Inv X pins σ H s)
    (hH : H l = some (.lst xs)) (hB : H b = some (.lst ys)) (hne : l ≠ b) (hs : s.heap.IsSliceOf sl vl vu .none) (ra : RelV (.int a) vl) (rc : RelV (.int c) vu) (h0 : 0 ≤ a) (hac : a ≤ c) (hc : c ≤ xs.length)
    (hz : xs.length + ys.length ≤ sizeLine) (h : ∀ s', Inv X pins σ (upd H l (.lst (xs.take a.toNat ++ ys ++ xs.drop c.toNat))) s' → Q () s') :
    wpAny (model X.prog X.w) X.A (setItem (.ref l) (.ref sl) (.ref b)) Q X.xe s := by
  obtain ⟨ta, rfl⟩ := ra
  obtain ⟨tc, rfl⟩ := rc
  obtain ⟨z, its, n, r, hl, e⟩ := I.lstM hH
  obtain ⟨z2, its2, n2, r2, hl2, e2⟩ := I.lstM hB
  obtain ⟨a', rfl⟩ := Int.eq_ofNat_of_zero_le h0
  obtain ⟨c', rfl⟩ := Int.eq_ofNat_of_zero_le (Int.le_trans h0 hac)
  simp only [Int.toNat_natCast] at h
  refine setItem_slice (a := a') (c := c') e e2 hne hs (.int _ _) (.int _ _) (by omega) (by rw [List.size_toArray]; omega) (by rw [List.size_toArray, List.size_toArray]; omega) (h _ ?_)
  refine I.lset (its' := its.take a' ++ its2 ++ its.drop c') (t' := s.toks) hH e ?_ (Vals.append (Vals.append (r.take _) r2) (r.drop _)) ?_
  · exact splice_eq its its2 a' c'
  · rw [List.length_append, List.length_append, List.length_take, List.length_drop]
    omega
end
end L2

namespace Att
open PySem PySem.W PySem.Calls PyProof.Rows

/-! ### the script -/
theorem ints_of_wellAll {P : Params} {h : Heap} : ∀ (ns : List Int) (vs : List Value), WellAll P h vs (ns.map WData.int) → IntsAre vs ns := by
  intro ns
  induction ns with
  | nil =>
    intro vs w
    rw [List.map_nil] at w
    cases w
    exact .nil
  | cons n ns ih =>
    intro vs w
    rw [List.map_cons] at w
    cases w with
    | cons a b =>
      cases a
      exact .cons _ _ (ih _ b)

theorem script_of {l : OpenLaw} {n : Nat} (hn : l.most = some n) {P : Params} {h : Heap} {args : List WData} {vals : List Value}
    (hpre : l.row.toRowW.claim.pre args = true) (hwl : WellAll P h vals args) :
    ∃ a vs ns, vals = [Value.ref a] ∧ args = [WData.list (ns.map WData.int)] ∧ h.get? a = some { cls := .type "list", data := .seq vs.toArray } ∧ IntsAre vs ns ∧ ns.length ≤ n := by
  have hsh : WShape.hasAll [] args [.list .int] = true := (pre_splitW hpre).1
  have hc : l.pre.holds [] { args := args } = true := (pre_splitW hpre).2
  obtain ⟨d, r, rfl, h1, h2⟩ := hasAllW_cons hsh
  obtain rfl := hasAllW_nil h2
  obtain ⟨xs, rfl, h3⟩ := hasW_list h1
  obtain ⟨ns, rfl⟩ := items_int h3
  have hlen : ns.length ≤ n := by
    unfold OpenLaw.pre at hc
    have h4 : (WTm.not (.lt (.lit (.int (n : Int))) (.len (.arg 0)))).holds [] { args := [.list (ns.map .int)] } = true := by
      have h4 := (holds_andW hc).1
      rw [hn] at h4
      exact h4
    have h5 := condW_of h4 (w_not (w_lt w_lit (w_len_list (w_arg rfl))))
    rw [List.length_map] at h5
    refine Nat.le_of_not_lt fun q => ?_
    have q' : (n : Int) < ((ns.length : Nat) : Int) := by omega
    first
      | (rw [decide_eq_true q'] at h5; exact absurd h5 (by decide))
      | (simp at h5; omega)
  cases hwl with
  | cons w1 w2 =>
    cases w2
    cases w1 with
    | list ho hall => exact ⟨_, _, ns, rfl, rfl, ho, ints_of_wellAll ns _ hall, hlen⟩

theorem post_true (l : OpenLaw) (args : List WData) : l.row.toRowW.claim.post args (.bool true) args = true :=
  postW_of (r := l.row.toRowW) (X := (true == true))
    (show WShape.has [] (.bool true) .bool = true by first | rfl | decide | simp [WShape.has, WShape.arms, WShape.armsAll])
    (show (WTm.eq .res (.lit (.bool true))).value [] { args := args, res := some (.bool true), after := args } = some (.bool (true == true)) from w_eq_bool (w_res rfl) w_lit) rfl

/-! ### the attachment: holds_open's last premise (the goal 'hc' behind k_head) from a wpAny of the law's body -/
theorem attach {l : OpenLaw} {n : Nat} {q : Program} {loose : List Str} {XP : (Str → Option Value) → Heap → Prop} {YP : World → Heap → Prop} {d : DefRec} {x : Str}
    (hn : l.most = some n) (hdf : d.params.defaults = [])
    (hbind : ∀ pm cd doc v : Value, bindArgs (docDef d.name d.params d.body d.scope pm cd doc) ⟨[v], []⟩ = pure [(x, v)])
    (hx : d.scope.names.lookup x = some .local ∨ d.scope.names.lookup x = some .cell)
    (hk : d.scope.kind = .function) (hco : d.scope.isCoroutine = false) (hgen : d.scope.isGenerator = false)
    (body : ∀ (w : World) (s₀ s₁ s : Shared) (mg mb : Str → Option Value) (fa : Addr) (o : Obj) (pm cd doc : Value) (a : Addr) (vs : List Value) (ns : List Int),
      Ground q loose [] XP w s₀ mg mb s₁.heap → YP w s₁.heap →
      s₁.heap.get? fa = some o → o.data = .func (docDef d.name d.params d.body d.scope pm cd doc) → s₁.heap.CodeRec cd d.name → mg d.name = some (.ref fa) →
      s₁.heap.get? a = some { cls := .type "list", data := .seq vs.toArray } → IntsAre vs ns → ns.length ≤ n →
      s.gens = #[] → s.os = s₁.os →
      Fr s₁.heap s₁.heap.objs.size s.heap (bindL (envOfC d.name d.scope s₁.heap.objs.size fa cd).kindOf [(x, .ref a)] fun _ => none) →
      Cl s₁.heap.objs.size (cellsFrom (s₁.heap.objs.size + 1) d.scope.names []) s.heap (bindC (envOfC d.name d.scope s₁.heap.objs.size fa cd).kindOf [(x, .ref a)] fun _ => none) →
      wpAny (model l.prog w) (callerA.deeper (envOfC d.name d.scope s₁.heap.objs.size fa cd)) (execs d.body (envOfC d.name d.scope s₁.heap.objs.size fa cd))
        (fun f s' => f = .ret (.bool true) ∧ OldK s₁.heap s'.heap ∧ s'.os = s₁.os ∧ AllBare s'.gens) (fun _ _ => False) s) :
    WalkO q loose XP YP l.row.toRowW d [] (fun f vs => PySem.call f vs) := by
  intro w s₀ s₁ mg mb G Y fa o pm cd doc dV kV ho hd hcd hD hmg hg args vals as hpre hlay hrd hwl hlo
  obtain rfl : dV = .none := Dflts.none hD hdf
  obtain rfl : kV = .none := Dflts.noKw hD
  obtain ⟨a, vs, ns, rfl, rfl, hobj, hints, hlen⟩ := script_of hn hpre hwl
  refine enter_call ?_
  refine call_cells_ret (o := o) (by rw [depth_caller]; decide) ho (fd_plain hd) G.T.nolimit hcd (hbind pm cd doc (.ref a)) (fun y hy => ?_) (fun h₁ tk F X => ?_) hco hgen hk
  · obtain rfl : y = (x, Value.ref a) := List.mem_singleton.mp hy
    rcases hx with e | e
    · exact .inl e
    · exact .inr ⟨e, cellsFrom_some _ _ _ (.inl e)⟩
  · refine wpAny_mono (body w s₀ s₁ { s₁ with heap := h₁, toks := tk } mg mb fa o pm cd doc a vs ns G Y ho (fd_plain hd) hcd hmg hobj hints hlen hg rfl F X) (fun f s' hq => ?_) (fun _ _ hq => hq)
    obtain ⟨rfl, h2, h3, h4⟩ := hq
    exact ⟨.inl ⟨.bool true, .bool true, [], rfl, fun _ => rfl, .bool true, post_true l _, fun _ => ⟨List.Pairwise.nil, fun _ hm => (nomatch hm)⟩⟩, h2, h3, h4⟩

/-- the same from a codeAny of the CALL (for a layer whose function contracts speak of calls) -/
theorem attach_call {l : OpenLaw} {n : Nat} {q : Program} {loose : List Str} {XP : (Str → Option Value) → Heap → Prop} {YP : World → Heap → Prop} {d : DefRec}
    (hn : l.most = some n) (hdf : d.params.defaults = [])
    (call : ∀ (w : World) (s₀ s₁ : Shared) (mg mb : Str → Option Value) (fa : Addr) (o : Obj) (pm cd doc : Value) (a : Addr) (vs : List Value) (ns : List Int),
      Ground q loose [] XP w s₀ mg mb s₁.heap → YP w s₁.heap →
      s₁.heap.get? fa = some o → o.data = .func (docDef d.name d.params d.body d.scope pm cd doc) → s₁.heap.CodeRec cd d.name → mg d.name = some (.ref fa) →
      s₁.heap.get? a = some { cls := .type "list", data := .seq vs.toArray } → IntsAre vs ns → ns.length ≤ n → s₁.gens = #[] →
      codeAny (model l.prog w) callerA (.call (.ref fa) ⟨[.ref a], []⟩) (fun r s' => r = .ok (.ret (.bool true)) ∧ OldK s₁.heap s'.heap ∧ s'.os = s₁.os ∧ AllBare s'.gens) s₁) :
    WalkO q loose XP YP l.row.toRowW d [] (fun f vs => PySem.call f vs) := by
  intro w s₀ s₁ mg mb G Y fa o pm cd doc dV kV ho hd hcd hD hmg hg args vals as hpre hlay hrd hwl hlo
  obtain rfl : dV = .none := Dflts.none hD hdf
  obtain rfl : kV = .none := Dflts.noKw hD
  obtain ⟨a, vs, ns, rfl, rfl, hobj, hints, hlen⟩ := script_of hn hpre hwl
  refine enter_call (codeAny_mono (call w s₀ s₁ mg mb fa o pm cd doc a vs ns G Y ho (fd_plain hd) hcd hmg hobj hints hlen hg) fun r s' hq => ?_)
  obtain ⟨rfl, h2, h3, h4⟩ := hq
  exact ⟨.inl ⟨.bool true, .bool true, [], rfl, fun _ => rfl, .bool true, post_true l _, fun _ => ⟨List.Pairwise.nil, fun _ hm => (nomatch hm)⟩⟩, h2, h3, h4⟩

/-- the same where the top left finished generators (o_head chose holds_openN): nothing may have changed at all and no generator may be left -/
theorem attachN {l : OpenLaw} {n : Nat} {q : Program} {loose : List Str} {XP : (Str → Option Value) → Heap → Prop} {YP : World → Heap → Prop} {d : DefRec} {x : Str}
    (hn : l.most = some n) (hdf : d.params.defaults = [])
    (hbind : ∀ pm cd doc v : Value, bindArgs (docDef d.name d.params d.body d.scope pm cd doc) ⟨[v], []⟩ = pure [(x, v)])
    (hx : d.scope.names.lookup x = some .local ∨ d.scope.names.lookup x = some .cell)
    (hk : d.scope.kind = .function) (hco : d.scope.isCoroutine = false) (hgen : d.scope.isGenerator = false)
    (body : ∀ (w : World) (s₀ s₁ s : Shared) (mg mb : Str → Option Value) (fa : Addr) (o : Obj) (pm cd doc : Value) (a : Addr) (vs : List Value) (ns : List Int),
      Ground q loose [] XP w s₀ mg mb s₁.heap → YP w s₁.heap →
      s₁.heap.get? fa = some o → o.data = .func (docDef d.name d.params d.body d.scope pm cd doc) → s₁.heap.CodeRec cd d.name → mg d.name = some (.ref fa) →
      s₁.heap.get? a = some { cls := .type "list", data := .seq vs.toArray } → IntsAre vs ns → ns.length ≤ n →
      s.gens = #[] → s.os = s₁.os →
      Fr s₁.heap s₁.heap.objs.size s.heap (bindL (envOfC d.name d.scope s₁.heap.objs.size fa cd).kindOf [(x, .ref a)] fun _ => none) →
      Cl s₁.heap.objs.size (cellsFrom (s₁.heap.objs.size + 1) d.scope.names []) s.heap (bindC (envOfC d.name d.scope s₁.heap.objs.size fa cd).kindOf [(x, .ref a)] fun _ => none) →
      wpAny (model l.prog w) (callerA.deeper (envOfC d.name d.scope s₁.heap.objs.size fa cd)) (execs d.body (envOfC d.name d.scope s₁.heap.objs.size fa cd))
        (fun f s' => f = .ret (.bool true) ∧ (∀ b o, s₁.heap.get? b = some o → s'.heap.get? b = some o) ∧ s'.os = s₁.os ∧ s'.gens = #[]) (fun _ _ => False) s) :
    WalkN q loose XP YP l.row.toRowW d [] (fun f vs => PySem.call f vs) := by
  intro w s₀ s₁ mg mb G Y fa o pm cd doc dV kV ho hd hcd hD hmg hg args vals as hpre hlay hrd hwl hlo
  obtain rfl : dV = .none := Dflts.none hD hdf
  obtain rfl : kV = .none := Dflts.noKw hD
  obtain ⟨a, vs, ns, rfl, rfl, hobj, hints, hlen⟩ := script_of hn hpre hwl
  refine enter_callW ?_
  refine call_cells_ret (o := o) (by rw [depth_caller]; decide) ho (fd_plain hd) G.T.nolimit hcd (hbind pm cd doc (.ref a)) (fun y hy => ?_) (fun h₁ tk F X => ?_) hco hgen hk
  · obtain rfl : y = (x, Value.ref a) := List.mem_singleton.mp hy
    rcases hx with e | e
    · exact .inl e
    · exact .inr ⟨e, cellsFrom_some _ _ _ (.inl e)⟩
  · refine wpAny_mono (body w s₀ s₁ { s₁ with heap := h₁, toks := tk } mg mb fa o pm cd doc a vs ns G Y ho (fd_plain hd) hcd hmg hobj hints hlen hg rfl F X) (fun f s' hq => ?_) (fun _ _ hq => hq)
    obtain ⟨rfl, h2, h3, h4⟩ := hq
    exact ⟨.inl ⟨.bool true, .bool true, [], rfl, fun _ => rfl, .bool true, post_true l _, fun _ => ⟨List.Pairwise.nil, fun _ hm => (nomatch hm)⟩⟩, h2, h3, h4⟩

/-! ### rules over ANY heap (no ledger) from facts about the written part K: the library's own take a ledger (News) for what they write -/
section
variable {prog : Program} {w : World} {A : Around} {E : Value → Shared → Prop} {s : Shared} {K : Frag}

/-- a def of the module, or a method (qual 'C.m'), entered: the frame is the next address; cells behind it -/
theorem call_fn {R : Result → Shared → Prop} {name qual : Str} {params : Arguments} {body : List Stmt} {scope : Scope} {dV kV doc pm cdv ct oc : Value} {an od : Option Addr} {osl : Array (Option Value)} {f : Addr} {args : Args} {binds : List (Str × Value)}
    (X : K.In s.heap) (hlim : s.heap.NoLimit) (ho : K.lookup f = some ⟨oc, od, .func (fnOf name qual params body scope dV kV doc pm an cdv ct), osl⟩) (hcd : codeIn K cdv qual = true) (hroom : A.depth < recursionLimit)
    (hbind : BindsTo s (fnOf name qual params body scope dV kV doc pm an cdv ct) args binds)
    (hkind : (binds.all fun y => scope.names.lookup y.1 == some .local || scope.names.lookup y.1 == some .cell) = true)
    (h : ∀ s₁, InCallC s s.heap.objs.size (bindL (envOfC qual scope s.heap.objs.size f cdv).kindOf binds fun _ => none) (cellsFrom (s.heap.objs.size + 1) scope.names [])
        (bindC (envOfC qual scope s.heap.objs.size f cdv).kindOf binds fun _ => none) s₁ →
      wpAny (model prog w) (A.deeper (envOfC qual scope s.heap.objs.size f cdv)) (execs body (envOfC qual scope s.heap.objs.size f cdv))
        (fun fl s' => R (.ok (.ret (match fl with | .ret v => v | _ => .none))) s')
        (fun e s' => wpAny (model prog w) (A.deeper (envOfC qual scope s.heap.objs.size f cdv)) (leaving (envOfC qual scope s.heap.objs.size f cdv) e) (fun _ s'' => R (.error e) s'') (fun e' s'' => R (.error e') s'') s') s₁)
    (hco : scope.isCoroutine = false) (hgen : scope.isGenerator = false) (hk : scope.kind = .function) : codeAny (model prog w) A (.call (.ref f) args) R s := by
  refine codeAny_call_function hroom (X _ _ ho) rfl hco hgen rfl (codeRec_of X hcd) (hbind _ _ _ _ ?_)
  refine wpAny_newFunctionEnv_cells hk (kindsX hkind _) fun env he s₁ x => ?_
  subst he
  exact ⟨hlim.keeps x.toInCall.keep, codeAny_func (h s₁ x)⟩

/-- C(..): dict at size, instance at size + 1, then __init__ -/
theorem make_obj {R : Result → Shared → Prop} {C fI : Addr} {rest : List Value} {kw : List (Str × Value)}
    (X : K.In s.heap) (hm : makesIn K C = true) (hi : findIn K (.ref C) "__init__" = some (some (.ref fI))) (hf : isFn K (.ref fI) = true)
    (h : codeAny (model prog w) (A.under (.builtin "type.__call__" ⟨.ref C :: rest, kw⟩)) (.call (.ref fI) ⟨.ref (s.heap.objs.size + 1) :: rest, kw⟩) (InitBack (s.heap.objs.size + 1) R)
      { s with heap := (s.heap.push emptyDict).push (instObj C s.heap.objs.size) }) : codeAny (model prog w) A (.call (.ref C) ⟨rest, kw⟩) R s := by
  obtain ⟨hh, g, d, t, os⟩ := s
  exact make_core (makes_of X hm) (looks_findIn X hi) (fun self => bind_fn X self (beq_iff_eq.mp hf)) (.inl rfl) h

/-- x.name where the instance's dict holds the name and the class does not -/
theorem get_field {x C : Addr} {ox : Obj} {es : List DictEntry} {n : Nat} {name : Str} {expr : Bool} {v : Value} {Q : Value → Shared → Prop}
    (X : K.In s.heap) (I : PySem.W.InstAt s.heap x ox C (some (dictOf es n))) (hg : plainGet K C name = true) (hh : hasDictIn K C = true) (ha : findIn K (.ref C) name = some none)
    (hl : getL name es = some (some v)) (hv : handedIn v = true) (h : Q v { s with toks := s.toks + 1 }) : wpAny (model prog w) A (getAttr (.ref x) name expr) Q E s :=
  get_value X I (plainGet_of hg).1 (findObj_own hh ha rfl hl) hv h

/-- x.m(..): the method found in the class -/
theorem get_method {x C f : Addr} {ox : Obj} {es : List DictEntry} {n : Nat} {name : Str} {pl : Sem Bool} {Q : Value × List Value → Shared → Prop}
    (X : K.In s.heap) (I : PySem.W.InstAt s.heap x ox C (some (dictOf es n))) (hg : plainGet K C name = true) (hf : findIn K (.ref C) name = some (some (.ref f))) (ht : isFn K (.ref f) = true)
    (hl : getL name es = some none) (h : Q (.ref f, [.ref x]) s) : wpAny (model prog w) A (getMethod (.ref x) name pl) Q E s :=
  method_fn X I (plainGet_of hg).1 (plainGet_of hg).2 hf (beq_iff_eq.mp ht) (by show (lookIn name (dictOf es n)).map _ = _; rw [lookIn_dict, hl]; rfl) h

/-! the whole heap as the ledger: makes every rule that writes through a ledger a rule over any heap -/
def noObjs (h : Heap) : Heap := { h with objs := #[] }
theorem noObjs_get (h : Heap) (b : Addr) : (noObjs h).get? b = none := by
  cases e : (noObjs h).get? b with
  | none => rfl
  | some o => exact absurd (Heap.lt_size e) (Nat.not_lt_zero _)
def ledger (h : Heap) (L d : Addr) : List (Addr × Obj) := (List.range h.objs.size).filterMap fun a => if a = L ∨ a = d then none else (h.get? a).map fun o => (a, o)
theorem mem_ledger {h : Heap} {L d a : Addr} {o : Obj} : (a, o) ∈ ledger h L d ↔ a ≠ L ∧ a ≠ d ∧ h.get? a = some o := by
  unfold ledger
  rw [List.mem_filterMap]
  constructor
  · rintro ⟨b, _, e⟩
    split at e
    · cases e
    · rename_i hb
      obtain ⟨o', ho, e'⟩ := Option.map_eq_some_iff.mp e
      cases e'
      exact ⟨fun q => hb (.inl q), fun q => hb (.inr q), ho⟩
  · rintro ⟨n1, n2, ho⟩
    refine ⟨a, List.mem_range.mpr (Heap.lt_size ho), ?_⟩
    rw [if_neg (show ¬ (a = L ∨ a = d) from fun q => q.elim n1 n2), ho] <;> rfl
theorem news_ledger {h : Heap} {L d : Addr} {od : Obj} (hne : d ≠ L) (ho : h.get? d = some od) : News (noObjs h) L h ([] ++ (d, od) :: ledger h L d) := by
  rintro ⟨a, o⟩ hp
  rcases List.mem_cons.mp hp with e | hp
  · cases e
    exact ⟨ho, hne, noObjs_get _ _⟩
  · obtain ⟨n1, n2, e⟩ := mem_ledger.mp hp
    exact ⟨e, n1, noObjs_get _ _⟩
theorem fr_all {h : Heap} {L : Addr} {m : Str → Option Value} (n : h.Ns L m) : Fr (noObjs h) L h m :=
  ⟨n, fun b o e => (by rw [noObjs_get] at e; cases e), Nat.zero_le _⟩
/-- Upd of the head entry (for append_K, setItem_K ..) -/
theorem upd_ledger {h : Heap} {L d : Addr} {o o' : Obj} : Upd d o o' ((d, o) :: ledger h L d) ((d, o') :: ledger h L d) :=
  .head fun ⟨_, _⟩ hp => (mem_ledger.mp hp).2.1

/-- x.name = v over any heap: L is any namespace of the heap (the frame's, say): its map stays, its object is not told; all else but the dict stays -/
theorem set_field {x C dx L : Addr} {ox : Obj} {m : Str → Option Value} {es es' : List DictEntry} {n n' : Nat} {name : Str} {v : Value} {Q : Unit → Shared → Prop}
    (X : K.In s.heap) (I : PySem.W.InstAt s.heap x ox C (some (dictOf es n))) (hd : ox.dict = some dx) (hL : s.heap.Ns L m) (hne : dx ≠ L)
    (hs : findIn K (.ref C) "__setattr__" = some (some (.builtin "object.__setattr__"))) (hp : plainOver K C = true) (ht : takerIn K C name = some none) (hh : hasDictIn K C = true) (hl : (getL name es).isSome = true)
    (e : (putL name (PyData.keyHash w.params name) (.str name (s.toks + 1)) v es, putN name es n) = (es', n')) (hz : es'.length ≤ 1000)
    (h : ∀ h' : Heap, h'.Ns L m → h'.get? dx = some (dictOf es' n') → (∀ b o, b ≠ dx → b ≠ L → s.heap.get? b = some o → h'.get? b = some o) → Q () { s with heap := h', toks := s.toks + 2 }) :
    wpAny (model prog w) A (setAttr (.ref x) name v) Q E s := by
  obtain ⟨e1, e2⟩ := Prod.mk.inj e
  have hdx : s.heap.get? dx = some (dictOf es n) := by
    have := I.dict
    rw [hd] at this
    exact this
  refine set_plain X I hs (osa_dict (s := { s with toks := s.toks + 1 }) (h₀ := noObjs s.heap) (L := L) (m := m) (od := dictOf es n) (od' := dictOf es' n') (es := es') (n := n') (pre := []) (post := ledger s.heap L dx)
    (fr_all hL) (news_ledger hne hdx) X I hd hp ht hh hl (fun _ q => nomatch q) (fun ⟨_, _⟩ q => (mem_ledger.mp q).2.1) (by rw [putName_dict, e1, e2]) rfl hz fun h' F' N' => ?_)
  exact h h' F'.ns (N'.get (List.Mem.head _)) fun b o n1 n2 ho => N'.get (List.Mem.tail _ (mem_ledger.mpr ⟨n2, n1, ho⟩))
end
end Att

namespace L2
open PySem PySem.Spec PyProof.Rows

theorem vals_ints : ∀ {vs : List Value} {ns : List Int}, IntsAre vs ns → Vals (ns.map V.int) vs
  | _, _, .nil => .nil
  | _, _, .cons n t h => .cons ⟨t, rfl⟩ (vals_ints h)

/-- nothing is tracked but the script, known to the object (or it is an object of the module) -/
def Only (H : Hp) : Prop := ∀ b, H b = none ∨ ∃ o xs, H b = some (.frz o (.lst xs))

/-- THE HEAD: the law's promise, at the heap behind the top. F, the promise of the law's def, may use that base is part of the heap (so K.In base, base.Ns mainGlobals mg stand in Mod) -/
theorem law_call {P : Program} {w : World} {K : PySem.W.Frag} {mg mb : Str → Option Value} {CX : CXT} {k : Nat} {fa a : Addr} {fd : FuncData} {x : Str} {sp : Sp} {s₁ : Shared} {vs : List Value} {ns : List Int}
    (KX : K.In s₁.heap) (hns : s₁.heap.Ns mainGlobals mg) (hb : s₁.heap.Ns builtinsNs mb) (hbb : ∀ x : Str, x ≠ "__name__" → mb x = bootBuiltins x) (hlim : s₁.heap.NoLimit) (hg : s₁.gens = #[])
    (ha : s₁.heap.get? a = some { cls := .type "list", data := .seq vs.toArray }) (hi : IntsAre vs ns) (hl : ns.length ≤ sizeLine) (hr : Room k callerA)
    (F : ∀ base : Heap, K.In base → base.Ns mainGlobals mg → FnOk P w K mg base CX k fa fd [x] sp) (hbind : ∀ (s : Shared) (u : Value), BindsTo s fd ⟨[u], []⟩ [(x, u)])
    (hsp : ∀ H : Hp, Only H → SqL K H a (ns.map V.int) → sp [.ref a] H (fun v _ => v = .bl true) fun _ _ _ => False)
    (hCX : ∀ H e s', CX [] H s₁ (fun _ _ _ => False) e s' → False) :
    codeAny (model P w) callerA (.call (.ref fa) ⟨[.ref a], []⟩) (fun r s' => r = .ok (.ret (.bool true)) ∧ OldK s₁.heap s'.heap ∧ s'.os = s₁.os ∧ AllBare s'.gens) s₁ := by
  have rv := vals_ints hi
  have lenV := hi.length
  -- from an abstract heap in which nothing but the script may be tracked
  have core : ∀ H : Hp, Only H → SqL K H a (ns.map V.int) → HOk P w H s₁.heap → (∀ b, H b ≠ none → b = a) → (H a ≠ none → K.lookup a = none) →
      codeAny (model P w) callerA (.call (.ref fa) ⟨[.ref a], []⟩) (fun r s' => r = .ok (.ret (.bool true)) ∧ OldK s₁.heap s'.heap ∧ s'.os = s₁.os ∧ AllBare s'.gens) s₁ := by
    intro H hO hS hok hA hK
    have base_of : ∀ {b : Addr} {o : Obj}, s₁.heap.get? b = some o → H b = none → (hidT s₁.heap H).get? b = some o := fun e n => hidT_get e n
    have noA : ∀ {b : Addr} {o : Obj} {es : Array DictEntry} {ep : Nat}, s₁.heap.get? b = some o → o.data = .dict es ep → H b = none := fun {b o es ep} e d => by
      cases q : H b with
      | none => rfl
      | some u =>
        have e' : b = a := hA b (by rw [q]; simp)
        subst e'
        rw [ha] at e; cases e
        have d' : Data.seq vs.toArray _ = Data.dict es ep := d
        cases d'
    have nsK : ∀ {b : Addr} {m : Str → Option Value}, s₁.heap.Ns b m → (hidT s₁.heap H).Ns b m := fun {b m} ⟨o, es, ep, e, d, r⟩ => ⟨o, es, ep, base_of e (noA e d), d, r⟩
    have hKb : K.In (hidT s₁.heap H) := fun b o e => base_of (KX b o e) (by
      cases q : H b with
      | none => rfl
      | some u =>
        have e' : b = a := hA b (by rw [q]; simp)
        subst e'
        rw [hK (by rw [q]; simp)] at e; cases e)
    have hM : Mod K mg (hidT s₁.heap H) := ⟨hKb, nsK hns, ⟨mb, nsK hb, hbb⟩, let ⟨mc, h1, h2⟩ := hlim; ⟨mc, nsK h1, h2⟩⟩
    have e0 : Env0 P w K mg (hidT s₁.heap H) callerA [] s₁ H := ⟨rfl, hM, fun b o e => of_hidT e, Nat.le_of_eq (hidT_size _ _), trivial, fun b hb => absurd (show b ∈ ([] : List Addr) from hb) (by simp), hok, .of_eq hg⟩
    refine codeAny_mono ((F _ hKb (nsK hns)).run callerA [] s₁ H ⟨[.ref a], []⟩ [.ref a] [.ref a] _ _ hr e0 (hbind s₁ (.ref a)) (.cons rfl .nil) (hsp H hO hS)) fun r s' h => ?_
    cases r with
    | error e => exact (hCX H e s' h).elim
    | ok fl =>
      cases fl with
      | next => exact False.elim h
      | brk => exact False.elim h
      | cont => exact False.elim h
      | ret u =>
        obtain ⟨v, H', os, bare, un, hok', r', q⟩ := h
        have q' : v = .bl true := q
        subst q'
        obtain rfl : u = Value.bool true := r'
        refine ⟨rfl, OldK.of_keep fun b o e => ?_, os, bare⟩
        cases q : H b with
        | none => exact un.keep b o e q (by intro z; exact absurd (show b ∈ ([] : List Addr) from z) (by simp)) (by simp)
        | some u =>
          rcases hO b with z | ⟨ob, xs, z⟩
          · rw [q] at z; cases z
          · have z2 := un.frzs b ob _ z
            obtain ⟨e1, _⟩ := hok b _ z
            obtain ⟨e2, _⟩ := hok' b _ z2
            rw [e] at e1; cases e1
            exact e2
  cases hk : K.lookup a with
  | some o =>
    -- the script is one of the module's own objects
    have e := KX a o hk
    rw [ha] at e
    cases e
    refine core (fun _ => none) (fun _ => .inl rfl) (.inr ⟨_, vs.toArray, _, hk, rfl, rfl, rfl, by rw [List.size_toArray, lenV]; exact hl, by simpa using rv⟩) (fun b u z => by have z' : (none : Option HO) = some u := z; cases z') (fun b z => absurd rfl z) fun z => absurd rfl z
  | none =>
    refine core (fun b => if b = a then some (.frz { cls := .type "list", data := .seq vs.toArray } (.lst (ns.map V.int))) else none) (fun b => ?_) (.inl (.inr ⟨{ cls := .type "list", data := .seq vs.toArray }, if_pos rfl⟩)) (fun b u z => ?_) (fun b z => ?_) fun _ => hk
    · by_cases hb : b = a
      · exact .inr ⟨_, _, if_pos hb⟩
      · exact .inl (if_neg hb)
    · by_cases hb : b = a
      · have z' := (if_pos hb).symm.trans z
        cases z'
        subst hb
        exact ⟨ha, by rw [List.length_map]; exact hl, vs, _, rv, ha⟩
      · have z' := (if_neg hb).symm.trans z
        cases z'
    · by_cases hb : b = a
      · exact hb
      · exact absurd (if_neg hb) z
end L2

namespace L2
open PySem PySem.Spec PyProof.Rows

abbrev KOf {K : PySem.W.Frag} {h : Heap} (_ : K.In h) : PySem.W.Frag := K

/-- the goal that k_head leaves (case hc), from the law's promise. F gives the function object fd (K's own) once, then the promise over every base -/
theorem walk_of {l : PySem.W.OpenLaw} {n k : Nat} {q : Program} {loose : List Str} {XP : (Str → Option Value) → Heap → Prop} {YP : World → Heap → Prop} {d : DefRec} {K : Params → PySem.W.Frag} {CX : World → CXT} {sp : World → Sp} {x : Str}
    (hn : l.most = some n) (hn2 : n ≤ sizeLine) (hdf : d.params.defaults = []) (hr : Room k callerA)
    (hY : ∀ (w : World) (h : Heap), YP w h → (K w.params).In h)
    (F : ∀ (w : World) (mg : Str → Option Value) (fa : Addr) (h : Heap), (K w.params).In h → h.Ns mainGlobals mg → mg d.name = some (.ref fa) →
      ∃ fd : FuncData, (∀ (s : Shared) (u : Value), BindsTo s fd ⟨[u], []⟩ [(x, u)]) ∧
        ∀ base : Heap, (K w.params).In base → base.Ns mainGlobals mg → FnOk l.prog w (K w.params) mg base (CX w) k fa fd [x] (sp w))
    (hsp : ∀ (w : World) (H : Hp) (a : Addr) (ns : List Int), ns.length ≤ n → Only H → SqL (K w.params) H a (ns.map V.int) → sp w [.ref a] H (fun v _ => v = .bl true) fun _ _ _ => False)
    (hCX : ∀ (w : World) (H : Hp) (s : Shared) (e : Value) (s' : Shared), CX w [] H s (fun _ _ _ => False) e s' → False) :
    PySem.W.WalkO q loose XP YP l.row.toRowW d [] (fun f vs => PySem.call f vs) := by
  refine Att.attach_call hn hdf fun w s₀ s₁ mg mb fa o pm cd doc a vs ns G Y ho hd hcd hmg hobj hints hlen hg => ?_
  have KX := hY w _ Y
  obtain ⟨fd, hb, hF⟩ := F w mg fa _ KX G.T.g hmg
  exact law_call KX G.T.g G.T.b G.T.builtins G.T.nolimit hg hobj hints (Nat.le_trans hlen hn2) hr hF hb (fun H hO hS => hsp w H a ns hlen hO hS) fun H e s' => hCX w H s₁ e s'
/-- the same where the promise hangs on the written part alone: (sp := My.sp_law), no hole under a binder -/
theorem walk_ofK {l : PySem.W.OpenLaw} {n k : Nat} {q : Program} {loose : List Str} {XP : (Str → Option Value) → Heap → Prop} {YP : World → Heap → Prop} {d : DefRec} {K : Params → PySem.W.Frag} {CX : CXT} {sp : PySem.W.Frag → Sp} {x : Str}
    (hn : l.most = some n) (hn2 : n ≤ sizeLine) (hdf : d.params.defaults = []) (hr : Room k callerA)
    (hY : ∀ (w : World) (h : Heap), YP w h → (K w.params).In h)
    (F : ∀ (w : World) (mg : Str → Option Value) (fa : Addr) (h : Heap), (K w.params).In h → h.Ns mainGlobals mg → mg d.name = some (.ref fa) →
      ∃ fd : FuncData, (∀ (s : Shared) (u : Value), BindsTo s fd ⟨[u], []⟩ [(x, u)]) ∧
        ∀ base : Heap, (K w.params).In base → base.Ns mainGlobals mg → FnOk l.prog w (K w.params) mg base CX k fa fd [x] (sp (K w.params)))
    (hsp : ∀ (K : PySem.W.Frag) (H : Hp) (a : Addr) (ns : List Int), ns.length ≤ n → Only H → SqL K H a (ns.map V.int) → sp K [.ref a] H (fun v _ => v = .bl true) fun _ _ _ => False)
    (hCX : ∀ (H : Hp) (s : Shared) (e : Value) (s' : Shared), CX [] H s (fun _ _ _ => False) e s' → False) :
    PySem.W.WalkO q loose XP YP l.row.toRowW d [] (fun f vs => PySem.call f vs) :=
  walk_of (K := K) (CX := fun _ => CX) (sp := fun w => sp (K w.params)) hn hn2 hdf hr hY F (fun w H a ns h1 h2 h3 => hsp (K w.params) H a ns h1 h2 h3) fun _ H s e s' => hCX H s e s'
end L2

/- THE LAST THEOREM (shape; LID, My.* are yours):
   My.Adr: a structure of the addresses that your layer names (classes, functions); My.Txt K t: a structure (Prop) of the equations over K;
   My.txt_mk : {K} {implicit addresses ..} (e1 : nsIn K mainGlobals "law" = some (some (.ref f))) (e2 : K.lookup f = some ⟨oc, od, .func (fnOf "law" "law" params body scope dV kV doc pm an cdv ct), sl⟩) (e3 : codeIn K cdv "law" = true) .. : ∃ t, My.Txt K t

set_option maxRecDepth 100000 in
set_option maxHeartbeats 0 in
theorem PySem.Challenge.cw_LID_holds : PySem.Challenge.rw_LID.Holds := by
  w_on; o_law; k_head; (case hw => w_witness2)
  k_fill
  refine L2.walk_of (l := PySem.Challenge.rw_LID) (n := 63) (k := 40) (x := "script") (CX := fun w => ..) (sp := fun _ => My.sp_law) rfl (by decide) rfl ⟨rfl, by decide, by decide⟩ (fun w h Y => PySem.W.kIn_of Y) ?F ?S ?C
  case F =>
    intro w mg fa h KX G hmg
    have T : ∃ t, My.Txt (L2.KOf KX) t := by
      dsimp only [L2.KOf]                          -- K must stand as «<heap const> w.params» for k_is
      refine' My.txt_mk ?e1 ?e2 ?e3 ..
      (case e1 => PySem.W.k_is)                    -- in the order: a name -> its address -> its object -> its parts
      (case e2 => PySem.W.k_is)
      ..
    obtain ⟨t, T⟩ := T
    have e0 := hmg.symm.trans (PySem.W.mg_of KX G T.law)
    cases e0                                       -- fa is the law's own address
    exact ⟨_, fun s u => .of_eq rfl, fun base kb nb => My.law_fn T kb nb⟩     -- if «.of_eq rfl» comes too early: refine' ⟨_, ?b, fun base kb nb => My.law_fn T kb nb⟩; exact fun s u => .of_eq rfl
  case S => exact fun w H a ns hl hO hS => ..
  case C => exact ..
(the tactic k_is has no namespace: write k_is) -/

/-! SHORT WORDS over the layer: a def of the text, its body, what a loop and a test want. -/
namespace L2
open PySem PySem.Spec PyProof.Rows

/-! ### the text by places -/
/-- the j-th statement of a class's body -/
def inClass (s : Stmt) (j : Nat) : Stmt := match s with
  | .ClassDef _ _ _ body _ _ _ _ _ _ _ => body.getD j (.Pass ⟨0, 0, 0, 0⟩)
  | _ => .Pass ⟨0, 0, 0, 0⟩
def defArgs (s : Stmt) : Arguments := match s with
  | .FunctionDef _ a _ _ _ _ _ _ _ _ => a
  | _ => { posonlyargs := [], args := [], vararg := none, kwonlyargs := [], kw_defaults := [], kwarg := none, defaults := [] }
def defBody (s : Stmt) : List Stmt := match s with
  | .FunctionDef _ _ b _ _ _ _ _ _ _ => b
  | _ => []
def defScope (s : Stmt) : Scope := match s with
  | .FunctionDef _ _ _ _ _ _ sc _ _ _ => sc
  | _ => { kind := .function, names := [], isGenerator := false, isCoroutine := false }

/-! ### no exception leaves a def -/
abbrev CX0 : CXT := fun _ _ _ _ _ _ => False
abbrev E0 : XK := fun _ _ _ => False
theorem pass0 {X : Cx} : Passes CX0 X E0 := fun _ _ _ _ _ _ _ h => h.elim

/-! ### a def (or method) of the text as it stands behind the top -/
structure Fun (K : PySem.W.Frag) (x qual : Str) (st : Stmt) (f : Addr) (fd : FuncData) : Prop where
  ex : ∃ (oc : Value) (od : Option Addr) (kV doc pm : Value) (an : Option Addr) (cdv ct : Value) (osl : Array (Option Value)),
    fd = PySem.W.fnOf x qual (defArgs st) (defBody st) (defScope st) .none kV doc pm an cdv ct ∧ K.lookup f = some ⟨oc, od, .func fd, osl⟩ ∧ PySem.W.codeIn K cdv qual = true
  kp : PySem.W.keepIn K (.ref f) = true
section
variable {P : Program} {w : World} {K : PySem.W.Frag} {mg : Str → Option Value} {base : Heap}
/-- THE RULE for a def: its body as a term of rules, and the reading of that term -/
theorem Fun.ok {x qual : Str} {st : Stmt} {f : Addr} {fd : FuncData} {N ps : List Str} {k : Nat} {sp : Sp} (F : Fun K x qual st f fd) (S : FnScope N ps (defScope st)) (len : ∀ vs H Q E, sp vs H Q E → vs.length = ps.length)
    (hbody : ∀ (cdv : Value) (A : Around) (outer : List Env) (s : Shared) (H : Hp) (vs : List V) (Q : VK) (E : XK), Room k (A.deeper (envOfC qual (defScope st) s.heap.objs.size f cdv)) → sp vs H Q E →
      ∃ t, PSs (cxOf CX0 P w K mg base N qual (defScope st) f cdv A outer s H E).nox (defBody st) t ∧ t { nx := fun _ H' => Q .non H', rt := Q } (start N vs) H) : FnOk P w K mg base CX0 (k + 1) f fd ps sp := by
  obtain ⟨oc, od, kV, doc, pm, an, cdv, ct, osl, rfl, lk, hcd⟩ := F.ex
  refine fn_of lk hcd S len fun A outer s H vs Q E hr hsp => ?_
  obtain ⟨t, h, q⟩ := hbody cdv A outer s H vs Q E hr hsp
  exact ⟨t, h.nox, q⟩
/-- how its arguments bind (no defaults): h is «fun _ _ _ _ _ _ us hl => match us, hl with | [_, _], _ => rfl», one _ a parameter -/
theorem Fun.binds {x qual : Str} {st : Stmt} {f : Addr} {fd : FuncData} {ps : List Str} (F : Fun K x qual st f fd)
    (h : ∀ (kV doc pm : Value) (an : Option Addr) (cdv ct : Value) (us : List Value), us.length = ps.length → bindArgs (PySem.W.fnOf x qual (defArgs st) (defBody st) (defScope st) .none kV doc pm an cdv ct) ⟨us, []⟩ = pure (ps.zip us)) : Binds K fd ps [] := by
  obtain ⟨oc, od, kV, doc, pm, an, cdv, ct, osl, rfl, lk, hcd⟩ := F.ex
  exact .all (h kV doc pm an cdv ct)
theorem fun_mk {x qual : Str} {st : Stmt} {f : Addr} {oc : Value} {od an : Option Addr} {osl : Array (Option Value)} {kV doc pm cdv ct : Value} (l : K.lookup f = some ⟨oc, od, .func (PySem.W.fnOf x qual (defArgs st) (defBody st) (defScope st) .none kV doc pm an cdv ct), osl⟩)
    (c : PySem.W.codeIn K cdv qual = true) (k : PySem.W.keepIn K (.ref f) = true) : Fun K x qual st f (PySem.W.fnOf x qual (defArgs st) (defBody st) (defScope st) .none kV doc pm an cdv ct) := ⟨⟨oc, od, kV, doc, pm, an, cdv, ct, osl, rfl, l, c⟩, k⟩
end
theorem hu_of {A : Around} {k : Nat} (hr : Room k A) : A.units + 1 < cLine := Nat.lt_of_le_of_lt (Nat.add_le_add_left (by decide : 1 ≤ 64) _) hr.units
theorem small1000 {n : Nat} (h : n ≤ 1000) : n < sizeLine := Nat.lt_of_le_of_lt h (by decide)

/-! ### expressions in short: the name that stands in the i-th slot -/
section
variable {X : Cx}
theorem pv (i : Nat) {x : Str} {pos : Pos} (hN : X.N[i]? = some x := by rfl) (hv : Vis X.env.scope x := by first | exact Or.inl rfl | exact Or.inr (Or.inl rfl) | exact Or.inr (Or.inr rfl)) (hd : (x == ("__debug__" : Str)) = false := by decide)
    (hcd : (x == ("__classdict__" : Str)) = false := by decide) : PE X (.Name x pos) (tVar i) := pe_var hN hv hd hcd
end

/-! ### tests -/
theorem iteF {A B : Prop} (h : B) : if false = true then A else B := by
  rw [if_neg Bool.false_ne_true]
  exact h
theorem iteT {A B : Prop} (h : A) : if true = true then A else B := by
  rw [if_pos rfl]
  exact h
theorem ite2 {c A B : Prop} [Decidable c] (h1 : c → A) (h2 : ¬ c → B) : if c then A else B := by
  by_cases h : c
  · rw [if_pos h]
    exact h1 h
  · rw [if_neg h]
    exact h2 h
theorem iteNS {c A B : Prop} [Decidable c] (hc : c) (h : B) : if (!decide c) = true then A else B := by
  rw [decide_eq_true hc]
  exact iteF h

/-! ### heaps -/
/-- all that was tracked is as it was -/
def Same (H H' : Hp) : Prop := ∀ b o, H b = some o → H' b = some o
theorem Same.refl (H : Hp) : Same H H := fun _ _ h => h
theorem Same.trans {H H1 H2 : Hp} (a : Same H H1) (b : Same H1 H2) : Same H H2 := fun c o h => b c o (a c o h)
theorem Same.free {H H' : Hp} (e : Same H H') {l : Addr} (h : H' l = Option.none) : H l = Option.none := by
  cases q : H l with
  | none => rfl
  | some o =>
    rw [e l o q] at h
    cases h
theorem Same.seq {K : PySem.W.Frag} {H H' : Hp} {a : Addr} {xs : List V} (e : Same H H') (h : SqL K H a xs) : SqL K H' a xs := by
  rcases h with (h | ⟨o, h⟩) | h
  · exact .inl (.inl (e _ _ h))
  · exact .inl (.inr ⟨o, e _ _ h⟩)
  · exact .inr h

end L2

namespace WB
abbrev Rows := List (List Int)

/-! ### lists -/
theorem sum_app (a b : List Int) : (a ++ b).sum = a.sum + b.sum := by
  induction a with
  | nil => simp
  | cons x r ih => simp only [List.cons_append, List.sum_cons, ih]; omega
theorem sum_perm {a b : List Int} (h : a.Perm b) : a.sum = b.sum := by
  induction h with
  | nil => rfl
  | cons x _ ih => simp only [List.sum_cons, ih]
  | swap x y l => simp only [List.sum_cons]; omega
  | trans _ _ h1 h2 => exact h1.trans h2
theorem sum_nn {a : List Int} (h : ∀ x ∈ a, 0 ≤ x) : 0 ≤ a.sum := by
  induction a with
  | nil => simp
  | cons x r ih =>
    have h1 := h x List.mem_cons_self
    have h2 := ih fun y hy => h y (List.mem_cons_of_mem _ hy)
    simp only [List.sum_cons]; omega
theorem perm_unique {α : Type} (le : α → α → Bool) (anti : ∀ a b, le a b = true → le b a = true → a = b) :
    ∀ (l1 l2 : List α), l1.Perm l2 → l1.Pairwise (fun a b => le a b = true) → l2.Pairwise (fun a b => le a b = true) → l1 = l2
  | [], l2, p, _, _ => by simpa using p.symm.eq_nil
  | a :: l1, [], p, _, _ => by simpa using p.eq_nil
  | a :: l1, b :: l2, p, s1, s2 => by
    have ha : a ∈ b :: l2 := p.mem_iff.mp List.mem_cons_self
    have hb : b ∈ a :: l1 := p.mem_iff.mpr List.mem_cons_self
    have e : a = b := by
      rcases List.mem_cons.mp ha with h | h
      · exact h
      · rcases List.mem_cons.mp hb with h' | h'
        · exact h'.symm
        · exact anti a b ((List.pairwise_cons.mp s1).1 b h') ((List.pairwise_cons.mp s2).1 a h)
    subst e
    rw [perm_unique le anti l1 l2 (List.Perm.cons_inv p) (List.pairwise_cons.mp s1).2 (List.pairwise_cons.mp s2).2]

/-! ### the greatest w of some bids -/
def geB (a b : Int) : Bool := decide (b ≤ a)
theorem geB_anti (a b : Int) (h1 : geB a b = true) (h2 : geB b a = true) : a = b := by
  simp only [geB, decide_eq_true_eq] at h1 h2; omega
theorem geB_trans (a b c : Int) (h1 : geB a b = true) (h2 : geB b c = true) : geB a c = true := by
  simp only [geB, decide_eq_true_eq] at h1 h2 ⊢; omega
theorem geB_total (a b : Int) : (geB a b || geB b a) = true := by
  simp only [geB, Bool.or_eq_true, decide_eq_true_eq]; omega
def desc (M : List Int) : List Int := M.mergeSort geB
theorem desc_perm (M : List Int) : (desc M).Perm M := List.mergeSort_perm M geB
theorem desc_sorted (M : List Int) : (desc M).Pairwise (fun a b => geB a b = true) := List.pairwise_mergeSort geB_trans geB_total M
theorem desc_eq {M N : List Int} (p : N.Perm M) (s : N.Pairwise (fun a b => geB a b = true)) : N = desc M :=
  perm_unique geB geB_anti _ _ (p.trans (desc_perm M).symm) s (desc_sorted M)
theorem desc_congr {M N : List Int} (p : M.Perm N) : desc M = desc N := desc_eq ((desc_perm M).trans p) (desc_sorted M)
def top (w : Nat) (M : List Int) : Int := ((desc M).take w).sum
theorem top_congr {w : Nat} {M N : List Int} (p : M.Perm N) : top w M = top w N := by unfold top; rw [desc_congr p]

theorem take_sum_nn {S : List Int} (h : ∀ x ∈ S, 0 ≤ x) (w : Nat) : 0 ≤ (S.take w).sum := sum_nn fun x hx => h x (List.mem_of_mem_take hx)
theorem take_opt : ∀ (S : List Int), S.Pairwise (fun a b => geB a b = true) → (∀ x ∈ S, 0 ≤ x) → ∀ (N R : List Int) (w : Nat), (N ++ R).Perm S → N.length ≤ w → N.sum ≤ (S.take w).sum
  | S, _, nn, [], R, w, _, _ => by simpa using take_sum_nn nn w
  | [], _, _, x :: N, R, w, p, _ => by have := p.length_eq; simp at this
  | s :: S, so, nn, x :: N, R, 0, p, l => by simp at l
  | s :: S, so, nn, x :: N, R, w + 1, p, l => by
    have so' := (List.pairwise_cons.mp so).2
    have nn' : ∀ y ∈ S, 0 ≤ y := fun y hy => nn y (List.mem_cons_of_mem _ hy)
    have hs : s ∈ (x :: N) ++ R := p.mem_iff.mpr List.mem_cons_self
    simp only [List.take_succ_cons, List.sum_cons]
    rcases List.mem_append.mp hs with h | h
    · have e := List.perm_cons_erase h
      have p' : (((x :: N).erase s) ++ R).Perm S := by
        have q : (s :: (((x :: N).erase s) ++ R)).Perm (s :: S) := ((e.symm.append_right R)).trans p
        exact List.Perm.cons_inv q
      have l' : ((x :: N).erase s).length ≤ w := by
        have := e.length_eq
        simp only [List.length_cons] at this l
        omega
      have ih := take_opt S so' nn' _ R w p' l'
      have e2 := sum_perm e
      simp only [List.sum_cons] at e2 ⊢
      omega
    · have e := List.perm_cons_erase h
      have q : (s :: (x :: (N ++ R.erase s))).Perm (s :: S) := by
        refine List.Perm.trans ?_ p
        refine List.Perm.trans ?_ ((e.symm.append_left (x :: N)))
        exact (List.perm_middle (a := s) (l₁ := x :: N) (l₂ := R.erase s)).symm
      have p1 := List.Perm.cons_inv q
      have p' : (N ++ (x :: R.erase s)).Perm S := (List.perm_middle (a := x) (l₁ := N) (l₂ := R.erase s)).trans p1
      have hx : x ≤ s := by
        have h1 : x ∈ S := p1.mem_iff.mp List.mem_cons_self
        have h2 := (List.pairwise_cons.mp so).1 x h1
        simpa [geB] using h2
      have ih := take_opt S so' nn' N _ w p' (by simp only [List.length_cons] at l; omega)
      omega
theorem top_opt {M N R : List Int} {w : Nat} (nn : ∀ x ∈ M, 0 ≤ x) (p : (N ++ R).Perm M) (l : N.length ≤ w) : N.sum ≤ top w M :=
  take_opt (desc M) (desc_sorted M) (fun x hx => nn x ((desc_perm M).mem_iff.mp hx)) N R w (p.trans (desc_perm M).symm) l
theorem top_mono {M M' : List Int} {w : Nat} (nn : ∀ x ∈ M ++ M', 0 ≤ x) : top w M ≤ top w (M ++ M') := by
  refine top_opt (R := (desc M).drop w ++ M') nn ?_ ?_
  · rw [← List.append_assoc, List.take_append_drop]
    exact (desc_perm M).append_right M'
  · rw [List.length_take]; exact Nat.min_le_left _ _

/-! ### what a dealing is worth -/
def val (rows : Rows) (cs : List Nat) : Int := (List.zipWith (fun r c => (r.take c).sum) rows cs).sum
theorem val_cons (r : List Int) (rs : Rows) (c : Nat) (cs : List Nat) : val (r :: rs) (c :: cs) = (r.take c).sum + val rs cs := by simp [val]
theorem val_nil_left (cs : List Nat) : val [] cs = 0 := by simp [val]
theorem val_nil_right (rs : Rows) : val rs [] = 0 := by simp [val]
theorem val_parts : ∀ (rs : Rows) (cs : List Nat), ∃ N R : List Int, (N ++ R).Perm rs.flatten ∧ N.sum = val rs cs ∧ N.length ≤ cs.sum
  | [], cs => ⟨[], [], by simp, by simp [val], by simp⟩
  | r :: rs, [] => ⟨[], (r :: rs).flatten, by simp, by simp [val], by simp⟩
  | r :: rs, c :: cs => by
    obtain ⟨N, R, p, e, l⟩ := val_parts rs cs
    refine ⟨r.take c ++ N, r.drop c ++ R, ?_, ?_, ?_⟩
    · simp only [List.flatten_cons]
      have h1 : (r.take c ++ N ++ (r.drop c ++ R)).Perm (r.take c ++ r.drop c ++ (N ++ R)) := by
        simp only [List.append_assoc]
        refine List.Perm.append_left _ ?_
        rw [← List.append_assoc, ← List.append_assoc]
        exact List.Perm.append_right _ List.perm_append_comm
      refine h1.trans ?_
      rw [List.take_append_drop]
      exact p.append_left r
    · rw [sum_app, val_cons, e]
    · simp only [List.length_append, List.length_take, List.sum_cons]
      omega
structure Good (rows : Rows) : Prop where
  nn : ∀ r ∈ rows, ∀ x ∈ r, 0 ≤ x
  fall : ∀ r ∈ rows, r.Pairwise (fun a b => geB a b = true)
theorem Good.flat {rows : Rows} (g : Good rows) : ∀ x ∈ rows.flatten, 0 ≤ x := fun x hx => by
  obtain ⟨r, hr, h⟩ := List.mem_flatten.mp hx
  exact g.nn r hr x h
/-- no dealing of so many wares is worth more -/
theorem val_le_top {rows : Rows} (g : ∀ x ∈ rows.flatten, 0 ≤ x) {cs : List Nat} {w : Nat} (h : cs.sum ≤ w) : val rows cs ≤ top w rows.flatten := by
  obtain ⟨N, R, p, e, l⟩ := val_parts rows cs
  rw [← e]
  exact top_opt g p (Nat.le_trans l h)

/-! ### the offers in their order -/
abbrev Of := Int × Nat
def offersFrom : Nat → Rows → List Of
  | _, [] => []
  | k, r :: rs => r.map (fun b => (b, k)) ++ offersFrom (k + 1) rs
def offers (rows : Rows) : List Of := offersFrom 0 rows
def ahead (p q : Of) : Bool := decide (q.1 < p.1) || (decide (p.1 = q.1) && decide (p.2 ≤ q.2))
theorem ahead_iff {p q : Of} : ahead p q = true ↔ (q.1 < p.1 ∨ (p.1 = q.1 ∧ p.2 ≤ q.2)) := by
  simp [ahead]
theorem ahead_anti (p q : Of) (h1 : ahead p q = true) (h2 : ahead q p = true) : p = q := by
  rw [ahead_iff] at h1 h2
  obtain ⟨a, i⟩ := p; obtain ⟨b, j⟩ := q
  simp only at h1 h2
  have e1 : a = b := by omega
  have e2 : i = j := by omega
  rw [e1, e2]
theorem ahead_trans (p q r : Of) (h1 : ahead p q = true) (h2 : ahead q r = true) : ahead p r = true := by
  rw [ahead_iff] at h1 h2 ⊢; omega
theorem ahead_total (p q : Of) : (ahead p q || ahead q p) = true := by
  rw [Bool.or_eq_true, ahead_iff, ahead_iff]; omega
def ranked (rows : Rows) : List Of := (offers rows).mergeSort ahead
theorem ranked_perm (rows : Rows) : (ranked rows).Perm (offers rows) := List.mergeSort_perm _ _
theorem ranked_sorted (rows : Rows) : (ranked rows).Pairwise (fun a b => ahead a b = true) := List.pairwise_mergeSort ahead_trans ahead_total _
theorem ranked_eq {rows : Rows} {L : List Of} (p : L.Perm (offers rows)) (s : L.Pairwise (fun a b => ahead a b = true)) : L = ranked rows :=
  perm_unique ahead ahead_anti _ _ (p.trans (ranked_perm rows).symm) s (ranked_sorted rows)
theorem offersFrom_fst : ∀ (k : Nat) (rows : Rows), (offersFrom k rows).map (·.1) = rows.flatten
  | _, [] => rfl
  | k, r :: rs => by simp [offersFrom, offersFrom_fst (k + 1) rs, Function.comp_def]
theorem offersFrom_snd : ∀ (k : Nat) (rows : Rows), ∀ p ∈ offersFrom k rows, k ≤ p.2 ∧ p.2 < k + rows.length
  | _, [], _, h => by simp [offersFrom] at h
  | k, r :: rs, p, h => by
    simp only [offersFrom, List.mem_append, List.mem_map] at h
    rcases h with ⟨b, _, rfl⟩ | h
    · simp
    · have := offersFrom_snd (k + 1) rs p h
      simp only [List.length_cons]; omega
theorem offersFrom_len : ∀ (k : Nat) (rows : Rows), (offersFrom k rows).length = (rows.map List.length).sum
  | _, [] => rfl
  | k, r :: rs => by simp [offersFrom, offersFrom_len (k + 1) rs]
theorem offersFrom_filter : ∀ (k : Nat) (rows : Rows) (j : Nat), (offersFrom k rows).filter (fun p => p.2 == k + j) = (rows.getD j []).map (fun b => (b, k + j))
  | _, [], _ => by simp [offersFrom]
  | k, r :: rs, 0 => by
    simp only [offersFrom, List.filter_append, Nat.add_zero, List.getD_cons_zero]
    have h1 : (r.map fun b => (b, k)).filter (fun p => p.2 == k) = r.map fun b => (b, k) := by
      rw [List.filter_eq_self]; intro p hp
      obtain ⟨b, _, rfl⟩ := List.mem_map.mp hp
      simp
    have h2 : (offersFrom (k + 1) rs).filter (fun p => p.2 == k) = [] := by
      rw [List.filter_eq_nil_iff]; intro p hp
      have := offersFrom_snd (k + 1) rs p hp
      simp only [beq_iff_eq]; omega
    rw [h1, h2, List.append_nil]
  | k, r :: rs, j + 1 => by
    simp only [offersFrom, List.filter_append, List.getD_cons_succ]
    have h1 : (r.map fun b => (b, k)).filter (fun p => p.2 == k + (j + 1)) = [] := by
      rw [List.filter_eq_nil_iff]; intro p hp
      obtain ⟨b, _, rfl⟩ := List.mem_map.mp hp
      simp only [beq_iff_eq]; omega
    have h2 := offersFrom_filter (k + 1) rs j
    have e : k + 1 + j = k + (j + 1) := by omega
    rw [e] at h2
    rw [h1, h2, List.nil_append]
def row (rows : Rows) (k : Nat) : List Int := rows.getD k []
theorem row_mem {rows : Rows} {k : Nat} (h : k < rows.length) : row rows k ∈ rows := by
  unfold row; rw [List.getD_eq_getElem?_getD, List.getElem?_eq_getElem h]; exact List.getElem_mem h
theorem row_out {rows : Rows} {k : Nat} (h : rows.length ≤ k) : row rows k = [] := by
  unfold row; rw [List.getD_eq_getElem?_getD, List.getElem?_eq_none h]; rfl
theorem Good.row_fall {rows : Rows} (g : Good rows) (k : Nat) : (row rows k).Pairwise (fun a b => geB a b = true) := by
  by_cases h : k < rows.length
  · exact g.fall _ (row_mem h)
  · rw [row_out (by omega)]; exact List.Pairwise.nil
theorem Good.row_nn {rows : Rows} (g : Good rows) (k : Nat) : ∀ x ∈ row rows k, 0 ≤ x := by
  by_cases h : k < rows.length
  · exact g.nn _ (row_mem h)
  · rw [row_out (by omega)]; intro x hx; simp at hx
theorem ranked_filter {rows : Rows} (g : Good rows) (k : Nat) : (ranked rows).filter (fun p => p.2 == k) = (row rows k).map (fun b => (b, k)) := by
  refine perm_unique ahead ahead_anti _ _ ?_ ((ranked_sorted rows).filter _) ?_
  · have h := (ranked_perm rows).filter (fun p => p.2 == k)
    have e := offersFrom_filter 0 rows k
    simp only [Nat.zero_add] at e
    exact h.trans (by unfold offers row; rw [e])
  · rw [List.pairwise_map]
    exact (g.row_fall k).imp fun {a b} h => by
      rw [ahead_iff]
      simp only [geB, decide_eq_true_eq] at h
      simp only; omega

/-! ### the dealing -/
def cnt (rows : Rows) (w k : Nat) : Nat := (((ranked rows).take w).filter (fun p => p.2 == k)).length
def dealt (rows : Rows) (w : Nat) : List Nat := (List.range rows.length).map (cnt rows w)
theorem dealt_len (rows : Rows) (w : Nat) : (dealt rows w).length = rows.length := by simp [dealt]
theorem dealt_get {rows : Rows} {w k : Nat} (h : k < rows.length) : (dealt rows w)[k]? = some (cnt rows w k) := by
  unfold dealt; rw [List.getElem?_map, List.getElem?_range h]; rfl
theorem split_take {α : Type} {p : α → Bool} (l : List α) (w : Nat) : (l.take w).filter p ++ (l.drop w).filter p = l.filter p := by
  rw [← List.filter_append, List.take_append_drop]
theorem served {rows : Rows} (g : Good rows) (w k : Nat) : ((ranked rows).take w).filter (fun p => p.2 == k) = ((row rows k).take (cnt rows w k)).map (fun b => (b, k)) := by
  have e := (split_take (p := fun p => p.2 == k) (ranked rows) w).trans (ranked_filter g k)
  have e2 := congrArg (List.take (cnt rows w k)) e
  rw [show cnt rows w k = (((ranked rows).take w).filter (fun p => p.2 == k)).length from rfl, List.take_left, ← List.map_take] at e2
  exact e2
theorem unserved {rows : Rows} (g : Good rows) (w k : Nat) : ((ranked rows).drop w).filter (fun p => p.2 == k) = ((row rows k).drop (cnt rows w k)).map (fun b => (b, k)) := by
  have e := (split_take (p := fun p => p.2 == k) (ranked rows) w).trans (ranked_filter g k)
  have e2 := congrArg (List.drop (cnt rows w k)) e
  rw [show cnt rows w k = (((ranked rows).take w).filter (fun p => p.2 == k)).length from rfl, List.drop_left, ← List.map_drop] at e2
  exact e2
theorem cnt_le {rows : Rows} (g : Good rows) (w k : Nat) : cnt rows w k ≤ (row rows k).length := by
  have e := congrArg List.length ((split_take (p := fun p => p.2 == k) (ranked rows) w).trans (ranked_filter g k))
  rw [List.length_append, List.length_map] at e
  unfold cnt; omega
theorem range_map_succ (f : Nat → Int) (n : Nat) : ((List.range (n + 1)).map f).sum = ((List.range n).map f).sum + f n := by
  rw [List.range_succ, List.map_append, sum_app]; simp
theorem range_map_succN (f : Nat → Nat) (n : Nat) : ((List.range (n + 1)).map f).sum = ((List.range n).map f).sum + f n := by
  rw [List.range_succ, List.map_append, List.sum_append]; simp
theorem sum_range_add (f h : Nat → Int) : ∀ n : Nat, ((List.range n).map (fun k => f k + h k)).sum = ((List.range n).map f).sum + ((List.range n).map h).sum
  | 0 => by simp
  | n + 1 => by rw [range_map_succ, range_map_succ, range_map_succ, sum_range_add f h n]; omega
theorem sum_range_addN (f h : Nat → Nat) : ∀ n : Nat, ((List.range n).map (fun k => f k + h k)).sum = ((List.range n).map f).sum + ((List.range n).map h).sum
  | 0 => by simp
  | n + 1 => by rw [range_map_succN, range_map_succN, range_map_succN, sum_range_addN f h n]; omega
theorem sum_range_one (j : Nat) (v : Int) : ∀ n : Nat, ((List.range n).map (fun k => if j == k then v else 0)).sum = if j < n then v else 0
  | 0 => by simp
  | n + 1 => by
    rw [range_map_succ, sum_range_one j v n]
    by_cases h : j = n
    · subst h; simp
    · by_cases h2 : j < n
      · simp [h2, h, Nat.lt_succ_of_lt h2]
      · have h3 : ¬ j < n + 1 := by omega
        simp [h2, h, h3]
theorem sum_range_oneN (j : Nat) (v : Nat) : ∀ n : Nat, ((List.range n).map (fun k => if j == k then v else 0)).sum = if j < n then v else 0
  | 0 => by simp
  | n + 1 => by
    rw [range_map_succN, sum_range_oneN j v n]
    by_cases h : j = n
    · subst h; simp
    · by_cases h2 : j < n
      · simp [h2, h, Nat.lt_succ_of_lt h2]
      · have h3 : ¬ j < n + 1 := by omega
        simp [h2, h, h3]
theorem group_sum (n : Nat) : ∀ L : List Of, (∀ p ∈ L, p.2 < n) → ((List.range n).map (fun k => ((L.filter (fun p => p.2 == k)).map (·.1)).sum)).sum = (L.map (·.1)).sum
  | [], _ => by
    simp only [List.filter_nil, List.map_nil, List.sum_nil]
    induction n with
    | zero => simp
    | succ n ih => rw [range_map_succ, ih (fun _ h => by simp at h)]; rfl
  | p :: L, h => by
    have ih := group_sum n L fun q hq => h q (List.mem_cons_of_mem _ hq)
    have e : (fun k => (((p :: L).filter (fun p => p.2 == k)).map (·.1)).sum) = fun k => (if p.2 == k then p.1 else 0) + ((L.filter (fun p => p.2 == k)).map (·.1)).sum := by
      funext k
      rw [List.filter_cons]
      split
      · simp
      · simp
    rw [e, sum_range_add, ih, sum_range_one, if_pos (h p List.mem_cons_self)]
    simp
theorem group_len (n : Nat) : ∀ L : List Of, (∀ p ∈ L, p.2 < n) → ((List.range n).map (fun k => (L.filter (fun p => p.2 == k)).length)).sum = L.length
  | [], _ => by
    simp only [List.filter_nil, List.length_nil]
    induction n with
    | zero => simp
    | succ n ih => rw [range_map_succN, ih (fun _ h => by simp at h)]
  | p :: L, h => by
    have ih := group_len n L fun q hq => h q (List.mem_cons_of_mem _ hq)
    have e : (fun k => ((p :: L).filter (fun p => p.2 == k)).length) = fun k => (if p.2 == k then 1 else 0) + (L.filter (fun p => p.2 == k)).length := by
      funext k
      rw [List.filter_cons]
      split
      · simp; omega
      · simp
    rw [e, sum_range_addN, ih, sum_range_oneN, if_pos (h p List.mem_cons_self)]
    simp; omega
theorem ranked_lt (rows : Rows) : ∀ p ∈ ranked rows, p.2 < rows.length := fun p hp => by
  have := offersFrom_snd 0 rows p ((ranked_perm rows).mem_iff.mp hp); omega
theorem ranked_len (rows : Rows) : (ranked rows).length = (rows.map List.length).sum := (ranked_perm rows).length_eq.trans (offersFrom_len 0 rows)
theorem dealt_sum (rows : Rows) (w : Nat) : (dealt rows w).sum = min w (rows.map List.length).sum := by
  have h := group_len rows.length ((ranked rows).take w) fun p hp => ranked_lt rows p (List.mem_of_mem_take hp)
  rw [List.length_take, ranked_len] at h
  exact h
theorem val_range (rows : Rows) (f : Nat → Nat) : val rows ((List.range rows.length).map f) = ((List.range rows.length).map (fun k => ((row rows k).take (f k)).sum)).sum := by
  have key : ∀ (rows : Rows) (f : Nat → Nat), List.zipWith (fun r c => (r.take c).sum) rows ((List.range rows.length).map f) = (List.range rows.length).map (fun k => ((row rows k).take (f k)).sum) := by
    intro rows f
    apply List.ext_getElem?
    intro i
    rw [List.getElem?_zipWith, List.getElem?_map, List.getElem?_map]
    by_cases h : i < rows.length
    · rw [List.getElem?_range h, List.getElem?_eq_getElem h]
      simp only [Option.map_some]
      unfold row
      rw [List.getD_eq_getElem?_getD, List.getElem?_eq_getElem h]; rfl
    · rw [List.getElem?_eq_none (by omega : rows.length ≤ i)]
      rw [List.getElem?_eq_none (by simp; omega)]
      rfl
  unfold val; rw [key]
theorem val_dealt_ranked {rows : Rows} (g : Good rows) (w : Nat) : val rows (dealt rows w) = (((ranked rows).take w).map (·.1)).sum := by
  unfold dealt
  rw [val_range]
  rw [← group_sum rows.length ((ranked rows).take w) fun p hp => ranked_lt rows p (List.mem_of_mem_take hp)]
  congr 2
  funext k
  rw [served g w k, List.map_map]
  congr 1
  simp [Function.comp_def]
theorem ranked_fst (rows : Rows) : (ranked rows).map (·.1) = desc rows.flatten := by
  refine desc_eq ?_ ?_
  · have := (ranked_perm rows).map (·.1)
    exact this.trans (by unfold offers; rw [offersFrom_fst])
  · rw [List.pairwise_map]
    exact (ranked_sorted rows).imp fun {a b} h => by
      rw [ahead_iff] at h
      simp only [geB, decide_eq_true_eq]; omega
/-- the dealing is worth the greatest bids together -/
theorem val_dealt {rows : Rows} (g : Good rows) (w : Nat) : val rows (dealt rows w) = top w rows.flatten := by
  rw [val_dealt_ranked g, List.map_take, ranked_fst]; rfl
theorem dealt_best {rows : Rows} (g : Good rows) {w : Nat} {cs : List Nat} (h : cs.sum ≤ w) : val rows cs ≤ val rows (dealt rows w) := by
  rw [val_dealt g]; exact val_le_top g.flat h
end WB

namespace WB

/-! ### the greatest bid without a ware -/
def firstLeft (rows : Rows) (w : Nat) : Option Int := ((ranked rows).drop w).head?.map (·.1)
def restAt (rows : Rows) (w k : Nat) : List Int := ((row rows k).drop (cnt rows w k)).take 1
def restOf (rows : Rows) (w : Nat) : List Int := (List.range rows.length).flatMap (restAt rows w)
theorem restAt_mem {rows : Rows} (g : Good rows) {w k : Nat} {x : Int} (h : x ∈ restAt rows w k) : (x, k) ∈ (ranked rows).drop w := by
  have h1 : x ∈ (row rows k).drop (cnt rows w k) := List.mem_of_mem_take h
  have h2 : (x, k) ∈ ((ranked rows).drop w).filter (fun p => p.2 == k) := by
    rw [unserved g]; exact List.mem_map.mpr ⟨x, h1, rfl⟩
  exact (List.mem_filter.mp h2).1
theorem head_rest {rows : Rows} (g : Good rows) {w : Nat} {p : Of} {L : List Of} (h : (ranked rows).drop w = p :: L) : p.1 ∈ restAt rows w p.2 ∧ p.2 < rows.length := by
  have hm : p ∈ ranked rows := List.mem_of_mem_drop (i := w) (by rw [h]; exact List.mem_cons_self)
  refine ⟨?_, ranked_lt rows p hm⟩
  have e := unserved g w p.2
  rw [h, List.filter_cons, if_pos (by simp)] at e
  unfold restAt
  cases q : (row rows p.2).drop (cnt rows w p.2) with
  | nil => rw [q] at e; simp at e
  | cons x r =>
    rw [q] at e
    simp only [List.map_cons, List.cons.injEq] at e
    have : p.1 = x := congrArg Prod.fst e.1
    simp [this]
theorem left_none {rows : Rows} (g : Good rows) {w : Nat} (h : restOf rows w = []) : firstLeft rows w = none := by
  cases q : (ranked rows).drop w with
  | nil => unfold firstLeft; rw [q]; rfl
  | cons p L =>
    obtain ⟨h1, h2⟩ := head_rest g q
    have : p.1 ∈ restOf rows w := List.mem_flatMap.mpr ⟨p.2, List.mem_range.mpr h2, h1⟩
    rw [h] at this; simp at this
theorem left_some {rows : Rows} (g : Good rows) {w : Nat} (h : restOf rows w ≠ []) : ∃ b, firstLeft rows w = some b ∧ b ∈ restOf rows w ∧ ∀ x ∈ restOf rows w, x ≤ b := by
  cases q : (ranked rows).drop w with
  | nil =>
    exfalso; apply h
    rw [List.eq_nil_iff_forall_not_mem]
    intro x hx
    obtain ⟨k, _, hk⟩ := List.mem_flatMap.mp hx
    have := restAt_mem g hk
    rw [q] at this; simp at this
  | cons p L =>
    obtain ⟨h1, h2⟩ := head_rest g q
    refine ⟨p.1, by unfold firstLeft; rw [q]; rfl, List.mem_flatMap.mpr ⟨p.2, List.mem_range.mpr h2, h1⟩, fun x hx => ?_⟩
    obtain ⟨k, _, hk⟩ := List.mem_flatMap.mp hx
    have hm := restAt_mem g hk
    have hs : ((ranked rows).drop w).Pairwise (fun a b => ahead a b = true) := (ranked_sorted rows).sublist (List.drop_sublist _ _)
    rw [q] at hm hs
    rcases List.mem_cons.mp hm with e | hm
    · exact Int.le_of_eq (congrArg Prod.fst e)
    · have := (List.pairwise_cons.mp hs).1 _ hm
      rw [ahead_iff] at this
      simp only at this; omega
/-- no bid without a ware comes ahead of one with a ware -/
theorem no_envy {rows : Rows} (g : Good rows) {w i j : Nat} {last first : Int} (hi : 0 < cnt rows w i) (hl : (row rows i)[cnt rows w i - 1]? = some last) (hf : (row rows j)[cnt rows w j]? = some first) : ¬ (last < first) ∧ ¬ (first = last ∧ j < i) := by
  have m1 : (last, i) ∈ (ranked rows).take w := by
    have : (last, i) ∈ ((ranked rows).take w).filter (fun p => p.2 == i) := by
      rw [served g]
      refine List.mem_map.mpr ⟨last, ?_, rfl⟩
      rw [List.mem_iff_getElem?]
      exact ⟨cnt rows w i - 1, by rw [List.getElem?_take_of_lt (by omega)]; exact hl⟩
    exact (List.mem_filter.mp this).1
  have m2 : (first, j) ∈ (ranked rows).drop w := by
    have : (first, j) ∈ ((ranked rows).drop w).filter (fun p => p.2 == j) := by
      rw [unserved g]
      refine List.mem_map.mpr ⟨first, ?_, rfl⟩
      rw [List.mem_iff_getElem?]
      exact ⟨0, by rw [List.getElem?_drop]; simpa using hf⟩
    exact (List.mem_filter.mp this).1
  have hs := ranked_sorted rows
  rw [← List.take_append_drop w (ranked rows)] at hs
  have := (List.pairwise_append.mp hs).2.2 _ m1 _ m2
  rw [ahead_iff] at this
  simp only at this
  omega

/-! ### without one bidder -/
theorem val_split : ∀ (rows : Rows) (cs : List Nat) (k : Nat), rows.length = cs.length → k < rows.length → val rows cs = val (rows.eraseIdx k) (cs.eraseIdx k) + ((row rows k).take (cs.getD k 0)).sum
  | r :: rs, c :: cs, 0, _, _ => by
    simp only [List.eraseIdx_cons_zero, val_cons, row, List.getD_cons_zero]; omega
  | r :: rs, c :: cs, k + 1, hl, hk => by
    have ih := val_split rs cs k (by simpa using hl) (by simpa using hk)
    simp only [List.eraseIdx_cons_succ, val_cons, row, List.getD_cons_succ] at ih ⊢
    omega
  | [], _, _, _, hk => by simp at hk
  | _ :: _, [], _, hl, _ => by simp at hl
theorem val_set : ∀ (rows : Rows) (cs : List Nat) (k : Nat), rows.length = cs.length → val (rows.set k []) (cs.set k 0) = val (rows.eraseIdx k) (cs.eraseIdx k)
  | [], [], _, _ => by simp
  | r :: rs, c :: cs, 0, _ => by simp [val_cons]
  | r :: rs, c :: cs, k + 1, hl => by
    simp only [List.set_cons_succ, List.eraseIdx_cons_succ, val_cons, val_set rs cs k (by simpa using hl)]
  | [], _ :: _, _, hl => by simp at hl
  | _ :: _, [], _, hl => by simp at hl
theorem flat_set : ∀ (rows : Rows) (k : Nat), (rows.set k []).flatten = (rows.eraseIdx k).flatten
  | [], _ => by simp
  | r :: rs, 0 => by simp
  | r :: rs, k + 1 => by simp [flat_set rs k]
theorem flat_split : ∀ (rows : Rows) (k : Nat), k < rows.length → (rows.flatten).Perm ((rows.eraseIdx k).flatten ++ row rows k)
  | [], _, h => by simp at h
  | r :: rs, 0, _ => by
    simp only [List.eraseIdx_cons_zero, List.flatten_cons, row, List.getD_cons_zero]
    exact List.perm_append_comm
  | r :: rs, k + 1, h => by
    have ih := flat_split rs k (by simpa using h)
    simp only [List.eraseIdx_cons_succ, List.flatten_cons, List.append_assoc]
    exact List.Perm.append_left r (by simpa [row] using ih)
theorem sum_split : ∀ (cs : List Nat) (k : Nat), k < cs.length → cs.sum = (cs.eraseIdx k).sum + cs.getD k 0
  | [], _, h => by simp at h
  | c :: cs, 0, _ => by simp; omega
  | c :: cs, k + 1, h => by
    have ih := sum_split cs k (by simpa using h)
    simp only [List.eraseIdx_cons_succ, List.sum_cons, List.getD_cons_succ]; omega
theorem Good.set {rows : Rows} (g : Good rows) (k : Nat) {b : List Int} (h1 : ∀ x ∈ b, 0 ≤ x) (h2 : b.Pairwise (fun a b => geB a b = true)) : Good (rows.set k b) where
  nn r hr := by
    rcases List.mem_or_eq_of_mem_set hr with h | h
    · exact g.nn r h
    · rw [h]; exact h1
  fall r hr := by
    rcases List.mem_or_eq_of_mem_set hr with h | h
    · exact g.fall r h
    · rw [h]; exact h2
theorem Good.erase {rows : Rows} (g : Good rows) (k : Nat) : Good (rows.eraseIdx k) := ⟨fun r hr => g.nn r (List.mem_of_mem_eraseIdx hr), fun r hr => g.fall r (List.mem_of_mem_eraseIdx hr)⟩
theorem Good.out {rows : Rows} (g : Good rows) (k : Nat) : Good (rows.set k []) := g.set k (fun _ h => by simp at h) List.Pairwise.nil

/-- what bidder k pays, as the program reckons it, and as the others' loss -/
def price (rows : Rows) (w k : Nat) : Int := val (rows.set k []) (dealt (rows.set k []) w) - val (rows.set k []) ((dealt rows w).set k 0)
def priceBy (rows : Rows) (w k : Nat) : Int := top w (rows.eraseIdx k).flatten - val (rows.eraseIdx k) ((dealt rows w).eraseIdx k)
theorem price_eq {rows : Rows} (g : Good rows) (w k : Nat) : price rows w k = priceBy rows w k := by
  unfold price priceBy
  rw [val_dealt (g.out k), flat_set, val_set _ _ _ (dealt_len rows w).symm]
theorem dealt_getD {rows : Rows} {w k : Nat} (h : k < rows.length) : (dealt rows w).getD k 0 = cnt rows w k := by
  rw [List.getD_eq_getElem?_getD, dealt_get h]; rfl
theorem price_nn {rows : Rows} (g : Good rows) {w k : Nat} (h : k < rows.length) : 0 ≤ price rows w k := by
  rw [price_eq g]
  have h1 : ((dealt rows w).eraseIdx k).sum ≤ w := by
    have a := sum_split (dealt rows w) k (by rw [dealt_len]; exact h)
    have b := dealt_sum rows w
    omega
  have := val_le_top (g.erase k).flat h1
  unfold priceBy; omega
theorem top_erase_le {rows : Rows} (g : Good rows) {w k : Nat} (h : k < rows.length) : top w (rows.eraseIdx k).flatten ≤ top w rows.flatten := by
  rw [top_congr (flat_split rows k h)]
  refine top_mono fun x hx => ?_
  exact g.flat x ((flat_split rows k h).mem_iff.mpr hx)
theorem price_le {rows : Rows} (g : Good rows) {w k : Nat} (h : k < rows.length) : price rows w k ≤ ((row rows k).take (cnt rows w k)).sum := by
  rw [price_eq g]
  have h1 := top_erase_le g (w := w) h
  have h2 := val_dealt g w
  have h3 := val_split rows (dealt rows w) k (dealt_len rows w).symm h
  rw [dealt_getD h] at h3
  unfold priceBy; omega

/-! ### telling one's values is best -/
def gainOf (rows : Rows) (w k : Nat) (v : List Int) : Int := (v.take (cnt rows w k)).sum - price rows w k
theorem gain_true {rows : Rows} (g : Good rows) {w k : Nat} (h : k < rows.length) : gainOf rows w k (row rows k) = top w rows.flatten - top w (rows.eraseIdx k).flatten := by
  unfold gainOf
  rw [price_eq g]
  have h2 := val_dealt g w
  have h3 := val_split rows (dealt rows w) k (dealt_len rows w).symm h
  rw [dealt_getD h] at h3
  unfold priceBy; omega
theorem erase_set {rows : Rows} {k : Nat} {b : List Int} : (rows.set k b).eraseIdx k = rows.eraseIdx k := by
  rw [List.eraseIdx_set_eq]
theorem row_set_self {rows : Rows} {k : Nat} {b : List Int} (h : k < rows.length) : row (rows.set k b) k = b := by
  unfold row; rw [List.getD_eq_getElem?_getD, List.getElem?_set_self h]; rfl
theorem gain_other {rows : Rows} (g : Good rows) {w k : Nat} {b : List Int} (gb : Good (rows.set k b)) (h : k < rows.length) : gainOf (rows.set k b) w k (row rows k) ≤ gainOf rows w k (row rows k) := by
  rw [gain_true g h]
  unfold gainOf
  rw [price_eq gb]
  unfold priceBy
  rw [erase_set]
  have hl : (rows.set k b).length = rows.length := List.length_set
  have h1 := val_split rows (dealt (rows.set k b) w) k (by rw [dealt_len, hl]) h
  rw [dealt_getD (by rw [hl]; exact h)] at h1
  have h2 : val rows (dealt (rows.set k b) w) ≤ top w rows.flatten := val_le_top g.flat (by rw [dealt_sum]; exact Nat.min_le_left _ _)
  omega
theorem gain_nn {rows : Rows} (g : Good rows) {w k : Nat} (h : k < rows.length) : 0 ≤ gainOf rows w k (row rows k) := by
  rw [gain_true g h]
  have := top_erase_le g (w := w) h
  omega
end WB

set_option Elab.async false
set_option linter.all false
namespace WB
theorem mem_offers {rows : Rows} {x : Int} {k : Nat} : (x, k) ∈ offers rows ↔ x ∈ row rows k := by
  have h := offersFrom_filter 0 rows k
  rw [Nat.zero_add] at h
  constructor
  · intro hm
    have : (x, k) ∈ (offersFrom 0 rows).filter (fun p => p.2 == k) := List.mem_filter.mpr ⟨hm, by simp⟩
    rw [h] at this
    obtain ⟨b, hb, e⟩ := List.mem_map.mp this
    have : b = x := (Prod.mk.inj e).1
    subst this
    exact hb
  · intro hm
    have : (x, k) ∈ (offersFrom 0 rows).filter (fun p => p.2 == k) := by
      rw [h]
      exact List.mem_map.mpr ⟨x, hm, rfl⟩
    exact (List.mem_filter.mp this).1
theorem first_ranked {rows : Rows} {p : Of} (hm : p ∈ offers rows) (ha : ∀ q ∈ offers rows, ahead p q = true) : (ranked rows).take 1 = [p] := by
  have hp : p ∈ ranked rows := (ranked_perm rows).mem_iff.mpr hm
  have hs := ranked_sorted rows
  cases hr : ranked rows with
  | nil => rw [hr] at hp; cases hp
  | cons z L =>
    rw [hr] at hp hs
    have hz : z ∈ offers rows := (ranked_perm rows).mem_iff.mp (by rw [hr]; exact List.mem_cons_self)
    have h1 := ha z hz
    have h2 : ahead z p = true := by
      rcases List.mem_cons.mp hp with e | e
      · subst e; exact h1
      · exact (List.pairwise_cons.mp hs).1 p e
    have : z = p := ahead_anti z p h2 h1
    subst this
    rfl
theorem one_dealt {rows : Rows} {b : Int} {k : Nat} (hm : b ∈ row rows k) (hk : k < rows.length) (ha : ∀ x j, x ∈ row rows j → x < b ∨ (x = b ∧ k ≤ j)) : dealt rows 1 = (List.replicate rows.length 0).set k 1 := by
  have h := first_ranked (mem_offers.mpr hm) fun q hq => by
    rw [ahead_iff]
    rcases ha q.1 q.2 (mem_offers.mp hq) with h | h
    · exact .inl h
    · exact .inr ⟨h.1.symm, h.2⟩
  apply List.ext_getElem?
  intro j
  by_cases hj : j < rows.length
  · rw [dealt_get hj]
    unfold cnt
    rw [h]
    by_cases e : k = j
    · subst e
      rw [List.getElem?_set_self (by simpa using hj)]
      simp
    · rw [List.getElem?_set_ne e, List.getElem?_replicate, if_pos hj]
      simp [e]
  · rw [List.getElem?_eq_none (by rw [dealt_len]; omega), List.getElem?_eq_none (by simp; omega)]
theorem none_dealt {rows : Rows} (h : ∀ j, row rows j = []) (w : Nat) : dealt rows w = List.replicate rows.length 0 := by
  have ho : offers rows = [] := by
    cases e : offers rows with
    | nil => rfl
    | cons z L =>
      have : (z.1, z.2) ∈ offers rows := by rw [e]; exact List.mem_cons_self
      have := mem_offers.mp this
      rw [h] at this; cases this
  have hr : ranked rows = [] := by
    have := (ranked_perm rows).length_eq
    rw [ho] at this
    exact List.eq_nil_of_length_eq_zero this
  apply List.ext_getElem?
  intro j
  by_cases hj : j < rows.length
  · rw [dealt_get hj, List.getElem?_replicate, if_pos hj]
    unfold cnt
    rw [hr]; simp
  · rw [List.getElem?_eq_none (by rw [dealt_len]; omega), List.getElem?_eq_none (by simp; omega)]
theorem top_one {M : List Int} {p : Int} (nn : ∀ x ∈ M, 0 ≤ x) (hx : ∀ x ∈ M, x ≤ p) (hp : p = 0 ∨ p ∈ M) : top 1 M = p := by
  unfold top
  have hd := desc_perm M
  cases e : desc M with
  | nil =>
    rw [e] at hd
    have : M = [] := List.eq_nil_of_length_eq_zero (by have := hd.length_eq; simpa using this.symm)
    subst this
    rcases hp with h | h
    · subst h; rfl
    · cases h
  | cons z L =>
    have hz : z ∈ M := hd.mem_iff.mp (by rw [e]; exact List.mem_cons_self)
    have hs := desc_sorted M
    rw [e] at hs
    have h1 := hx z hz
    have h2 : p ≤ z := by
      rcases hp with h | h
      · subst h; exact nn z hz
      · have : p ∈ z :: L := by rw [← e]; exact hd.mem_iff.mpr h
        rcases List.mem_cons.mp this with q | q
        · omega
        · have := (List.pairwise_cons.mp hs).1 p q
          simpa [geB] using this
    simp
    omega
theorem mem_erase {rows : Rows} {k : Nat} {x : Int} : x ∈ (rows.eraseIdx k).flatten ↔ ∃ j, j ≠ k ∧ x ∈ row rows j := by
  rw [List.mem_flatten]
  constructor
  · rintro ⟨r, hr, hx⟩
    obtain ⟨i, hi, e⟩ := List.mem_eraseIdx_iff_getElem?.mp hr
    exact ⟨i, hi, by unfold row; rw [List.getD_eq_getElem?_getD, e]; exact hx⟩
  · rintro ⟨j, hj, hx⟩
    have hl : j < rows.length := by
      apply Nat.lt_of_not_le
      intro h
      rw [row_out h] at hx; cases hx
    refine ⟨row rows j, List.mem_eraseIdx_iff_getElem?.mpr ⟨j, hj, ?_⟩, hx⟩
    unfold row
    rw [List.getD_eq_getElem?_getD, List.getElem?_eq_getElem hl]; rfl
theorem val_zero (rows : Rows) : ∀ n : Nat, val rows (List.replicate n 0) = 0 := by
  induction rows with
  | nil => intro n; exact val_nil_left _
  | cons r rows ih =>
    intro n
    cases n with
    | zero => exact val_nil_right _
    | succ n => rw [List.replicate_succ, val_cons, ih]; simp
theorem erase_set_rep (n k : Nat) (hk : k < n) : ((List.replicate n 0).set k 1).eraseIdx k = List.replicate (n - 1) 0 := by
  rw [List.eraseIdx_set_eq]
  rw [List.eraseIdx_replicate, if_pos hk]
theorem one_price {rows : Rows} (g : Good rows) {b p : Int} {k : Nat} (hm : b ∈ row rows k) (hk : k < rows.length) (ha : ∀ x j, x ∈ row rows j → x < b ∨ (x = b ∧ k ≤ j))
    (hx : ∀ x j, j ≠ k → x ∈ row rows j → x ≤ p) (hp : p = 0 ∨ ∃ j, j ≠ k ∧ p ∈ row rows j) : (List.range rows.length).map (price rows 1) = (List.replicate rows.length 0).set k p := by
  have hd := one_dealt hm hk ha
  apply List.ext_getElem?
  intro j
  by_cases hj : j < rows.length
  · rw [List.getElem?_map, List.getElem?_range hj]
    by_cases e : k = j
    · subst e
      rw [List.getElem?_set_self (by simpa using hj)]
      show some (price rows 1 k) = _
      rw [price_eq g, priceBy, hd, erase_set_rep _ _ hj, val_zero, top_one (p := p)]
      · simp
      · intro x hx'
        obtain ⟨i, _, h⟩ := mem_erase.mp hx'
        exact g.row_nn i x h
      · intro x hx'
        obtain ⟨i, h1, h2⟩ := mem_erase.mp hx'
        exact hx x i h1 h2
      · rcases hp with h | ⟨i, h1, h2⟩
        · exact .inl h
        · exact .inr (mem_erase.mpr ⟨i, h1, h2⟩)
    · rw [List.getElem?_set_ne e, List.getElem?_replicate, if_pos hj]
      show some (price rows 1 j) = _
      have h1 := price_nn g (w := 1) hj
      have h2 := price_le g (w := 1) hj
      have hc : cnt rows 1 j = 0 := by
        have := dealt_get (w := 1) hj
        rw [hd, List.getElem?_set_ne e, List.getElem?_replicate, if_pos hj] at this
        exact (Option.some.inj this).symm
      rw [hc] at h2
      simp at h2
      congr 1
      omega
  · rw [List.getElem?_eq_none (by simp; omega), List.getElem?_eq_none (by simp; omega)]
theorem none_price {rows : Rows} (g : Good rows) (h : ∀ j, row rows j = []) (w : Nat) : (List.range rows.length).map (price rows w) = List.replicate rows.length 0 := by
  apply List.ext_getElem?
  intro j
  by_cases hj : j < rows.length
  · rw [List.getElem?_map, List.getElem?_range hj, List.getElem?_replicate, if_pos hj]
    show some (price rows w j) = _
    have h1 := price_nn g (w := w) hj
    have h2 := price_le g (w := w) hj
    rw [h] at h2
    simp at h2
    congr 1
    omega
  · rw [List.getElem?_eq_none (by simp; omega), List.getElem?_eq_none (by simp; omega)]
end WB

set_option maxRecDepth 100000
namespace WB
open PySem PySem.W PyProof.Rows

section
variable {O : KeyOrd} {key : Nat → O.α} {n : Nat} {J : Shared → Prop} {cmp : Nat → Nat → (Bool → Shared → Prop) → Shared → Prop}

/-- the comparisons answer by the keys and keep J -/
def Asks (O : KeyOrd) (key : Nat → O.α) (n : Nat) (J : Shared → Prop) (cmp : Nat → Nat → (Bool → Shared → Prop) → Shared → Prop) : Prop :=
  ∀ (i j : Nat) (C : Bool → Shared → Prop) (s : Shared), i < n → j < n → J s → (∀ s', J s' → C (O.blt (key i) (key j)) s') → cmp i j C s
def kp (key : Nat → O.α) (p : Array Nat) (i : Nat) : O.α := key (p.getD i 0)
structure PermN (n : Nat) (p : Array Nat) : Prop where
  perm : p.Perm (List.toArray (List.range n))
theorem PermN.size {p : Array Nat} (h : PermN n p) : p.size = n := by rw [h.perm.size_eq]; simp
theorem PermN.lt {p : Array Nat} (h : PermN n p) {i : Nat} (hi : i < n) : p.getD i 0 < n := by
  have hz : i < p.size := by rw [h.size]; exact hi
  have hm : p[i] ∈ p.toList := by simp
  have h2 := (Array.perm_iff_toList_perm.mp h.perm).mem_iff.mp hm
  simp only [List.mem_range] at h2
  have e : p.getD i 0 = p[i] := by simp [Array.getD, hz]
  rw [e]; exact h2
theorem PermN.rev {p : Array Nat} (h : PermN n p) (i j : Nat) : PermN n (kas_rev p i j) := ⟨(mirror_perm _ _ _ _).trans h.perm⟩
theorem PermN.bub {p : Array Nat} (h : PermN n p) (i j : Nat) : PermN n (bubble p i j) := ⟨(bubble_perm _ _ _).trans h.perm⟩
theorem kp_congr {p q : Array Nat} {i j : Nat} (h : p[i]? = q[j]?) : kp key p i = kp key q j := by
  unfold kp
  rw [Array.getD_eq_getD_getElem?, Array.getD_eq_getD_getElem?, h]
theorem kp_rev {p : Array Nat} {i j : Nat} (hj : j ≤ p.size) (k : Nat) : kp key (kas_rev p i j) k = if i ≤ k ∧ k < j then kp key p (i + j - 1 - k) else kp key p k := by
  have e := getElem?_mirror_all (i := i) hj k
  by_cases h1 : i ≤ k ∧ k < j
  · rw [if_pos h1] at e ⊢; exact kp_congr e
  · rw [if_neg h1] at e ⊢; exact kp_congr e
theorem kp_rev_equal {p : Array Nat} {i j : Nat} (hj : j ≤ p.size) (heq : ∀ k, i ≤ k → k < j → kp key p k = kp key p (j - 1)) (k : Nat) : kp key (kas_rev p i j) k = kp key p k := by
  rw [kp_rev hj]
  split
  · rw [heq _ (by omega) (by omega), heq k (by omega) (by omega)]
  · rfl
theorem kp_bub {p : Array Nat} {src d : Nat} (hs : src < p.size) (hd : d ≤ src) (k : Nat) :
    kp key (bubble p src d) k = if k = src - d then kp key p src else if src - d < k ∧ k ≤ src then kp key p (k - 1) else kp key p k := by
  have e := getElem?_bubble hs d hd k
  by_cases h1 : k = src - d
  · rw [if_pos h1] at e ⊢; exact kp_congr e
  · rw [if_neg h1] at e ⊢
    by_cases h2 : src - d < k ∧ k ≤ src
    · rw [if_pos h2] at e ⊢; exact kp_congr e
    · rw [if_neg h2] at e ⊢; exact kp_congr e
def UpTo (key : Nat → O.α) (p : Array Nat) (k : Nat) : Prop := ∀ i j, i ≤ j → j < k → O.kle (kp key p i) (kp key p j)
def DownTo (key : Nat → O.α) (p : Array Nat) (k : Nat) : Prop := ∀ i j, i ≤ j → j < k → O.kle (kp key p j) (kp key p i)

theorem asc_ok (A : Asks O key n J cmp) {p : Array Nat} (hp : PermN n p) : ∀ (f a : Nat) (G : Nat → Shared → Prop) (s : Shared), 1 ≤ a → a + f ≤ n → UpTo key p a → J s →
    (∀ m s', a ≤ m → m ≤ a + f → UpTo key p m → (m = a + f ∨ O.klt (kp key p m) (kp key p (m - 1))) → J s' → G m s') → (kas_asc p f a).kasWp cmp G s
  | 0, a, G, s, _, _, hu, hJ, h => h a s (Nat.le_refl _) (Nat.le_refl _) hu (.inl rfl) hJ
  | f + 1, a, G, s, h1, hn, hu, hJ, h => by
    show cmp (p.getD a 0) (p.getD (a - 1) 0) (fun b s' => (if b = true then KasT.ret a else kas_asc p f (a + 1)).kasWp cmp G s') s
    refine A _ _ _ _ (hp.lt (by omega)) (hp.lt (by omega)) hJ fun s' hJ' => ?_
    cases hb : O.blt (key (p.getD a 0)) (key (p.getD (a - 1) 0)) with
    | true => exact h a s' (Nat.le_refl _) (by omega) hu (.inr hb) hJ'
    | false =>
      rw [if_neg (by decide)]
      refine asc_ok A hp f (a + 1) G s' (by omega) (by omega) (fun i j hij hj => ?_) hJ' fun m s2 m1 m2 m3 m4 m5 => h m s2 (by omega) (by omega) m3 (m4.imp (fun e => by omega) id) m5
      by_cases hjx : j < a
      · exact hu i j hij hjx
      · have hj' : j = a := by omega
        subst hj'
        by_cases hi' : i = j
        · subst hi'; exact KeyOrd.kle_refl _
        · exact KeyOrd.kle_trans (hu i (j - 1) (by omega) (by omega)) hb
theorem desc_ok (A : Asks O key n J cmp) : ∀ (f : Nat) (p : Array Nat) (a q : Nat) (G : Array Nat × Nat × Nat → Shared → Prop) (s : Shared), PermN n p → 1 ≤ a → a + f ≤ n → DownTo key p a → q + 1 ≤ a →
    (∀ i, a - (q + 1) ≤ i → i < a → kp key p i = kp key p (a - 1)) → J s →
    (∀ p' m q' s', PermN n p' → a ≤ m → m ≤ a + f → DownTo key p' m → q' + 1 ≤ m → (∀ i, m - (q' + 1) ≤ i → i < m → kp key p' i = kp key p' (m - 1)) → J s' → G (p', m, q') s') → (kas_desc f p a q).kasWp cmp G s
  | 0, p, a, q, G, s, hp, _, _, hd, hq, he, hJ, h => h p a q s hp (Nat.le_refl _) (Nat.le_refl _) hd hq he hJ
  | f + 1, p, a, q, G, s, hp, h1, hn, hd, hq, he, hJ, h => by
    show cmp (p.getD a 0) (p.getD (a - 1) 0) (fun b s' => (if b = true then (if q > 0 then kas_desc f (kas_rev p (a - (q + 1)) a) (a + 1) 0 else kas_desc f p (a + 1) 0)
      else KasT.ask (p.getD (a - 1) 0) (p.getD a 0) fun d => if d = true then .ret (p, a, q) else kas_desc f p (a + 1) (q + 1)).kasWp cmp G s') s
    refine A _ _ _ _ (hp.lt (by omega)) (hp.lt (by omega)) hJ fun s' hJ' => ?_
    have hz : a ≤ p.size := by rw [hp.size]; omega
    cases hb : O.blt (key (p.getD a 0)) (key (p.getD (a - 1) 0)) with
    | true =>
      rw [if_pos rfl]
      have hb' : O.klt (kp key p a) (kp key p (a - 1)) := hb
      have step1 : ∀ xs : Array Nat, (∀ k, kp key xs k = kp key p k) → DownTo key xs (a + 1) := by
        intro xs hk i j hij hj
        rw [hk, hk]
        by_cases hjx : j < a
        · exact hd i j hij hjx
        · have hj' : j = a := by omega
          subst hj'
          by_cases hi' : i = j
          · subst hi'; exact KeyOrd.kle_refl _
          · exact KeyOrd.kle_trans (KeyOrd.kle_of_klt hb') (hd i (j - 1) (by omega) (by omega))
      by_cases hq0 : q > 0
      · rw [if_pos hq0]
        exact desc_ok A f _ (a + 1) 0 G s' (hp.rev _ _) (by omega) (by omega) (step1 _ (kp_rev_equal hz he)) (by omega) (fun i i1 i2 => by congr 1; omega) hJ' fun p' m q' s2 a1 a2 a3 => h p' m q' s2 a1 (by omega) (by omega)
      · rw [if_neg hq0]
        exact desc_ok A f _ (a + 1) 0 G s' hp (by omega) (by omega) (step1 _ fun _ => rfl) (by omega) (fun i i1 i2 => by congr 1; omega) hJ' fun p' m q' s2 a1 a2 a3 => h p' m q' s2 a1 (by omega) (by omega)
    | false =>
      rw [if_neg (by decide)]
      show cmp (p.getD (a - 1) 0) (p.getD a 0) (fun b s' => (if b = true then KasT.ret (p, a, q) else kas_desc f p (a + 1) (q + 1)).kasWp cmp G s') s'
      refine A _ _ _ _ (hp.lt (by omega)) (hp.lt (by omega)) hJ' fun s2 hJ2 => ?_
      cases hc : O.blt (key (p.getD (a - 1) 0)) (key (p.getD a 0)) with
      | true => exact h p a q s2 hp (Nat.le_refl _) (by omega) hd hq he hJ2
      | false =>
        rw [if_neg (by decide)]
        have hex : kp key p a = kp key p (a - 1) := KeyOrd.kle_antisymm hc hb
        refine desc_ok A f p (a + 1) (q + 1) G s2 hp (by omega) (by omega) (fun i j hij hj => ?_) (by omega) (fun i i1 i2 => ?_) hJ2 fun p' m q' s3 a1 a2 a3 => h p' m q' s3 a1 (by omega) (by omega)
        · by_cases hjx : j < a
          · exact hd i j hij hjx
          · have hj' : j = a := by omega
            subst hj'
            by_cases hi' : i = j
            · subst hi'; exact KeyOrd.kle_refl _
            · rw [hex]; exact hd i (j - 1) (by omega) (by omega)
        · rw [show a + 1 - 1 = a by omega]
          by_cases hix : i = a
          · subst hix; rfl
          · rw [hex]; exact he i (by omega) (by omega)
theorem tail3_ok (A : Asks O key n J cmp) {p : Array Nat} {a : Nat} {G : Nat × Array Nat → Shared → Prop} {s : Shared} (hp : PermN n p) (h1 : 1 ≤ a) (hn : a ≤ n) (hd : DownTo key p a) (hJ : J s)
    (h : ∀ m p' s', PermN n p' → 1 ≤ m → m ≤ n → UpTo key p' m → J s' → G (m, p') s') : (kas_tail3 a n p).kasWp cmp G s := by
  unfold kas_tail3
  rw [KasT.kasWp_bind]
  refine asc_ok A (hp.rev 0 a) (n - a) a _ s h1 (by omega) (fun i j hij hj => ?_) hJ fun m s' m1 m2 m3 _ m5 => h m _ s' (hp.rev 0 a) (by omega) (by omega) m3 m5
  have hz : a ≤ p.size := by rw [hp.size]; exact hn
  rw [kp_rev hz, kp_rev hz, if_pos (by omega), if_pos (by omega)]
  exact hd _ _ (by omega) (by omega)
theorem descPart_ok (A : Asks O key n J cmp) {p : Array Nat} {a : Nat} {G : Nat × Array Nat → Shared → Prop} {s : Shared} (hp : PermN n p) (hn : a + 1 ≤ n) (hd : DownTo key p (a + 1)) (hJ : J s)
    (h : ∀ m p' s', PermN n p' → 1 ≤ m → m ≤ n → UpTo key p' m → J s' → G (m, p') s') : (kas_descPart a n p).kasWp cmp G s := by
  unfold kas_descPart
  rw [KasT.kasWp_bind]
  refine desc_ok A (n - (a + 1)) p (a + 1) 0 _ s hp (by omega) (by omega) hd (by omega) (fun i i1 i2 => by congr 1; omega) hJ fun p' m q' s' hp' m1 m2 hd' hq' he' hJ' => ?_
  have hz : m ≤ p'.size := by rw [hp'.size]; omega
  dsimp only
  by_cases hq : q' > 0
  · rw [if_pos hq]
    refine tail3_ok A (hp'.rev _ _) (by omega) (by omega) (fun i j hij hj => ?_) hJ' h
    rw [kp_rev_equal hz he', kp_rev_equal hz he']
    exact hd' i j hij hj
  · rw [if_neg hq]
    exact tail3_ok A hp' (by omega) (by omega) hd' hJ' h
theorem count_ok (A : Asks O key n J cmp) {p : Array Nat} {G : Nat × Array Nat → Shared → Prop} {s : Shared} (hp : PermN n p) (hn : 1 ≤ n) (hJ : J s)
    (h : ∀ m p' s', PermN n p' → 1 ≤ m → m ≤ n → UpTo key p' m → J s' → G (m, p') s') : (kas_count n p).kasWp cmp G s := by
  unfold kas_count
  rw [KasT.kasWp_bind]
  refine asc_ok A hp (n - 1) 1 _ s (Nat.le_refl _) (by omega) (fun i j hij hj => by have : i = j := (by omega); subst this; exact KeyOrd.kle_refl _) hJ fun m s' m1 m2 hu hor hJ' => ?_
  by_cases hmn : m = n
  · rw [if_pos (by simpa using hmn)]
    exact h m p s' hp m1 (by omega) hu hJ'
  · rw [if_neg (by simpa using hmn)]
    have hlt : O.klt (kp key p m) (kp key p (m - 1)) := hor.resolve_left (by omega)
    by_cases hgt : m > 1
    · rw [if_pos hgt]
      show cmp (p.getD 0 0) (p.getD (m - 1) 0) (fun b s' => (if b = true then KasT.ret (m, p) else kas_descPart m n (kas_rev p 0 m)).kasWp cmp G s') s'
      refine A _ _ _ _ (hp.lt (by omega)) (hp.lt (by omega)) hJ' fun s2 hJ2 => ?_
      cases hb : O.blt (key (p.getD 0 0)) (key (p.getD (m - 1) 0)) with
      | true => exact h m p s2 hp m1 (by omega) hu hJ2
      | false =>
        rw [if_neg (by decide)]
        have hz : m ≤ p.size := by rw [hp.size]; omega
        have hall : ∀ k, 0 ≤ k → k < m → kp key p k = kp key p (m - 1) := by
          intro k _ hk
          have a1 := hu 0 k (by omega) hk
          have a2 := hu k (m - 1) (by omega) (by omega)
          exact KeyOrd.kle_antisymm a2 (KeyOrd.kle_trans hb a1)
        refine descPart_ok A (hp.rev _ _) (by omega) (fun i j hij hj => ?_) hJ2 h
        rw [kp_rev_equal hz hall, kp_rev_equal hz hall]
        by_cases hjn : j < m
        · rw [hall i (by omega) (by omega), hall j (by omega) hjn]; exact KeyOrd.kle_refl _
        · have hj' : j = m := by omega
          subst hj'
          by_cases hi' : i = j
          · subst hi'; exact KeyOrd.kle_refl _
          · rw [hall i (by omega) (by omega)]; exact KeyOrd.kle_of_klt hlt
    · rw [if_neg hgt]
      have hm1 : m = 1 := by omega
      subst hm1
      refine descPart_ok A hp (by omega) (fun i j hij hj => ?_) hJ' h
      by_cases hi' : i = j
      · subst hi'; exact KeyOrd.kle_refl _
      · have hi0 : i = 0 := by omega
        have hj1 : j = 1 := by omega
        subst hi0; subst hj1
        exact KeyOrd.kle_of_klt hlt
theorem place_ok (A : Asks O key n J cmp) {p : Array Nat} {k : Nat} (hp : PermN n p) (hk : k < n) (hu : UpTo key p k) : ∀ (f l r : Nat) (G : Nat → Shared → Prop) (s : Shared), l ≤ r → r ≤ k → r - l ≤ f →
    (∀ i, i < l → O.kle (kp key p i) (kp key p k)) → (∀ i, r ≤ i → i < k → O.klt (kp key p k) (kp key p i)) → J s →
    (∀ l' s', l' ≤ k → (∀ i, i < l' → O.kle (kp key p i) (kp key p k)) → (∀ i, l' ≤ i → i < k → O.klt (kp key p k) (kp key p i)) → J s' → G l' s') → (kas_place p k f l r).kasWp cmp G s
  | 0, l, r, G, s, hlr, hrk, hf, hlo, hhi, hJ, h => by
    have e : l = r := by omega
    subst e
    exact h l s hrk hlo hhi hJ
  | f + 1, l, r, G, s, hlr, hrk, hf, hlo, hhi, hJ, h => by
    unfold kas_place
    by_cases hge : l ≥ r
    · rw [if_pos hge]
      have e : l = r := by omega
      subst e
      exact h l s hrk hlo hhi hJ
    · rw [if_neg hge]
      show cmp (p.getD k 0) (p.getD ((l + r) / 2) 0) (fun b s' => (if b = true then kas_place p k f l ((l + r) / 2) else kas_place p k f ((l + r) / 2 + 1) r).kasWp cmp G s') s
      refine A _ _ _ _ (hp.lt hk) (hp.lt (by omega)) hJ fun s' hJ' => ?_
      cases hb : O.blt (key (p.getD k 0)) (key (p.getD ((l + r) / 2) 0)) with
      | true =>
        rw [if_pos rfl]
        exact place_ok A hp hk hu f l ((l + r) / 2) G s' (by omega) (by omega) (by omega) hlo (fun i i1 i2 => KeyOrd.klt_of_klt_of_kle (b := kp key p ((l + r) / 2)) hb (hu _ _ i1 i2)) hJ' h
      | false =>
        rw [if_neg (by decide)]
        exact place_ok A hp hk hu f ((l + r) / 2 + 1) r G s' (by omega) (by omega) (by omega) (fun i i1 => KeyOrd.kle_trans (hu i ((l + r) / 2) (by omega) (by omega)) hb) hhi hJ' h
theorem bin_ok (A : Asks O key n J cmp) : ∀ (f : Nat) (p : Array Nat) (k : Nat) (G : Array Nat → Shared → Prop) (s : Shared), PermN n p → k + f = n → UpTo key p k → J s →
    (∀ p' s', PermN n p' → UpTo key p' n → J s' → G p' s') → (kas_bin f p k).kasWp cmp G s
  | 0, p, k, G, s, hp, hk, hu, hJ, h => by
    have e : k = n := by omega
    subst e
    exact h p s hp hu hJ
  | f + 1, p, k, G, s, hp, hk, hu, hJ, h => by
    unfold kas_bin
    rw [KasT.kasWp_bind]
    refine place_ok A hp (by omega) hu k 0 k _ s (by omega) (by omega) (by omega) (fun i hi => by omega) (fun i i1 i2 => by omega) hJ fun l s' hl hlo hhi hJ' => ?_
    refine bin_ok A f _ (k + 1) G s' (hp.bub _ _) (by omega) (fun i j hij hj => ?_) hJ' h
    have hz : k < p.size := by rw [hp.size]; omega
    rw [kp_bub hz (by omega), kp_bub hz (by omega), show k - (k - l) = l by omega]
    repeat' split
    all_goals first
      | (exfalso; omega)
      | exact KeyOrd.kle_refl _
      | exact hlo _ (by omega)
      | exact KeyOrd.kle_of_klt (hhi _ (by omega) (by omega))
      | exact hu _ _ (by omega) (by omega)
/-- the sort's own questions, answered by keys: what comes is ordered -/
theorem kas_sort_ok (A : Asks O key n J cmp) {G : Array Nat → Shared → Prop} {s : Shared} (hn : 1 ≤ n) (hJ : J s) (h : ∀ p s', PermN n p → UpTo key p n → J s' → G p s') : (kas_sort n).kasWp cmp G s := by
  unfold kas_sort
  rw [KasT.kasWp_bind]
  refine count_ok A ⟨Array.Perm.refl _⟩ hn hJ fun m p s' hp m1 m2 hu hJ' => ?_
  dsimp only
  by_cases hm : m < n
  · rw [if_pos hm]
    refine bin_ok A _ p _ G s' hp (by omega) ?_ hJ' h
    rw [show max m 1 = m by omega]
    exact hu
  · rw [if_neg hm]
    have e : m = n := by omega
    subst e
    exact h p s' hp hu hJ'
/-- the order as a list: the items at the places, a permutation of all, ordered by the keys -/
theorem UpTo.out {α : Type} {p : Array Nat} (hp : PermN n p) (hu : UpTo key p n) (g : Nat → α) {items : List α} (hi : items = (List.range n).map g) :
    (p.toList.map g).Perm items ∧ (p.toList.map key).Pairwise O.kle := by
  refine ⟨?_, ?_⟩
  · rw [hi]
    have := (Array.perm_iff_toList_perm.mp hp.perm).map g
    simpa using this
  · rw [List.pairwise_iff_getElem]
    intro i j hi' hj' hij
    have hz := hp.size
    have h1 : i < p.size := by simpa using hi'
    have h2 : j < p.size := by simpa using hj'
    have q := hu i j (by omega) (by omega)
    unfold kp at q
    have e1 : p.getD i 0 = p[i] := by simp [Array.getD, h1]
    have e2 : p.getD j 0 = p[j] := by simp [Array.getD, h2]
    rw [e1, e2] at q
    simpa using q
end
end WB

set_option Elab.async false
set_option linter.all false
set_option maxRecDepth 100000
set_option maxHeartbeats 4000000
namespace L2
open PySem PySem.Spec PyProof.Rows

theorem ltN {a b : Addr} (h : a < b) : @LT.lt Nat instLTNat a b := h
theorem leN {a b : Addr} (h : a ≤ b) : @LE.le Nat instLENat a b := h
theorem neLt {a b : Nat} (h : a < b) : @Ne Addr a b := Nat.ne_of_lt h
theorem neGt {a b : Nat} (h : b < a) : @Ne Addr a b := Nat.ne_of_gt h
/-! ### an untracked object of ours becomes tracked; several records turn at once -/
section
variable {X : Cx} {pins : List (Addr × Obj)} {σ : List (Option V)} {H H' : Hp} {s : Shared} {h' : Heap}
theorem Inv.track {a : Addr} {o : HO} (I : Inv X pins σ H s) (hn : H a = none) (h0 : X.s₀.heap.objs.size ≤ a) (hL : a ≠ X.env.locals) (hc : ∀ x c, X.env.cells.lookup x = some c → c ≠ a) (hp : ∀ p ∈ X.pn ++ pins, p.1 ≠ a)
    (new : ObjOk X.prog X.w (upd H a o) s.heap a o) : Inv X pins σ (upd H a o) s := by
  refine ⟨I.ok, I.os, I.bare, ⟨I.base.keep, I.base.slot, fun b ob e n hx => ?_, I.base.there, fun b xs e => ?_, fun b ob u e => ?_, fun b ps e => ?_⟩, I.loc, I.cell, ?_, fun x c e => ?_, fun p hq => ?_, ?_, I.len⟩
  · rw [upd_ne (Nat.ne_of_lt (Nat.lt_of_lt_of_le (Heap.lt_size e) h0))]
    exact I.base.free b ob e n hx
  · have q := I.base.tups b xs e
    rw [upd_ne (ne_of_none q hn)]; exact q
  · have q := I.base.frzs b ob u e
    rw [upd_ne (ne_of_none q hn)]; exact q
  · obtain ⟨more, q⟩ := I.base.tbls b ps e
    exact ⟨more, by rw [upd_ne (ne_of_none q hn)]; exact q⟩
  · rw [upd_ne (Ne.symm hL)]; exact I.free
  · rw [upd_ne (hc x c e)]; exact I.freeC x c e
  · obtain ⟨e1, e2, e3⟩ := I.pin p hq
    exact ⟨e1, by rw [upd_ne (hp p hq)]; exact e2, e3⟩
  · intro b u e
    by_cases hb : b = a
    · subst hb; rw [upd_same] at e; cases e; exact new
    · rw [upd_ne hb] at e
      exact (I.hok b u e).stay (fun c v _ q => q) (fun c q => by rw [upd_ne (ne_of_none q hn)]; exact q) fun c xs q => by rw [upd_ne (ne_of_none q hn)]; exact q
theorem Inv.turnedL {t' : Nat} {ch : List Addr} (I : Inv X pins σ H s) (k : ∀ b o, b ∉ ch → s.heap.get? b = some o → h'.get? b = some o) (hf : ∀ b ∈ ch, FpOk X pins H b) : Inv X pins σ H { s with heap := h', toks := t' } := by
  have nit : ∀ b u, H b = some u → b ∉ ch := fun b u e z => by rw [(hf b z).1] at e; cases e
  refine I.step (g' := s.gens) (d' := s.drawn) (ch := ch) (fun b hb => ?_) (fun b o _ _ hc e _ => k b o hc e) (fun b o _ _ hc e _ => ⟨o.slots, k b o hc e⟩) (fun _ _ _ _ n => n)
    (fun b o hc e => ⟨o, k b o hc e⟩) (fun _ _ e => e) (fun _ _ _ e => e) (fun b ps e => ⟨#[], by rw [e]; simp⟩) (fun m hm => ?_) (fun b u e => ?_) I.bare
  · obtain ⟨_, f1, _, f3, f4, f5⟩ := hf b hb
    exact ⟨f3, f1, f4, f5⟩
  · obtain ⟨o, es, ep, ho, r⟩ := hm
    exact ⟨o, es, ep, k _ o (fun z => (hf _ z).2.1 rfl) ho, r⟩
  · refine (I.hok b u e).stay (fun c v hc q => k c v ?_ q) (fun _ q => q) fun _ _ q => q
    rcases hc with z | z
    · rw [z]; exact nit b u e
    · exact nit c _ z
end

/-! ### a list comprehension -/
/-- the block's context: the frame of its own names at C, the cells cl of the names that it closes over -/
abbrev Cx.blk (X : Cx) (scope : Scope) (cl : List (Str × Addr)) (C : Addr) (N : List Str) (s₂ : Shared) (H₂ : Hp) (fp : List Addr) : Cx :=
  { prog := X.prog, w := X.w, K := X.K, mg := X.mg, base := X.base, A := X.A, N := N, s₀ := s₂, H₀ := H₂, env := compEnvC scope cl C X.env, outer := X.stack, stack := X.stack, ex := fp, fn := fun _ => false, calm := X.calm, pn := [], xe := fun _ _ => False }
/-- which names of the block are slots of the body around it -/
def blkOk (N' N : List Str) (names around : List (Str × NameKind)) (fr : List (Nat × Nat)) : Bool := fr.all fun p => match N'[p.1]?, N[p.2]? with
  | some x, some y => x == y && (names.lookup x == some .free) && (around.lookup x == some .cell)
  | _, _ => false
def blkSt (n : Nat) (fr : List (Nat × Nat)) (σ : St) : St := (List.range n).map fun i => (fr.lookup i).bind fun j => (σ[j]?).bind id
def Held (σ₀ σ : St) : Prop := σ.length = σ₀.length ∧ ∀ (i : Nat) v, σ₀[i]? = some (some v) → σ[i]? = some (some v)
theorem Held.refl (σ : St) : Held σ σ := ⟨rfl, fun _ _ e => e⟩
theorem Held.set {σ₀ σ : St} {i : Nat} {v : V} (h : Held σ₀ σ) (e : σ₀[i]? = some none) : Held σ₀ (σ.set i (some v)) := by
  refine ⟨by rw [List.length_set]; exact h.1, fun j u q => ?_⟩
  have hj : j ≠ i := by rintro rfl; rw [e] at q; cases q
  rw [List.getElem?_set_ne (Ne.symm hj)]
  exact h.2 j u q

theorem mem_of_lookupN {i j : Nat} : ∀ {l : List (Nat × Nat)}, l.lookup i = some j → (i, j) ∈ l
  | [], h => by simp at h
  | (a, b) :: r, h => by
    rw [List.lookup_cons] at h
    cases hx : i == a with
    | true =>
      rw [hx] at h
      have e1 : b = j := Option.some.inj h
      have e2 : i = a := eq_of_beq hx
      rw [e1, e2]; exact List.mem_cons_self
    | false =>
      rw [hx] at h
      exact List.mem_cons_of_mem _ (mem_of_lookupN h)
theorem closure_ok {scope : Scope} {env : Env} (h : ∀ y ∈ scope.names, y.2 = .free → ∃ c, env.cells.lookup y.1 = some c) :
    ∃ cl, closureFor scope env = pure cl ∧ (∀ x c, cl.lookup x = some c → env.cells.lookup x = some c) ∧ ∀ y ∈ scope.names, y.2 = .free → ∃ c, cl.lookup y.1 = some c := by
  have key : ∀ (l : List (Str × NameKind)) (cs : List (Str × Addr)), (∀ y ∈ l, y.2 = .free → ∃ c, env.cells.lookup y.1 = some c) → (∀ x c, cs.lookup x = some c → env.cells.lookup x = some c) →
      ∃ cl, (forIn (m := Sem) l cs fun y (cs : List (Str × Addr)) => if y.2 == .free then do let c ← cellOf env y.1; pure (ForInStep.yield ((y.1, c) :: cs)) else pure (ForInStep.yield cs)) = pure cl ∧
        (∀ x c, cl.lookup x = some c → env.cells.lookup x = some c) ∧ (∀ y ∈ l, y.2 = .free → ∃ c, cl.lookup y.1 = some c) ∧ ∀ x c, cs.lookup x = some c → ∃ c', cl.lookup x = some c' := by
    intro l
    induction l with
    | nil => intro cs _ hc; exact ⟨cs, rfl, hc, fun y hy => (nomatch hy), fun x c e => ⟨c, e⟩⟩
    | cons y r ih =>
      intro cs hl hc
      have hr : ∀ z ∈ r, z.2 = .free → ∃ c, env.cells.lookup z.1 = some c := fun z hz => hl z (List.mem_cons_of_mem _ hz)
      by_cases hk : y.2 = .free
      · obtain ⟨c, e⟩ := hl y List.mem_cons_self hk
        have hc' : ∀ x c', ((y.1, c) :: cs).lookup x = some c' → env.cells.lookup x = some c' := fun x c' q => by
          rw [List.lookup_cons] at q
          cases hx : x == y.1 with
          | true =>
            rw [hx] at q
            have q' : c = c' := Option.some.inj q
            rw [← q', eq_of_beq hx]; exact e
          | false => rw [hx] at q; exact hc x c' q
        obtain ⟨cl, e1, e2, e3, e4⟩ := ih ((y.1, c) :: cs) hr hc'
        refine ⟨cl, ?_, e2, fun z hz hzk => ?_, fun x c' q => ?_⟩
        · rw [List.forIn_cons]
          have hb : (y.2 == NameKind.free) = true := by rw [hk]; rfl
          simp only [hb, if_true]
          have hcell : cellOf env y.1 = pure c := by unfold cellOf; rw [e]
          rw [hcell]
          simp only [pure_bind]
          exact e1
        · rcases List.mem_cons.mp hz with rfl | hz
          · exact e4 z.1 c (by simp)
          · exact e3 z hz hzk
        · by_cases hx : x = y.1
          · exact e4 x c (by rw [hx]; simp)
          · exact e4 x c' (by rw [List.lookup_cons, beq_false_of_ne hx]; exact q)
      · obtain ⟨cl, e1, e2, e3, e4⟩ := ih cs hr hc
        refine ⟨cl, ?_, e2, fun z hz hzk => ?_, e4⟩
        · rw [List.forIn_cons]
          have hb : (y.2 == NameKind.free) = false := by simpa using hk
          simp only [hb, Bool.false_eq_true, if_false, pure_bind]
          exact e1
        · rcases List.mem_cons.mp hz with rfl | hz
          · exact absurd hzk hk
          · exact e3 z hz hzk
  obtain ⟨cl, e1, e2, e3, _⟩ := key scope.names [] h (fun x c q => by simp at q)
  refine ⟨cl, ?_, e2, e3⟩
  unfold closureFor
  have e1' : (forIn (m := Sem) scope.names ([] : List (Str × Addr)) fun x r => match x with
      | (name, kind) => if kind == .free then do let c ← cellOf env name; pure (ForInStep.yield ((name, c) :: r)) else pure (ForInStep.yield r)) = pure cl := e1
  first
    | (rw [e1']; rfl)
    | (simp only [e1', pure_bind])
    | (show (forIn (m := Sem) scope.names ([] : List (Str × Addr)) _ >>= _) = _; erw [e1']; rfl)

theorem lookup_relabel {env : Env} (hk : env.scope.kind = .function) {x : Str} : ∀ {names : List (Str × NameKind)}, names.lookup x = some .free → env.kindOf x = some .cell →
    (names.map fun (n, k) => if (k == NameKind.free && env.scope.kind == .function && env.kindOf n == some .cell) then (n, NameKind.cell) else (n, k)).lookup x = some .cell
  | [], h, _ => by simp at h
  | (n, k) :: r, h, hc => by
    show List.lookup x ((if (k == NameKind.free && env.scope.kind == .function && env.kindOf n == some .cell) = true then (n, NameKind.cell) else (n, k)) :: _) = _
    cases hx : x == n with
    | true =>
      have e : x = n := eq_of_beq hx
      subst e
      simp only [List.lookup_cons, hx] at h
      cases h
      have hb : ((NameKind.free == NameKind.free && env.scope.kind == ScopeKind.function) && env.kindOf x == some NameKind.cell) = true := by rw [hk, hc]; rfl
      rw [if_pos hb]
      simp [List.lookup_cons]
    | false =>
      simp only [List.lookup_cons, hx] at h
      have ih := lookup_relabel hk (names := r) h hc
      split
      · simp only [List.lookup_cons, hx]; exact ih
      · simp only [List.lookup_cons, hx]; exact ih
theorem mem_relabel {env : Env} {x : Str} {k' : NameKind} : ∀ {names : List (Str × NameKind)},
    (names.map fun (n, k) => if (k == NameKind.free && env.scope.kind == .function && env.kindOf n == some .cell) then (n, NameKind.cell) else (n, k)).lookup x = some k' → ∃ k, (x, k) ∈ names ∧ (k = k' ∨ k = .free)
  | [], h => by simp at h
  | (n, k) :: r, h => by
    have h2 : List.lookup x ((if (k == NameKind.free && env.scope.kind == .function && env.kindOf n == some .cell) = true then (n, NameKind.cell) else (n, k)) :: (r.map fun (n, k) => if (k == NameKind.free && env.scope.kind == .function && env.kindOf n == some .cell) then (n, NameKind.cell) else (n, k))) = some k' := h
    cases hx : x == n with
    | true =>
      have e : x = n := eq_of_beq hx
      subst e
      refine ⟨k, List.mem_cons_self, ?_⟩
      split at h2
      · rename_i hb
        simp only [Bool.and_eq_true] at hb
        exact .inr (eq_of_beq hb.1.1)
      · simp only [List.lookup_cons, beq_self_eq_true] at h2
        exact .inl (Option.some.inj h2)
    | false =>
      have h3 : (r.map fun (n, k) => if (k == NameKind.free && env.scope.kind == .function && env.kindOf n == some .cell) then (n, NameKind.cell) else (n, k)).lookup x = some k' := by
        split at h2
        · simpa only [List.lookup_cons, hx] using h2
        · simpa only [List.lookup_cons, hx] using h2
      obtain ⟨k2, m, q⟩ := mem_relabel h3
      exact ⟨k2, List.mem_cons_of_mem _ m, q⟩

/-- what a comprehension's turns want: D is the new list -/
def lcWant (J : It) (σ₀ : St) (g : TG) (te : TE) (Q : VK) (H1 : Hp) : Prop :=
  ∀ D, H1 D = none → ∃ W : Nat → Nat → List V → Hp → Prop, (∃ m, W 0 m [] (upd H1 D (.lst []))) ∧ ∀ i m ys H, W i m ys H → H D = some (.lst ys) ∧
    ((J.stop i H ∧ Q (.ref D) H) ∨ (J.go i H ∧ ys.length < sizeLine ∧ ∃ Nx : VK, (∀ y H3, Nx y H3 → H3 D = some (.lst ys) ∧ ∃ m', m' < m ∧ W (i + 1) m' (ys ++ [y]) (upd H3 D (.lst (ys ++ [y])))) ∧
      ∀ x H', J.yld i H x H' → g x σ₀ H' fun σ2 H2 => Held σ₀ σ2 ∧ te σ2 H2 Nx))

structure BlkScope (X : Cx) (N' : List Str) (scope : Scope) (fr : List (Nat × Nat)) : Prop where
  kind : scope.kind = .function
  own : ∀ y ∈ scope.names, y.2 ≠ .cell
  loc : ∀ y ∈ scope.names, y.2 = .local → scope.names.lookup y.1 = some .local
  freeB : (scope.names.all fun y => y.2 != .free || X.env.scope.names.lookup y.1 == some .cell) = true
  ok : blkOk N' X.N scope.names X.env.scope.names fr = true

theorem BlkScope.free {X : Cx} {N' : List Str} {scope : Scope} {fr : List (Nat × Nat)} (B : BlkScope X N' scope fr) : ∀ y ∈ scope.names, y.2 = .free → X.env.scope.names.lookup y.1 = some .cell := fun y hy hk => by
  have h := List.all_eq_true.mp B.freeB y hy
  rw [hk] at h
  simpa using h
section
variable {X : Cx} {pins : List (Addr × Obj)} {σ : St} {H₂ : Hp} {s₂ : Shared} {scope : Scope} {cl : List (Str × Addr)} {N' : List Str} {fr : List (Nat × Nat)} {fp : List Addr} {C : Addr}
theorem blk_ok (B : BlkScope X N' scope fr) (I : Inv X pins σ H₂ s₂) (hcl : ∀ x c, cl.lookup x = some c → X.env.cells.lookup x = some c) (hall : ∀ y ∈ scope.names, y.2 = .free → ∃ c, cl.lookup y.1 = some c)
    (hf : ∀ b ∈ fp, FpOk X pins H₂ b) (hfl : ∀ b ∈ fp, b < s₂.heap.objs.size) (hC : s₂.heap.objs.size ≤ C) : (X.blk scope cl C N' s₂ H₂ fp).Ok where
  mod := I.ok.mod
  kind := B.kind
  glob := I.ok.glob
  blt := I.ok.blt
  above := hC
  inj := fun x y c h1 h2 => I.ok.inj x y c (hcl x c h1) (hcl y c h2)
  has := fun x hx => by
    have key : ∀ k, (relabel scope X.env).names.lookup x = some k → (k = .cell ∨ k = .free) → ∃ c, cl.lookup x = some c := fun k e hk => by
      obtain ⟨k0, m, q⟩ := mem_relabel e
      have hfree : k0 = .free := by
        rcases q with q | q
        · rcases hk with hk | hk
          · exact absurd (q.trans hk) (B.own _ m)
          · exact q.trans hk
        · exact q
      exact hall (x, k0) m hfree
    rcases hx with hx | hx
    · exact key _ hx (.inl rfl)
    · exact key _ hx (.inr rfl)
  cab := fun x c h _ => by cases h
  hd := I.ok.hd
  frames := I.ok.frames
  stk := .inl rfl
  exf := fun b hb => ⟨Nat.ne_of_lt (Nat.lt_of_lt_of_le (hfl b hb) hC), fun x c e => (hf b hb).2.2.2.2.1 x c (hcl x c e)⟩
  bs := I.bs
  bsz := Nat.le_trans I.ok.bsz I.sz
  noex := fun b o e hb => by
    rcases (hf b hb).2.2.2.1 with z | z
    · exact I.ok.noex b o e z
    · exact absurd (Nat.lt_of_lt_of_le (Heap.lt_size e) (Nat.le_trans I.ok.bsz z)) (Nat.lt_irrefl _)
  exfs := fun b hb hs => by
    rcases List.mem_cons.mp (I.stkSub b hs) with z | z
    · exact (hf b hb).2.1 z
    · exact (hf b hb).2.2.1 z
  funs := I.stack
  frf := I.stkFree

theorem blk_inv (B : BlkScope X N' scope fr) (I : Inv X pins σ H₂ s₂) (hcl : ∀ x c, cl.lookup x = some c → X.env.cells.lookup x = some c) (hall : ∀ y ∈ scope.names, y.2 = .free → ∃ c, cl.lookup y.1 = some c)
    (hf : ∀ b ∈ fp, FpOk X pins H₂ b) (hfl : ∀ b ∈ fp, b < s₂.heap.objs.size) {D : Addr} {h₁ : Heap} {m : Str → Option Value} {tk : Nat} (hD : @Eq Nat D s₂.heap.objs.size) (hC : @Eq Nat C (s₂.heap.objs.size + 1)) (hns : h₁.Ns C m)
    (old : ∀ b o, s₂.heap.get? b = some o → h₁.get? b = some o) (hacc : h₁.get? D = some { cls := .type "list", data := .seq ([] : List Value).toArray }) :
    Inv (X.blk scope cl C N' s₂ H₂ fp) [] (blkSt N'.length fr σ) (upd H₂ D (.lst [])) { s₂ with heap := h₁, toks := tk } := by
  have hCle : s₂.heap.objs.size ≤ C := by omega
  have hDC : D ≠ C := neLt (by omega)
  have hDf : H₂ D = none := I.hok.fresh (Nat.le_of_eq hD.symm)
  have cellLt : ∀ x c, X.env.cells.lookup x = some c → c < s₂.heap.objs.size := fun x c e => by
    obtain ⟨v, o, ho, _⟩ := I.cell x c e
    exact Heap.lt_size ho
  refine ⟨blk_ok B I hcl hall hf hfl hCle, rfl, I.bare, Un.laid old (Nat.le_of_eq hD.symm) hDf, ⟨m, hns, fun i x v e1 e2 e3 => ?_⟩, fun x c e => ?_, ?_, fun x c e => ?_, fun p hp => absurd (show p ∈ ([] : List (Addr × Obj)) from hp) (by simp), ?_, ?_⟩
  · have e2' : (blkSt N'.length fr σ)[i]? = some (some v) := e2
    unfold blkSt at e2'
    rw [List.getElem?_map] at e2'
    have hi : i < N'.length := (List.getElem?_eq_some_iff.mp e1).1
    rw [List.getElem?_range hi] at e2'
    have e4 : ((fr.lookup i).bind fun j => (σ[j]?).bind id) = some v := Option.some.inj e2'
    cases hl : fr.lookup i with
    | none => rw [hl] at e4; cases e4
    | some j =>
      rw [hl] at e4
      have e5 : (σ[j]?).bind id = some v := e4
      cases hj : σ[j]? with
      | none => rw [hj] at e5; cases e5
      | some w =>
        rw [hj] at e5
        have e6 : w = some v := e5
        subst e6
        have hm : (i, j) ∈ fr := mem_of_lookupN hl
        have hb := List.all_eq_true.mp B.ok (i, j) hm
        have e1' : N'[i]? = some x := e1
        simp only [e1'] at hb
        cases hy : X.N[j]? with
        | none => rw [hy] at hb; cases hb
        | some y =>
          rw [hy] at hb
          simp only [Bool.and_eq_true, beq_iff_eq] at hb
          obtain ⟨⟨exy, h1⟩, h2⟩ := hb
          subst exy
          have hvis : Vis X.env.scope x := .inr (.inl h2)
          obtain ⟨m0, _, hl0⟩ := I.loc
          obtain ⟨u, ru, lk⟩ := hl0 j x v hy hj hvis
          refine ⟨u, ru, .inr ⟨.inl (lookup_relabel I.ok.kind h1 h2), ?_⟩⟩
          obtain ⟨k0, hk0⟩ : ∃ k, (x, k) ∈ scope.names := ⟨_, PySem.mem_of_lookup h1⟩
          rcases lk with ⟨hk, _⟩ | ⟨_, c, hc, hcell⟩
          · have hk' : X.env.scope.names.lookup x = some .local := hk
            rw [h2] at hk'; cases hk'
          · obtain ⟨c', hc'⟩ := hall (x, .free) (PySem.mem_of_lookup h1) rfl
            have : c' = c := Option.some.inj ((hcl x c' hc').symm.trans hc)
            subst this
            exact ⟨c', hc', let ⟨o, ho, hd⟩ := hcell; ⟨o, old _ _ ho, hd⟩⟩
  · obtain ⟨v, o, ho, hd⟩ := I.cell x c (hcl x c e)
    exact ⟨v, o, old _ _ ho, hd⟩
  · show upd H₂ D (.lst []) C = none
    rw [upd_ne (Ne.symm hDC)]; exact I.hok.fresh hCle
  · show upd H₂ D (.lst []) c = none
    rw [upd_ne (neLt (by have := ltN (cellLt x c (hcl x c e)); omega))]
    exact I.freeC x c (hcl x c e)
  · exact I.hok.laid old (Nat.le_of_eq hD.symm) ⟨Nat.zero_le _, [], _, .nil, hacc⟩
  · show (blkSt N'.length fr σ).length = N'.length
    unfold blkSt; simp

/-- what is known of the block's frame once it has run -/
def BlkOff (X : Cx) (pins : List (Addr × Obj)) (C : Addr) : Prop := C ≠ X.env.locals ∧ X.s₀.heap.objs.size ≤ C ∧ (∀ x c, X.env.cells.lookup x = some c → c ≠ C) ∧ ∀ p ∈ X.pn ++ pins, p.1 ≠ C

theorem lc_block {elt iter tg : Expr} {pos : Pos} {J : It} {it : Addr} {tn : Nat → Heap → Prop} {g : TG} {te : TE} {Q : VK} {E : Value → Shared → Prop} {RR : Value → Addr → Result → Shared → Prop} (hc : X.calm = true) (B : BlkScope X N' scope fr) (I : Inv X pins σ H₂ s₂)
    (hcl : ∀ x c, cl.lookup x = some c → X.env.cells.lookup x = some c) (hall : ∀ y ∈ scope.names, y.2 = .free → ∃ c, cl.lookup y.1 = some c)
    (T : Turn X.prog X.w X.K tg J fp it tn) (st : tn 0 s₂.heap) (hf : ∀ b ∈ fp, FpOk X pins H₂ b)
    (hg : ∀ C, PG (X.blk scope cl C N' s₂ H₂ fp) tg g) (he : ∀ C, PE (X.blk scope cl C N' s₂ H₂ fp) elt te) (hw : lcWant J (blkSt N'.length fr σ) g te Q H₂)
    (hRR : ∀ D C H' s', BlkOff X pins C → H' C = none → (∃ m, s'.heap.Ns C m) → Inv X pins σ H' s' → Q (.ref D) H' → RR (.ref D) C (.ok .next) s') :
    wpAny (model X.prog X.w) X.A (newList []) (fun acc s₃ => wpAny (model X.prog X.w) X.A (newFunctionEnv scope X.env.globals cl [] X.env.qual none .none (some X.env)) (fun cenv s₄ =>
      codeAny (model X.prog X.w) X.A (.compStart (.ListComp elt [⟨tg, iter, [], 0⟩] scope pos) 0 (.ref it) acc { cenv with scope := relabel scope X.env }) (RR acc cenv.locals) s₄) E s₃) E s₂ := by
  have hfl : ∀ b ∈ fp, b < s₂.heap.objs.size := fun b hb => by
    obtain ⟨o, e, _⟩ := T.obj 0 _ st b hb
    exact Heap.lt_size e
  refine wpAny_newObj_type (wpAny_newFunctionEnv B.own (by intro y hy; simp at hy) (fun h₁ hns₁ hsb₁ => ?_) B.kind)
  dsimp only at hns₁ hsb₁ ⊢
  generalize hH2 : s₂.heap.push { cls := .type "list", dict := none, data := .seq ([] : List Value).toArray } = h2 at hns₁ hsb₁ ⊢
  have hC : h2.objs.size = s₂.heap.objs.size + 1 := by rw [← hH2, Heap.size_push]
  generalize hCe : h2.objs.size = C at hns₁ hsb₁ hC ⊢
  have old : ∀ b o, s₂.heap.get? b = some o → h₁.get? b = some o := fun b o e => by
    have lt := ltN (Heap.lt_size e)
    exact hsb₁.extBut b o (neLt (by omega)) (Heap.get?_push_of_some _ (hH2 ▸ Heap.get?_push_of_some _ e))
  have hacc : h₁.get? s₂.heap.objs.size = some { cls := .type "list", data := .seq ([] : List Value).toArray } := hsb₁.extBut _ _ (neLt (by omega)) (Heap.get?_push_of_some _ (hH2 ▸ Heap.get?_push_size _ rfl))
  generalize hDe : s₂.heap.objs.size = D at hacc hC ⊢
  have I0 := fun tk => blk_inv (cl := cl) (C := C) (D := D) (tk := tk) B I hcl hall hf hfl hDe.symm (by omega) hns₁ old hacc
  have hDf : H₂ D = none := I.hok.fresh (Nat.le_of_eq hDe)
  obtain ⟨W, ⟨m0, w0⟩, turn⟩ := hw D hDf
  -- the block's records
  have stat : ∀ {H' : Hp}, (∀ b ∈ fp, H' b = none) → ∀ b ∈ fp, FpOk (X.blk scope cl C N' s₂ H₂ fp) [] H' b := fun {H'} hn b hb => by
    obtain ⟨f0, f1, f2, f3, f4, f5⟩ := hf b hb
    have hbC : b ≠ C := neLt (by have := ltN (hfl b hb); omega)
    refine ⟨hn b hb, hbC, fun z => ?_, .inl hb, fun x c e => f4 x c (hcl x c e), fun p hp => absurd (show p ∈ ([] : List (Addr × Obj)) from hp) (by simp)⟩
    rcases List.mem_cons.mp (I.stkSub b z) with q | q
    · exact f1 q
    · exact f2 q
  have offC : BlkOff X pins C := by
    refine ⟨neGt (by have := ltN I.lt; omega), by have := leN I.sz; omega, fun x c e => ?_, fun p hp => ?_⟩
    · obtain ⟨v, o, ho, _⟩ := I.cell x c e
      exact neLt (by have := ltN (Heap.lt_size ho); omega)
    · exact neLt (by have := ltN (Heap.lt_size (I.pin p hp).1); omega)
  have loop : ∀ s₃ : Shared, (∃ tk, s₃ = { s₂ with heap := h₁, toks := tk }) → codeAny (model X.prog X.w) X.A (.compLoop (.ListComp elt [⟨tg, iter, [], 0⟩] scope pos) 0 (.ref it) (.ref D) (compEnvC scope cl C X.env)) (RR (.ref D) C) s₃ := by
    rintro s₃ ⟨tk, rfl⟩
    refine PySem.W.kcp_loop (fun n s' => ∃ i ys H', Inv (X.blk scope cl C N' s₂ H₂ fp) [] (blkSt N'.length fr σ) H' s' ∧ tn i s'.heap ∧ (∀ b ∈ fp, H' b = none) ∧ W i n ys H') ?_ m0
      ⟨0, [], _, I0 tk, T.keep 0 _ _ st (fun b _ o e => old b o e), fun b hb => by rw [upd_ne (neLt (by have := ltN (hfl b hb); omega))]; exact (hf b hb).1, w0⟩
    rintro n s3 ⟨i, ys, H3, I3, st3, fr3, w3⟩
    obtain ⟨hD3, hcase⟩ := turn i n ys H3 w3
    rcases hcase with ⟨stop, q⟩ | ⟨go, hlen, Nx, hNx, step⟩
    · refine thn (T.done (X.blk scope cl C N' s₂ H₂ fp) rfl rfl rfl hc i [] s3 _ H3 _ I3 (stat fr3) st3 stop) fun r s4 ⟨hr, I4⟩ => ?_
      subst hr
      have Iout : Inv X pins σ H3 s4 := I.call' (ch := fp) I4.os I4.base I4.hok I4.bare fun b hb => by
        obtain ⟨f0, f1, f2, f3, f4, f5⟩ := hf b hb
        exact ⟨f3, f1, f4, f5⟩
      obtain ⟨m, hn, _⟩ := I4.loc
      exact hRR D C H3 s4 offC I4.free ⟨m, hn⟩ Iout q
    · refine thn (T.item (X.blk scope cl C N' s₂ H₂ fp) rfl rfl rfl hc i [] s3 _ H3 _ I3 (stat fr3) st3 go) fun r s4 ⟨u, hr, h4⟩ => ?_
      subst hr
      refine thn h4 fun _ s5 ⟨x, H5, I5, r5, y5, st5, fr5⟩ => ?_
      have I5' := I5.pinned (stat fr5) (T.obj _ _ st5)
      refine wpAny_mono (hg C _ s5 _ H5 x u _ I5' r5 (step x H5 y5)) (fun _ s6 ⟨σ6, H6, I6, held, q6⟩ => ?_) fun _ _ z => False.elim z
      refine wpAny_mono (he C _ s6 σ6 H6 _ I6 q6) (fun v s7 ⟨y, H7, I7, r7, q7⟩ => ?_) fun _ _ z => False.elim z
      obtain ⟨hD7, m', hm', w7⟩ := hNx y H7 q7
      refine wpAny_mono (mt_append (X := X.blk scope cl C N' s₂ H₂ fp) _ s7 σ6 H7 (.ref D) [y] (.ref D) [v] (fun _ H8 => W (i + 1) m' (ys ++ [y]) H8 ∧ H8 D = some (.lst (ys ++ [y]))) I7 rfl (.cons r7 .nil) ⟨D, ys, y, rfl, rfl, hD7, hlen, w7, upd_same⟩)
        (fun v8 s8 ⟨_, H8, I8, _, w8, _⟩ => ?_) fun _ _ z => False.elim z
      refine ⟨m', hm', i + 1, ys ++ [y], H8, (I8.weak held.1.symm held.2).unpinned (pl := pinsAt fp s5.heap) , T.keep _ _ _ st5 fun b hb o e => (I8.pin (b, o) (List.mem_append_right _ (List.mem_append_right _ (mem_pinsAt hb e)))).1, fun b hb => ?_, w8⟩
      obtain ⟨o, e, d⟩ := T.obj _ _ st5 b hb
      exact (I8.pin (b, o) (List.mem_append_right _ (List.mem_append_right _ (mem_pinsAt hb e)))).2.1
  have tkz : ∀ t, (∃ tk, ({ s₂ with heap := h₁, toks := t } : Shared) = { s₂ with heap := h₁, toks := tk }) := fun t => ⟨t, rfl⟩
  exact codeAny_compStart_list (loop _ (tkz _)) (T.self _ 0 _ _ _ (T.keep 0 _ _ st (fun b _ o e => old b o e)) (loop _ (tkz _)))

def tLC (wi : TI) (n : Nat) (fr : List (Nat × Nat)) (g : TG) (te : TE) : TE := fun σ H Q => wi σ H fun J H1 => lcWant J (blkSt n fr σ) g te Q H1
/-- [elt for tg in iter] -/
theorem pe_lc {elt iter tg : Expr} {pos : Pos} {wi : TI} {g : TG} {te : TE} (hc : X.calm = true) (B : BlkScope X N' scope fr) (hi : PI X tg iter wi)
    (hg : ∀ cl C s₂ H₂ fp, PG (X.blk scope cl C N' s₂ H₂ fp) tg g) (he : ∀ cl C s₂ H₂ fp, PE (X.blk scope cl C N' s₂ H₂ fp) elt te) (hs : ∀ x, foldedSetIterable iter X.env x = pure x := by intro _; rfl) :
    PE X (.ListComp elt [⟨tg, iter, [], 0⟩] scope pos) (tLC wi N'.length fr g te) := by
  intro pins s σ H Q I h
  obtain ⟨cl, hclos, hcl, hall⟩ := closure_ok (scope := scope) (env := X.env) fun y hy hk => I.ok.has y.1 (.inl (B.free y hy hk))
  rw [eval_ListComp]
  refine wpAny_comprehension_free (use := none) rfl hs hclos B.kind B.loc (thn (hi pins s σ H _ I h) fun xv s1 h1 => thn h1 fun itv s2 h2 => ?_)
  obtain ⟨it, fp, tn, J, H2, e, I2, T, st2, f2, hw⟩ := h2
  subst e
  refine lc_block (RR := fun acc C => compPost (model X.prog X.w) X.A X.xe none (EP X pins σ Q) acc C) hc B I2 hcl hall T st2 f2 (fun C => hg cl C s2 H2 fp) (fun C => he cl C s2 H2 fp) hw ?_
  rintro D C H' s' ⟨o1, o2, o3, o4⟩ hCn ⟨m, hn⟩ I' q
  refine ⟨m, hn, fun h' hs' => ⟨.ref D, H', ?_, rfl, q⟩⟩
  exact I'.turned (t' := s'.toks) (it := C) (fun b o hb e => (hs'.2 b hb).trans e) hCn o1 (.inr o2) o3 o4

/-- y = [elt for tg in iter], on one line (y is stored ahead of the block's end) -/
def tSetLC (wi : TI) (n : Nat) (fr : List (Nat × Nat)) (g : TG) (te : TE) (i : Nat) : TS := fun D σ H => tLC wi n fr g te σ H fun x H1 => D.nx (σ.set i (some x)) H1
theorem ps_setLC {elt iter tg : Expr} {pos pos' spos : Pos} {wi : TI} {g : TG} {te : TE} {i : Nat} {y : Str} (hc : X.calm = true) (hN : X.N.Nodup) (hi' : X.N[i]? = some y) (hy : X.env.scope.names.lookup y = some .local) (B : BlkScope X N' scope fr) (hi : PI X tg iter wi)
    (hg : ∀ cl C s₂ H₂ fp, PG (X.blk scope cl C N' s₂ H₂ fp) tg g) (he : ∀ cl C s₂ H₂ fp, PE (X.blk scope cl C N' s₂ H₂ fp) elt te)
    (hsw : swapsWith (.ListComp elt [⟨tg, iter, [], 0⟩] scope pos) (some (.Name y pos')) spos.line X.env = pure true := by rfl) (hs : ∀ x, foldedSetIterable iter X.env x = pure x := by intro _; rfl) :
    PS X (.Assign [.Name y pos'] (.ListComp elt [⟨tg, iter, [], 0⟩] scope pos) spos) (tSetLC wi N'.length fr g te i) := by
  intro pins s σ H D I h
  obtain ⟨cl, hclos, hcl, hall⟩ := closure_ok (scope := scope) (env := X.env) fun y hy hk => I.ok.has y.1 (.inl (B.free y hy hk))
  rw [exec_Assign_Name_used _ _ _ _ hsw]
  refine wpAny_bind (wpAny_standAt (wpAny_bind ?_))
  show wpAny _ X.A (do let _ ← comprehension (.ListComp elt [⟨tg, iter, [], 0⟩] scope pos) scope X.env _ (newList []) false (eval iter X.env) (some (assign (.Name y pos') X.env))) _ _ s
  refine wpAny_bind (wpAny_mono (wpAny_comprehension_free (use := some (assign (.Name y pos') X.env)) (Q := fun _ s' => SP X pins D .next s') rfl hs hclos B.kind B.loc (thn (hi pins s σ H _ I h) fun xv s1 h1 => thn h1 fun itv s2 h2 => ?_)) (fun _ s' hq => wpAny_pure (wpAny_pure hq)) fun _ _ e => e)
  obtain ⟨it, fp, tn, J, H2, e, I2, T, st2, f2, hw⟩ := h2
  subst e
  refine lc_block (RR := fun acc C => compPost (model X.prog X.w) X.A X.xe (some (assign (.Name y pos') X.env)) (fun _ s' => SP X pins D .next s') acc C) hc B I2 hcl hall T st2 f2 (fun C => hg cl C s2 H2 fp) (fun C => he cl C s2 H2 fp) hw ?_
  rintro a C H' s' ⟨o1, o2, o3, o4⟩ hCn ⟨m, hn⟩ I' q
  show wpAny _ _ (assign (.Name y pos') X.env (.ref a)) _ _ s'
  refine wpAny_assign_Name (store_ok2 I' hN hi' (.inl hy) (v := .ref a) rfl (fun s'' I'' hsame => ?_) (.inr hy))
  obtain ⟨b, hsb, hb⟩ := hsame
  have hbC : C ≠ b := by
    rcases hb with z | z
    · rw [z]; exact o1
    · exact Ne.symm (o3 y b z)
  refine ⟨m, hn.sameBut hsb hbC, fun h' hs' => ⟨σ.set i (some (.ref a)), H', ?_, q⟩⟩
  exact I''.turned (t' := s''.toks) (it := C) (fun b o hb e => (hs'.2 b hb).trans e) hCn o1 (.inr o2) o3 o4
end

/-! ### n turns -/
theorem lcw {J : It} {σ₀ : St} {g : TG} {te : TE} {Q : VK} {H1 : Hp} (n : Nat) (Pv : Addr → Nat → List V → Hp → Prop) (h0 : ∀ D, H1 D = none → Pv D 0 [] (upd H1 D (.lst [])))
    (hl : ∀ D i ys H, i ≤ n → Pv D i ys H → H D = some (.lst ys) ∧ ys.length ≤ 1000 ∧ (i < n → J.go i H) ∧ (i = n → J.stop i H))
    (hs : ∀ D i ys H, i < n → Pv D i ys H → ∀ x H', J.yld i H x H' → g x σ₀ H' fun σ2 H2 => Held σ₀ σ2 ∧ te σ2 H2 fun y H3 => H3 D = some (.lst ys) ∧ Pv D (i + 1) (ys ++ [y]) (upd H3 D (.lst (ys ++ [y]))))
    (hd : ∀ D ys H, Pv D n ys H → Q (.ref D) H) : lcWant J σ₀ g te Q H1 := by
  intro D hD
  refine ⟨fun i m ys H => m = n - i ∧ i ≤ n ∧ Pv D i ys H, ⟨n, by simp, Nat.zero_le _, h0 D hD⟩, ?_⟩
  rintro i m ys H ⟨rfl, hi, p⟩
  obtain ⟨hDl, hlen, hgo, hstop⟩ := hl D i ys H hi p
  refine ⟨hDl, ?_⟩
  by_cases hlt : i < n
  · exact .inr ⟨hgo hlt, small1000 hlen, _, fun y H3 h3 => ⟨h3.1, n - (i + 1), by omega, rfl, hlt, h3.2⟩, hs D i ys H hlt p⟩
  · have e : i = n := by omega
    subst e
    exact .inl ⟨hstop rfl, hd D ys H p⟩
theorem forw {J : It} {g : TG} {tb : TS} {D : Ends} {σ : St} {H : Hp} (n : Nat) (Pv : Nat → St → Hp → Prop) (h0 : Pv 0 σ H) (hl : ∀ i σ H, i ≤ n → Pv i σ H → (i < n → J.go i H) ∧ (i = n → J.stop i H))
    (hs : ∀ i σ H, i < n → Pv i σ H → ∀ x H', J.yld i H x H' → g x σ H' fun σ2 H2 => tb { D with nx := Pv (i + 1), ct := Pv (i + 1), bk := D.nx } σ2 H2) (hd : ∀ σ H, Pv n σ H → D.nx σ H) :
    ∃ W : Nat → Nat → St → Hp → Prop, (∃ m, W 0 m σ H) ∧ ∀ i m σ H, W i m σ H →
      (J.stop i H ∧ D.nx σ H) ∨ (J.go i H ∧ ∃ N : St → Hp → Prop, (∀ σ' H', N σ' H' → ∃ m', m' < m ∧ W (i + 1) m' σ' H') ∧ ∀ x H', J.yld i H x H' → g x σ H' fun σ2 H2 => tb { D with nx := N, ct := N, bk := D.nx } σ2 H2) := by
  refine ⟨fun i m σ H => m = n - i ∧ i ≤ n ∧ Pv i σ H, ⟨n, by simp, Nat.zero_le _, h0⟩, ?_⟩
  rintro i m σ H ⟨rfl, hi, p⟩
  obtain ⟨hgo, hstop⟩ := hl i σ H hi p
  by_cases hlt : i < n
  · exact .inr ⟨hgo hlt, Pv (i + 1), fun σ' H' p' => ⟨n - (i + 1), by omega, rfl, hlt, p'⟩, hs i σ H hlt p⟩
  · have e : i = n := by omega
    subst e
    exact .inl ⟨hstop rfl, hd σ H p⟩
end L2

set_option Elab.async false
set_option linter.all false
set_option maxRecDepth 100000
set_option maxHeartbeats 4000000
namespace L2
open PySem PySem.Spec PyProof.Rows

section
variable {X : Cx} {pins : List (Addr × Obj)} {σ : St} {H : Hp} {s : Shared}
/-- what a fresh address is to a context -/
theorem Inv.fresh0 (I : Inv X pins σ H s) {a : Addr} (h : s.heap.objs.size ≤ a) : H a = none ∧ X.s₀.heap.objs.size ≤ a ∧ a ≠ X.env.locals ∧ (∀ x c, X.env.cells.lookup x = some c → c ≠ a) ∧ ∀ p ∈ X.pn ++ pins, p.1 ≠ a := by
  refine ⟨I.hok.fresh h, Nat.le_trans I.sz h, ?_, fun x c e => ?_, fun p hp => ?_⟩
  · exact Nat.ne_of_gt (Nat.lt_of_lt_of_le I.lt h)
  · obtain ⟨v, o, ho, _⟩ := I.cell x c e
    exact Nat.ne_of_lt (Nat.lt_of_lt_of_le (Heap.lt_size ho) h)
  · exact Nat.ne_of_lt (Nat.lt_of_lt_of_le (Heap.lt_size (I.pin p hp).1) h)
end

/-! ### enumerate -/
def Ite (K : PySem.W.Frag) (a : Addr) : It :=
  ⟨fun i H => ∃ xs x, SqL K H a xs ∧ xs[i]? = some x, fun i H v H' => ∃ T x, H T = none ∧ v = .ref T ∧ H' = upd H T (.tup [.int (i : Nat), x]) ∧ ∀ xs, SqL K H a xs → xs[i]? = some x, fun i H => ∃ xs, SqL K H a xs ∧ xs.length ≤ i⟩
theorem turn_enum {P : Program} {w : World} {K : PySem.W.Frag} {elts : List Expr} {kk : Nat} {tp : Pos} (a e it : Addr) (hei : e ≠ it) :
    Turn P w K (.Tuple elts kk tp) (Ite K a) [e, it] e (fun i h => (∃ old, IsEnum h e it (i : Nat) old) ∧ h.IsListIter it a i) where
  mem := by simp
  obj := fun i h st b hb => by
    obtain ⟨⟨old, he⟩, o, ho, hc, hd⟩ := st
    have hb' : b = e ∨ b = it := by simpa using hb
    rcases hb' with z | z
    · subst z
      exact ⟨_, he, fun v q => by
        have q' : Data.fields _ = Data.cell v := q
        cases q'⟩
    · subst z
      exact ⟨o, ho, fun v q => by rw [hd] at q; cases q⟩
  keep := fun i h h' st k => by
    obtain ⟨⟨old, he⟩, hit⟩ := st
    exact ⟨⟨old, k e (by simp) _ he⟩, hit.at fun o q => k it (by simp) o q⟩
  item := by
    intro X hP hw hK hc i pins s σ H E I hf st hg
    subst hP hw hK
    obtain ⟨⟨old, he⟩, hit⟩ := st
    obtain ⟨xs, x, hq, hx⟩ := hg
    obtain ⟨its, rv, p, hz⟩ := I.list hq
    obtain ⟨u, hu, ru⟩ := rv.get hx
    refine wpAny_pyNext_enum_item he hit p.isList (x := u) (by simpa using hu) hei fun h' ho hit' hT hsz hk => ?_
    refine ⟨.ref s.heap.objs.size, rfl, wpAny_letOwnedTupleGo_enum ho fun h2 he2 hs2 => ?_⟩
    have hse : s.heap.objs.size ≠ e := Nat.ne_of_gt (Heap.lt_size he)
    have I1 : Inv X pins σ H { s with heap := h2, toks := s.toks + 1 } := I.turnedL (ch := [e, it]) (fun b o hb q => by
      have h1 : b ≠ e ∧ b ≠ it := by simpa using hb
      exact (hs2.2 b h1.1).trans (hk b o h1.1 h1.2 q)) hf
    obtain ⟨f0, f1, f2, f3, f4⟩ := I.fresh0 (Nat.le_refl s.heap.objs.size)
    have hT2 : h2.get? s.heap.objs.size = some { cls := .type "tuple", data := .seq #[.int i s.toks, u] } := (hs2.2 _ hse).trans hT
    have I2 := I1.track (o := .tup [.int (i : Nat), x]) f0 f1 f2 f3 f4 ⟨by show 2 ≤ sizeLine; decide, [.int i s.toks, u], .cons ⟨_, rfl⟩ (.cons ru .nil), ⟨_, hT2, rfl, _, rfl⟩⟩
    refine ⟨.ref s.heap.objs.size, _, I2, rfl, ⟨_, x, f0, rfl, rfl, fun ys hy => by rw [I.list_inj hy hq]; exact hx⟩, ⟨⟨u, ?_⟩, ?_⟩, fun b hb => ?_⟩
    · have e1 : ((i + 1 : Nat) : Int) = (i : Int) + 1 := by omega
      rw [e1]; exact he2
    · exact hit'.at fun o q => (hs2.2 it hei.symm).trans q
    · have hb' : b = e ∨ b = it := by simpa using hb
      rw [upd_ne ?_]
      · exact (hf b hb).1
      · obtain ⟨oi, hoi, _⟩ := hit
        rcases hb' with z | z
        · rw [z]; exact Ne.symm hse
        · rw [z]; exact Nat.ne_of_lt (Heap.lt_size hoi)
  done := by
    intro X hP hw hK hc i pins s σ H E I hf st hg
    subst hP hw hK
    obtain ⟨⟨old, he⟩, hit⟩ := st
    obtain ⟨xs, hq, hx⟩ := hg
    obtain ⟨its, rv, p, hz⟩ := I.list hq
    have hl := rv.length
    exact wpAny_pyNext_enum_end (I.ok.hd hc) he hit p.isList (by simp; omega) fun h' hx' => ⟨rfl, I.turnedL (t' := s.toks) (ch := [e, it]) (fun b o hb q => hx' b o (by have h1 : b ≠ e ∧ b ≠ it := (by simpa using hb); exact h1.2) q) hf⟩
  self := fun _ _ _ _ _ st h => by
    obtain ⟨⟨old, he⟩, _⟩ := st
    exact wpAny_pyIter_enum he h
section
variable {X : Cx} {elts : List Expr} {kk : Nat} {tp : Pos}
def iEnum (K : PySem.W.Frag) (ta : TA) : TI := fun σ H R => ta σ H fun vs H1 => ∃ a xs, vs = [.ref a] ∧ SqL K H1 a xs ∧ R (Ite K a) H1
theorem pi_enum {l : Expr} {ta : TA} {p pos : Pos} (hg : Gl X "enumerate") (hm : X.mg "enumerate" = none) (ha : PA X [l] ta) (hs : starEach [l] X.env = [(false, eval l X.env)] := by rfl) :
    PI X (.Tuple elts kk tp) (.Call (.Name "enumerate" p) [l] [] pos) (iEnum X.K ta) := by
  intro pins s σ H R I h
  refine Call_ (ld_blt I hg hm boot_enumerate (PyProof.Rows.callWith_type1 (thn (ha pos pins s σ H _ I h) fun us s1 ⟨vs, H1, I1, r1, q1⟩ => ?_) hs rfl))
  obtain ⟨a, xs, e, hq, q⟩ := q1
  subst e
  obtain ⟨u, rfl, ru⟩ := vals1 r1
  cases ru
  obtain ⟨its, rv, pl, hz⟩ := I1.list hq
  refine call_enumerate_list pl.isList fun h' he hit hsz hk => ?_
  have I2 : Inv X pins σ H1 { s1 with heap := h' } := I1.kept (t' := s1.toks) hk
  refine wpAny_pyIter_enum he ⟨s1.heap.objs.size + 1, [s1.heap.objs.size + 1, s1.heap.objs.size], _, _, H1, rfl, I2, turn_enum a _ _ (Nat.succ_ne_self _), ⟨⟨_, he⟩, hit⟩, fun b hb => ?_, q⟩
  have hb' : b = s1.heap.objs.size + 1 ∨ b = s1.heap.objs.size := by simpa using hb
  have hle : s1.heap.objs.size ≤ b := by
    rcases hb' with z | z
    · rw [z]; exact Nat.le_succ _
    · rw [z]; exact Nat.le_refl _
  exact I1.fpOk hle (I1.hok.fresh hle)
end

/-! ### zip of two lists -/
def Itz (a b : Addr) : It :=
  ⟨fun i H => ∃ xs ys x y, H a = some (.lst xs) ∧ H b = some (.lst ys) ∧ xs[i]? = some x ∧ ys[i]? = some y,
   fun i H v H' => ∃ T x y, H T = none ∧ v = .ref T ∧ H' = upd H T (.tup [x, y]) ∧ (∀ xs, H a = some (.lst xs) → xs[i]? = some x) ∧ (∀ ys, H b = some (.lst ys) → ys[i]? = some y),
   fun i H => ∃ xs ys, H a = some (.lst xs) ∧ H b = some (.lst ys) ∧ (xs.length ≤ i ∨ ys.length ≤ i)⟩
theorem turn_zip {P : Program} {w : World} {K : PySem.W.Frag} {elts : List Expr} {kk : Nat} {tp : Pos} (a b z TI TO i1 i2 : Addr) (hd : [z, TI, TO, i1, i2].Nodup) :
    Turn P w K (.Tuple elts kk tp) (Itz a b) [z, TI, TO, i1, i2] z (fun i h => IsZip h z TI TO .none ∧ IsPair h TI (.ref i1) (.ref i2) ∧ (∃ u v, IsPair h TO u v) ∧ h.IsListIter i1 a i ∧ h.IsListIter i2 b i) := by
  have apart : ∀ {H : Hp} {xs ys : List V}, (∀ c ∈ [z, TI, TO, i1, i2], H c = none) → H a = some (.lst xs) → H b = some (.lst ys) → ZipApart z TI TO i1 i2 a b := fun {H xs ys} hn ha hb => by
    simp only [List.nodup_cons, List.mem_cons, List.not_mem_nil, or_false, not_or, List.nodup_nil, and_true] at hd
    obtain ⟨⟨d1, d2, d3, d4⟩, ⟨d5, d6, d7⟩, ⟨d8, d9⟩, d10⟩ := hd
    have na : ∀ c ∈ [z, TI, TO, i1, i2], a ≠ c := fun c hc => ne_of_none ha (hn c hc)
    have nb : ∀ c ∈ [z, TI, TO, i1, i2], b ≠ c := fun c hc => ne_of_none hb (hn c hc)
    exact ⟨Ne.symm d1, Ne.symm d2, Ne.symm d3, Ne.symm d4, d5, d6, d7, d8, d9, by simpa using d10, na z (by simp), na TO (by simp), na i1 (by simp), na i2 (by simp), nb z (by simp), nb TO (by simp), nb i1 (by simp), nb i2 (by simp)⟩
  refine ⟨by simp, fun i h st c hc => ?_, fun i h h' st k => ?_, ?_, ?_, fun _ _ _ _ _ st h => wpAny_pyIter_zip st.1 h⟩
  · obtain ⟨hz, hTI, ⟨u, v, hTO⟩, ⟨o1, ho1, _, hd1⟩, ⟨o2, ho2, _, hd2⟩⟩ := st
    have hc' : c = z ∨ c = TI ∨ c = TO ∨ c = i1 ∨ c = i2 := by simpa using hc
    rcases hc' with q | q | q | q | q
    · rw [q]; exact ⟨_, hz, fun v q => by have q' : Data.fields _ = Data.cell v := q; cases q'⟩
    · rw [q]; exact ⟨_, hTI, fun v q => by have q' : Data.seq _ _ = Data.cell v := q; cases q'⟩
    · rw [q]; exact ⟨_, hTO, fun v q => by have q' : Data.seq _ _ = Data.cell v := q; cases q'⟩
    · rw [q]; exact ⟨o1, ho1, fun v q => by rw [hd1] at q; cases q⟩
    · rw [q]; exact ⟨o2, ho2, fun v q => by rw [hd2] at q; cases q⟩
  · obtain ⟨hz, hTI, ⟨u, v, hTO⟩, h1, h2⟩ := st
    exact ⟨k z (by simp) _ hz, k TI (by simp) _ hTI, ⟨u, v, k TO (by simp) _ hTO⟩, h1.at fun o q => k i1 (by simp) o q, h2.at fun o q => k i2 (by simp) o q⟩
  · intro X hP hw hK hc i pins s σ H E I hf st hg
    subst hP hw hK
    obtain ⟨hz, hTI, ⟨u, v, hTO⟩, h1, h2⟩ := st
    obtain ⟨xs, ys, x, y, ha, hb, hx, hy⟩ := hg
    obtain ⟨its, rv, pl, _⟩ := I.list (SqL.of ha)
    obtain ⟨jts, rw', pl2, _⟩ := I.list (SqL.of hb)
    obtain ⟨ux, hux, rux⟩ := rv.get hx
    obtain ⟨uy, huy, ruy⟩ := rw'.get hy
    have D := apart (fun c hc => (hf c hc).1) ha hb
    refine wpAny_pyNext_zip_item D hz hTI hTO h1 h2 pl.isList pl2.isList (x := ux) (y := uy) (by simpa using hux) (by simpa using huy) fun h' a1 a2 a3 a4 a5 a6 hk => ?_
    refine ⟨.ref s.heap.objs.size, rfl, wpAny_letOwnedTupleGo_zip a1 fun h3 hz3 hs3 => ?_⟩
    have nz : s.heap.objs.size ≠ z := Nat.ne_of_gt (Heap.lt_size hz)
    have I1 : Inv X pins σ H { s with heap := h3 } := I.turnedL (t' := s.toks) (ch := [z, TI, TO, i1, i2]) (fun c o hcn q => by
      have h5 : c ≠ z ∧ c ≠ TI ∧ c ≠ TO ∧ c ≠ i1 ∧ c ≠ i2 := by simpa using hcn
      exact (hs3.2 c h5.1).trans (hk c o h5.1 h5.2.2.1 h5.2.2.2.1 h5.2.2.2.2 q)) hf
    obtain ⟨f0, f1, f2, f3, f4⟩ := I.fresh0 (Nat.le_refl s.heap.objs.size)
    have hT : h3.get? s.heap.objs.size = some { cls := .type "tuple", data := .seq #[ux, uy] } := (hs3.2 _ nz).trans a5
    have I2 := I1.track (o := .tup [x, y]) f0 f1 f2 f3 f4 ⟨by show 2 ≤ sizeLine; decide, [ux, uy], .cons rux (.cons ruy .nil), ⟨_, hT, rfl, _, rfl⟩⟩
    have e1 : ∀ {c : Addr} {o : Obj}, c ≠ z → h'.get? c = some o → h3.get? c = some o := fun hc q => (hs3.2 _ hc).trans q
    refine ⟨.ref s.heap.objs.size, _, I2, rfl, ⟨_, x, y, f0, rfl, rfl, fun l hl => by rw [ha] at hl; cases hl; exact hx, fun l hl => by rw [hb] at hl; cases hl; exact hy⟩,
      ⟨hz3, e1 D.TIz (hk TI _ D.TIz D.TITO D.TIi1 D.TIi2 hTI), ⟨_, _, e1 D.TOz a2⟩, a3.at fun o q => e1 D.i1z q, a4.at fun o q => e1 D.i2z q⟩, fun c hc => ?_⟩
    rw [upd_ne ?_]
    · exact (hf c hc).1
    · have hc' : c = z ∨ c = TI ∨ c = TO ∨ c = i1 ∨ c = i2 := by simpa using hc
      obtain ⟨o1, ho1, _⟩ := h1
      obtain ⟨o2, ho2, _⟩ := h2
      rcases hc' with q | q | q | q | q
      · rw [q]; exact Ne.symm nz
      · rw [q]; exact Nat.ne_of_lt (Heap.lt_size hTI)
      · rw [q]; exact Nat.ne_of_lt (Heap.lt_size hTO)
      · rw [q]; exact Nat.ne_of_lt (Heap.lt_size ho1)
      · rw [q]; exact Nat.ne_of_lt (Heap.lt_size ho2)
  · intro X hP hw hK hc i pins s σ H E I hf st hg
    subst hP hw hK
    obtain ⟨hz, hTI, ⟨u, v, hTO⟩, h1, h2⟩ := st
    obtain ⟨xs, ys, ha, hb, hend⟩ := hg
    obtain ⟨its, rv, pl, _⟩ := I.list (SqL.of ha)
    obtain ⟨jts, rw', pl2, _⟩ := I.list (SqL.of hb)
    have l1 := rv.length
    have l2 := rw'.length
    have D := apart (fun c hc => (hf c hc).1) ha hb
    refine wpAny_pyNext_zip_end (I.ok.hd hc) D hz hTI hTO h1 h2 pl.isList pl2.isList ?_ fun h' hk => ⟨rfl, I.turnedL (t' := s.toks) (ch := [z, TI, TO, i1, i2]) (fun c o hcn q => ?_) hf⟩
    · rcases hend with q | q
      · exact .inl (by simp; omega)
      · exact .inr (by simp; omega)
    · have h5 : c ≠ z ∧ c ≠ TI ∧ c ≠ TO ∧ c ≠ i1 ∧ c ≠ i2 := by simpa using hcn
      exact hk c o h5.1 h5.2.2.1 h5.2.2.2.1 h5.2.2.2.2 q
section
variable {X : Cx} {elts : List Expr} {kk : Nat} {tp : Pos}
def iZip (ta : TA) : TI := fun σ H R => ta σ H fun vs H1 => ∃ a b xs ys, vs = [.ref a, .ref b] ∧ H1 a = some (.lst xs) ∧ H1 b = some (.lst ys) ∧ R (Itz a b) H1
theorem pi_zip {l1 l2 : Expr} {ta : TA} {p pos : Pos} (hg : Gl X "zip") (hm : X.mg "zip" = none) (ha : PA X [l1, l2] ta) (hs : starEach [l1, l2] X.env = [(false, eval l1 X.env), (false, eval l2 X.env)] := by rfl) (hs2 : starEach [l2] X.env = [(false, eval l2 X.env)] := by rfl) :
    PI X (.Tuple elts kk tp) (.Call (.Name "zip" p) [l1, l2] [] pos) (iZip ta) := by
  intro pins s σ H R I h
  refine Call_ (ld_blt I hg hm boot_zip (PyProof.Rows.callWith_type1 (thn (ha pos pins s σ H _ I h) fun us s1 ⟨vs, H1, I1, r1, q1⟩ => ?_) (by rw [hs, hs2]) (by rw [hs2]; rfl)))
  obtain ⟨a, b, xs, ys, e, hx, hy, q⟩ := q1
  subst e
  obtain ⟨u, v, rfl, ru, rv⟩ := vals2 r1
  cases ru; cases rv
  obtain ⟨its, _, pl, _⟩ := I1.list (SqL.of hx)
  obtain ⟨jts, _, pl2, _⟩ := I1.list (SqL.of hy)
  refine call_zip_2 pl.isList pl2.isList fun h' hz hTI hTO hi1 hi2 hsz hk => ?_
  have I2 : Inv X pins σ H1 { s1 with heap := h' } := I1.kept (t' := s1.toks) hk
  refine wpAny_pyIter_zip hz ⟨s1.heap.objs.size + 4, [s1.heap.objs.size + 4, s1.heap.objs.size + 2, s1.heap.objs.size + 3, s1.heap.objs.size, s1.heap.objs.size + 1], _, _, H1, rfl, I2, turn_zip a b _ _ _ _ _ ?_, ⟨hz, hTI, ⟨_, _, hTO⟩, hi1, hi2⟩, fun c hc => ?_, q⟩
  · simp only [List.nodup_cons, List.mem_cons, List.not_mem_nil, or_false, not_or, List.nodup_nil, and_true]
    generalize s1.heap.objs.size = n
    refine ⟨⟨?_, ?_, ?_, ?_⟩, ⟨?_, ?_, ?_⟩, ⟨?_, ?_⟩, ?_, ?_⟩ <;> first | (intro q; have q' : (_ : Nat) = _ := q; omega) | (intro q; omega)
  · have hc' : c = s1.heap.objs.size + 4 ∨ c = s1.heap.objs.size + 2 ∨ c = s1.heap.objs.size + 3 ∨ c = s1.heap.objs.size ∨ c = s1.heap.objs.size + 1 := by simpa using hc
    have hle : s1.heap.objs.size ≤ c := by
      rcases hc' with z | z | z | z | z
      · rw [z]; exact Nat.le_add_right _ _
      · rw [z]; exact Nat.le_add_right _ _
      · rw [z]; exact Nat.le_add_right _ _
      · rw [z]; exact Nat.le_refl _
      · rw [z]; exact Nat.le_add_right _ _
    exact I1.fpOk hle (I1.hok.fresh hle)
end

/-! ### sum, max, sorted of ints, reversed -/
section
variable {X : Cx}
theorem ints_rel {ns : List Int} {us : List Value} (r : Vals (ns.map V.int) us) : IntsAre us ns := intsAre_of r
theorem call_sum (hc : X.calm = true) : CallR X (.builtin "sum") (fun xs H Q => ∃ (p : Addr) (ns : List Int), xs = [.ref p] ∧ SqL X.K H p (ns.map V.int) ∧ Q (.int ns.sum) H) := by
  intro pins s σ H xs us Q I r h
  obtain ⟨p, ns, e, hq, q⟩ := h
  subst e
  obtain ⟨u, rfl, ru⟩ := vals1 r
  cases ru
  obtain ⟨its, rv, pl, _⟩ := I.list hq
  have hi := ints_rel rv
  obtain ⟨zs, hx⟩ := hi.allInts.items
  have hl' : s.heap.IsList p (intItems zs) := hx ▸ pl.isList
  refine PySem.sum_intListG (I.ok.hd hc) hl' fun h' tk t' hk => ?_
  have e1 : ns = zs.toList.map (·.1) := by
    rw [← nums_intItems, ← hx]
    exact (show numsOf its.toArray.toList = ns from hi.numsOf).symm
  have e2 : preSum (numAt zs) zs.size = ns.sum := by
    rw [preSum_eq, List.take_of_length_le (by simp), e1]
  rw [e2]
  exact ⟨.int ns.sum, H, I.kept hk, ⟨_, rfl⟩, q⟩
theorem call_max (hc : X.calm = true) : CallR X (.builtin "max") (fun xs H Q => ∃ (p : Addr) (ns : List Int), xs = [.ref p] ∧ SqL X.K H p (ns.map V.int) ∧ ns ≠ [] ∧ ∀ M, M ∈ ns → (∀ a ∈ ns, a ≤ M) → Q (.int M) H) := by
  intro pins s σ H xs us Q I r h
  obtain ⟨p, ns, e, hq, hne, q⟩ := h
  subst e
  obtain ⟨u, rfl, ru⟩ := vals1 r
  cases ru
  obtain ⟨its, rv, pl, _⟩ := I.list hq
  have hi := ints_rel rv
  obtain ⟨zs, hx⟩ := hi.allInts.items
  have hns : ns = zs.toList.map (·.1) := by rw [← hi.numsOf, ← nums_intItems, ← hx]
  have h3 : 0 < ns.length := List.length_pos_iff.mpr hne
  have hsz : 0 < zs.size := by rw [hns, List.length_map, Array.length_toList] at h3; exact h3
  have hl' : s.heap.IsList p (intItems zs) := hx ▸ pl.isList
  refine max_intList (I.ok.hd hc) hl' hsz fun v h' tk hv hk => ?_
  obtain ⟨t, rfl⟩ := intItems_at hv
  obtain ⟨b1, b2⟩ := argBest_gt (numAt zs) (zs.size - 1)
  refine ⟨.int _, H, I.kept hk, ⟨_, rfl⟩, q _ ?_ fun a ha => ?_⟩
  · rw [hns, numAt_eq]; exact getD_mem (by rw [List.length_map, Array.length_toList]; omega)
  · rw [hns] at ha
    obtain ⟨j, hj, rfl⟩ := mem_getD ha
    rw [List.length_map, Array.length_toList] at hj
    rw [← numAt_eq]; exact b2 j (by omega)
theorem call_min3 (hc : X.calm = true) : CallR X (.builtin "min") (fun xs H Q => ∃ i j k : Int, xs = [.int i, .int j, .int k] ∧ Q (.int (if j < i then (if k < j then k else j) else (if k < i then k else i))) H) := by
  intro pins s σ H xs us Q I r h
  obtain ⟨i, j, k, e, q⟩ := h
  subst e
  cases r with
  | cons r1 rr => cases rr with
    | cons r2 rr => cases rr with
      | cons r3 rr =>
        cases rr
        obtain ⟨t, rfl⟩ := r1; obtain ⟨t2, rfl⟩ := r2; obtain ⟨t3, rfl⟩ := r3
        refine min_three_ints (I.ok.hd hc) fun h' tk hk => ⟨.int _, H, I.kept hk, ?_, q⟩
        split
        · split
          · exact ⟨_, rfl⟩
          · exact ⟨_, rfl⟩
        · split
          · exact ⟨_, rfl⟩
          · exact ⟨_, rfl⟩
theorem vals_of_ints : ∀ {us : List Value} {ns : List Int}, IntsAre us ns → Vals (ns.map V.int) us := fun h => vals_ints h
theorem call_sorted_ints : CallR X (.builtin "sorted") (fun xs H Q => ∃ (p : Addr) (ns : List Int), xs = [.ref p] ∧ SqL X.K H p (ns.map V.int) ∧ ns.length < 64 ∧ ∀ (r : Addr) (ms : List Int), H r = none → ms.Perm ns → ms.Pairwise (· ≤ ·) → Q (.ref r) (upd H r (.lst (ms.map V.int)))) := by
  intro pins s σ H xs us Q I r h
  obtain ⟨p, ns, e, hq, h64, q⟩ := h
  subst e
  obtain ⟨u, rfl, ru⟩ := vals1 r
  cases ru
  obtain ⟨its, rv, pl, _⟩ := I.list hq
  have hi := ints_rel rv
  have hlen : its.length < 64 := by have := rv.length; rw [List.length_map] at this; omega
  refine sorted_ints pl.isList hi hlen fun out ms a1 a2 a3 => ?_
  obtain ⟨e, he⟩ := sortedAll_at s.heap its out
  have hz : ms.length ≤ 1000 := by have := a2.length_eq; omega
  refine ⟨.ref (s.heap.objs.size + 1), _, I.laid (t' := s.toks) (a := s.heap.objs.size + 1) (o := .lst (ms.map V.int)) (fun b o q => sortedAll_old q) (Nat.le_succ _) ⟨?_, out.toList, e, vals_of_ints a1, he⟩, rfl, q _ ms (I.hok.fresh (Nat.le_succ _)) a2 a3⟩
  rw [List.length_map]; exact Nat.le_of_lt (small1000 hz)
end
end L2

set_option Elab.async false
set_option linter.all false
set_option maxRecDepth 100000
set_option maxHeartbeats 4000000
namespace L2
open PySem PySem.Spec PyProof.Rows PySem.W

theorem ns_uniq {h : Heap} {a : Addr} {m m' : Str → Option Value} (x : h.Ns a m) (y : h.Ns a m') : m = m' := by
  obtain ⟨o, es, ep, e1, e2, _, e4⟩ := x
  obtain ⟨o', es', ep', f1, f2, _, f4⟩ := y
  rw [e1] at f1; cases f1
  rw [e2] at f2
  injection f2 with g1 _
  subst g1
  funext n
  exact (e4 n).symm.trans (f4 n)
abbrev nul (h : Heap) : Heap := Att.noObjs h
theorem fr0 {h h' : Heap} {L : Addr} {m : Str → Option Value} (n : h'.Ns L m) : Fr (nul h) L h' m := ⟨n, fun b o e => (by rw [Att.noObjs_get] at e; cases e), Nat.zero_le _⟩

section
variable {X : Cx} {pins : List (Addr × Obj)} {σ : St} {H : Hp} {s : Shared} {h' : Heap}
/-- all but the frame (its map is kept) and the records at ch are kept -/
theorem Inv.ledL {t' : Nat} {ch : List Addr} {m : Str → Option Value} (I : Inv X pins σ H s) (hm : s.heap.Ns X.env.locals m) (hm' : h'.Ns X.env.locals m)
    (k : ∀ b o, b ≠ X.env.locals → b ∉ ch → s.heap.get? b = some o → h'.get? b = some o) (hf : ∀ b ∈ ch, FpOk X pins H b) : Inv X pins σ H { s with heap := h', toks := t' } := by
  have nit : ∀ b u, H b = some u → b ≠ X.env.locals ∧ b ∉ ch := fun b u e => ⟨fun z => (by rw [z, I.free] at e; cases e), fun z => (by rw [(hf b z).1] at e; cases e)⟩
  refine I.step (g' := s.gens) (d' := s.drawn) (ch := ch) (fun b hb => ?_) (fun b o h1 _ hc e _ => k b o h1 hc e) (fun b o h1 _ hc e _ => ⟨o.slots, k b o h1 hc e⟩) (fun _ _ _ _ n => n)
    (fun b o hc e => ?_) (fun _ _ e => e) (fun _ _ _ e => e) (fun b ps e => ⟨#[], by rw [e]; simp⟩) (fun m2 hm2 => ?_) (fun b u e => ?_) I.bare
  · obtain ⟨_, f1, _, f3, f4, f5⟩ := hf b hb
    exact ⟨f3, f1, f4, f5⟩
  · by_cases h1 : b = X.env.locals
    · obtain ⟨o', _, _, e', _⟩ := hm'
      exact ⟨o', by rw [h1]; exact e'⟩
    · exact ⟨o, k b o h1 hc e⟩
  · rw [← ns_uniq hm hm2]; exact hm'
  · refine (I.hok b u e).stay (fun c v hc q => ?_) (fun _ q => q) fun _ _ q => q
    have hn : c ≠ X.env.locals ∧ c ∉ ch := by
      rcases hc with z | z
      · rw [z]; exact nit b u e
      · exact nit c _ z
    exact k c v hn.1 hn.2 q
end

/-! ### pairs of ints in tuples, ordered as tuples are -/
def lex2 : KeyOrd where
  α := Int × Int
  blt p q := decide (p.1 < q.1) || (decide (p.1 = q.1) && decide (p.2 < q.2))
  irrefl a := by simp
  trans a b c h1 h2 := by
    simp only [Bool.or_eq_true, Bool.and_eq_true, decide_eq_true_eq] at h1 h2 ⊢; omega
  negTrans a b c h := by
    simp only [Bool.or_eq_true, Bool.and_eq_true, decide_eq_true_eq] at h ⊢; omega
  total a b h1 h2 := by
    simp only [Bool.or_eq_false_iff, Bool.and_eq_false_iff, decide_eq_false_iff_not] at h1 h2
    obtain ⟨a1, a2⟩ := a; obtain ⟨b1, b2⟩ := b
    simp only at h1 h2
    have e1 : a1 = b1 := by omega
    have e2 : a2 = b2 := by omega
    rw [e1, e2]
abbrev lexle (p q : Int × Int) : Prop := lex2.blt q p = false
abbrev Zs := List (Addr × (Int × Int))
def ZsOk (H : Hp) (zs : Zs) : Prop := ∀ z ∈ zs, H z.1 = some (.tup [.int z.2.1, .int z.2.2])
def zRefs (zs : Zs) : List V := zs.map fun z => V.ref z.1

def TupAt (h : Heap) (v : Value) (p : Int × Int) : Prop := ∃ a t u, v = .ref a ∧ IsTup h a #[.int p.1 t, .int p.2 u]
theorem TupAt.of {P : Program} {w : World} {H : Hp} {h : Heap} {a : Addr} {p : Int × Int} (ok : HOk P w H h) (e : H a = some (.tup [.int p.1, .int p.2])) : TupAt h (.ref a) p := by
  obtain ⟨_, its, r, q⟩ := (show ObjOk P w H h a (.tup [.int p.1, .int p.2]) from ok a _ e)
  obtain ⟨u, v, rfl, ⟨t, rfl⟩, ⟨t', rfl⟩⟩ := vals2 r
  exact ⟨a, t, t', rfl, q⟩
theorem TupAt.keeps {h h' : Heap} {v : Value} {p : Int × Int} (x : TupAt h v p) (k : ∀ a, v = .ref a → ∀ o, h.get? a = some o → h'.get? a = some o) : TupAt h' v p := by
  obtain ⟨a, t, u, rfl, o, e, r⟩ := x
  exact ⟨a, t, u, rfl, o, k a rfl o e, r⟩
section
variable {prog : Program} {w : World} {A : Around} {E : Value → Shared → Prop} {s : Shared}
theorem tup_lt {v v' : Value} {p q : Int × Int} {Q : Bool → Shared → Prop} (h1 : TupAt s.heap v p) (h2 : TupAt s.heap v' q) (h : Q (lex2.blt p q) s) : wpAny (model prog w) A (keyLt' (tuples' true) v v') Q E s := by
  obtain ⟨a, t, u, rfl, o, e1, _, n, d1⟩ := h1
  obtain ⟨a', t', u', rfl, o', e2, _, n', d2⟩ := h2
  refine kat_lt e1 d1 e2 d2 ?_
  show KatLex prog w A true _ Q [(.int p.1 t, .int q.1 t'), (.int p.2 u, .int q.2 u')] 0 s
  refine kat_cons (wpAny_eqBool_int ?_)
  have hq : lex2.blt p q = (decide (p.1 < q.1) || (decide (p.1 = q.1) && decide (p.2 < q.2))) := rfl
  by_cases c1 : p.1 = q.1
  · have b1 : (p.1 == q.1) = true := by simpa using c1
    rw [b1]
    refine kat_yes (kat_cons (wpAny_eqBool_int ?_))
    by_cases c2 : p.2 = q.2
    · have b2 : (p.2 == q.2) = true := by simpa using c2
      rw [b2]
      refine kat_yes (kat_nil ?_)
      have ef : lex2.blt p q = false := by rw [hq, c1, c2]; simp
      rw [ef] at h
      exact h
    · have b2 : (p.2 == q.2) = false := by simpa using c2
      rw [b2]
      refine kat_no (kat_one _ _ (lt_int ?_))
      have ef : lex2.blt p q = decide (p.2 < q.2) := by rw [hq, c1]; simp
      rw [ef] at h
      exact h
  · have b1 : (p.1 == q.1) = false := by simpa using c1
    rw [b1]
    refine kat_no (oneLt_int ?_)
    have ef : lex2.blt p q = decide (p.1 < q.1) := by rw [hq]; simp [c1]
    rw [ef] at h
    exact h
theorem tup_kind : ∀ {vs : List Value} {ps : List (Int × Int)}, Paired (TupAt s.heap) vs ps → ∃ fs, KatTups s.heap vs fs ∧ fs.length = vs.length ∧ ∀ f ∈ fs, ∃ i t, f = .int i t
  | _, _, .nil => ⟨[], KatTups.nil, rfl, fun _ h => nomatch h⟩
  | _, _, .cons h r => by
    obtain ⟨fs, k1, k2, k3⟩ := tup_kind r
    obtain ⟨a, t, u, rfl, o, e1, c1, n, d1⟩ := h
    exact ⟨_ :: fs, KatTups.cons e1 c1 d1 rfl k1, by simp [k2], fun f hf => by
      rcases List.mem_cons.mp hf with z | z
      · exact ⟨_, _, z⟩
      · exact k3 f z⟩
theorem kind_tups {vs : List Value} {ps : List (Int × Int)} {Q : SortKind → Shared → Prop} (h : Paired (TupAt s.heap) vs ps) (h2 : 1 ≤ vs.length) (q : Q (tuples' true) s) : wpAny (model prog w) A (keyKind' vs.toArray) Q E s := by
  obtain ⟨fs, k1, k2, k3⟩ := tup_kind h
  refine kat_kind (T := .type "int") k1 (by omega) (fun f hf => ?_) rfl q
  obtain ⟨i, t, rfl⟩ := k3 f hf
  exact fun A Q E s _ hq => wpAny_of_eq rfl hq
theorem paired_getD {R : Value → (Int × Int) → Prop} : ∀ {vs : List Value} {ps : List (Int × Int)}, Paired R vs ps → ∀ i, i < vs.length → R (vs.getD i Value.none) (ps.getD i (0, 0))
  | _, _, .nil, i, h => by simp at h
  | _, _, .cons r _, 0, _ => by simpa using r
  | _, _, .cons _ t, i + 1, h => by simpa using paired_getD t i (by simpa using h)
theorem asks_tups {vs : List Value} {ps : List (Int × Int)} {s₀ : Shared} (h : Paired (TupAt s₀.heap) vs ps) : WB.Asks lex2 (fun i => ps.getD i (0, 0)) vs.length (fun s' => s' = s₀) (kas_ask prog w A (tuples' true) vs) := by
  intro i j C s hi hj hJ hC
  subst hJ
  exact tup_lt (paired_getD h i hi) (paired_getD h j hj) (hC s rfl)
end

/-- the order that the sort found, as a list of the items with their keys -/
theorem out_zs {zs : Zs} {f : Int × Int → Int × Int} {p : Array Nat} (hp : WB.PermN zs.length p) (hu : WB.UpTo (O := lex2) (fun i => (zs.map fun z => f z.2).getD i (0, 0)) p zs.length) {us : List Value} (hus : us = zs.map fun z => Value.ref z.1) :
    ∃ zs' : Zs, zs'.Perm zs ∧ (zs'.map fun z => f z.2).Pairwise lexle ∧ (p.toList.map fun i => us.getD i Value.none) = zs'.map fun z => Value.ref z.1 := by
  refine ⟨p.toList.map fun i => zs.getD i (0, (0, 0)), ?_, ?_, ?_⟩
  · refine (WB.UpTo.out hp hu (fun i => zs.getD i (0, (0, 0))) (items := zs) ?_).1
    apply List.ext_getElem?
    intro i
    rw [List.getElem?_map]
    by_cases h : i < zs.length
    · rw [List.getElem?_range h, List.getElem?_eq_getElem h]; simp [h]
    · rw [List.getElem?_eq_none (by omega), List.getElem?_eq_none (by simpa using h)]; rfl
  · have h2 := (WB.UpTo.out hp hu (fun i => zs.getD i (0, (0, 0))) (items := (List.range zs.length).map _) rfl).2
    rw [List.map_map]
    have e : (p.toList.map ((fun z => f z.2) ∘ fun i => zs.getD i (0, (0, 0)))) = p.toList.map fun i => (zs.map fun z => f z.2).getD i (0, 0) := by
      apply List.map_congr_left
      intro i hi
      have hlt : i < zs.length := by
        have := (Array.perm_iff_toList_perm.mp hp.perm).mem_iff.mp hi
        simpa using this
      simp [List.getD_eq_getElem?_getD, hlt]
    rw [e]
    exact h2
  · rw [List.map_map]
    apply List.map_congr_left
    intro i hi
    have hlt : i < zs.length := by
      have := (Array.perm_iff_toList_perm.mp hp.perm).mem_iff.mp hi
      simpa using this
    subst hus
    simp [List.getD_eq_getElem?_getD, hlt]
theorem out_small {zs : Zs} {f : Int × Int → Int × Int} (h : zs.length < 2) : (zs.map fun z => f z.2).Pairwise lexle := by
  match zs, h with
  | [], _ => exact List.Pairwise.nil
  | [z], _ => exact List.pairwise_singleton _ _
  | _ :: _ :: _, h => exact absurd h (by simp only [List.length_cons]; omega)
theorem vals_refs : ∀ (zs : Zs), Vals (zRefs zs) (zs.map fun z => Value.ref z.1)
  | [] => .nil
  | z :: r => .cons rfl (vals_refs r)
theorem refs_eq : ∀ {zs : Zs} {us : List Value}, Vals (zRefs zs) us → us = zs.map fun z => Value.ref z.1
  | [], _, .nil => rfl
  | z :: zs, _, .cons r t => by rw [refs_eq t]; cases r; rfl
theorem zs_tups {h : Heap} : ∀ {zs : Zs}, (∀ z ∈ zs, TupAt h (.ref z.1) z.2) → Paired (TupAt h) (zs.map fun z => Value.ref z.1) (zs.map fun z => z.2)
  | [], _ => .nil
  | z :: zs, hz => .cons (hz z List.mem_cons_self) (zs_tups fun y hy => hz y (List.mem_cons_of_mem _ hy))

/-! ### sorted of a list of pairs -/
section
variable {prog : Program} {w : World} {A : Around} {E : Value → Shared → Prop} {s : Shared}
theorem small_sort {a : Addr} {vs : List Value} {n : Nat} {R : PySem.Fin → Shared → Prop} (hob : s.heap.get? a = some (seqObj "list" vs.toArray n)) (hfew : vs.length < 2)
    (hend : R (.done (.ret .none)) { s with heap := sortedHeap s.heap a vs vs.toArray }) : wpAny (model prog w) A (Builtin.«list.sort» ⟨[.ref a], []⟩) R E s := by
  rw [list_sort_plain]
  have hal : a < s.heap.objs.size := Heap.lt_size hob
  have hfs : vs.toArray.size < 2 := by simpa using hfew
  have hln : vs.length ≤ sizeLine := Nat.le_of_lt (small1000 (by omega))
  refine wpAny_bind (listItems_at hob rfl (wpAny_bind (listUpdate_at hob rfl ?_ (by rw [List.size_toArray]; exact hln) (Nat.zero_le _))))
  obtain ⟨c1, hc1⟩ : ∃ c1, (s.heap.update a (Obj.mapSeq fun _ => (#[] : Array Value))).get? a = some (seqObj "list" #[] c1) := ⟨_, get?_update_seq hob fun _ => #[]⟩
  refine wpAny_bind (seqEpoch_at hc1 rfl (wpAny_bind (wpAny_newTuple (hsz := by show vs.length ≤ _; exact hln) (wpAny_bind (wpAny_newList ?_ (Nat.zero_le _))))))
  refine wpAny_holding ?_
  have hc2 : (((s.heap.update a (Obj.mapSeq fun _ => (#[] : Array Value))).push (seqObj "tuple" vs.toArray 0)).push (seqObj "list" #[] 0)).get? a = some (seqObj "list" #[] c1) := Heap.get?_push_of_some _ (Heap.get?_push_of_some _ hc1)
  show wpAny (model prog w) A _ R E { s with heap := ((s.heap.update a (Obj.mapSeq fun _ => (#[] : Array Value))).push (seqObj "tuple" vs.toArray 0)).push (seqObj "list" #[] 0) }
  dsimp only
  rw [if_pos hfs, if_pos hfs]
  refine wpAny_bind (wpAny_pure ?_)
  rw [StateT.run_pure]
  refine wpAny_bind (wpAny_pure ?_)
  dsimp only
  have hsnd : ((vs.toArray.zip vs.toArray).map (·.2)) = vs.toArray := by
    apply Array.ext'
    simp [List.map_snd_zip]
  have harr : (arrOf (SortSt.mk' general' (vs.toArray.zip vs.toArray) #[] 7 none)).map (·.2) = vs.toArray := hsnd
  refine wpAny_bind (seqEpoch_at hc2 rfl ?_)
  refine wpAny_bind (listUpdate_at hc2 rfl ?_ (Nat.zero_le _) (by rw [harr, List.size_toArray]; exact Nat.le_succ_of_le hln))
  rw [harr]
  simp only [bne_self_eq_false, Bool.false_eq_true, if_false]
  exact wpAny_pure hend
theorem sorted_wrap {l : Addr} {vs : List Value} {kw : List (Str × Value)} {Q : Value → Shared → Prop} (hl : s.heap.IsList l vs.toArray) (hln : vs.length ≤ sizeLine) (ha1 : argsOk "sorted" ⟨[.ref l], kw⟩) (ha2 : ∀ x, argsOk "list.sort" ⟨[.ref x], kw⟩)
    (h : ∀ h1 : Heap, (∀ b o, s.heap.get? b = some o → h1.get? b = some o) → h1.get? (s.heap.objs.size + 1) = some (seqObj "list" vs.toArray 0) → h1.objs.size = s.heap.objs.size + 2 →
      wpAny (model prog w) A.in1.in1 (Builtin.«list.sort» ⟨[.ref (s.heap.objs.size + 1)], kw⟩) (fun fin s' => fin = .done (.ret .none) ∧ Q (.ref (s.heap.objs.size + 1)) s') (fun _ _ => False) { s with heap := h1 }) :
    wpAny (model prog w) A (call (.builtin "sorted") [.ref l] kw) Q E s := by
  refine call_function_entry_kw kind_sorted plain_sorted entry_sorted ha1 ?_
  unfold Builtin.«sorted»
  refine wpAny_bind (m := checkCount "sorted" 1 1 _) (wpAny_pure (wpAny_bind (collect_list hl (wpAny_bind (wpAny_newList ?_ hln)) hln)))
  have hz1 : ((s.heap.push (seqObj "list" #[] 0)).update s.heap.objs.size (Obj.mapSeq (· ++ vs.toArray))).objs.size = s.heap.objs.size + 1 := (Heap.size_update ..).trans (size_push' ..)
  have hob : (((s.heap.push (seqObj "list" #[] 0)).update s.heap.objs.size (Obj.mapSeq (· ++ vs.toArray))).push (seqObj "list" vs.toArray 0)).get? (s.heap.objs.size + 1) = some (seqObj "list" vs.toArray 0) := by
    have z := Heap.get?_push_size ((s.heap.push (seqObj "list" #[] 0)).update s.heap.objs.size (Obj.mapSeq (· ++ vs.toArray))) (o := seqObj "list" vs.toArray 0) rfl
    rw [hz1] at z; exact z
  have keep : ∀ b o, s.heap.get? b = some o → (((s.heap.push (seqObj "list" #[] 0)).update s.heap.objs.size (Obj.mapSeq (· ++ vs.toArray))).push (seqObj "list" vs.toArray 0)).get? b = some o := fun b o q => by
    have hlt : b < s.heap.objs.size := Heap.lt_size q
    refine Heap.get?_push_of_some _ ?_
    rw [Heap.get?_update_ne _ _ _ _ (Nat.ne_of_lt hlt)]
    exact Heap.get?_push_of_some _ q
  show wpAny _ _ _ _ _ { s with heap := ((s.heap.push (seqObj "list" #[] 0)).update s.heap.objs.size (Obj.mapSeq (· ++ vs.toArray))).push (seqObj "list" vs.toArray 0) }
  rw [hz1]
  refine wpAny_bind (wpAny_holding (wpAny_call_entry_kw slot_list_sort ⟨_, hob, rfl⟩ entry_list_sort ?body (ha2 _)))
  case body =>
    refine wpAny_mono (h _ keep hob ((size_push' ..).trans (by rw [hz1]))) (fun fin s' hq => ?_) fun _ _ z => z.elim
    obtain ⟨rfl, hq⟩ := hq
    exact ⟨_, rfl, wpAny_pure ⟨_, rfl, hq⟩⟩
end
section
variable {X : Cx}
theorem len_zr (zs : Zs) : (zRefs zs).length = zs.length := by unfold zRefs; simp
/-- sorted(pairs) -/
theorem call_sorted_pairs : CallR X (.builtin "sorted") (fun xs H Q => ∃ p zs, xs = [.ref p] ∧ SqL X.K H p (zRefs zs) ∧ ZsOk H zs ∧ zs.length < 64 ∧ ∀ r zs', H r = none → zs'.Perm zs → (zs'.map fun z => z.2).Pairwise lexle → Q (.ref r) (upd H r (.lst (zRefs zs')))) := by
  intro pins s σ H xs us Q I r h
  obtain ⟨p, zs, e, hq, hz, h64, q⟩ := h
  subst e
  obtain ⟨u, rfl, ru⟩ := vals1 r
  cases ru
  obtain ⟨its, rv, pl, _⟩ := I.list hq
  have hits := refs_eq rv
  have hlen : its.length = zs.length := by rw [hits]; simp
  have hzl : ∀ zs' : Zs, zs'.Perm zs → (zRefs zs').length ≤ sizeLine := fun zs' hp => by rw [len_zr, hp.length_eq]; exact Nat.le_of_lt (small1000 (by omega))
  refine sorted_wrap (kw := []) pl.isList (by rw [hlen]; exact Nat.le_of_lt (small1000 (by omega))) (args_sorted1 _) (fun x => args_list_sort _) fun h1 keep hob hsz => ?_
  have hfr : H (s.heap.objs.size + 1) = none := I.hok.fresh (Nat.le_succ _)
  have fpo : FpOk X pins H (s.heap.objs.size + 1) := I.fpOk (Nat.le_succ _) hfr
  obtain ⟨f0, f1, f2, f3, f4⟩ := I.fresh0 (Nat.le_succ s.heap.objs.size)
  have I1 : Inv X pins σ H { s with heap := h1 } := I.kept (t' := s.toks) keep
  obtain ⟨m, hn, _⟩ := id I1.loc
  have fin : ∀ (h2 : Heap) (zs' : Zs) (c : Nat), h2.Ns X.env.locals m → (∀ b o, b ≠ X.env.locals → b ∉ [s.heap.objs.size + 1] → h1.get? b = some o → h2.get? b = some o) → h2.get? (s.heap.objs.size + 1) = some (seqObj "list" (zs'.map fun z => Value.ref z.1).toArray c) →
      zs'.Perm zs → (zs'.map fun z => z.2).Pairwise lexle → EP X pins σ Q (.ref (s.heap.objs.size + 1)) { s with heap := h2 } := fun h2 zs' c hns hk hD hp hs => by
    have I2 : Inv X pins σ H { s with heap := h2 } := Inv.ledL (s := { s with heap := h1 }) (t' := s.toks) (ch := [s.heap.objs.size + 1]) I1 hn hns hk fun b hb => by rw [List.mem_singleton.mp hb]; exact fpo
    exact ⟨.ref (s.heap.objs.size + 1), _, I2.track (o := .lst (zRefs zs')) f0 f1 f2 f3 f4 ⟨hzl zs' hp, _, c, vals_refs zs', hD⟩, rfl, q _ zs' f0 hp hs⟩
  by_cases hfew : its.length < 2
  · refine small_sort hob hfew ⟨rfl, ?_⟩
    obtain ⟨c, hc⟩ := sortedHeap_at (out := its.toArray) hob
    refine fin _ zs c ?_ (fun b o _ hb e => ?_) (by rw [hits] at hc ⊢; exact hc) (List.Perm.refl _) (out_small (f := id) (by omega))
    · obtain ⟨o, es, ep, e, r⟩ := hn
      exact ⟨o, es, ep, (sortedHeap_old (Ne.symm f2) (Heap.lt_size e)).trans e, r⟩
    · exact (sortedHeap_old (by simpa using hb) (Heap.lt_size e)).trans e
  · refine kat_list_sort (h₀ := nul s.heap) (L := X.env.locals) (m := m) (news := rest (nul s.heap) h1 X.env.locals (s.heap.objs.size + 1)) (fr0 hn) (fun y hy => news_all y (List.mem_filter.mp hy).1) hob f2 (Att.noObjs_get _ _) rest_ne (by omega) (by omega) fun e1 h' F' N' => ?_
    have kept : ∀ b o, b ≠ X.env.locals → b ≠ s.heap.objs.size + 1 → h1.get? b = some o → h'.get? b = some o := fun b o g1 g2 e => (N' (b, o) (List.mem_cons_of_mem _ (mem_rest g1 (Att.noObjs_get _ _) e g2))).1
    have tups : Paired (TupAt h') its (zs.map fun z => z.2) := by
      rw [hits]
      refine zs_tups fun z hz' => (TupAt.of I1.hok (hz z hz')).keeps fun a ha o e => ?_
      cases ha
      exact kept z.1 o (ne_of_none (hz z hz') I1.free) (ne_of_none (hz z hz') hfr) e
    refine kind_tups (s := { s with heap := h' }) tups (by omega) ?_
    refine WB.kas_sort_ok (asks_tups (s₀ := { s with heap := h' }) tups) (by omega) rfl fun pm s' hp hu hJ => ?_
    subst hJ
    rw [hlen] at hp hu
    obtain ⟨zs', hperm, hsort, hout⟩ := out_zs (f := fun z => z) hp hu hits
    rw [hout]
    refine KasFin.intro F' N' (.head rest_ne) fun h2 c F2 N2 => ⟨rfl, ?_⟩
    refine fin h2 zs' c F2.ns (fun b o g1 g2 e => (N2 (b, o) (List.mem_cons_of_mem _ (mem_rest g1 (Att.noObjs_get _ _) e (by simpa using g2)))).1) (N2 _ List.mem_cons_self).1 hperm hsort
end
end L2

set_option Elab.async false
set_option linter.all false
set_option maxRecDepth 100000
set_option maxHeartbeats 4000000
namespace L2
open PySem PySem.Spec PyProof.Rows PySem.W

/-! ### a lambda's call -/
theorem lam_run {P : Program} {w : World} {K : PySem.W.Frag} {mg : Str → Option Value} {base : Heap} {A : Around} {outer : List Env} {s : Shared} {H : Hp} {k : Nat} {f c' : Addr} {name qual : Str} {params : Arguments} {body : Expr} {scope : Scope} {pm ctv : Value} {N ps : List Str} {us : List Value} {vs : List V} {Q : VK} {E : Value → Shared → Prop}
    (hr : Room (k + 1) A) (e0 : Env0 P w K mg base A outer s H) (ho : s.heap.get? f = some (kla_obj name qual params body scope [] pm c' ctv)) (hcd : s.heap.CodeRec (.ref c') qual) (S : FnScope N ps scope)
    (hb : BindsTo s (kla_fn name qual params body scope [] pm (.ref c') ctv) ⟨us, []⟩ (ps.zip us)) (r : Vals vs us) (hl : vs.length = ps.length)
    (hbody : ∃ te, PE (cxOf CX0 P w K mg base N qual scope f (.ref c') A outer s H E0).nox body te ∧ te (start N vs) H Q) : wpAny (model P w) A (call (.ref f) us) (CE outer P w H s Q) E s := by
  have lim : s.heap.NoLimit := e0.mod.nolimit.keeps fun b o e => (e0.bs b o e).1
  have hkind : ∀ y ∈ ps.zip us, scope.names.lookup y.1 = some .local ∨ (scope.names.lookup y.1 = some .cell ∧ ((cellsFrom (s.heap.objs.size + 1) scope.names []).lookup y.1).isSome = true) := fun ⟨n, v⟩ hy => by
    rcases S.par n (List.of_mem_zip hy).1 with q | q
    · exact .inl q
    · exact .inr ⟨q, PySem.W.cellsFrom_some _ _ _ (.inl q)⟩
  refine wpAny_call (kla_callFunE hr.depth ho rfl S.co S.gen rfl hcd (hb _ _ _ _ ?_))
  refine wpAny_newFunctionEnv_cells S.kind hkind fun env he s1 x => ?_
  subst he
  refine ⟨lim.keeps x.toInCall.keep, kla_codeExpr ?_⟩
  obtain ⟨te, hte, hq⟩ := hbody
  have I : Inv (cxOf CX0 P w K mg base N qual scope f (.ref c') A outer s H E0) [] (start N vs) H s1 := inv_start S hr.hd e0 hl r x
  refine wpAny_mono (hte [] s1 (start N vs) H Q (I.wish _) hq) (fun u s' hu => ?_) fun _ _ z => False.elim z
  obtain ⟨v, H', J, rv, q⟩ := hu
  exact ⟨v, H', J.os, J.bare, J.base, J.hok, rv, q⟩

/-! ### few items, by a key -/
section
variable {prog : Program} {w : World} {A : Around} {E : Value → Shared → Prop} {s : Shared} {h₀ : Heap} {L a kS : Addr} {m : Str → Option Value} {news : List (Addr × Obj)} {vs : List Value}
theorem key_small {f : Value} {n : Nat} {R : PySem.Fin → Shared → Prop} (F : Fr h₀ L s.heap m) (N : News h₀ L s.heap news) (hob : s.heap.get? a = some (seqObj "list" vs.toArray n)) (haL : a ≠ L) (ha0 : h₀.get? a = none) (hna : ∀ p ∈ news, p.1 ≠ a) (hfew : vs.length < 2)
    (h : ∀ kS c1 h', Fr h₀ L h' m → News h₀ L h' ((kS, seqObj "list" #[] 0) :: (a, seqObj "list" #[] c1) :: news) → a < kS → (∀ q ∈ news, q.1 < kS) →
      KatKeys prog w A h₀ L m kS f (fun ks e s' => KatFin h₀ L m kS a ks e c1 vs (fun s4 => R (.done (.ret .none)) s4) s') vs [] 0 { s with heap := h' }) :
    wpAny (model prog w) A (ksk_tree a f false) R E s := by
  have hal : a < s.heap.objs.size := Heap.lt_size hob
  have hfs : vs.toArray.size < 2 := by simpa using hfew
  have hln : vs.length ≤ sizeLine := Nat.le_of_lt (small1000 (by omega))
  have sb := Heap.SameBut.update s.heap a (Obj.mapSeq fun _ => (#[] : Array Value))
  obtain ⟨c1, hc1⟩ : ∃ c1, (s.heap.update a (Obj.mapSeq fun _ => (#[] : Array Value))).get? a = some (seqObj "list" #[] c1) := ⟨_, get?_update_seq hob fun _ => #[]⟩
  have F1 := kas_fr F sb haL ha0
  have N1 := kas_news N sb hna
  have hz : ((s.heap.update a (Obj.mapSeq fun _ => (#[] : Array Value))).push (seqObj "tuple" vs.toArray 0)).objs.size = s.heap.objs.size + 1 := (size_push' ..).trans (by rw [Heap.size_update])
  have hL1 : L < ((s.heap.update a (Obj.mapSeq fun _ => (#[] : Array Value))).push (seqObj "tuple" vs.toArray 0)).objs.size := (F1.push _).ns.lt
  unfold ksk_tree
  refine wpAny_bind (listItems_at hob rfl (wpAny_bind (listUpdate_at hob rfl ?_ (by rw [List.size_toArray]; exact hln) (Nat.zero_le _))))
  refine wpAny_bind (seqEpoch_at hc1 rfl (wpAny_bind (wpAny_newTuple (hsz := by show vs.length ≤ _; exact hln) (wpAny_bind (wpAny_newList ?_ (Nat.zero_le _))))))
  refine wpAny_holding ?_
  have hkS : (((s.heap.update a (Obj.mapSeq fun _ => (#[] : Array Value))).push (seqObj "tuple" vs.toArray 0)).push (seqObj "list" #[] 0)).get? ((s.heap.update a (Obj.mapSeq fun _ => (#[] : Array Value))).push (seqObj "tuple" vs.toArray 0)).objs.size = some (seqObj "list" #[] 0) := Heap.get?_push_size _ rfl
  have hall := h ((s.heap.update a (Obj.mapSeq fun _ => (#[] : Array Value))).push (seqObj "tuple" vs.toArray 0)).objs.size c1 _ ((F1.push _).push (seqObj "list" #[] 0)) (fun p hp => by
      rcases List.mem_cons.mp hp with rfl | hp
      · exact ⟨hkS, Nat.ne_of_gt hL1, Heap.get?_none_of_le (Nat.le_trans F.above (Nat.le_of_lt hL1))⟩
      · rcases List.mem_cons.mp hp with rfl | hp
        · exact ⟨Heap.get?_push_of_some _ (Heap.get?_push_of_some _ hc1), haL, ha0⟩
        · exact ⟨Heap.get?_push_of_some _ (Heap.get?_push_of_some _ (N1 p hp).1), (N1 p hp).2⟩)
    (by rw [hz]; exact Nat.lt_succ_of_lt hal) (fun q hq => by rw [hz]; exact Nat.lt_succ_of_lt (Heap.lt_size (N q hq).1))
  show wpAny (model prog w) A (ksk_rest a f false vs.toArray c1 _) R E { s with heap := ((s.heap.update a (Obj.mapSeq fun _ => (#[] : Array Value))).push (seqObj "tuple" vs.toArray 0)).push (seqObj "list" #[] 0) }
  unfold ksk_rest
  refine wpAny_bind (wpAny_rule ?_)
  first
    | rw [List.forIn_toArray]
    | (rw [← Array.forIn_toList]; simp only [List.toList_toArray])
    | rw [← Array.forIn_toList]
  refine wpAny_bind (wpAny_mono (kat_fold (show vs.length < 64 by omega) (fun x ks e s' C hk64 hx => ?_) vs [] 0 _ (by simp) hkS hall) (fun _ s' hd => ?_) fun _ _ z => z)
  · refine wpAny_bind (wpAny_attempt (wpAny_mono hx (fun k s2 hk => ?_) fun _ _ hF => hF.elim))
    obtain ⟨nw, g, F2, N2, U, cont⟩ := hk
    obtain ⟨pre, post, e0, hg, y1, y2⟩ := U.split
    rw [e0] at N2
    have nk := N2 (_, seqObj "list" (List.toArray ks) e) (List.mem_append_right _ (.head _))
    have sb2 := Heap.SameBut.update s2.heap ((s.heap.update a (Obj.mapSeq fun _ => (#[] : Array Value))).push (seqObj "tuple" vs.toArray 0)).objs.size (Obj.mapSeq (·.push k))
    have ea : (List.toArray ks).push k = List.toArray (ks ++ [k]) := by simp
    obtain ⟨c2, hc2⟩ : ∃ c2, (s2.heap.update ((s.heap.update a (Obj.mapSeq fun _ => (#[] : Array Value))).push (seqObj "tuple" vs.toArray 0)).objs.size (Obj.mapSeq (·.push k))).get? ((s.heap.update a (Obj.mapSeq fun _ => (#[] : Array Value))).push (seqObj "tuple" vs.toArray 0)).objs.size = some (seqObj "list" (List.toArray (ks ++ [k])) c2) :=
      ⟨_, by rw [← ea]; exact get?_update_seq nk.1 (·.push k)⟩
    have hkl : ks.length + 1 ≤ sizeLine := Nat.le_of_lt (small1000 (by omega))
    try dsimp only
    refine wpAny_bind (listUpdate_at nk.1 rfl ?_ (by rw [List.size_toArray]; omega) (Nat.le_trans (Nat.le_of_eq (Array.size_push ..)) (by rw [List.size_toArray]; exact Nat.le_succ_of_le hkl)))
    exact wpAny_pure ⟨rfl, k, c2, hc2, cont _ c2 (kas_fr F2 sb2 nk.2.1 nk.2.2) (by rw [hg]; exact news_set N2 y1 y2 sb2 hc2)⟩
  · obtain ⟨ks, e, hk', hlk, fin⟩ := hd
    try dsimp only
    refine wpAny_bind (listItems_at hk' rfl ?_)
    unfold ksk_end
    try dsimp only
    try simp only [Bool.false_eq_true, if_false]
    rw [if_pos hfs, if_pos hfs]
    refine wpAny_bind (wpAny_pure ?_)
    rw [StateT.run_pure]
    refine wpAny_bind (wpAny_pure ?_)
    try dsimp only
    refine kat_tail (out := vs) (b := false) ?_ (by omega) (by omega) rfl fin
    show (((List.toArray ks).zip vs.toArray).map (·.2)) = List.toArray vs
    apply Array.ext'
    simp [List.map_snd_zip, hlk]
end

/-! ### the code table of the def that makes the lambda -/
def codeHO (c' : Addr) (qual : Str) : HO := .ext fun h => h.CodeRec (.ref c') qual
theorem codeHO_ok {P : Program} {w : World} {H : Hp} {h : Heap} {c' : Addr} {qual : Str} (x : h.CodeRec (.ref c') qual) : ObjOk P w H h c' (codeHO c' qual) := by
  refine ⟨x, ?_, fun h1 h2 y k => ?_⟩
  · obtain ⟨c, o, vs, t, e, g, _⟩ := x
    cases e
    exact ⟨o, g⟩
  · obtain ⟨c, o, vs, t, e, g, r⟩ := y
    cases e
    exact ⟨c', o, vs, t, rfl, k o g, r⟩
structure Tab where
  P : Addr
  pos : Pos
  qual : Str
def Tab.Ok (T : Tab) (H : Hp) : Prop := H T.P = some (.tbl #[]) ∨ ∃ c', c' ≠ T.P ∧ H T.P = some (.tbl #[rawInt T.pos.line, rawInt T.pos.col, .ref c']) ∧ H c' = some (codeHO c' T.qual)
/-- all that was tracked is as it was, but that the table may have grown -/
structure Kp (T : Tab) (H H' : Hp) : Prop where
  same : ∀ b o, b ≠ T.P → H b = some o → H' b = some o
  tab : T.Ok H → T.Ok H'
theorem Kp.refl (T : Tab) (H : Hp) : Kp T H H := ⟨fun _ _ _ e => e, fun h => h⟩
theorem Kp.trans {T : Tab} {H H1 H2 : Hp} (a : Kp T H H1) (b : Kp T H1 H2) : Kp T H H2 := ⟨fun c o n e => b.same c o n (a.same c o n e), fun h => b.tab (a.tab h)⟩
theorem Same.kp {T : Tab} {H H' : Hp} (a : Same H H') : Kp T H H' := ⟨fun b o _ e => a b o e, fun h => by
  rcases h with h | ⟨c', h1, h2, h3⟩
  · exact .inl (a _ _ h)
  · exact .inr ⟨c', h1, a _ _ h2, a _ _ h3⟩⟩
theorem same_upd {H : Hp} {p : Addr} {o : HO} (h : H p = none) : Same H (upd H p o) := fun b u q => by rw [upd_ne (ne_of_none q h)]; exact q
theorem Kp.free {T : Tab} {H H' : Hp} (k : Kp T H H') (t : T.Ok H) {l : Addr} (h : H' l = none) : H l = none := by
  cases q : H l with
  | none => rfl
  | some u =>
    by_cases e : l = T.P
    · subst e
      rcases k.tab t with z | ⟨_, _, z, _⟩
      · rw [z] at h; cases h
      · rw [z] at h; cases h
    · rw [k.same l u e q] at h; cases h
theorem Tab.ne {T : Tab} {H : Hp} (t : T.Ok H) {b : Addr} {xs : List V} (h : H b = some (.lst xs)) : b ≠ T.P := by
  rintro rfl
  rcases t with z | ⟨_, _, z, _⟩
  · rw [z] at h; cases h
  · rw [z] at h; cases h
theorem Tab.neT {T : Tab} {H : Hp} (t : T.Ok H) {b : Addr} {xs : List V} (h : H b = some (.tup xs)) : b ≠ T.P := by
  rintro rfl
  rcases t with z | ⟨_, _, z, _⟩
  · rw [z] at h; cases h
  · rw [z] at h; cases h
theorem Tab.upd {T : Tab} {H : Hp} (t : T.Ok H) {b : Addr} {xs : List V} {o : HO} (h : H b = some (.lst xs)) (hb : b ≠ T.P) : T.Ok (upd H b o) := by
  rcases t with z | ⟨c', z1, z2, z3⟩
  · exact .inl (by rw [upd_ne (Ne.symm hb)]; exact z)
  · refine .inr ⟨c', z1, by rw [upd_ne (Ne.symm hb)]; exact z2, ?_⟩
    rw [upd_ne (ne_of z3 h (by intro q; cases q))]; exact z3
theorem Kp.lst {T : Tab} {H H' : Hp} (k : Kp T H H') (t : T.Ok H) {b : Addr} {xs : List V} (h : H b = some (.lst xs)) : H' b = some (.lst xs) := k.same b _ (Tab.ne t h) h
theorem Kp.tup {T : Tab} {H H' : Hp} (k : Kp T H H') (t : T.Ok H) {b : Addr} {xs : List V} (h : H b = some (.tup xs)) : H' b = some (.tup xs) := k.same b _ (Tab.neT t h) h
theorem Kp.seq {T : Tab} {K : PySem.W.Frag} {H H' : Hp} (k : Kp T H H') (t : T.Ok H) {a : Addr} {xs : List V} (h : SqL K H a xs) : SqL K H' a xs := by
  rcases h with (h | ⟨o, h⟩) | h
  · exact .inl (.inl (k.lst t h))
  · refine .inl (.inr ⟨o, k.same a _ ?_ h⟩)
    rintro rfl
    rcases t with z | ⟨_, _, z, _⟩
    · rw [z] at h; cases h
    · rw [z] at h; cases h
  · exact .inr h
end L2

set_option Elab.async false
set_option linter.all false
set_option maxRecDepth 100000
set_option maxHeartbeats 4000000
namespace L2
open PySem PySem.Spec PyProof.Rows PySem.W

section
variable {X : Cx} {pins : List (Addr × Obj)} {σ : St} {H : Hp} {s : Shared} {h' : Heap}
/-- the table at P has grown -/
theorem Inv.grown {t' : Nat} {P : Addr} {ps more : Array Value} (I : Inv X pins σ H s) (hP : H P = some (.tbl ps)) (k : ∀ b o, b ≠ P → s.heap.get? b = some o → h'.get? b = some o) (hn : h'.get? P = some { cls := .none, data := .fields (ps ++ more) }) :
    Inv X pins σ (upd H P (.tbl (ps ++ more))) { s with heap := h', toks := t' } := by
  have nP : ∀ b, H b = none → b ≠ P := fun b n z => by rw [z, hP] at n; cases n
  refine I.step (g' := s.gens) (d' := s.drawn) (ch := []) (fun b hb => absurd hb (by simp)) (fun b o _ _ _ e n => k b o (nP b n) e) (fun b o _ _ _ e n => ⟨o.slots, k b o (nP b n) e⟩) (fun b o _ _ n => by rw [upd_ne (nP b n)]; exact n)
    (fun b o _ e => ?_) (fun b xs e => ?_) (fun b o u e => ?_) (fun b qs e => ?_) (fun m hm => ?_) (fun b u e => ?_) I.bare
  · by_cases z : b = P
    · subst z; exact ⟨_, hn⟩
    · exact ⟨o, k b o z e⟩
  · rw [upd_ne (ne_of e hP (by intro z; cases z))]; exact e
  · rw [upd_ne (ne_of e hP (by intro z; cases z))]; exact e
  · by_cases z : b = P
    · subst z
      rw [hP] at e; cases e
      exact ⟨more, upd_same⟩
    · exact ⟨#[], by rw [upd_ne z, e]; simp⟩
  · obtain ⟨o, es, ep, ho, r⟩ := hm
    exact ⟨o, es, ep, k _ o (nP _ I.free) ho, r⟩
  · by_cases z : b = P
    · subst z
      rw [upd_same] at e; cases e
      exact hn
    · rw [upd_ne z] at e
      refine (I.hok b u e).stay (fun c v hc q => k c v ?_ q) (fun c q => ?_) fun c xs q => ?_
      · rcases hc with y | y
        · rw [y]; exact z
        · exact ne_of y hP (by intro z; cases z)
      · rw [upd_ne (ne_of q hP (by intro z; cases z))]; exact q
      · rw [upd_ne (ne_of q hP (by intro z; cases z))]; exact q
end

/-- what the key calls keep: the store of keys, the emptied list, the function, the tracked things -/
structure KeySt (X : Cx) (pins : List (Addr × Obj)) (σ : St) (m : Str → Option Value) (H0 : Hp) (kf : Int × Int → Int × Int) (kS D f : Addr) (fo : Obj) (c1 : Nat) (done : Zs) (ks : List Value) (e : Nat) (H : Hp) (s : Shared) : Prop where
  inv : Inv X pins σ H s
  ns : s.heap.Ns X.env.locals m
  kso : s.heap.get? kS = some (seqObj "list" ks.toArray e)
  dob : s.heap.get? D = some (seqObj "list" #[] c1)
  fob : s.heap.get? f = some fo
  kfp : FpOk X pins H kS
  dfp : FpOk X pins H D
  ffp : FpOk X pins H f
  same : Same H0 H
  keys : Paired (fun k (z : Addr × (Int × Int)) => ∃ t, k = Value.ref t ∧ H t = some (.tup [.int (kf z.2).1, .int (kf z.2).2])) ks done
theorem Paired.snocP {α β : Type} {F : α → β → Prop} {a : α} {b : β} : ∀ {l₁ : List α} {l₂ : List β}, Paired F l₁ l₂ → F a b → Paired F (l₁ ++ [a]) (l₂ ++ [b])
  | _, _, .nil, h => .cons h .nil
  | _, _, .cons r t, h => .cons r (Paired.snocP t h)
theorem FpOk.at {X : Cx} {pins : List (Addr × Obj)} {H H' : Hp} {b : Addr} (x : FpOk X pins H b) (h : H' b = none) : FpOk X pins H' b := ⟨h, x.2⟩

/-- the key of one item: f is called on the pair at t -/
def KeyFn (X : Cx) (H0 : Hp) (kf : Int × Int → Int × Int) (f : Addr) (fo : Obj) : Prop :=
  ∀ (s : Shared) (H : Hp) (t : Addr) (p : Int × Int) (Q : VK), Env0 X.prog X.w X.K X.mg X.base X.A.in1.in1 X.stack s H → s.heap.get? f = some fo → Same H0 H → H t = some (.tup [.int p.1, .int p.2]) →
    (∀ r H2, Same H H2 → H r = none → H2 r = some (.tup [.int (kf p).1, .int (kf p).2]) → Q (.ref r) H2) →
    wpAny (model X.prog X.w) X.A.in1.in1 (call (.ref f) [.ref t]) (CE X.stack X.prog X.w H s Q) (fun _ _ => False) s

section
variable {X : Cx} {pins : List (Addr × Obj)} {σ : St} {m : Str → Option Value} {H0 : Hp} {kf : Int × Int → Int × Int} {kS D f : Addr} {fo : Obj} {c1 : Nat} {g1 : Heap}
theorem stk_off {H : Hp} {s : Shared} {b : Addr} (I : Inv X pins σ H s) (x : FpOk X pins H b) : b ∉ frs X.stack := fun hb => by
  rcases List.mem_cons.mp (I.stkSub b hb) with z | z
  · exact x.2.1 z
  · exact x.2.2.1 z
theorem keys_run (hkD : kS ≠ D) (hkf : kS ≠ f) (hKF : KeyFn X H0 kf f fo) {Fin : List Value → Nat → Shared → Prop} {all : Zs} (hz : ZsOk H0 all)
    (hfin : ∀ ks e H s, KeySt X pins σ m H0 kf kS D f fo c1 all ks e H s → Fin ks e s) :
    ∀ (todo done : Zs), all = done ++ todo → ∀ (ks : List Value) (e : Nat) (H : Hp) (s : Shared), KeySt X pins σ m H0 kf kS D f fo c1 done ks e H s →
      KatKeys X.prog X.w X.A.in1.in1 (nul g1) X.env.locals m kS (.ref f) Fin (todo.map fun z => Value.ref z.1) ks e s
  | [], done, hall, ks, e, H, s, st => by
    rw [List.append_nil] at hall
    subst hall
    exact hfin ks e H s st
  | z :: todo, done, hall, ks, e, H, s, st => by
    refine KatKeys.cons ?_
    have hzt : H z.1 = some (.tup [.int z.2.1, .int z.2.2]) := st.same _ _ (hz z (by rw [hall]; simp))
    have I := st.inv
    refine wpAny_mono (hKF s H z.1 z.2 (fun v H2 => ∃ r, v = .ref r ∧ Same H H2 ∧ H r = none ∧ H2 r = some (.tup [.int (kf z.2).1, .int (kf z.2).2])) I.env0.in1.in1 st.fob st.same hzt (fun r H2 a b c => ⟨r, rfl, a, b, c⟩)) (fun u s2 hu => ?_) fun _ _ x => x
    obtain ⟨v, H2, os, bare, un, hok, rv, r, ev, same2, hr0, hr2⟩ := hu
    subst ev
    have eu : u = Value.ref r := rv
    subst eu
    have I2 : Inv X pins σ H2 s2 := I.call' (ch := []) os un hok bare (fun b hb => absurd hb (by simp))
    have ns2 : s2.heap.Ns X.env.locals m := by
      obtain ⟨o, es, ep, ho, rr⟩ := st.ns
      obtain ⟨sl, e'⟩ := un.any ho I.free (by simp)
      exact ⟨_, es, ep, e', rr⟩
    have kp : ∀ {b : Addr} {o : Obj}, FpOk X pins H b → s.heap.get? b = some o → s2.heap.get? b = some o ∧ FpOk X pins H2 b := fun {b o} x q =>
      ⟨un.keep b o q x.1 (stk_off I x) (by simp), x.at (un.free b o q x.1 (by simp))⟩
    obtain ⟨k1, k2⟩ := kp st.kfp st.kso
    obtain ⟨d1, d2⟩ := kp st.dfp st.dob
    obtain ⟨f1, f2⟩ := kp st.ffp st.fob
    refine KatBack.intro (news := (kS, seqObj "list" (List.toArray ks) e) :: rest (nul g1) s2.heap X.env.locals kS) (g := fun o' => (kS, o') :: rest (nul g1) s2.heap X.env.locals kS) (fr0 ns2) (news_at st.kfp.2.1 (Att.noObjs_get _ _) k1) (.head rest_ne) fun h3 c F3 N3 => ?_
    have kept : ∀ b o, b ≠ X.env.locals → b ∉ [kS] → s2.heap.get? b = some o → h3.get? b = some o := fun b o y1 y2 q => (N3 (b, o) (List.mem_cons_of_mem _ (mem_rest y1 (Att.noObjs_get _ _) q (by simpa using y2)))).1
    have I3 : Inv X pins σ H2 { s2 with heap := h3 } := Inv.ledL (t' := s2.toks) (ch := [kS]) I2 ns2 F3.ns kept fun b hb => by rw [List.mem_singleton.mp hb]; exact k2
    refine keys_run hkD hkf hKF hz hfin todo (done ++ [z]) (by rw [hall]; simp) _ _ H2 _ ⟨I3, F3.ns, (N3 _ List.mem_cons_self).1, kept D _ d2.2.1 (by simpa using Ne.symm hkD) d1, kept f _ f2.2.1 (by simpa using Ne.symm hkf) f1, k2, d2, f2, st.same.trans same2, ?_⟩
    refine Paired.snocP (Paired.mapP st.keys fun k y hk => ?_) ⟨r, rfl, hr2⟩
    obtain ⟨t, e1, e2⟩ := hk
    exact ⟨t, e1, same2 _ _ e2⟩

/-- sorted(pairs, key=f) -/
theorem sorted_key {H : Hp} {s : Shared} {p : Addr} {zs : Zs} {Q : VK} {E : Value → Shared → Prop} (I : Inv X pins σ H s) (hq : SqL X.K H p (zRefs zs)) (hz : ZsOk H zs) (h64 : zs.length < 64) (hfo : s.heap.get? f = some fo) (hff : FpOk X pins H f) (hKF : KeyFn X H kf f fo)
    (q : ∀ r H2 zs', Same H H2 → H r = none → H2 r = some (.lst (zRefs zs')) → zs'.Perm zs → (zs'.map fun z => kf z.2).Pairwise lexle → Q (.ref r) H2) :
    wpAny (model X.prog X.w) X.A (call (.builtin "sorted") [.ref p] [(Str.ofString "key", .ref f)]) (EP X pins σ Q) E s := by
  obtain ⟨its, rv, pl, _⟩ := I.list hq
  have hits := refs_eq rv
  have hlen : its.length = zs.length := by rw [hits]; simp
  have hzl : ∀ zs' : Zs, zs'.Perm zs → (zRefs zs').length ≤ sizeLine := fun zs' hp => by rw [len_zr, hp.length_eq]; exact Nat.le_of_lt (small1000 (by omega))
  refine sorted_wrap (kw := [(Str.ofString "key", .ref f)]) pl.isList (by rw [hlen]; exact Nat.le_of_lt (small1000 (by omega))) (ksk_s1 _ _) (fun x => ksk_l1 _ _) fun h1 keep hob hsz => ?_
  generalize hDe : s.heap.objs.size + 1 = D at hob ⊢
  have hDs : s.heap.objs.size ≤ D := by rw [← hDe]; exact Nat.le_succ _
  have dfp : FpOk X pins H D := I.fpOk hDs (I.hok.fresh hDs)
  have fD : f ≠ D := Nat.ne_of_lt (Nat.lt_of_lt_of_le (Heap.lt_size hfo) hDs)
  rw [ksk_t1]
  have I1 : Inv X pins σ H { s with heap := h1 } := I.kept (t' := s.toks) keep
  obtain ⟨m, hn, _⟩ := id I1.loc
  -- the end, from the state behind the last key
  have fin : ∀ (kS : Addr) (zs' : Zs) (c1 : Nat) (ks : List Value) (e : Nat) (H2 : Hp) (s2 : Shared), kS ≠ D → KeySt X pins σ m H kf kS D f fo c1 zs ks e H2 s2 → zs'.Perm zs → (zs'.map fun z => kf z.2).Pairwise lexle →
      KatFin (nul s.heap) X.env.locals m kS D ks e c1 (zs'.map fun z => Value.ref z.1) (fun s4 => PySem.Fin.done (.ret .none) = .done (.ret .none) ∧ EP X pins σ Q (.ref D) s4) s2 := fun kS zs' c1 ks e H2 s2 hkD st hp hs => by
    have I2 := st.inv
    refine KatFin.intro (news := (kS, seqObj "list" (List.toArray ks) e) :: rest (nul s.heap) s2.heap X.env.locals kS) (g := fun o' => (kS, o') :: rest (nul s.heap) s2.heap X.env.locals kS) (fr0 st.ns) (news_at st.kfp.2.1 (Att.noObjs_get _ _) st.kso) (.head rest_ne) fun h3 c F3 N3 => ?_
    have kept : ∀ b o, b ≠ X.env.locals → b ∉ [kS] → s2.heap.get? b = some o → h3.get? b = some o := fun b o y1 y2 q => (N3 (b, o) (List.mem_cons_of_mem _ (mem_rest y1 (Att.noObjs_get _ _) q (by simpa using y2)))).1
    have I3 : Inv X pins σ H2 { s2 with heap := h3 } := Inv.ledL (t' := s2.toks) (ch := [kS]) I2 st.ns F3.ns kept fun b hb => by rw [List.mem_singleton.mp hb]; exact st.kfp
    have d3 : h3.get? D = some (seqObj "list" #[] c1) := kept D _ st.dfp.2.1 (by simpa using Ne.symm hkD) st.dob
    refine KasFin.intro (s := { s2 with heap := h3 }) (news := (D, seqObj "list" #[] c1) :: rest (nul s.heap) h3 X.env.locals D) (g := fun o' => (D, o') :: rest (nul s.heap) h3 X.env.locals D) (fr0 F3.ns) (news_at st.dfp.2.1 (Att.noObjs_get _ _) d3) (.head rest_ne) fun h4 c4 F4 N4 => ⟨rfl, ?_⟩
    have kept4 : ∀ b o, b ≠ X.env.locals → b ∉ [D] → h3.get? b = some o → h4.get? b = some o := fun b o y1 y2 q => (N4 (b, o) (List.mem_cons_of_mem _ (mem_rest y1 (Att.noObjs_get _ _) q (by simpa using y2)))).1
    have I4 : Inv X pins σ H2 { s2 with heap := h4 } := Inv.ledL (s := { s2 with heap := h3 }) (t' := s2.toks) (ch := [D]) I3 F3.ns F4.ns kept4 fun b hb => by rw [List.mem_singleton.mp hb]; exact st.dfp
    obtain ⟨x0, x1, x2, x3, x4, x5⟩ := st.dfp
    obtain ⟨_, y1, _, y3, y4⟩ := I.fresh0 hDs
    refine ⟨.ref D, _, I4.track (o := .lst (zRefs zs')) x0 y1 x1 x4 x5 ⟨hzl zs' hp, _, c4, vals_refs zs', (N4 _ List.mem_cons_self).1⟩, rfl, q D _ zs' (st.same.trans (same_upd x0)) dfp.1 upd_same hp hs⟩
  have first : ∀ (kS : Addr) (c1 : Nat) (h2 : Heap), Fr (nul s.heap) X.env.locals h2 m → News (nul s.heap) X.env.locals h2 ((kS, seqObj "list" #[] 0) :: (D, seqObj "list" #[] c1) :: rest (nul s.heap) h1 X.env.locals D) → D < kS → (∀ y ∈ rest (nul s.heap) h1 X.env.locals D, y.1 < kS) →
      kS ≠ D ∧ kS ≠ f ∧ KeySt X pins σ m H kf kS D f fo c1 [] [] 0 H { s with heap := h2 } := fun kS c1 h2 F2 N2 l1 l2 => by
    have hks : s.heap.objs.size ≤ kS := Nat.le_trans hDs (Nat.le_of_lt l1)
    have kept : ∀ b o, b ≠ X.env.locals → b ∉ [D] → h1.get? b = some o → h2.get? b = some o := fun b o y1 y2 q => (N2 (b, o) (List.mem_cons_of_mem _ (List.mem_cons_of_mem _ (mem_rest y1 (Att.noObjs_get _ _) q (by simpa using y2))))).1
    have I2 : Inv X pins σ H { s with heap := h2 } := Inv.ledL (s := { s with heap := h1 }) (t' := s.toks) (ch := [D]) I1 hn F2.ns kept fun b hb => by rw [List.mem_singleton.mp hb]; exact dfp
    refine ⟨Nat.ne_of_gt l1, Nat.ne_of_gt (Nat.lt_of_lt_of_le (Heap.lt_size hfo) hks), I2, F2.ns, (N2 _ List.mem_cons_self).1, (N2 _ (List.mem_cons_of_mem _ List.mem_cons_self)).1, kept f fo hff.2.1 (by simpa using fD) (keep _ _ hfo), I.fpOk hks (I.hok.fresh hks), dfp, hff, Same.refl H, .nil⟩
  by_cases hfew : its.length < 2
  · refine key_small (h₀ := nul s.heap) (L := X.env.locals) (m := m) (news := rest (nul s.heap) h1 X.env.locals D) (fr0 hn) (fun y hy => news_all y (List.mem_filter.mp hy).1) hob dfp.2.1 (Att.noObjs_get _ _) rest_ne hfew fun kS c1 h2 F2 N2 l1 l2 => ?_
    obtain ⟨k1, k2, st⟩ := first kS c1 h2 F2 N2 l1 l2
    have r := keys_run (g1 := s.heap) (Fin := fun ks e s' => KatFin (nul s.heap) X.env.locals m kS D ks e c1 its (fun s4 => PySem.Fin.done (.ret .none) = .done (.ret .none) ∧ EP X pins σ Q (.ref D) s4) s') k1 k2 hKF (all := zs) hz (fun ks e H2 s2 st2 => by
      rw [hits]; exact fin kS zs c1 ks e H2 s2 k1 st2 (List.Perm.refl _) (out_small (by omega))) zs [] rfl [] 0 H _ st
    rw [hits]
    rw [hits] at r
    exact r
  · refine kat_keyed (h₀ := nul s.heap) (L := X.env.locals) (m := m) (news := rest (nul s.heap) h1 X.env.locals D) (fr0 hn) (fun y hy => news_all y (List.mem_filter.mp hy).1) hob dfp.2.1 (Att.noObjs_get _ _) rest_ne (by omega) (by omega) fun kS c1 h2 F2 N2 l1 l2 => ?_
    obtain ⟨k1, k2, st⟩ := first kS c1 h2 F2 N2 l1 l2
    have r := fun Fin hfin => keys_run (g1 := s.heap) (Fin := Fin) k1 k2 hKF (all := zs) hz hfin zs [] rfl [] 0 H _ st
    have e2 : (zs.map fun z => Value.ref z.1) = its := hits.symm
    rw [e2] at r
    refine r _ fun ks e H2 s2 st2 => ?_
    have kl : ks.length = zs.length := st2.keys.length
    have tups : Paired (TupAt s2.heap) ks (zs.map fun z => kf z.2) := by
      have gen : ∀ {ks : List Value} {l : Zs}, Paired (fun k (z : Addr × (Int × Int)) => ∃ t, k = Value.ref t ∧ H2 t = some (.tup [.int (kf z.2).1, .int (kf z.2).2])) ks l → Paired (TupAt s2.heap) ks (l.map fun z => kf z.2) := by
        intro ks l h
        induction h with
        | nil => exact .nil
        | cons h _ ih =>
          obtain ⟨t, rfl, ht⟩ := h
          exact .cons (TupAt.of st2.inv.hok ht) ih
      exact gen st2.keys
    refine kind_tups tups (by omega) ?_
    have ask := asks_tups (prog := X.prog) (w := X.w) (A := X.A.in1.in1) (s₀ := s2) tups
    rw [kl, ← hlen] at ask
    refine WB.kas_sort_ok (show WB.Asks lex2 _ _ _ (kas_ask X.prog X.w X.A.in1.in1 (tuples' true) (katRev false ks)) from ask) (by omega) rfl fun pm s3 hp hu hJ => ?_
    subst hJ
    rw [hlen] at hp hu
    obtain ⟨zs', hperm, hsort, hout⟩ := out_zs (f := kf) hp hu hits
    show KatFin _ _ _ _ _ _ _ _ (pm.toList.map fun i => its.getD i Value.none) _ _
    rw [hout]
    exact fin kS zs' c1 ks e H2 s3 k1 st2 hperm hsort
end
end L2

set_option Elab.async false
set_option linter.all false
set_option maxRecDepth 100000
set_option maxHeartbeats 4000000
namespace L2
open PySem PySem.Spec PyProof.Rows PySem.W

section
variable {X : Cx} {T : Tab} {c : Addr} {kf : Int × Int → Int × Int} {params : Arguments} {body : Expr} {lscope : Scope} {N ps : List Str} {k : Nat}
/-- what the lambda's body tells of a pair -/
def LamBody (X : Cx) (T : Tab) (N : List Str) (lscope : Scope) (body : Expr) (kf : Int × Int → Int × Int) : Prop :=
  ∀ (f c' : Addr) (A : Around) (outer : List Env) (s : Shared) (H : Hp) (t : Addr) (pr : Int × Int), H t = some (.tup [.int pr.1, .int pr.2]) →
    ∃ tl, PE (cxOf CX0 X.prog X.w X.K X.mg X.base N T.qual lscope f (.ref c') A outer s H E0).nox body tl ∧ ∀ Q : VK, (∀ r H2, Same H H2 → H r = none → H2 r = some (.tup [.int (kf pr).1, .int (kf pr).2]) → Q (.ref r) H2) → tl (start N [.ref t]) H Q
theorem lam_key {H0 : Hp} {f c' : Addr} {pm ctv : Value} (hr : Room (k + 3) X.A) (S : FnScope N ps lscope) (hps : ps.length = 1)
    (hbind : ∀ (pm : Value) (c' : Addr) (ctv u : Value), bindArgs (kla_fn "<lambda>" T.qual params body lscope [] pm (.ref c') ctv) ⟨[u], []⟩ = pure (ps.zip [u]))
    (hbody : LamBody X T N lscope body kf) (hcode : H0 c' = some (codeHO c' T.qual)) : KeyFn X H0 kf f (kla_obj "<lambda>" T.qual params body lscope [] pm c' ctv) := by
  intro s H t p Q e0 hfo hsame ht q
  have hc' : s.heap.CodeRec (.ref c') T.qual := (show ObjOk X.prog X.w H s.heap c' (codeHO c' T.qual) from e0.hok c' _ (hsame _ _ hcode)).1
  obtain ⟨tl, h1, h2⟩ := hbody f c' X.A.in1.in1 X.stack s H t p ht
  exact lam_run (k := k) (Room.in1 (Room.in1 hr)) e0 hfo hc' S (.of_eq (hbind _ _ _ _)) (vs := [.ref t]) (.cons (show RelV (.ref t) (Value.ref t) from rfl) .nil) (by rw [hps]; rfl) ⟨tl, h1, h2 Q q⟩

theorem ns_get {h : Heap} {a : Addr} {m : Str → Option Value} (x : h.Ns a m) : ∃ o, h.get? a = some o := let ⟨o, _, _, e, _⟩ := x; ⟨o, e⟩
theorem pe_sortedLam {e : Expr} {ta : TA} {lpos kpos p pos : Pos} (hg : Gl X "sorted") (hm : X.mg "sorted" = none) (ha : PA X [e] ta) (hr : Room (k + 3) X.A) (hcode : X.env.code = .ref c) (C : CodeHd X.base c T.P) (hB : X.base.BuiltinsAt X.mg T.P) (hT : T.pos = lpos) (hTq : X.env.qual ++ "<lambda>" = T.qual)
    (S : FnScope N ps lscope) (hps : ps.length = 1) (hfree : ∀ y ∈ lscope.names, y.2 ≠ .free) (hdef : defaultsOf params X.env = ([], []))
    (hbind : ∀ (pm : Value) (c' : Addr) (ctv u : Value), bindArgs (kla_fn "<lambda>" T.qual params body lscope [] pm (.ref c') ctv) ⟨[u], []⟩ = pure (ps.zip [u])) (hbody : LamBody X T N lscope body kf)
    (hst : backTo pos (starEach [e] X.env) = (false, eval e X.env) :: backTo pos (starEach [] X.env) := by rfl) (hpl : (backTo pos (starEach [e] X.env)).any (·.1) = false := by rfl) :
    PE X (.Call (.Name "sorted" p) [e] [⟨some "key", .Lambda params body lscope lpos, kpos⟩] pos) (fun σ H Q => ta σ H fun vs H1 => ∃ (a : Addr) (zs : Zs), vs = [.ref a] ∧ SqL X.K H1 a (zRefs zs) ∧ ZsOk H1 zs ∧ zs.length < 64 ∧ T.Ok H1 ∧
      ∀ r H2 zs', Kp T H1 H2 → H1 r = none → H2 r = some (.lst (zRefs zs')) → zs'.Perm zs → (zs'.map fun z => kf z.2).Pairwise lexle → Q (.ref r) H2) := by
  intro pins s σ H Q I h
  refine wpAny_Call_Name_kw (ld_blt I hg hm boot_sorted ?_)
  refine callWith_kw (thn (ha pos pins s σ H _ I h) fun us s1 ⟨vs, H1, I1, r1, q1⟩ => ?_) hst hpl
  obtain ⟨a, zs, e1, hq, hz, h64, tok, q⟩ := q1
  subst e1
  obtain ⟨u, rfl, ru⟩ := vals1 r1
  cases ru
  refine kws_cons (kla_eval hdef ?_)
  rw [hTq]
  have hcl : closureFor lscope X.env = pure [] := closureFor_none hfree
  have hgl : s1.heap.Ns mainGlobals X.mg := I1.mod.glob.keeps I1.bk
  have hbs : s1.heap.BuiltinsAt X.mg T.P := let ⟨bm, o, b1, b2, b3, b4, b5, b6⟩ := hB; ⟨bm, o, b1, b2, b3, b4, I1.bk _ _ b5, b6⟩
  have C1 : CodeHd s1.heap c T.P := C.keeps I1.bk
  have hgP : mainGlobals ≠ T.P := fun z => by
    obtain ⟨o, e⟩ := ns_get I1.mod.glob
    have n := (I1.bs _ _ e).2
    rw [z] at n
    rcases tok with y | ⟨_, _, y, _⟩
    · rw [y] at n; cases n
    · rw [y] at n; cases n
  -- the call, once the function stands
  have go : ∀ (H3 : Hp) (s3 : Shared) (f c' : Addr) (pm ctv : Value), Inv X pins σ H3 s3 → Kp T H1 H3 → H3 c' = some (codeHO c' T.qual) → s3.heap.get? f = some (kla_obj "<lambda>" T.qual params body lscope [] pm c' ctv) → FpOk X pins H3 f →
      wpAny (model X.prog X.w) X.A (evalAll ((backToKw pos (keywordEach [] X.env)).map (·.2))) (fun kvs s₂ => wpAny (model X.prog X.w) X.A (call (.builtin "sorted") [.ref a] (((backToKw pos (keywordEach [⟨some "key", .Lambda params body lscope lpos, kpos⟩] X.env)).filterMap (·.1)).zip (.ref f :: kvs))) (EP X pins σ Q) X.xe s₂) X.xe s3 :=
    fun H3 s3 f c' pm ctv I3 kp hc' hfo hff => by
    refine kws_nil ?_
    refine sorted_key (kf := kf) (f := f) (fo := kla_obj "<lambda>" T.qual params body lscope [] pm c' ctv) I3 (kp.seq tok hq) (fun z hz' => kp.tup tok (hz z hz')) h64 hfo hff (lam_key hr S hps hbind hbody hc') fun r H2 zs' same hr0 hr2 hp hs => ?_
    exact q r H2 zs' (kp.trans same.kp) (kp.free tok hr0) hr2 hp hs
  rcases tok with ht | ⟨c', hne, ht, hc'⟩
  · have hP : s1.heap.get? T.P = some (tabObj #[]) := I1.hok T.P _ ht
    refine kla_makeFunction hcl I1.ok.glob hgl hcode C1 hP trivial rfl hgP hbs fun c' ctv h' tk hx hge hlt hrec htb => ?_
    obtain ⟨f0, f1, f2, f3, f4⟩ := I1.fresh0 hge
    have I2 := Inv.grown (t' := tk) I1 ht (fun b o hb e => hx b o hb e) htb
    have hcP : c' ≠ T.P := Ne.symm (ne_of_none ht f0)
    have I3 := I2.track (o := codeHO c' T.qual) (by rw [upd_ne hcP]; exact f0) f1 f2 f3 f4 (codeHO_ok hrec)
    have I4 := I3.kept (h' := h'.push (kla_obj "<lambda>" T.qual params body lscope [] ((X.mg "__name__").getD .none) c' ctv)) (t' := tk) fun b o e => Heap.get?_push_of_some _ e
    refine go _ _ h'.objs.size c' _ ctv I4 ⟨fun b o hb e => ?_, fun _ => .inr ⟨c', hcP, ?_, upd_same⟩⟩ upd_same (Heap.get?_push_size _ rfl) (I3.fpOk (Nat.le_refl _) (I3.hok.fresh (Nat.le_refl _)))
    · rw [upd_ne (ne_of_none e f0), upd_ne hb]; exact e
    · rw [upd_ne (Ne.symm hcP), upd_same, hT]; rfl
  · have hP : s1.heap.get? T.P = some (tabObj #[rawInt T.pos.line, rawInt T.pos.col, .ref c']) := I1.hok T.P _ ht
    refine kla_makeFunctionHit hcl I1.ok.glob hgl hcode C1 hP (by simp [TriplesOk, rawInt]) (cv := .ref c') (by rw [← hT]; simp [codeAmong, rawInt]) hbs fun ctv h' tk hk hsz => ?_
    have I2 := I1.kept (h' := h') (t' := tk) hk
    have I3 := I2.kept (h' := h'.push (kla_obj "<lambda>" T.qual params body lscope [] ((X.mg "__name__").getD .none) c' ctv)) (t' := tk) fun b o e => Heap.get?_push_of_some _ e
    exact go _ _ h'.objs.size c' _ ctv I3 (Kp.refl T H1) hc' (Heap.get?_push_size _ rfl) (I2.fpOk (Nat.le_refl _) (I2.hok.fresh (Nat.le_refl _)))
end
end L2

set_option Elab.async false
set_option linter.all false
set_option maxRecDepth 100000
set_option maxHeartbeats 4000000
namespace L2
open PySem PySem.Spec PyProof.Rows PySem.W

theorem no_tab {K : Frag} {h : Heap} {P : Addr} {ps : Array Value} (X : K.In h) (hK : noTabs K = true) (hP : h.get? P = some (tabObj ps)) : K.lookup P = none := by
  cases e : K.lookup P with
  | none => rfl
  | some o =>
    have e1 : h.get? P = some o := X P o e
    rw [hP] at e1
    cases e1
    have h2 := List.all_eq_true.mp hK _ (mem_of_lookupK e)
    simp at h2
/-- the head, where the table of one def's code may grow -/
theorem law_callT {P : Program} {w : World} {K : Frag} {mg mb : Str → Option Value} {k : Nat} {fa a c Pt : Addr} {fd : FuncData} {x : Str} {sp : Sp} {s₁ : Shared} {vs : List Value} {ns : List Int}
    (KX : K.In s₁.heap) (hns : s₁.heap.Ns mainGlobals mg) (hb : s₁.heap.Ns builtinsNs mb) (hbb : ∀ x : Str, x ≠ "__name__" → mb x = bootBuiltins x) (hlim : s₁.heap.NoLimit) (hg : s₁.gens = #[])
    (ha : s₁.heap.get? a = some { cls := .type "list", data := .seq vs.toArray }) (hi : IntsAre vs ns) (hl : ns.length ≤ sizeLine) (hr : Room k callerA) (hK : noTabs K = true) (C : CodeHd s₁.heap c Pt) (hPt : s₁.heap.get? Pt = some (tabObj #[])) (hB : s₁.heap.BuiltinsAt mg Pt)
    (F : ∀ base : Heap, K.In base → base.Ns mainGlobals mg → CodeHd base c Pt → base.BuiltinsAt mg Pt → FnOk P w K mg base CX0 k fa fd [x] sp) (hbind : ∀ (s : Shared) (u : Value), BindsTo s fd ⟨[u], []⟩ [(x, u)])
    (hsp : ∀ H : Hp, SqL K H a (ns.map V.int) → H Pt = some (.tbl #[]) → sp [.ref a] H (fun v _ => v = .bl true) fun _ _ _ => False) :
    codeAny (model P w) callerA (.call (.ref fa) ⟨[.ref a], []⟩) (fun r s' => r = .ok (.ret (.bool true)) ∧ OldK s₁.heap s'.heap ∧ s'.os = s₁.os ∧ AllBare s'.gens) s₁ := by
  have rv := vals_ints hi
  have lenV := hi.length
  have haP : a ≠ Pt := fun z => by rw [z, hPt] at ha; cases ha
  -- what is tracked: the table, and the script (known to the object) where it is no object of the module
  have core : ∀ H : Hp, H Pt = some (.tbl #[]) → SqL K H a (ns.map V.int) → HOk P w H s₁.heap → (∀ b, H b ≠ none → b = a ∨ b = Pt) → (H a = none ∨ (K.lookup a = none ∧ ∃ xs, H a = some (.frz { cls := .type "list", data := .seq vs.toArray } xs))) →
      codeAny (model P w) callerA (.call (.ref fa) ⟨[.ref a], []⟩) (fun r s' => r = .ok (.ret (.bool true)) ∧ OldK s₁.heap s'.heap ∧ s'.os = s₁.os ∧ AllBare s'.gens) s₁ := by
    intro H hT hS hok hA hSa
    have base_of : ∀ {b : Addr} {o : Obj}, s₁.heap.get? b = some o → H b = none → (hidT s₁.heap H).get? b = some o := fun e n => hidT_get e n
    have free_of : ∀ {b : Addr} {o : Obj}, s₁.heap.get? b = some o → (∀ xs n, o.data ≠ .seq xs n) → (∀ xs, o.data ≠ .fields xs ∨ o.cls ≠ .none) → H b = none := fun {b o} e d1 d2 => by
      cases q : H b with
      | none => rfl
      | some u =>
        rcases hA b (by rw [q]; simp) with z | z
        · subst z
          rw [ha] at e; cases e
          exact absurd rfl (d1 _ _)
        · subst z
          rw [hPt] at e; cases e
          rcases d2 #[] with y | y
          · exact absurd rfl y
          · exact absurd rfl y
    have dict_of : ∀ {b : Addr} {o : Obj} {es : Array DictEntry} {ep : Nat}, s₁.heap.get? b = some o → o.data = .dict es ep → H b = none := fun {b o es ep} e d =>
      free_of e (fun xs n z => by rw [d] at z; cases z) fun xs => .inl fun z => by rw [d] at z; cases z
    have nsK : ∀ {b : Addr} {m : Str → Option Value}, s₁.heap.Ns b m → (hidT s₁.heap H).Ns b m := fun {b m} ⟨o, es, ep, e, d, r⟩ => ⟨o, es, ep, base_of e (dict_of e d), d, r⟩
    have hKb : K.In (hidT s₁.heap H) := fun b o e => base_of (KX b o e) (by
      cases q : H b with
      | none => rfl
      | some u =>
        rcases hA b (by rw [q]; simp) with z | z
        · subst z
          rcases hSa with y | ⟨y, _⟩
          · rw [q] at y; cases y
          · rw [y] at e; cases e
        · subst z
          rw [no_tab KX hK hPt] at e; cases e)
    have hM : Mod K mg (hidT s₁.heap H) := ⟨hKb, nsK hns, ⟨mb, nsK hb, hbb⟩, let ⟨mc, h1, h2⟩ := hlim; ⟨mc, nsK h1, h2⟩⟩
    have hC : CodeHd (hidT s₁.heap H) c Pt := by
      obtain ⟨o, vs', file, tf, flags, tg, inF, text, tt, e1, e2, r⟩ := C
      exact ⟨o, vs', file, tf, flags, tg, inF, text, tt, base_of e1 (free_of e1 (fun xs n z => by rw [r.1] at z; cases z) fun xs => .inr (by rw [e2]; intro z; cases z)), e2, r⟩
    have hBb : (hidT s₁.heap H).BuiltinsAt mg Pt := by
      obtain ⟨bm, o, b1, b2, b3, b4, b5, b6, b7, b8⟩ := hB
      exact ⟨bm, o, b1, b2, b3, b4, base_of b5 (free_of b5 (fun xs n z => by rw [b8] at z; cases z) fun xs => .inl fun z => by rw [b8] at z; cases z), b6, b7, b8⟩
    have e0 : Env0 P w K mg (hidT s₁.heap H) callerA [] s₁ H := ⟨rfl, hM, fun b o e => of_hidT e, Nat.le_of_eq (hidT_size _ _), trivial, fun b hb => absurd (show b ∈ ([] : List Addr) from hb) (by simp), hok, .of_eq hg⟩
    refine codeAny_mono ((F _ hKb (nsK hns) hC hBb).run callerA [] s₁ H ⟨[.ref a], []⟩ [.ref a] [.ref a] _ _ hr e0 (hbind s₁ (.ref a)) (.cons rfl .nil) (hsp H hS hT)) fun r s' h => ?_
    cases r with
    | error e => exact False.elim h
    | ok fl =>
      cases fl with
      | next => exact False.elim h
      | brk => exact False.elim h
      | cont => exact False.elim h
      | ret u =>
        obtain ⟨v, H', os, bare, un, hok', r', q⟩ := h
        have q' : v = .bl true := q
        subst q'
        obtain rfl : u = Value.bool true := r'
        have nofs : ∀ b : Addr, b ∉ frs [] := fun b z => absurd (show b ∈ ([] : List Addr) from z) (by simp)
        have key : ∀ b o, s₁.heap.get? b = some o → s'.heap.get? b = some o ∨ (b = Pt ∧ o = tabObj #[] ∧ ∃ more, s'.heap.get? b = some (tabObj (#[] ++ more))) := fun b o e => by
          cases q : H b with
          | none => exact .inl (un.keep b o e q (nofs b) (by simp))
          | some u =>
            rcases hA b (by rw [q]; simp) with z | z
            · subst z
              rcases hSa with y | ⟨_, xs, y⟩
              · rw [q] at y; cases y
              · have z2 := un.frzs _ _ _ y
                obtain ⟨e1, _⟩ := hok _ _ y
                obtain ⟨e2, _⟩ := hok' _ _ z2
                rw [e] at e1; cases e1
                exact .inl e2
            · subst z
              obtain ⟨more, z2⟩ := un.tbls _ _ hT
              have e2 : s'.heap.get? b = some (tabObj (#[] ++ more)) := hok' _ _ z2
              rw [hPt] at e; cases e
              exact .inr ⟨rfl, rfl, more, e2⟩
        refine ⟨rfl, ⟨fun b o e => ?_, fun b o e => ?_⟩, os, bare⟩
        · rcases key b o e with z | ⟨z, y, more, e2⟩
          · exact .inl z
          · subst z y
            exact .inr (.inl ⟨(C.tab hPt).isCodeTable, rfl, #[], more, rfl, e2⟩)
        · rcases key b o e with z | ⟨z, y, more, e2⟩
          · exact ⟨o, z⟩
          · exact ⟨_, e2⟩
  cases hk : K.lookup a with
  | some o =>
    have e := KX a o hk
    rw [ha] at e
    cases e
    refine core (fun b => if b = Pt then some (.tbl #[]) else none) (if_pos rfl) (.inr ⟨_, vs.toArray, _, hk, rfl, rfl, rfl, by rw [List.size_toArray, lenV]; exact hl, by simpa using rv⟩) (fun b u z => ?_) (fun b z => ?_) (.inl (if_neg haP))
    · by_cases h1 : b = Pt
      · have z' := (if_pos h1).symm.trans z
        cases z'
        subst h1
        exact hPt
      · have z' := (if_neg h1).symm.trans z
        cases z'
    · by_cases h1 : b = Pt
      · exact .inr h1
      · exact absurd (if_neg h1) z
  | none =>
    refine core (fun b => if b = Pt then some (.tbl #[]) else if b = a then some (.frz { cls := .type "list", data := .seq vs.toArray } (.lst (ns.map V.int))) else none) (if_pos rfl) (.inl (.inr ⟨{ cls := .type "list", data := .seq vs.toArray }, ?_⟩)) (fun b u z => ?_) (fun b z => ?_) (.inr ⟨hk, .lst (ns.map V.int), ?_⟩)
    · show (if a = Pt then _ else if a = a then _ else none) = _
      rw [if_neg haP, if_pos rfl]
    · by_cases h1 : b = Pt
      · have z' := (if_pos h1).symm.trans z
        cases z'
        subst h1
        exact hPt
      · have z1 := (if_neg h1).symm.trans z
        by_cases h2 : b = a
        · have z' := (if_pos h2).symm.trans z1
          cases z'
          subst h2
          exact ⟨ha, by rw [List.length_map]; exact hl, vs, _, rv, ha⟩
        · have z' := (if_neg h2).symm.trans z1
          cases z'
    · by_cases h1 : b = Pt
      · exact .inr h1
      · by_cases h2 : b = a
        · exact .inl h2
        · exact absurd ((if_neg h1).trans (if_neg h2)) z
    · show (if a = Pt then _ else if a = a then _ else none) = _
      rw [if_neg haP, if_pos rfl]

theorem walk_tab {l : OpenLaw} {n k : Nat} {q : Program} {loose : List Str} {XP : (Str → Option Value) → Heap → Prop} {YP : World → Heap → Prop} {d : DefRec} {K : Params → Frag} {sp : Frag → Addr → Sp} {x y : Str}
    (hn : l.most = some n) (hn2 : n ≤ sizeLine) (hdf : d.params.defaults = []) (hr : Room k callerA) (hY : ∀ (w : World) (h : Heap), YP w h → (K w.params).In h) (hrec : ((recsOf q).find? (fun e => e.name == y)).isSome = true)
    (F : ∀ (w : World) (mg : Str → Option Value) (fa : Addr) (h : Heap), (K w.params).In h → h.Ns mainGlobals mg → mg d.name = some (.ref fa) →
      ∃ (fd : FuncData) (c Pt : Addr), tabIn (K w.params) y = some (c, Pt) ∧ noTabs (K w.params) = true ∧ (∀ (s : Shared) (u : Value), BindsTo s fd ⟨[u], []⟩ [(x, u)]) ∧
        ∀ base : Heap, (K w.params).In base → base.Ns mainGlobals mg → CodeHd base c Pt → base.BuiltinsAt mg Pt → FnOk l.prog w (K w.params) mg base CX0 k fa fd [x] (sp (K w.params) Pt))
    (hsp : ∀ (K : Frag) (H : Hp) (a Pt : Addr) (ns : List Int), ns.length ≤ n → SqL K H a (ns.map V.int) → H Pt = some (.tbl #[]) → sp K Pt [.ref a] H (fun v _ => v = .bl true) fun _ _ _ => False) :
    WalkO q loose XP YP l.row.toRowW d [] (fun f vs => PySem.call f vs) := by
  refine Att.attach_call hn hdf fun w s₀ s₁ mg mb fa o pm cd doc a vs ns G Y ho hd hcd hmg hobj hints hlen hg => ?_
  have KX := hY w _ Y
  obtain ⟨fd, c, Pt, ht, hK, hb, hF⟩ := F w mg fa _ KX G.T.g hmg
  obtain ⟨d', hrec'⟩ := Option.isSome_iff_exists.mp hrec
  obtain ⟨C, hP⟩ := tab_of G.T KX hrec' ht
  have hB : s₁.heap.BuiltinsAt mg Pt := by
    obtain ⟨bm, ob, b1, b2, b3, b4, b5, b6⟩ := G.T.bmain
    refine ⟨bm, ob, b1, b2, fun z => ?_, fun z => ?_, b3, b4, b5, b6⟩
    · obtain ⟨og, es, ep, e, dd, _⟩ := G.T.g
      rw [← z, b3] at e; cases e; rw [b6] at dd; cases dd
    · rw [z, hP] at b3; cases b3; cases b4
  exact law_callT KX G.T.g G.T.b G.T.builtins G.T.nolimit hg hobj hints (Nat.le_trans hlen hn2) hr hK C hP hB hF hb fun H hS hT => hsp (K w.params) H a Pt ns hlen hS hT
end L2

set_option Elab.async false
set_option linter.all false
set_option maxRecDepth 100000
set_option maxHeartbeats 4000000
namespace L2
open PySem PySem.Spec PyProof.Rows PySem.W

theorem lri_nolen : typeLookup (.type "list_reverseiterator") "__len__" = pure none := by rw [typeLookup_type, builtinLookup_eq_fast]; kernel_rfl
theorem lri_hint : typeLookup (.type "list_reverseiterator") "__length_hint__" = pure (some (.builtin "list_reverseiterator.__length_hint__")) := by rw [typeLookup_type, builtinLookup_eq_fast]; kernel_rfl
section
variable {prog : Program} {w : World} {A : Around} {E : Value → Shared → Prop} {s : Shared}
theorem rev_hint {it : Addr} {Q : Bool → Shared → Prop} (hT : s.TypeIs (.ref it) "list_reverseiterator") (hq : Q false s) : wpAny (model prog w) A (Builtin.List.listLengthHint (.ref it)) Q E s := by
  unfold Builtin.List.listLengthHint
  refine wpAny_bind (wpAny_specialOf hT lri_nolen ?_)
  show wpAny _ A (specialOf (Value.ref it) (Str.ofString "__length_hint__") >>= _) _ _ _
  refine wpAny_bind (wpAny_specialOf hT lri_hint ?_)
  first
    | (generalize hid : ("list_reverseiterator.__length_hint__" : String) = id0; (fail_if_success (clear hid id0)); wp_delta; rw [show splitId id0 = some ("list_reverseiterator", "__length_hint__") from by subst hid; decide +kernel]; subst hid)
  refine wpAny_bind (wpAny_isInstance (b := true) hT (by rw [isSubtype_type]; kernel_rfl) ?_)
  exact wpAny_pure hq
theorem rev_extend {R : Result → Shared → Prop} {it l S : Addr} {items : Array Value} {res : Value} {c₀ : Nat} (hh : A.handled = none) (hit : s.heap.IsRevIter it l ((items.size : Int) - 1)) (hl : s.heap.IsList l items) (hli : l ≠ it) (hSi : S ≠ it) (hSl : S ≠ l)
    (hS : s.heap.get? S = some { cls := .type "list", data := .seq #[] c₀ }) (hn : items.size ≤ sizeLine)
    (hR : ∀ h' tk acc c, (∀ b o, b ≠ S → b ≠ it → s.heap.get? b = some o → h'.get? b = some o) → h'.get? S = some { cls := .type "list", dict := none, data := .seq acc c, slots := #[] } → ItemsOf (fun i v => items[items.size - 1 - i]? = some v) acc items.size → R (.ok (.ret res)) { s with heap := h', toks := tk }) :
    wpAny (model prog w) A.in1 (Builtin.List.listExtendWith (.ref S) (.ref it) res)
      (fun fin s' => match fin with | .done f => R (.ok f) s' | .again c' => c'.quiet = true ∧ codeAny (model prog w) A c' R s') (fun e s' => R (.error e) s') s := by
  have W := Walks.listRev (prog := prog) (w := w) (A := A.in1) hh it l hli items
  have hT : s.TypeIs (.ref it) "list_reverseiterator" := hit.typeIs
  have hSf : S ∉ [it, l] := by simp only [List.mem_cons, List.not_mem_nil, or_false, not_or]; exact ⟨hSi, hSl⟩
  unfold Builtin.List.listExtendWith
  refine wpAny_bind (wpAny_typeOf hT ?_)
  have s1 : Builtin.List.listSameRef (.ref S) (.ref it) = false := by simp [Builtin.List.listSameRef, hSi]
  have s2 : (Value.type "list_reverseiterator" == Value.type "list") = false := by decide
  have s3 : (Value.type "list_reverseiterator" == Value.type "tuple") = false := by decide
  simp only [s1, s2, s3, Bool.or_false, Bool.false_eq_true, if_false]
  refine wpAny_bind (wpAny_pyIter_revIter hit ?_)
  refine wpAny_bind (wpAny_holding (rev_hint hT ?_))
  have st : (0 : Nat) ≤ items.size ∧ s.heap.IsRevIter it l ((items.size : Int) - 1 - ((0 : Nat) : Int)) ∧ s.heap.IsList l items := ⟨Nat.zero_le _, by simpa using hit, hl⟩
  have key : codeAny (model prog w) A (.builtin "list.extend.loop" ⟨[.ref S, .ref it, res], []⟩) R s := by
    refine codeAny_extend_loopS W.toS hn S hSf res items.size 0 _ #[] c₀ rfl (Nat.zero_le _) st hS (ItemsOf.nil _) fun s' acc c hm hS' hacc => ?_
    rw [Moved.eq_with hm]
    refine hR s'.heap s'.toks acc c (fun b o b1 b2 e => hm.heap b o (fun hmem => ?_) e) hS' hacc
    rcases List.mem_cons.mp hmem with z | z
    · exact b1 z
    · exact b2 (List.mem_singleton.mp z)
  first
    | (refine wpAny_ite_split (fun hc => ?_) (fun _ => wpAny_pure ⟨plainId_quiet PySem.F.plain_extend_loop _, key⟩); exact absurd hc (by decide))
    | exact wpAny_pure ⟨plainId_quiet PySem.F.plain_extend_loop _, key⟩
theorem list_rev {it l : Addr} {items : Array Value} {Q : Value → Shared → Prop} (hh : A.handled = none) (hit : s.heap.IsRevIter it l ((items.size : Int) - 1)) (hl : s.heap.IsList l items) (hli : l ≠ it) (hn : items.size ≤ sizeLine)
    (hQ : ∀ h' tk acc c, (∀ b o, b ≠ it → s.heap.get? b = some o → h'.get? b = some o) → h'.get? s.heap.objs.size = some { cls := .type "list", dict := none, data := .seq acc c, slots := #[] } → ItemsOf (fun i v => items[items.size - 1 - i]? = some v) acc items.size → Q (.ref s.heap.objs.size) { s with heap := h', toks := tk }) :
    wpAny (model prog w) A (call (.type "list") [.ref it]) Q E s := by
  obtain ⟨oi, hoi, hr⟩ := id hit
  obtain ⟨ol, hol, hr2⟩ := id hl
  have ni : s.heap.objs.size ≠ it := Nat.ne_of_gt (Heap.lt_size hoi)
  have nl : s.heap.objs.size ≠ l := Nat.ne_of_gt (Heap.lt_size hol)
  refine callType_codes (Q₁ := fun obj s₁ => obj = .ref s.heap.objs.size ∧ s₁ = { s with heap := s.heap.push { cls := .type "list", data := .seq #[] } }) PySem.F.called_list (PySem.F.typeCall_list_1 _) PySem.F.entry_list_init (code_list_new _ ⟨rfl, rfl⟩) fun obj s₁ h₁ => ?_
  obtain ⟨rfl, rfl⟩ := h₁
  have hS : (s.heap.push { cls := .type "list", data := .seq #[] }).get? s.heap.objs.size = some { cls := .type "list", data := .seq #[] } := Heap.get?_push_size _ rfl
  refine ⟨⟨_, hS, rfl⟩, PySem.F.args_list_init_2 _ _, ?_⟩
  show wpAny _ _ (do let old ← Builtin.List.listItems (.ref s.heap.objs.size); Builtin.List.listUpdate (.ref s.heap.objs.size) (fun _ => #[]); letGo old.toList.reverse; Builtin.List.listExtendWith (.ref s.heap.objs.size) (.ref it) .none) _ _ _
  refine wpAny_bind ?_
  unfold Builtin.List.listItems
  refine wpAny_bind (wpAny_seqItems hS rfl (wpAny_pure ?_))
  show wpAny _ _ (updateSeq s.heap.objs.size (fun _ => #[]) >>= fun _ => letGo (#[] : Array Value).toList.reverse >>= fun _ => Builtin.List.listExtendWith (.ref s.heap.objs.size) (.ref it) .none) _ _ _
  refine wpAny_bind (wpAny_updateSeq hS rfl ?_)
  have hS2 := Heap.get?_update_self (Obj.mapSeq (fun _ => (#[] : Array Value))) hS rfl
  have oth : ∀ b o, b ≠ s.heap.objs.size → (s.heap.push { cls := .type "list", data := .seq #[] }).get? b = some o → ((s.heap.push { cls := .type "list", data := .seq #[] }).update s.heap.objs.size (Obj.mapSeq (fun _ => (#[] : Array Value)))).get? b = some o :=
    fun b o hb e => (Heap.get?_update_other _ _ (Ne.symm hb)).trans e
  refine wpAny_bind (wpAny_letGo ?_)
  refine rev_extend (A := A.in1) (it := it) (l := l) (items := items) hh ⟨oi, oth it _ (Ne.symm ni) (Heap.get?_push_of_some _ hoi), hr⟩ ⟨ol, oth l _ (Ne.symm nl) (Heap.get?_push_of_some _ hol), hr2⟩ hli ni nl hS2 hn fun h' tk acc c hk hD hacc => ⟨rfl, ?_⟩
  exact hQ h' tk acc c (fun b o b1 e => hk b o (Nat.ne_of_lt (Heap.lt_size e)) b1 (oth b o (Nat.ne_of_lt (Heap.lt_size e)) (Heap.get?_push_of_some _ e))) hD hacc
end
theorem rev_items {items : List Value} {acc : Array Value} (h : ItemsOf (fun i v => items.toArray[items.toArray.size - 1 - i]? = some v) acc items.toArray.size) : acc.toList = items.reverse := by
  obtain ⟨h1, h2⟩ := h
  simp only [List.size_toArray] at h1 h2
  apply List.ext_getElem?
  intro i
  by_cases hi : i < items.length
  · rw [List.getElem?_reverse hi]
    have hi' : i < acc.size := by omega
    have e := h2 i acc[i] (by simp [hi'])
    rw [Array.getElem?_toList, Array.getElem?_eq_getElem hi', ← e]
    simp
  · rw [List.getElem?_eq_none (by simp; omega), List.getElem?_eq_none (by simp; omega)]

section
variable {X : Cx}
/-- list(reversed(e)): the two calls in one -/
theorem pe_listrev {e : Expr} {ta : TA} {p1 p2 pos1 pos2 : Pos} (hc : X.calm = true) (gl : Gl X "list") (ml : X.mg "list" = none) (gr : Gl X "reversed") (mr : X.mg "reversed" = none) (ha : PA X [e] ta)
    (hs : starEach [e] X.env = (false, eval e X.env) :: starEach [] X.env := by rfl) (hpl : (backTo pos2 (starEach [] X.env)).any (·.1) = false := by rfl) :
    PE X (.Call (.Name "list" p1) [.Call (.Name "reversed" p2) [e] [] pos2] [] pos1) (fun σ H Q => ta σ H fun vs H1 => ∃ (a : Addr) (xs : List V), vs = [.ref a] ∧ SqL X.K H1 a xs ∧ ∀ r H2, Same H1 H2 → H1 r = none → H2 r = some (.lst xs.reverse) → Q (.ref r) H2) := by
  intro pins s σ H Q I h
  refine wpAny_Call_Name_kw (ld_blt I gl ml boot_list ?_)
  refine PyProof.Rows.callWith_type1 ?_ rfl rfl
  show wpAny _ _ (spliced ((false, eval (.Call (.Name "reversed" p2) [e] [] pos2) X.env) :: backTo pos1 (starEach [] X.env))) _ _ s
  refine Calls.spliced_cons (wpAny_Call_Name_kw (ld_blt I gr mr boot_reversed (PyProof.Rows.callWith_type1 (thn (ha pos2 pins s σ H _ I h) fun us s1 ⟨vs, H1, I1, r1, q1⟩ => ?_) hs hpl)))
  obtain ⟨a, xs, e1, hq, q⟩ := q1
  subst e1
  obtain ⟨u, rfl, ru⟩ := vals1 r1
  cases ru
  obtain ⟨its, rv, pl, hz⟩ := I1.list hq
  refine call_reversed_list pl.isList (Calls.spliced_nil ?_)
  generalize hro : revObj a ((its.toArray.size : Int) - 1) = ro
  generalize hit : s1.heap.objs.size = it
  have hlt : a < s1.heap.objs.size := by obtain ⟨o, n, e2, _⟩ := pl; exact Heap.lt_size e2
  have hai : a ≠ it := by rw [← hit]; exact Nat.ne_of_lt hlt
  have hob : (s1.heap.push ro).get? it = some ro := by rw [← hit]; exact Heap.get?_push_size _ (by rw [← hro]; rfl)
  have I2 : Inv X pins σ H1 { s1 with heap := s1.heap.push ro } := I1.kept (t' := s1.toks) fun b o e => Heap.get?_push_of_some _ e
  have hle : s1.heap.objs.size ≤ it := Nat.le_of_eq hit
  have fpi : FpOk X pins H1 it := I1.fpOk hle (I1.hok.fresh hle)
  have pl2 : (s1.heap.push ro).IsList a its.toArray := pl.isList.push _
  refine list_rev (s := { s1 with heap := s1.heap.push ro }) (I1.ok.hd hc) (it := it) (l := a) (items := its.toArray) ⟨ro, hob, by rw [← hro]; rfl, by rw [← hro]; rfl⟩ pl2 hai (by rw [List.size_toArray, ← rv.length]; exact hz) fun h' tk acc c hk hD hacc => ?_
  have I3 : Inv X pins σ H1 { s1 with heap := h', toks := tk } := Inv.turnedL (s := { s1 with heap := s1.heap.push ro }) (t' := tk) (ch := [it]) I2 (fun b o hb e => hk b o (by simpa using hb) e) fun b hb => by rw [List.mem_singleton.mp hb]; exact fpi
  obtain ⟨f0, f1, f2, f3, f4⟩ := I2.fresh0 (Nat.le_refl (s1.heap.push ro).objs.size)
  have hacc' := rev_items hacc
  have hD' : h'.get? (s1.heap.push ro).objs.size = some { cls := .type "list", data := .seq its.reverse.toArray c } := by rw [← hacc']; simpa using hD
  refine ⟨.ref (s1.heap.push ro).objs.size, _, I3.track (o := .lst xs.reverse) f0 f1 f2 f3 f4 ⟨by rw [List.length_reverse]; exact hz, its.reverse, c, rv.reverse, hD'⟩, rfl, q _ _ (same_upd f0) f0 upd_same⟩

/-! ### a list compared with the empty one -/
theorem op_eqNil (hu : X.A.units < cLine) : OpR X (compareOp .Eq) (fun x y H Q => ∃ (a b : Addr) (xs : List V), x = .ref a ∧ y = .ref b ∧ SqL X.K H a xs ∧ SqL X.K H b [] ∧ Q (.bl xs.isEmpty) H) := by
  intro pins s σ H x y v u Q I rx ry h
  obtain ⟨a, b, xs, rfl, rfl, ha, hb, q⟩ := h
  cases rx; cases ry
  obtain ⟨its, rv, pl, _⟩ := I.list ha
  obtain ⟨jts, rw', pl2, _⟩ := I.list hb
  cases rw'
  cases rv with
  | nil => exact PySem.SeqAt.eq_listAt (e := fun _ => true) pl.isList pl2.isList rfl hu (fun j h1 _ => absurd h1 (by simp)) ⟨.bl true, H, I, rfl, q⟩
  | cons r t => exact PySem.SeqAt.eq_list_lengthsAt pl.isList pl2.isList (by simp) hu ⟨.bl false, H, I, rfl, q⟩
theorem op_eqInts (hu : X.A.units + 64 < cLine) : OpR X (compareOp .Eq) (fun x y H Q => ∃ (a b : Addr) (ns ms : List Int), x = .ref a ∧ y = .ref b ∧ SqL X.K H a (ns.map V.int) ∧ SqL X.K H b (ms.map V.int) ∧ Q (.bl (decide (ns = ms))) H) := by
  intro pins s σ H x y v u Q I rx ry h
  obtain ⟨a, b, ns, ms, rfl, rfl, ha, hb, q⟩ := h
  cases rx; cases ry
  obtain ⟨its, rv, pl, _⟩ := I.list ha
  obtain ⟨jts, rw', pl2, _⟩ := I.list hb
  exact eq_intsK pl.isList (ints_rel rv) pl2.isList (ints_rel rw') hu ⟨.bl _, H, I, rfl, q⟩
theorem op_neInts (hu : X.A.units + 64 < cLine) : OpR X (compareOp .NotEq) (fun x y H Q => ∃ (a b : Addr) (ns ms : List Int), x = .ref a ∧ y = .ref b ∧ SqL X.K H a (ns.map V.int) ∧ SqL X.K H b (ms.map V.int) ∧ Q (.bl (!decide (ns = ms))) H) := by
  intro pins s σ H x y v u Q I rx ry h
  obtain ⟨a, b, ns, ms, rfl, rfl, ha, hb, q⟩ := h
  cases rx; cases ry
  obtain ⟨its, rv, pl, _⟩ := I.list ha
  obtain ⟨jts, rw', pl2, _⟩ := I.list hb
  exact ne_intsK pl.isList (ints_rel rv) pl2.isList (ints_rel rw') hu ⟨.bl _, H, I, rfl, q⟩
theorem units64 {k : Nat} {A : Around} (r : Room k A) : A.units + 64 < cLine := r.units

/-! ### isinstance -/
theorem call_isinst : CallR X (.builtin "isinstance") (fun xs H Q => ∃ (x : V) (n : String) (t : Value) (b : Bool), xs = [x, .ty n] ∧ TyOf X.K H x t ∧ PySem.W.kitOne X.K t (.type n) = some b ∧ Q (.bl b) H) := by
  intro pins s σ H xs us Q I r h
  obtain ⟨x, n, t, b, e, ty, k, q⟩ := h
  subst e
  obtain ⟨u, v, rfl, ru, rv⟩ := vals2 r
  cases (show v = Value.type n from rv)
  exact isinst_ok I ru ty k fun tk => ⟨.bl b, H, I.tok tk, rfl, q⟩
end
end L2

set_option Elab.async false
set_option linter.all false
set_option maxRecDepth 100000
set_option maxHeartbeats 4000000
namespace L2
open PySem PySem.Spec PyProof.Rows PySem.W

theorem tT {b : Bool} {A B : Prop} (e : b = true) (h : A) : if b = true then A else B := by rw [if_pos e]; exact h
theorem tF {b : Bool} {A B : Prop} (e : b = false) (h : B) : if b = true then A else B := by rw [if_neg (by rw [e]; decide)]; exact h
theorem dF {c : Prop} [Decidable c] (h : ¬ c) : decide c = false := decide_eq_false h
theorem dT {c : Prop} [Decidable c] (h : c) : decide c = true := decide_eq_true h
/-! ### lists of lists of ints -/
abbrev iV (r : List Int) : List V := r.map V.int
abbrev nV (cs : List Nat) : List V := cs.map fun (n : Nat) => V.int (n : Int)
def RowAt (H : Hp) (p : Addr) (r : List Int) : Prop := H p = some (.lst (iV r))
def LL (H : Hp) (a : Addr) (rows : List (List Int)) : Prop := ∃ as : List Addr, H a = some (.lst (as.map V.ref)) ∧ Paired (RowAt H) as rows
theorem paired_get {α β : Type} {F : α → β → Prop} : ∀ {l₁ : List α} {l₂ : List β} {i : Nat} {b : β}, Paired F l₁ l₂ → l₂[i]? = some b → ∃ a, l₁[i]? = some a ∧ F a b
  | _, _, _, _, .nil, e => by simp at e
  | _, _, 0, _, .cons r _, e => by simp at e; subst e; exact ⟨_, rfl, r⟩
  | _, _, i + 1, b, .cons _ t, e => by
    obtain ⟨a, h1, h2⟩ := paired_get (i := i) t (by simpa using e)
    exact ⟨a, by simpa using h1, h2⟩
theorem paired_get' {α β : Type} {F : α → β → Prop} : ∀ {l₁ : List α} {l₂ : List β} {i : Nat} {a : α}, Paired F l₁ l₂ → l₁[i]? = some a → ∃ b, l₂[i]? = some b ∧ F a b
  | _, _, _, _, .nil, e => by simp at e
  | _, _, 0, _, .cons r _, e => by simp at e; subst e; exact ⟨_, rfl, r⟩
  | _, _, i + 1, a, .cons _ t, e => by
    obtain ⟨b, h1, h2⟩ := paired_get' (i := i) t (by simpa using e)
    exact ⟨b, by simpa using h1, h2⟩
theorem Paired.mapP' {α β : Type} {F G : α → β → Prop} : ∀ {l₁ : List α} {l₂ : List β}, Paired F l₁ l₂ → (∀ a b, a ∈ l₁ → F a b → G a b) → Paired G l₁ l₂
  | _, _, .nil, _ => .nil
  | _, _, .cons r t, f => .cons (f _ _ List.mem_cons_self r) (Paired.mapP' t fun a b h => f a b (List.mem_cons_of_mem _ h))
theorem LL.kp {T : Tab} {H H' : Hp} {a : Addr} {rows : List (List Int)} (x : LL H a rows) (k : Kp T H H') (t : T.Ok H) : LL H' a rows := by
  obtain ⟨as, h1, h2⟩ := x
  exact ⟨as, k.lst t h1, Paired.mapP h2 fun p r h => k.lst t h⟩
theorem LL.same {H H' : Hp} {a : Addr} {rows : List (List Int)} (x : LL H a rows) (k : Same H H') : LL H' a rows := by
  obtain ⟨as, h1, h2⟩ := x
  exact ⟨as, k _ _ h1, Paired.mapP h2 fun p r h => k _ _ h⟩
structure Sized (rows : List (List Int)) : Prop where
  few : rows.length ≤ 200
  all : (rows.map List.length).sum < 64
theorem len_le_sum : ∀ {rows : List (List Int)} {r : List Int}, r ∈ rows → r.length ≤ (rows.map List.length).sum
  | q :: rows, r, h => by
    simp only [List.map_cons, List.sum_cons]
    rcases List.mem_cons.mp h with e | h
    · subst e; omega
    · have := len_le_sum h; omega
theorem Sized.row {rows : List (List Int)} (s : Sized rows) {r : List Int} (h : r ∈ rows) : r.length < 64 := Nat.lt_of_le_of_lt (len_le_sum h) s.all

theorem _root_.List.sum_take_map_le (rows : List (List Int)) (i : Nat) : ((rows.take i).map List.length).sum ≤ (rows.map List.length).sum := by
  induction rows generalizing i with
  | nil => simp
  | cons r rows ih =>
    cases i with
    | zero => simp
    | succ i => simp only [List.take_succ_cons, List.map_cons, List.sum_cons]; have := ih i; omega
/-! ### readings by name (a block's own context has the same written part) -/
def rListOf (K : PySem.W.Frag) : List V → Hp → VK → Prop := fun xs H Q => ∃ p ys, xs = [.ref p] ∧ (SqL K H p ys ∨ SqT K H p ys) ∧ ∀ l, H l = none → Q (.ref l) (upd H l (.lst ys))
def rLen (K : PySem.W.Frag) : List V → Hp → VK → Prop := fun xs H Q => ∃ p ys, xs = [.ref p] ∧ (SqL K H p ys ∨ SqT K H p ys) ∧ Q (.int ys.length) H
def rSum (K : PySem.W.Frag) : List V → Hp → VK → Prop := fun xs H Q => ∃ (p : Addr) (ns : List Int), xs = [.ref p] ∧ SqL K H p (ns.map V.int) ∧ Q (.int ns.sum) H
def rSorted (K : PySem.W.Frag) : List V → Hp → VK → Prop := fun xs H Q => ∃ (p : Addr) (ns : List Int), xs = [.ref p] ∧ SqL K H p (ns.map V.int) ∧ ns.length < 64 ∧ ∀ (r : Addr) (ms : List Int), H r = none → ms.Perm ns → ms.Pairwise (· ≤ ·) → Q (.ref r) (upd H r (.lst (ms.map V.int)))
def tRev (K : PySem.W.Frag) (ta : TA) : TE := fun σ H Q => ta σ H fun vs H1 => ∃ (a : Addr) (xs : List V), vs = [.ref a] ∧ SqL K H1 a xs ∧ ∀ r H2, Same H1 H2 → H1 r = none → H2 r = some (.lst xs.reverse) → Q (.ref r) H2
/-! ### what the defs promise -/
def spRefuseRow : Sp := fun vs H Q _ => ∃ (p : Addr) (r : List Int), vs = [.ref p] ∧ H p = some (.lst (iV r)) ∧ r.length < 200 ∧ (∀ x ∈ r, 0 ≤ x) ∧ r.Pairwise (fun a b => WB.geB a b = true) ∧ ∀ H', Same H H' → Q .non H'
def spRefuse : Sp := fun vs H Q _ => ∃ (a : Addr) (w : Int) (rows : List (List Int)), vs = [.ref a, .int w] ∧ LL H a rows ∧ Sized rows ∧ WB.Good rows ∧ 0 ≤ w ∧ ∀ H', Same H H' → Q .non H'
abbrev ofs (L : List WB.Of) : List (Int × Int) := L.map fun p => (p.1, (p.2 : Int))
def spRanked (T : Tab) : Sp := fun vs H Q _ => ∃ (a : Addr) (rows : List (List Int)), vs = [.ref a] ∧ LL H a rows ∧ Sized rows ∧ T.Ok H ∧
  ∀ r H' zs, Kp T H H' → H r = none → H' r = some (.lst (zRefs zs)) → ZsOk H' zs → zs.map (·.2) = ofs (WB.ranked rows) → Q (.ref r) H'
def spDealt (T : Tab) : Sp := fun vs H Q _ => ∃ (a : Addr) (w : Int) (rows : List (List Int)), vs = [.ref a, .int w] ∧ LL H a rows ∧ Sized rows ∧ WB.Good rows ∧ 0 ≤ w ∧ T.Ok H ∧
  ∀ r H', Kp T H H' → H r = none → H' r = some (.lst (nV (WB.dealt rows w.toNat))) → Q (.ref r) H'
def optV : Option Int → V
  | none => .non
  | some b => .int b
def spFirst (T : Tab) : Sp := fun vs H Q _ => ∃ (a : Addr) (w : Int) (rows : List (List Int)), vs = [.ref a, .int w] ∧ LL H a rows ∧ Sized rows ∧ WB.Good rows ∧ 0 ≤ w ∧ T.Ok H ∧ ∀ H', Kp T H H' → Q (optV (WB.firstLeft rows w.toNat)) H'

/-! ### the order of the pairs is the order of the offers -/
def kneg (p : Int × Int) : Int × Int := (-p.1, p.2)
theorem ranked_of {rows : List (List Int)} {zs zs' : Zs} (hz : zs.map (·.2) = ofs (WB.offers rows)) (hp : zs'.Perm zs) (hs : (zs'.map fun z => kneg z.2).Pairwise lexle) : zs'.map (·.2) = ofs (WB.ranked rows) := by
  have hperm : (zs'.map (·.2)).Perm (ofs (WB.offers rows)) := by rw [← hz]; exact hp.map _
  let back : Int × Int → WB.Of := fun p => (p.1, p.2.toNat)
  have hb : (ofs (WB.offers rows)).map back = WB.offers rows := by
    simp only [List.map_map]
    conv => rhs; rw [← List.map_id (WB.offers rows)]
    apply List.map_congr_left
    intro p _
    simp [back]
  have hL : ((zs'.map (·.2)).map back).Perm (WB.offers rows) := by rw [← hb]; exact hperm.map _
  have hnn : ∀ p ∈ zs'.map (·.2), 0 ≤ p.2 := fun p hp' => by
    have := hperm.mem_iff.mp hp'
    obtain ⟨q, _, rfl⟩ := List.mem_map.mp this
    simp
  have hsort : ((zs'.map (·.2)).map back).Pairwise (fun a b => WB.ahead a b = true) := by
    rw [List.pairwise_map]
    have h2 : (zs'.map (·.2)).Pairwise (fun p q => lexle (kneg p) (kneg q)) := by
      have e : (zs'.map fun z => kneg z.2) = (zs'.map (·.2)).map kneg := by rw [List.map_map]; rfl
      rw [e, List.pairwise_map] at hs
      exact hs
    refine List.Pairwise.imp_of_mem ?_ h2
    intro a b ha hb' h
    have n1 := hnn a ha
    have n2 := hnn b hb'
    rw [WB.ahead_iff]
    simp only [lexle, lex2, kneg, Bool.or_eq_false_iff, Bool.and_eq_false_iff, decide_eq_false_iff_not] at h
    simp only [back]
    omega
  have e := WB.ranked_eq hL hsort
  have e2 : (zs'.map (·.2)) = ofs ((zs'.map (·.2)).map back) := by
    show _ = ((zs'.map (·.2)).map back).map fun p => (p.1, (p.2 : Int))
    rw [List.map_map (l := zs'.map (·.2))]
    conv => lhs; rw [← List.map_id (zs'.map (·.2))]
    apply List.map_congr_left
    intro p hp'
    have := hnn p hp'
    simp only [id, Function.comp, back]
    rw [Int.toNat_of_nonneg this]
  rw [e2, e]
theorem cut_take {xs : List V} {w : Int} (h : 0 ≤ w) : cutV xs none (some w) = xs.take w.toNat := by
  unfold cutV
  have e : HT.sIx xs.length xs.length (some w) = min w.toNat xs.length := if_neg (by omega)
  rw [HT.sIx_none, e, List.drop_zero, Nat.sub_zero]
  rcases Nat.le_total w.toNat xs.length with q | q
  · rw [Nat.min_eq_left q]
  · rw [Nat.min_eq_right q, List.take_length, List.take_of_length_le q]
theorem cut_drop {xs : List V} {w : Int} (h : 0 ≤ w) : cutV xs (some w) none = xs.drop w.toNat := by
  unfold cutV
  have e : HT.sIx xs.length 0 (some w) = min w.toNat xs.length := if_neg (by omega)
  rw [HT.sIx_none, e]
  rcases Nat.le_total w.toNat xs.length with q | q
  · rw [Nat.min_eq_left q, List.take_of_length_le (by rw [List.length_drop]; omega)]
  · rw [Nat.min_eq_right q, List.drop_of_length_le q, List.drop_of_length_le (Nat.le_refl _)]; simp
theorem zr_take (zs : Zs) (n : Nat) : (zRefs zs).take n = zRefs (zs.take n) := by unfold zRefs; rw [List.map_take]
theorem zr_drop (zs : Zs) (n : Nat) : (zRefs zs).drop n = zRefs (zs.drop n) := by unfold zRefs; rw [List.map_drop]
theorem atI_get' {xs : List V} {j : Nat} {v : V} (h : xs[j]? = some v) : atI xs (j : Int) = some v := atI_nat h

/-- xs[j], by values, j not below nought -/
def rGet (K : PySem.W.Frag) : V → V → Hp → VK → Prop := fun o i H Q => ∃ (p : Addr) (xs : List V) (j : Nat) (v : V), o = .ref p ∧ i = .int (j : Int) ∧ SqL K H p xs ∧ xs[j]? = some v ∧ Q v H
theorem get_list {X : Cx} : PGet X (rGet X.K) := by
  intro pins s σ H o i ov iv Q I ro ri h
  obtain ⟨p, xs, j, v, rfl, rfl, hq, hv, q⟩ := h
  cases ro
  obtain ⟨t, rfl⟩ := ri
  obtain ⟨its, r, pl, hz⟩ := I.list hq
  obtain ⟨w, ew, rw'⟩ := r.get hv
  have hj : j < xs.length := (List.getElem?_eq_some_iff.mp hv).1
  have hn := line63
  exact wpAny_getItem_list pl.isList (by omega) (by omega) (by simpa using ew) ⟨v, H, I, rw', q⟩
/-- how many wares each has behind some offers -/
def cntL (n : Nat) (L : List WB.Of) : List Nat := (List.range n).map fun k => (L.filter (fun p => p.2 == k)).length
theorem cntL_nil (n : Nat) : cntL n [] = List.replicate n 0 := by
  unfold cntL
  apply List.ext_getElem?
  intro i
  rw [List.getElem?_map, List.getElem?_replicate]
  by_cases h : i < n
  · rw [List.getElem?_range h, if_pos h]; rfl
  · rw [List.getElem?_eq_none (by simpa using h), if_neg h]; rfl
theorem cntL_get {n : Nat} {L : List WB.Of} {k : Nat} (h : k < n) : (cntL n L)[k]? = some (L.filter (fun p => p.2 == k)).length := by
  unfold cntL; rw [List.getElem?_map, List.getElem?_range h]; rfl
theorem cntL_snoc {n : Nat} {L : List WB.Of} {p : WB.Of} (h : p.2 < n) : cntL n (L ++ [p]) = (cntL n L).set p.2 ((L.filter (fun q => q.2 == p.2)).length + 1) := by
  unfold cntL
  apply List.ext_getElem?
  intro i
  rw [List.getElem?_map]
  by_cases hi : i < n
  · rw [List.getElem?_range hi]
    by_cases e : p.2 = i
    · subst e
      rw [List.getElem?_set_self (by simpa using hi)]
      simp [List.filter_append]
    · rw [List.getElem?_set_ne e, List.getElem?_map, List.getElem?_range hi]
      simp [List.filter_append, e]
  · rw [List.getElem?_eq_none (by simpa using hi), List.getElem?_eq_none (by simpa using hi)]; rfl
theorem nV_set (cs : List Nat) (k m : Nat) : nV (cs.set k m) = (nV cs).set k (.int (m : Int)) := by unfold nV; rw [List.map_set]
theorem rep_flat (n : Nat) (v : V) : (List.replicate n [v]).flatten = List.replicate n v := by
  induction n with
  | zero => rfl
  | succ n ih => rw [List.replicate_succ, List.replicate_succ, List.flatten_cons, ih]; rfl
theorem nV_rep (n : Nat) : nV (List.replicate n 0) = List.replicate n (.int 0) := by unfold nV; rw [List.map_replicate]; rfl
theorem ofs_get {L : List WB.Of} {zs : Zs} (h : zs.map (·.2) = ofs L) {i : Nat} {z : Addr × (Int × Int)} (e : zs[i]? = some z) : ∃ p, L[i]? = some p ∧ z.2 = (p.1, (p.2 : Int)) := by
  have h2 : (zs.map (·.2))[i]? = some z.2 := by rw [List.getElem?_map, e]; rfl
  rw [h, List.getElem?_map] at h2
  cases q : L[i]? with
  | none => rw [q] at h2; cases h2
  | some p => rw [q] at h2; exact ⟨p, rfl, (Option.some.inj h2).symm⟩
end L2

namespace L2
open PySem PySem.Spec PyProof.Rows PySem.W
theorem atI_getD {ns : List Int} {k : Int} (h0 : 0 ≤ k) (h1 : k < (ns.length : Int)) : atI (iV ns) k = some (.int (ns.getD k.toNat 0)) := by
  obtain ⟨j, rfl⟩ : ∃ j : Nat, k = (j : Int) := ⟨k.toNat, by omega⟩
  have hj : j < ns.length := by omega
  refine atI_nat ?_
  rw [List.getElem?_map, List.getElem?_eq_getElem hj]
  simp [hj]
def spWhole : Sp := fun vs H Q _ => ∃ i : Int, vs = [.int i] ∧ Q (.bl true) H
def spAt (K : PySem.W.Frag) : Sp := fun vs H Q _ => ∃ (a : Addr) (ns : List Int) (k : Int), vs = [.ref a, .int k] ∧ SqL K H a (iV ns) ∧ ns.length ≤ 63 ∧ 0 ≤ k ∧ Q (.int (ns.getD k.toNat 0)) H
def spRoom (K : PySem.W.Frag) : Sp := fun vs H Q _ => ∃ (a : Addr) (ns : List Int) (k b : Int), vs = [.ref a, .int k, .int b] ∧ SqL K H a (iV ns) ∧ ns.length ≤ 63 ∧ Q (.int k) H
def spAny : Sp := fun vs H Q _ => ∃ c : Int, vs = [.int c] ∧ ∀ v H', Same H H' → Q (.int v) H'
def spDrawn : Sp := fun vs H Q _ => ∃ (a : Addr) (ns : List Int) (n : Int), vs = [.ref a, .int n] ∧ H a = some (.lst (iV ns)) ∧ ns.length < 64 ∧ 0 ≤ n ∧ n ≤ 100 ∧
  ∀ r H' rows, Same H H' → H r = none → LL H' r rows → WB.Good rows → rows.length = n.toNat → (rows.map List.length).sum ≤ ns.length → Q (.ref r) H'
def spCopies : Sp := fun vs H Q _ => ∃ (a : Addr) (rows : List (List Int)), vs = [.ref a] ∧ LL H a rows ∧ rows.length ≤ 200 ∧ (∀ r ∈ rows, r.length ≤ 200) ∧ ∀ r H', Same H H' → H r = none → LL H' r rows → Q (.ref r) H'
def spKept : Sp := fun vs H Q _ => ∃ (a b : Addr) (rows : List (List Int)), vs = [.ref a, .ref b] ∧ LL H a rows ∧ LL H b rows ∧ rows.length ≤ 200 ∧ (∀ r ∈ rows, r.length ≤ 200) ∧ Q (.bl true) H
def spAreCounts : Sp := fun vs H Q _ => ∃ (c a : Addr) (cs : List Nat) (rows : List (List Int)) (w : Int), vs = [.ref c, .ref a, .int w] ∧ H c = some (.lst (nV cs)) ∧ LL H a rows ∧ cs.length = rows.length ∧ rows.length ≤ 200 ∧ (∀ k n, cs[k]? = some n → n ≤ (WB.row rows k).length) ∧ (cs.sum : Int) ≤ w ∧ Q (.bl true) H
end L2

set_option Elab.async false
set_option linter.all false
set_option maxRecDepth 100000
set_option maxHeartbeats 4000000
namespace L2
open PySem PySem.Spec PyProof.Rows PySem.W

/-- a def that may be called by its name -/
structure Cal (P : Program) (w : World) (K : PySem.W.Frag) (mg : Str → Option Value) (base : Heap) (k : Nat) (x : Str) (ps : List Str) (sp : Sp) : Prop where
  ex : ∃ (g : Addr) (gd : FuncData), FnOk P w K mg base CX0 k g gd ps sp ∧ Binds K gd ps [] ∧ PySem.W.keepIn K (.ref g) = true ∧ mg x = some (.ref g)
theorem pe_cal {X : Cx} {k j : Nat} {x : Str} {ps : List Str} {sp : Sp} {p pos : Pos} {e : Expr} {es : List Expr} {t : TA} (C : Cal X.prog X.w X.K X.mg X.base k x ps sp) (hr : Room j X.A) (hk : k ≤ j) (hg : Gl X x) (ha : PA X (e :: es) t) (hdb : (x == ("__debug__" : Str)) = false := by decide)
    (he : starEach (e :: es) X.env = (false, eval e X.env) :: starEach es X.env := by rfl) (hpl : (backTo pos (starEach es X.env)).any (·.1) = false := by rfl) : PE X (.Call (.Name x p) (e :: es) [] pos) (tCall sp [] E0 t) := by
  obtain ⟨g, gd, F, hb, hk', hm⟩ := C.ex
  exact pe_call F (hr.mono hk) hg hm hk' hb .nil pass0 ha hdb he hpl

theorem cut_iV (ns : List Int) (lo hi : Option Int) : ∃ ms : List Int, cutV (iV ns) lo hi = iV ms ∧ ms.length ≤ ns.length := by
  refine ⟨(ns.drop (HT.sIx (iV ns).length 0 lo)).take (HT.sIx (iV ns).length (iV ns).length hi - HT.sIx (iV ns).length 0 lo), ?_, ?_⟩
  · unfold cutV iV
    rw [List.map_take, List.map_drop]
  · rw [List.length_take, List.length_drop]; omega
theorem sIx_nn {n d : Nat} {i : Int} (h : 0 ≤ i) : HT.sIx n d (some i) = min i.toNat n := if_neg (by omega)
theorem cut_one {r : List Int} {c : Nat} (h : c ≤ r.length) : cutV (iV r) (some (c : Int)) (some ((c : Int) + 1)) = iV ((r.drop c).take 1) := by
  unfold cutV
  have hl : (iV r).length = r.length := List.length_map _
  have e1 : HT.sIx (iV r).length 0 (some (c : Int)) = c := by
    rw [sIx_nn (by omega), hl]; omega
  have e2 : HT.sIx (iV r).length (iV r).length (some ((c : Int) + 1)) = min (c + 1) r.length := by
    rw [sIx_nn (by omega), hl]; omega
  rw [e1, e2]
  unfold iV
  rw [← List.map_drop, ← List.map_take]
  congr 1
  rcases Nat.lt_or_ge c r.length with q | q
  · rw [Nat.min_eq_left (by omega)]; congr 1; omega
  · rw [List.drop_of_length_le q]; simp
theorem nV_iV (cs : List Nat) : nV cs = iV (cs.map fun n : Nat => (n : Int)) := by unfold nV iV; rw [List.map_map]; rfl
theorem sum_nat : ∀ cs : List Nat, (cs.map fun n : Nat => (n : Int)).sum = (cs.sum : Int)
  | [] => rfl
  | c :: cs => by simp [sum_nat cs]
theorem nV_sq {K : PySem.W.Frag} {H : Hp} {c : Addr} {cs : List Nat} (h : H c = some (.lst (nV cs))) : SqL K H c ((cs.map fun n : Nat => (n : Int)).map V.int) := by
  have e := nV_iV cs
  unfold iV at e
  rw [← e]; exact SqL.of h
def lens (rows : List (List Int)) : List Int := rows.map fun r => (r.length : Int)
theorem lens_sum : ∀ rows : List (List Int), (lens rows).sum = ((rows.map List.length).sum : Int)
  | [] => rfl
  | r :: rows => by
    have := lens_sum rows
    unfold lens at this ⊢
    simp only [List.map_cons, List.sum_cons, this]
    omega
/-- [len(row) for row in rows] -/
theorem lens_w {K : PySem.W.Frag} {i : Nat} {a : Addr} {rows : List (List Int)} {σ : St} {H : Hp} {Q : VK} (hv : σ[i]? = some (some (.ref a))) (hL : LL H a rows) (few : rows.length ≤ 200)
    (q : ∀ D H', Same H H' → H D = none → H' D = some (.lst (iV (lens rows))) → Q (.ref D) H') : tLC (iList K (tVar i)) 1 [] (gName 0) (tCB (rLen K) (tCons (tVar 0) tNil)) σ H Q := by
  obtain ⟨as, h1, h2⟩ := hL
  have hlen : as.length = rows.length := h2.length
  refine ⟨_, hv, a, rfl, ⟨_, SqL.of h1⟩, ?_⟩
  refine lcw rows.length (fun D i ys H' => Same H H' ∧ H D = none ∧ H' D = some (.lst ys) ∧ ys = iV (lens (rows.take i))) (fun D hD => ⟨same_upd hD, hD, upd_same, rfl⟩) (fun D i ys H' hi hP => ?_) (fun D i ys H' hi hP x H2 hy => ?_) (fun D ys H' hP => ?_)
  · obtain ⟨same, hD, hD', rfl⟩ := hP
    refine ⟨hD', ?_, fun hlt => ⟨_, .ref (as[i]'(by omega)), SqL.of (same _ _ h1), by simp [hlen, hlt]⟩, fun e => ⟨_, SqL.of (same _ _ h1), by rw [List.length_map]; omega⟩⟩
    unfold lens iV; rw [List.length_map, List.length_map, List.length_take]; omega
  · obtain ⟨same, hD, hD', rfl⟩ := hP
    obtain ⟨rfl, hv⟩ := hy
    have hi' : i < as.length := by omega
    have hv' := hv _ (SqL.of (same _ _ h1))
    rw [List.getElem?_map, List.getElem?_eq_getElem hi'] at hv'
    have ev : x = .ref as[i] := (Option.some.inj hv').symm
    subst ev
    obtain ⟨r, hr1, hr2⟩ := paired_get' h2 (List.getElem?_eq_getElem hi')
    refine ⟨(Held.refl _).set rfl, _, rfl, as[i], _, rfl, .inl (SqL.of (same _ _ hr2)), hD', ?_, hD, upd_same, ?_⟩
    · exact fun b o e => by rw [upd_ne (ne_of_none e hD)]; exact same b o e
    · rw [List.take_add_one, hr1]
      unfold lens iV
      simp
  · obtain ⟨same, hD, hD', rfl⟩ := hP
    rw [List.take_length] at hD'
    exact q D H' same hD hD'
end L2
namespace L2
open PySem PySem.Spec PyProof.Rows PySem.W
theorem cut_takeI {r : List Int} {c : Nat} : cutV (iV r) none (some (c : Int)) = iV (r.take c) := by
  rw [cut_take (by omega), Int.toNat_natCast]
  unfold iV
  rw [List.map_take]
def spWorth : Sp := fun vs H Q _ => ∃ (a c : Addr) (rows : List (List Int)) (cs : List Nat), vs = [.ref a, .ref c] ∧ LL H a rows ∧ H c = some (.lst (nV cs)) ∧ cs.length = rows.length ∧ rows.length ≤ 200 ∧ ∀ H', Same H H' → Q (.int (WB.val rows cs)) H'
def spReplaced : Sp := fun vs H Q _ => ∃ (a : Addr) (xs : List V) (k : Nat) (v : V), vs = [.ref a, .int (k : Int), v] ∧ H a = some (.lst xs) ∧ k < xs.length ∧ xs.length ≤ 200 ∧ ∀ r H', Same H H' → H r = none → H' r = some (.lst (xs.set k v)) → Q (.ref r) H'
def spLost (T : Tab) : Sp := fun vs H Q _ => ∃ (a c : Addr) (w : Int) (k : Nat) (rows : List (List Int)), vs = [.ref a, .int w, .ref c, .int (k : Int)] ∧ LL H a rows ∧ Sized rows ∧ WB.Good rows ∧ 0 ≤ w ∧ H c = some (.lst (nV (WB.dealt rows w.toNat))) ∧ k < rows.length ∧ T.Ok H ∧
  ∀ H', Kp T H H' → Q (.int (WB.price rows w.toNat k)) H'
def prices (rows : List (List Int)) (w : Nat) : List Int := (List.range rows.length).map (WB.price rows w)
def spPaid (T : Tab) : Sp := fun vs H Q _ => ∃ (a : Addr) (w : Int) (rows : List (List Int)), vs = [.ref a, .int w] ∧ LL H a rows ∧ Sized rows ∧ WB.Good rows ∧ 0 ≤ w ∧ T.Ok H ∧
  ∀ r H', Kp T H H' → H r = none → H' r = some (.lst (iV (prices rows w.toNat))) → Q (.ref r) H'
def spTaken (T : Tab) : Sp := fun vs H Q _ => ∃ (a : Addr) (w : Int) (rows : List (List Int)), vs = [.ref a, .int w] ∧ LL H a rows ∧ Sized rows ∧ WB.Good rows ∧ 0 ≤ w ∧ T.Ok H ∧
  ∀ H', Kp T H H' → Q (.int (prices rows w.toNat).sum) H'
theorem paired_setA {F : Addr → List Int → Prop} {b : Addr} {z : List Int} : ∀ {bs : List Addr} {rows : List (List Int)} {j : Nat}, Paired F bs rows → F b z → Paired F (bs.set j b) (rows.set j z)
  | _, _, _, .nil, _ => .nil
  | c :: bs, r :: rows, 0, .cons h t, e => .cons e t
  | c :: bs, r :: rows, j + 1, .cons h t, e => .cons h (paired_setA t e)
theorem Sized.set {rows : List (List Int)} (s : Sized rows) (k : Nat) : Sized (rows.set k []) := by
  refine ⟨by rw [List.length_set]; exact s.few, Nat.lt_of_le_of_lt ?_ s.all⟩
  have : ∀ (rows : List (List Int)) (k : Nat), ((rows.set k []).map List.length).sum ≤ (rows.map List.length).sum := by
    intro rows
    induction rows with
    | nil => intro k; simp
    | cons r rows ih =>
      intro k
      cases k with
      | zero => simp
      | succ k => simp only [List.set_cons_succ, List.map_cons, List.sum_cons]; have := ih k; omega
  exact this rows k
theorem set_cat {α : Type} {xs : List α} {k : Nat} {v : α} (h : k < xs.length) : xs.take k ++ [v] ++ xs.drop (k + 1) = xs.set k v := by
  rw [List.set_eq_take_append_cons_drop, if_pos h]; simp
end L2
namespace L2
theorem kp_upd {T : Tab} {H H' : Hp} {D : PySem.Addr} {xs : List V} {o : HO} (k : Kp T H H') (hD : H D = none) (t : T.Ok H) (h : H' D = some (.lst xs)) : Kp T H (upd H' D o) :=
  ⟨fun b u hb e => by rw [upd_ne (ne_of_none e hD)]; exact k.same b u hb e, fun _ => Tab.upd (k.tab t) h (Tab.ne (k.tab t) h)⟩
end L2
namespace L2
open PySem PySem.Spec PyProof.Rows PySem.W
def spValue : Sp := fun vs H Q _ => ∃ (a c : Addr) (rows : List (List Int)) (cs : List Nat), vs = [.ref a, .ref c] ∧ LL H a rows ∧ H c = some (.lst (nV cs)) ∧ cs.length = rows.length ∧ rows.length ≤ 200 ∧ ∀ H', Same H H' → Q (.int (WB.val rows cs)) H'
def spMost : Sp := fun vs H Q _ => ∃ (a : Addr) (w : Int) (rows : List (List Int)), vs = [.ref a, .int w] ∧ LL H a rows ∧ Sized rows ∧ 0 ≤ w ∧ ∀ H', Same H H' → Q (.int (WB.top w.toNat rows.flatten)) H'
def spNumbers : Sp := fun vs H Q _ => ∃ (a b : Addr) (ns : List Int), vs = [.ref a, .ref b] ∧ H a = some (.lst (iV ns)) ∧ H b = some (.lst (iV ns)) ∧ ns.length ≤ 200 ∧ Q (.bl true) H
def spDealtBy : Sp := fun vs H Q _ => ∃ (a : Addr) (w : Int) (rows : List (List Int)), vs = [.ref a, .int w] ∧ LL H a rows ∧ Sized rows ∧ 0 ≤ w ∧ ∀ r H', Same H H' → H r = none → H' r = some (.lst (nV (WB.dealt rows w.toNat))) → Q (.ref r) H'
def spPricesBy : Sp := fun vs H Q _ => ∃ (a : Addr) (w : Int) (rows : List (List Int)), vs = [.ref a, .int w] ∧ LL H a rows ∧ Sized rows ∧ WB.Good rows ∧ 0 ≤ w ∧ ∀ r H', Same H H' → H r = none → H' r = some (.lst (iV (prices rows w.toNat))) → Q (.ref r) H'
theorem flat_len (rows : List (List Int)) : rows.flatten.length = (rows.map List.length).sum := List.length_flatten
theorem flat_take_len (rows : List (List Int)) (i : Nat) : (rows.take i).flatten.length ≤ (rows.map List.length).sum := by rw [flat_len]; exact List.sum_take_map_le rows i
end L2
namespace L2
open PySem PySem.Spec PyProof.Rows PySem.W
/-- the pairs of _law_dealt_by -/
abbrev nofs (L : List WB.Of) : List (Int × Int) := L.map fun p => (0 - p.1, (p.2 : Int))
theorem kneg_kneg (p : Int × Int) : kneg (kneg p) = p := by simp [kneg]
theorem ranked_neg {rows : List (List Int)} {zs zs' : Zs} (hz : zs.map (·.2) = nofs (WB.offers rows)) (hp : zs'.Perm zs) (hs : (zs'.map fun z => z.2).Pairwise lexle) : zs'.map (·.2) = nofs (WB.ranked rows) := by
  let n : Addr × (Int × Int) → Addr × (Int × Int) := fun z => (z.1, kneg z.2)
  have h1 : (zs.map n).map (·.2) = ofs (WB.offers rows) := by
    have e : (zs.map n).map (·.2) = (zs.map (·.2)).map kneg := by rw [List.map_map, List.map_map]; rfl
    rw [e, hz, nofs, ofs, List.map_map]
    apply List.map_congr_left
    intro p _
    simp [kneg]
  have h3 : ((zs'.map n).map fun z => kneg z.2).Pairwise lexle := by
    have e : ((zs'.map n).map fun z => kneg z.2) = zs'.map fun z => z.2 := by
      rw [List.map_map]
      apply List.map_congr_left
      intro z _
      exact kneg_kneg z.2
    rw [e]; exact hs
  have h4 := ranked_of h1 (hp.map n) h3
  have e : (zs'.map n).map (·.2) = (zs'.map (·.2)).map kneg := by rw [List.map_map, List.map_map]; rfl
  rw [e] at h4
  have h5 := congrArg (List.map kneg) h4
  rw [List.map_map] at h5
  have e2 : (zs'.map (·.2)).map (kneg ∘ kneg) = zs'.map (·.2) := by
    conv => rhs; rw [← List.map_id (zs'.map (·.2))]
    apply List.map_congr_left
    intro p _
    exact kneg_kneg p
  rw [e2] at h5
  rw [h5, nofs, ofs, List.map_map]
  apply List.map_congr_left
  intro p _
  simp [kneg]
theorem nofs_get {L : List WB.Of} {zs : Zs} (h : zs.map (·.2) = nofs L) {i : Nat} {z : Addr × (Int × Int)} (e : zs[i]? = some z) : ∃ p, L[i]? = some p ∧ z.2 = (0 - p.1, (p.2 : Int)) := by
  have h2 : (zs.map (·.2))[i]? = some z.2 := by rw [List.getElem?_map, e]; rfl
  rw [h, List.getElem?_map] at h2
  cases q : L[i]? with
  | none => rw [q] at h2; cases h2
  | some p => rw [q] at h2; exact ⟨p, rfl, (Option.some.inj h2).symm⟩
theorem paired_erase {F : Addr → List Int → Prop} : ∀ {bs : List Addr} {rows : List (List Int)} {j : Nat}, Paired F bs rows → Paired F (bs.eraseIdx j) (rows.eraseIdx j)
  | _, _, _, .nil => .nil
  | c :: bs, r :: rows, 0, .cons h t => t
  | c :: bs, r :: rows, j + 1, .cons h t => .cons h (paired_erase t)
theorem Sized.erase {rows : List (List Int)} (s : Sized rows) (k : Nat) : Sized (rows.eraseIdx k) := by
  refine ⟨Nat.le_trans (List.length_eraseIdx_le rows k) s.few, Nat.lt_of_le_of_lt ?_ s.all⟩
  have : ∀ (rows : List (List Int)) (k : Nat), ((rows.eraseIdx k).map List.length).sum ≤ (rows.map List.length).sum := by
    intro rows
    induction rows with
    | nil => intro k; simp
    | cons r rows ih =>
      intro k
      cases k with
      | zero => simp
      | succ k => simp only [List.eraseIdx_cons_succ, List.map_cons, List.sum_cons]; have := ih k; omega
  exact this rows k
theorem offers_snoc2 (rows : List (List Int)) (i : Nat) (r : List Int) (h : rows[i]? = some r) : ∀ k, WB.offersFrom k (rows.take (i + 1)) = WB.offersFrom k (rows.take i) ++ r.map (fun b => (b, k + i)) := by
  induction rows generalizing i with
  | nil => simp at h
  | cons q rows ih =>
    intro k
    cases i with
    | zero =>
      simp at h; subst h
      simp [WB.offersFrom]
    | succ i =>
      have := ih i (by simpa using h) (k + 1)
      simp only [List.take_succ_cons, WB.offersFrom, this, List.append_assoc]
      congr 3
      funext b
      rw [show k + 1 + i = k + (i + 1) by omega]
end L2
namespace L2
open PySem PySem.Spec PyProof.Rows PySem.W
/-- [list(row) for row in rows] -/
theorem copies_w {K : PySem.W.Frag} {i : Nat} {a : Addr} {rows : List (List Int)} {σ : St} {H : Hp} {Q : VK} (hv : σ[i]? = some (some (.ref a))) (hL : LL H a rows) (few : rows.length ≤ 200)
    (q : ∀ D H', Same H H' → H D = none → LL H' D rows → Q (.ref D) H') : tLC (iList K (tVar i)) 1 [] (gName 0) (tCB (rListOf K) (tCons (tVar 0) tNil)) σ H Q := by
  obtain ⟨as, h1, h2⟩ := hL
  have hlen : as.length = rows.length := h2.length
  refine ⟨_, hv, a, rfl, ⟨_, SqL.of h1⟩, ?_⟩
  refine lcw rows.length (fun D i ys H' => Same H H' ∧ H D = none ∧ H' D = some (.lst ys) ∧ ∃ bs : List Addr, ys = bs.map V.ref ∧ (∀ b ∈ bs, b ≠ D) ∧ Paired (RowAt H') bs (rows.take i)) (fun D hD => ⟨same_upd hD, hD, upd_same, [], rfl, fun _ h => (nomatch h), .nil⟩) (fun D i ys H' hi hP => ?_) (fun D i ys H' hi hP x H2 hy => ?_) (fun D ys H' hP => ?_)
  · obtain ⟨same, hD, hD', bs, rfl, hnb, hb⟩ := hP
    have hl := hb.length
    rw [List.length_take] at hl
    refine ⟨hD', by rw [List.length_map]; omega, fun hlt => ⟨_, .ref (as[i]'(by omega)), SqL.of (same _ _ h1), by simp [hlen, hlt]⟩, fun e => ⟨_, SqL.of (same _ _ h1), by rw [List.length_map]; omega⟩⟩
  · obtain ⟨same, hD, hD', bs, rfl, hnb, hb⟩ := hP
    obtain ⟨rfl, hv⟩ := hy
    have hi' : i < as.length := by omega
    have hv' := hv _ (SqL.of (same _ _ h1))
    rw [List.getElem?_map, List.getElem?_eq_getElem hi'] at hv'
    have ev : x = .ref as[i] := (Option.some.inj hv').symm
    subst ev
    obtain ⟨r, hr1, hr2⟩ := paired_get' h2 (List.getElem?_eq_getElem hi')
    refine ⟨(Held.refl _).set rfl, _, rfl, as[i], _, rfl, .inl (SqL.of (same _ _ hr2)), fun l hl => ?_⟩
    have nD : D ≠ l := ne_of_none hD' hl
    refine ⟨by rw [upd_ne nD]; exact hD', ?_, hD, upd_same, bs ++ [l], by simp, fun b hb' => ?_, ?_⟩
    · exact fun b o e => by rw [upd_ne (ne_of_none e hD)]; exact (same.trans (same_upd hl)) b o e
    · rcases List.mem_append.mp hb' with hb' | hb'
      · exact hnb b hb'
      · rw [List.mem_singleton.mp hb']; exact Ne.symm nD
    · rw [List.take_add_one, hr1]
      refine Paired.snocP (Paired.mapP' hb fun b z hb' e => ?_) ?_
      · show upd (upd H2 l _) D _ b = _
        rw [upd_ne (hnb b hb'), upd_ne (ne_of_none e hl)]; exact e
      · show upd (upd H2 l _) D _ l = _
        rw [upd_ne (Ne.symm nD), upd_same]
  · obtain ⟨same, hD, hD', bs, rfl, hnb, hb⟩ := hP
    rw [List.take_length] at hb
    exact q D H' same hD ⟨bs, hD', hb⟩
def bV : Option Nat → V
  | none => .non
  | some k => .int (k : Int)
end L2
namespace L2
open PySem PySem.Spec PyProof.Rows PySem.W
theorem at2 {x y : V} {i : Int} (h0 : 0 ≤ i) (h1 : i < 2) : ∃ v, atI [x, y] i = some v ∧ (v = x ∨ v = y) := by
  have : i = 0 ∨ i = 1 := by omega
  rcases this with e | e
  · subst e; exact ⟨x, rfl, .inl rfl⟩
  · subst e; exact ⟨y, rfl, .inr rfl⟩
theorem at3 {x y z : V} {i : Int} (h0 : 0 ≤ i) (h1 : i < 3) : ∃ v, atI [x, y, z] i = some v ∧ (v = x ∨ v = y ∨ v = z) := by
  have : i = 0 ∨ i = 1 ∨ i = 2 := by omega
  rcases this with e | e | e
  · subst e; exact ⟨x, rfl, .inl rfl⟩
  · subst e; exact ⟨y, rfl, .inr (.inl rfl)⟩
  · subst e; exact ⟨z, rfl, .inr (.inr rfl)⟩
theorem at5 {a b c d e : V} {i : Int} (h0 : 0 ≤ i) (h1 : i < 5) : ∃ v, atI [a, b, c, d, e] i = some v ∧ (v = a ∨ v = b ∨ v = c ∨ v = d ∨ v = e) := by
  have : i = 0 ∨ i = 1 ∨ i = 2 ∨ i = 3 ∨ i = 4 := by omega
  rcases this with q | q | q | q | q
  · subst q; exact ⟨a, rfl, .inl rfl⟩
  · subst q; exact ⟨b, rfl, .inr (.inl rfl)⟩
  · subst q; exact ⟨c, rfl, .inr (.inr (.inl rfl))⟩
  · subst q; exact ⟨d, rfl, .inr (.inr (.inr (.inl rfl)))⟩
  · subst q; exact ⟨e, rfl, .inr (.inr (.inr (.inr rfl)))⟩
end L2

set_option Elab.async false
set_option linter.all false
set_option maxRecDepth 100000
set_option maxHeartbeats 4000000
namespace L2
open PySem PySem.Spec PyProof.Rows PySem.W
section
variable {X : Cx}
theorem op_neNil (hu : X.A.units < cLine) : OpR X (compareOp .NotEq) (fun x y H Q => ∃ (a b : Addr) (xs : List V), x = .ref a ∧ y = .ref b ∧ SqL X.K H a xs ∧ SqL X.K H b [] ∧ Q (.bl (!xs.isEmpty)) H) := by
  intro pins s σ H x y v u Q I rx ry h
  obtain ⟨a, b, xs, rfl, rfl, ha, hb, q⟩ := h
  cases rx; cases ry
  obtain ⟨its, rv, pl, _⟩ := I.list ha
  obtain ⟨jts, rw', pl2, _⟩ := I.list hb
  cases rw'
  cases rv with
  | nil => exact PySem.SeqAt.RcNeAt.lists (e := fun _ => true) pl.isList pl2.isList rfl hu (fun j h1 _ => absurd h1 (by simp)) _ _ _ _ ⟨.bl false, H, I, rfl, q⟩
  | cons r t => exact PySem.SeqAt.RcNeAt.lists_lengths pl.isList pl2.isList (by simp) hu _ _ _ _ ⟨.bl true, H, I, rfl, q⟩
theorem tys_rel : ∀ {ns : List String} {us : List Value}, Vals (ns.map V.ty) us → us = ns.map Value.type
  | [], _, .nil => rfl
  | n :: ns, _, .cons r t => by
    have h1 := tys_rel t
    have h2 : _ = Value.type n := r
    rw [h1, h2]; rfl
/-- isinstance of an int or a list and a tuple of built-in types -/
theorem call_isinst2 : CallR X (.builtin "isinstance") (fun xs H Q => ∃ (x : V) (tp : Addr) (ns : List String) (t : Value) (b : Bool), xs = [x, .ref tp] ∧ H tp = some (.tup (ns.map V.ty)) ∧
    ((∃ i, x = .int i ∧ t = .type "int") ∨ (∃ a ys, x = .ref a ∧ H a = some (.lst ys) ∧ t = .type "list")) ∧ PySem.W.kitAny X.K t (ns.map Value.type) = some b ∧ Q (.bl b) H) := by
  intro pins s σ H xs us Q I r h
  obtain ⟨x, tp, ns, t, b, e, ht, hx, k, q⟩ := h
  subst e
  obtain ⟨u, v, rfl, ru, rv⟩ := vals2 r
  cases (show v = Value.ref tp from rv)
  obtain ⟨_, its, ri, hi⟩ := (show ObjOk X.prog X.w H s.heap tp (.tup (ns.map V.ty)) from I.hok tp _ ht)
  have ei := tys_rel ri
  subst ei
  obtain ⟨⟨cls, dd, data, sl⟩, ho, hc, n, hd⟩ := hi
  simp only at hc hd
  subst hc hd
  rcases hx with ⟨i, rfl, rfl⟩ | ⟨a, ys, rfl, ha, rfl⟩
  · obtain ⟨t, rfl⟩ := (show ∃ t, u = Value.int i t from ru)
    exact PySem.W.kia_tup PySem.W.kitx_int I.kIn True.intro ho k (fun z => nomatch z) fun tk => ⟨.bl b, H, I.tok tk, rfl, q⟩
  · cases (show u = Value.ref a from ru)
    obtain ⟨_, _, n, _, h1⟩ := (show ObjOk X.prog X.w H s.heap a (.lst ys) from I.hok a _ ha)
    exact PySem.W.kia_tup PySem.W.kitx_list I.kIn ⟨_, h1, rfl⟩ ho k (fun z => nomatch z) fun tk => ⟨.bl b, H, I.tok tk, rfl, q⟩
end
/-! ### two things alike: ints, and lists of such -/
def Alk (H : Hp) : Nat → V → V → Nat → Prop
  | 0, x, y, s => ∃ i, x = .int i ∧ y = .int i ∧ s = 1
  | d + 1, x, y, s => Alk H d x y s ∨ ∃ (a b : Addr) (xs ys : List V) (ss : List Nat), x = .ref a ∧ y = .ref b ∧ H a = some (.lst xs) ∧ H b = some (.lst ys) ∧ xs.length = ys.length ∧ ss.length = ys.length ∧
      (∀ (i : Nat) (x y : V) (s : Nat), xs[i]? = some x → ys[i]? = some y → ss[i]? = some s → Alk H d x y s) ∧ s = 1 + ss.sum
theorem Alk.pos {H : Hp} : ∀ {d : Nat} {x y : V} {s : Nat}, Alk H d x y s → 1 ≤ s
  | 0, _, _, _, ⟨_, _, _, e⟩ => by omega
  | d + 1, _, _, _, .inl h => h.pos
  | d + 1, _, _, _, .inr ⟨_, _, _, _, _, _, _, _, _, _, _, _, e⟩ => by omega
/-- an int, or two lists of things alike -/
theorem Alk.cases {H : Hp} : ∀ {d : Nat} {x y : V} {s : Nat}, Alk H d x y s → (∃ i, x = .int i ∧ y = .int i ∧ s = 1) ∨ ∃ (d' : Nat) (a b : Addr) (xs ys : List V) (ss : List Nat), x = .ref a ∧ y = .ref b ∧ H a = some (.lst xs) ∧ H b = some (.lst ys) ∧ xs.length = ys.length ∧ ss.length = ys.length ∧
      (∀ (i : Nat) (x y : V) (s : Nat), xs[i]? = some x → ys[i]? = some y → ss[i]? = some s → Alk H d' x y s) ∧ s = 1 + ss.sum
  | 0, _, _, _, h => .inl h
  | d + 1, _, _, _, .inl h => h.cases
  | d + 1, _, _, _, .inr ⟨a, b, xs, ys, ss, h⟩ => .inr ⟨d, a, b, xs, ys, ss, h⟩
def spSo : Sp := fun vs H Q _ => ∃ (x y : V) (d s : Nat), vs = [x, y] ∧ Alk H d x y s ∧ s ≤ 900 ∧ ∀ H', Same H H' → Q (.bl true) H'
theorem alk_ints {H : Hp} {a b : Addr} {ns : List Int} (ha : H a = some (.lst (iV ns))) (hb : H b = some (.lst (iV ns))) : Alk H 1 (.ref a) (.ref b) (1 + ns.length) := by
  refine Or.inr ⟨a, b, _, _, List.replicate ns.length 1, rfl, rfl, ha, hb, rfl, by simp, fun i x y s hx hy hs => ?_, by simp⟩
  rw [List.getElem?_map] at hx hy
  rw [List.getElem?_replicate] at hs
  cases h : ns[i]? with
  | none => rw [h] at hx; cases hx
  | some n =>
    rw [h] at hx hy
    have e1 : x = .int n := (Option.some.inj hx).symm
    have e2 : y = .int n := (Option.some.inj hy).symm
    have hl := (List.getElem?_eq_some_iff.mp h).1
    rw [if_pos hl] at hs
    exact ⟨n, e1, e2, (Option.some.inj hs).symm⟩
theorem alk_rows {H : Hp} {a b : Addr} {rows : List (List Int)} (ha : LL H a rows) (hb : LL H b rows) : Alk H 2 (.ref a) (.ref b) (1 + (rows.map fun r => 1 + r.length).sum) := by
  obtain ⟨as, a1, a2⟩ := ha
  obtain ⟨bs, b1, b2⟩ := hb
  have la := a2.length
  have lb := b2.length
  refine Or.inr ⟨a, b, _, _, rows.map fun r => 1 + r.length, rfl, rfl, a1, b1, by simp [la, lb], by simp [lb], fun i x y s hx hy hs => ?_, rfl⟩
  rw [List.getElem?_map] at hx hy hs
  cases h : rows[i]? with
  | none => rw [h] at hs; cases hs
  | some r =>
    rw [h] at hs
    obtain ⟨p, p1, p2⟩ := paired_get a2 h
    obtain ⟨q, q1, q2⟩ := paired_get b2 h
    rw [p1] at hx
    rw [q1] at hy
    have e1 : x = .ref p := (Option.some.inj hx).symm
    have e2 : y = .ref q := (Option.some.inj hy).symm
    have e3 : s = 1 + r.length := (Option.some.inj hs).symm
    subst e1 e2 e3
    exact alk_ints p2 q2
theorem alk_up {H : Hp} {x y : V} {s : Nat} : ∀ {d : Nat} (e : Nat), Alk H d x y s → Alk H (d + e) x y s
  | d, 0, h => h
  | d, e + 1, h => Or.inl (alk_up e h)
theorem alk_two {H : Hp} {a b : Addr} {x1 x2 y1 y2 : V} {d s1 s2 : Nat} (ha : H a = some (.lst [x1, x2])) (hb : H b = some (.lst [y1, y2])) (h1 : Alk H d x1 y1 s1) (h2 : Alk H d x2 y2 s2) : Alk H (d + 1) (.ref a) (.ref b) (1 + (s1 + s2)) := by
  refine Or.inr ⟨a, b, _, _, [s1, s2], rfl, rfl, ha, hb, rfl, rfl, fun i x y s hx hy hs => ?_, by simp⟩
  match i, hx, hy, hs with
  | 0, hx, hy, hs => 
    cases hx; cases hy; cases hs; exact h1
  | 1, hx, hy, hs => 
    cases hx; cases hy; cases hs; exact h2
  | i + 2, hx, hy, hs => simp at hx
end L2
namespace L2
open PySem PySem.Spec PyProof.Rows PySem.W
def spSome : Sp := fun vs H Q _ => ∃ (a : Addr) (w c : Int) (rows : List (List Int)), vs = [.ref a, .int w, .int c] ∧ LL H a rows ∧ rows.length ≤ 200 ∧ 0 ≤ w ∧
  ∀ r H' (cs : List Nat), Same H H' → H r = none → H' r = some (.lst (nV cs)) → cs.length = rows.length → (cs.sum : Int) ≤ w → Q (.ref r) H'
theorem sum_one (rows : List (List Int)) : (rows.map fun r => 1 + r.length).sum = rows.length + (rows.map List.length).sum := by
  induction rows with
  | nil => rfl
  | cons r rows ih => simp only [List.map_cons, List.sum_cons, List.length_cons, ih]; omega
theorem sum_set_nat : ∀ {cs : List Nat} {k c v : Nat}, cs[k]? = some c → (cs.set k v).sum + c = cs.sum + v
  | [], _, _, _, e => by simp at e
  | q :: cs, 0, c, v, e => by
    have e' : q = c := by simpa using e
    subst e'
    simp only [List.set_cons_zero, List.sum_cons]; omega
  | q :: cs, k + 1, c, v, e => by
    have := sum_set_nat (cs := cs) (k := k) (c := c) (v := v) (by simpa using e)
    simp only [List.set_cons_succ, List.sum_cons]; omega
theorem min3 {i j k : Int} : (if j < i then (if k < j then k else j) else (if k < i then k else i)) = min i (min j k) := by
  split <;> split <;> omega
end L2

set_option Elab.async false
set_option linter.all false
set_option maxRecDepth 100000
set_option maxHeartbeats 4000000
namespace L2
open PySem PySem.Spec PyProof.Rows PySem.W
theorem cut_from (ns : List Int) (lo : Nat) (hi : Option Int) : ∃ ms : List Int, cutV (iV ns) (some (lo : Int)) hi = iV ms ∧ ms.length ≤ ns.length - lo := by
  have hl : (iV ns).length = ns.length := List.length_map _
  have e1 : HT.sIx (iV ns).length 0 (some (lo : Int)) = min lo ns.length := by rw [sIx_nn (by omega), hl]; omega
  refine ⟨(ns.drop (min lo ns.length)).take (HT.sIx (iV ns).length (iV ns).length hi - min lo ns.length), ?_, ?_⟩
  · unfold cutV
    rw [e1]
    unfold iV
    rw [List.map_take, List.map_drop]
  · rw [List.length_take, List.length_drop]; omega
/-- [f(x) for x in ints] -/
theorem ints_w {K : PySem.W.Frag} {i n : Nat} {fr : List (Nat × Nat)} {a : Addr} {vals : List Int} {te : TE} {σ : St} {H : Hp} {Q : VK} (f : Int → Int) (hv : σ[i]? = some (some (.ref a))) (hA : H a = some (.lst (iV vals))) (hl : vals.length ≤ 900)
    (hh : ∀ x : Int, Held (blkSt n fr σ) ((blkSt n fr σ).set 0 (some (.int x)))) (hte : ∀ (x : Int) (H' : Hp) (Q' : VK), Q' (.int (f x)) H' → te ((blkSt n fr σ).set 0 (some (.int x))) H' Q')
    (q : ∀ D H', Same H H' → H D = none → H' D = some (.lst (iV (vals.map f))) → Q (.ref D) H') : tLC (iList K (tVar i)) n fr (gName 0) te σ H Q := by
  refine ⟨_, hv, a, rfl, ⟨_, SqL.of hA⟩, ?_⟩
  refine lcw vals.length (fun D i ys H' => Same H H' ∧ H D = none ∧ H' D = some (.lst ys) ∧ ys = iV ((vals.take i).map f)) (fun D hD => ⟨same_upd hD, hD, upd_same, rfl⟩) (fun D i ys H' hi hP => ?_) (fun D i ys H' hi hP x H2 hy => ?_) (fun D ys H' hP => ?_)
  · obtain ⟨same, hD, hD', rfl⟩ := hP
    refine ⟨hD', ?_, fun hlt => ⟨_, .int vals[i], SqL.of (same _ _ hA), by simp [hlt]⟩, fun e => ⟨_, SqL.of (same _ _ hA), by rw [List.length_map]; omega⟩⟩
    rw [List.length_map, List.length_map, List.length_take]; omega
  · obtain ⟨same, hD, hD', rfl⟩ := hP
    obtain ⟨rfl, hv⟩ := hy
    have hv' := hv _ (SqL.of (same _ _ hA))
    rw [List.getElem?_map, List.getElem?_eq_getElem hi] at hv'
    have ev : x = .int vals[i] := (Option.some.inj hv').symm
    subst ev
    refine ⟨hh _, hte _ _ _ ⟨hD', ?_, hD, upd_same, ?_⟩⟩
    · exact fun b o e => by rw [upd_ne (ne_of_none e hD)]; exact same b o e
    · rw [List.take_add_one, List.getElem?_eq_getElem hi, Option.toList_some, List.map_append]
      unfold iV
      rw [List.map_append]; rfl
  · obtain ⟨same, hD, hD', rfl⟩ := hP
    rw [List.take_length] at hD'
    exact q D H' same hD hD'
def spGain (T : Tab) : Sp := fun vs H Q _ => ∃ (a v : Addr) (w : Int) (k : Nat) (rows : List (List Int)) (vals : List Int), vs = [.ref a, .int w, .int (k : Int), .ref v] ∧ LL H a rows ∧ Sized rows ∧ WB.Good rows ∧ 0 ≤ w ∧ k < rows.length ∧ H v = some (.lst (iV vals)) ∧ T.Ok H ∧
  ∀ H', Kp T H H' → Q (.int (WB.gainOf rows w.toNat k vals)) H'
def spTold : Sp := fun vs H Q _ => ∃ (v : Addr) (c : Int) (vals : List Int), vs = [.ref v, .int c] ∧ H v = some (.lst (iV vals)) ∧ vals.length < 63 ∧ (∀ x ∈ vals, 0 ≤ x) ∧ vals.Pairwise (fun a b => WB.geB a b = true) ∧ 0 ≤ c ∧
  ∀ r H' (b : List Int), Same H H' → H r = none → H' r = some (.lst (iV b)) → (∀ x ∈ b, 0 ≤ x) → b.Pairwise (fun a b => WB.geB a b = true) → b.length ≤ vals.length + 1 → Q (.ref r) H'
theorem prices_len (rows : List (List Int)) (m : Nat) : (prices rows m).length = rows.length := by unfold prices; rw [List.length_map, List.length_range]
theorem prices_get {rows : List (List Int)} {m i : Nat} (h : i < rows.length) : (iV (prices rows m))[i]? = some (.int (WB.price rows m i)) := by unfold iV prices; rw [List.getElem?_map, List.getElem?_map, List.getElem?_range h]; rfl
theorem counts_get {rows : List (List Int)} {m i : Nat} (h : i < rows.length) : (nV (WB.dealt rows m))[i]? = some (.int (WB.cnt rows m i : Nat)) := by unfold nV; rw [List.getElem?_map, WB.dealt_get h]; rfl
theorem fall_map {f : Int → Int} {l : List Int} (hf : ∀ a b, b ≤ a → f b ≤ f a) (h : l.Pairwise (fun a b => WB.geB a b = true)) : (l.map f).Pairwise (fun a b => WB.geB a b = true) := by
  rw [List.pairwise_map]
  exact h.imp fun {a b} e => decide_eq_true (hf a b (of_decide_eq_true e))
end L2

set_option Elab.async false
set_option linter.all false
set_option maxRecDepth 100000
set_option maxHeartbeats 4000000
namespace L2
open PySem PySem.Spec PyProof.Rows PySem.W
abbrev IsTri (h : Heap) (T : Addr) (a b c : Value) : Prop := h.get? T = some { cls := .type "tuple", data := .seq #[a, b, c] }
structure Far3 (z TI TO i1 i2 i3 l1 l2 l3 : Addr) : Prop where
  az : ∀ c ∈ [TI, TO, i1, i2, i3, l1, l2, l3], c ≠ z
  aT : ∀ c ∈ [TI, i1, i2, i3, l1, l2, l3], c ≠ TO
  a1 : ∀ c ∈ [TI, i2, i3, l1, l2, l3], c ≠ i1
  a2 : ∀ c ∈ [TI, i3, l1, l2, l3], c ≠ i2
  a3 : ∀ c ∈ [TI, l1, l2, l3], c ≠ i3
section
variable {prog : Program} {w : World} {A : Around} {E : Value → Shared → Prop} {s : Shared}
theorem upd_tup3 {T : Addr} {a b c x : Value} {k : Nat} {Q : Unit → Shared → Prop} (hT : s.heap.get? T = some { cls := .type "tuple", data := .seq #[a, b, c] })
    (h : ∀ h', h'.get? T = some { cls := .type "tuple", data := .seq ((#[a, b, c] : Array Value).setIfInBounds k x) } → Heap.SameBut T s.heap h' → Q () { s with heap := h' }) : wpAny (model prog w) A (updateSeq T (·.setIfInBounds k x)) Q E s :=
  wpAny_updateSeq hT rfl (h _ (by rw [Heap.get?_update_self _ hT rfl]; simp [Obj.mapSeq]) (Heap.SameBut.update ..))
theorem zip3_item {z TI TO i1 i2 i3 l1 l2 l3 : Addr} {k : Nat} {xs ys us : Array Value} {x y u a b c : Value} {Q : Value → Shared → Prop} (D : Far3 z TI TO i1 i2 i3 l1 l2 l3) (hz : IsZip s.heap z TI TO .none) (hTI : IsTri s.heap TI (.ref i1) (.ref i2) (.ref i3)) (hTO : IsTri s.heap TO a b c)
    (h1 : s.heap.IsListIter i1 l1 k) (h2 : s.heap.IsListIter i2 l2 k) (h3 : s.heap.IsListIter i3 l3 k) (hl1 : s.heap.IsList l1 xs) (hl2 : s.heap.IsList l2 ys) (hl3 : s.heap.IsList l3 us) (hx : xs[k]? = some x) (hy : ys[k]? = some y) (hu : us[k]? = some u)
    (hQ : ∀ h', IsZip h' z TI TO (rawInt s.heap.objs.size) → IsTri h' TO x y u → h'.IsListIter i1 l1 (k + 1) → h'.IsListIter i2 l2 (k + 1) → h'.IsListIter i3 l3 (k + 1) → IsTri h' s.heap.objs.size x y u →
      (∀ c o, c ≠ z → c ≠ TO → c ≠ i1 → c ≠ i2 → c ≠ i3 → s.heap.get? c = some o → h'.get? c = some o) → Q (.ref s.heap.objs.size) { s with heap := h' }) :
    wpAny (model prog w) A (Builtin.«zip.__next__» ⟨[.ref z], []⟩) (fun fin s' => ∃ v, fin = .done (.ret v) ∧ Q v s') E s := by
  have Tz := D.az TO (by simp); have n1z := D.az i1 (by simp); have n2z := D.az i2 (by simp); have n3z := D.az i3 (by simp)
  have n1T := D.aT i1 (by simp); have n2T := D.aT i2 (by simp); have n3T := D.aT i3 (by simp)
  have n21 := D.a1 i2 (by simp); have n31 := D.a1 i3 (by simp); have n32 := D.a2 i3 (by simp)
  show wpAny _ _ (field (.ref z) 2 >>= _) _ _ _; refine wpAny_bind (wpAny_field hz rfl (x := .bool false) rfl ?_)
  show wpAny _ _ (field (.ref z) 3 >>= _) _ _ _; refine wpAny_bind (wpAny_field hz rfl (x := .ref TI) rfl (wpAny_bind (wpAny_seqItems hTI rfl ?_)))
  show wpAny _ _ (Builtin.SmallTypes.ownedTupleIsFree (.ref z) >>= _) _ _ _; refine wpAny_bind ?_
  unfold Builtin.SmallTypes.ownedTupleIsFree; refine wpAny_bind (wpAny_field hz rfl (x := .none) rfl (wpAny_pure ?_))
  simp only [if_true]
  refine wpAny_bind (wpAny_rule (wpAny_bind (wpAny_field hz rfl (x := .ref TO) rfl (wpAny_bind (wpAny_setField_rec hz (by simp) fun g1 hz1 s1 => ?_)))))
  have hz1 : IsZip g1 z TI TO .ellipsis := hz1
  refine wpAny_bind ?_
  simp only [List.zipIdx_cons, List.zipIdx_nil, List.forIn_cons, List.forIn_nil]
  -- the first list
  refine wpAny_bind (wpAny_bind (wpAny_onRaise ?_)); show wpAny _ _ (Builtin.SmallTypes.nextOf (.ref i1) >>= _) _ _ _
  refine wpAny_bind (wpAny_nextOf_list_item (h1.extBut s1.extBut n1z) (hl1.extBut s1.extBut (D.az l1 (by simp))) hx fun g2 j1 s2 => wpAny_pure ?_)
  have t2 : IsTri g2 TO a b c := s2.extBut _ _ (Ne.symm n1T) (s1.extBut _ _ Tz hTO)
  refine wpAny_bind (wpAny_seqItems t2 rfl (wpAny_bind (upd_tup3 t2 fun g3 t3 s3 => wpAny_bind (wpAny_letGo (wpAny_pure ?_)))))
  have t3 : IsTri g3 TO x b c := t3
  have up3 : ∀ d o, d ≠ z → d ≠ TO → d ≠ i1 → s.heap.get? d = some o → g3.get? d = some o := fun d o d1 d2 d3 e => s3.extBut _ _ d2 (s2.extBut _ _ d3 (s1.extBut _ _ d1 e))
  -- the second
  refine wpAny_bind (wpAny_bind (wpAny_onRaise ?_)); show wpAny _ _ (Builtin.SmallTypes.nextOf (.ref i2) >>= _) _ _ _
  refine wpAny_bind (wpAny_nextOf_list_item (h2.at fun o e => up3 _ o n2z n2T n21 e) (hl2.at fun o e => up3 _ o (D.az l2 (by simp)) (D.aT l2 (by simp)) (D.a1 l2 (by simp)) e) hy fun g4 j2 s4 => wpAny_pure ?_)
  have t4 : IsTri g4 TO x b c := s4.extBut _ _ (Ne.symm n2T) t3
  refine wpAny_bind (wpAny_seqItems t4 rfl (wpAny_bind (upd_tup3 t4 fun g5 t5 s5 => wpAny_bind (wpAny_letGo (wpAny_pure ?_)))))
  have t5 : IsTri g5 TO x y c := t5
  have up5 : ∀ d o, d ≠ z → d ≠ TO → d ≠ i1 → d ≠ i2 → s.heap.get? d = some o → g5.get? d = some o := fun d o d1 d2 d3 d4 e => s5.extBut _ _ d2 (s4.extBut _ _ d4 (up3 d o d1 d2 d3 e))
  -- the third
  refine wpAny_bind (wpAny_bind (wpAny_onRaise ?_)); show wpAny _ _ (Builtin.SmallTypes.nextOf (.ref i3) >>= _) _ _ _
  refine wpAny_bind (wpAny_nextOf_list_item (h3.at fun o e => up5 _ o n3z n3T n31 n32 e) (hl3.at fun o e => up5 _ o (D.az l3 (by simp)) (D.aT l3 (by simp)) (D.a1 l3 (by simp)) (D.a2 l3 (by simp)) e) hu fun g6 j3 s6 => wpAny_pure ?_)
  have t6 : IsTri g6 TO x y c := s6.extBut _ _ (Ne.symm n3T) t5
  refine wpAny_bind (wpAny_seqItems t6 rfl (wpAny_bind (upd_tup3 t6 fun g7 t7 s7 => wpAny_bind (wpAny_letGo (wpAny_pure (wpAny_pure ?_))))))
  have t7 : IsTri g7 TO x y u := t7
  refine wpAny_bind (wpAny_seqItems t7 rfl (wpAny_bind (wpAny_newTuple ?_)))
  have hsz : g7.objs.size = s.heap.objs.size := by rw [s7.1, s6.1, s5.1, s4.1, s3.1, s2.1, s1.1]
  have z7 : IsZip g7 z TI TO .ellipsis := s7.extBut _ _ (Ne.symm Tz) (s6.extBut _ _ (Ne.symm n3z) (s5.extBut _ _ (Ne.symm Tz) (s4.extBut _ _ (Ne.symm n2z) (s3.extBut _ _ (Ne.symm Tz) (s2.extBut _ _ (Ne.symm n1z) hz1)))))
  have up7 : ∀ d o, d ≠ z → d ≠ TO → d ≠ i1 → d ≠ i2 → d ≠ i3 → s.heap.get? d = some o → g7.get? d = some o := fun d o d1 d2 d3 d4 d5 e => s7.extBut _ _ d2 (s6.extBut _ _ d5 (up5 d o d1 d2 d3 d4 e))
  have j17 : g7.IsListIter i1 l1 (k + 1) := ((((j1.extBut s3.extBut n1T).extBut s4.extBut (Ne.symm n21)).extBut s5.extBut n1T).extBut s6.extBut (Ne.symm n31)).extBut s7.extBut n1T
  have j27 : g7.IsListIter i2 l2 (k + 1) := ((j2.extBut s5.extBut n2T).extBut s6.extBut (Ne.symm n32)).extBut s7.extBut n2T
  have j37 : g7.IsListIter i3 l3 (k + 1) := j3.extBut s7.extBut n3T
  have zlt : z < g7.objs.size := Heap.lt_size z7
  show wpAny _ _ (Builtin.SmallTypes.ownedTupleHandOut (.ref z) (.ref g7.objs.size) >>= _) _ _ _; refine wpAny_bind ?_
  unfold Builtin.SmallTypes.ownedTupleHandOut
  have z8 : IsZip (g7.push { cls := .type "tuple", data := .seq #[x, y, u] }) z TI TO .ellipsis := Heap.get?_push_of_some _ z7
  refine wpAny_bind (wpAny_setField_rec z8 (by simp) fun g9 z9 s9 => ?_)
  have z9 : IsZip g9 z TI TO (rawInt g7.objs.size) := z9
  refine wpAny_setField_rec z9 (by simp) fun g10 z10 s10 => ?_
  have z10 : IsZip g10 z TI TO (rawInt g7.objs.size) := z10
  have up : ∀ d o, d ≠ z → g7.get? d = some o → g10.get? d = some o := fun d o d1 e => s10.extBut _ _ d1 (s9.extBut _ _ d1 (Heap.get?_push_of_some _ e))
  have tN : IsTri g10 g7.objs.size x y u := s10.extBut _ _ (Nat.ne_of_gt zlt) (s9.extBut _ _ (Nat.ne_of_gt zlt) (Heap.get?_push_size _ rfl))
  rw [hsz] at z10 tN
  refine wpAny_pure ⟨_, rfl, ?_⟩
  show Q (.ref g7.objs.size) _
  rw [hsz]
  exact hQ g10 z10 (up _ _ Tz t7) (j17.at fun o e => up _ o n1z e) (j27.at fun o e => up _ o n2z e) (j37.at fun o e => up _ o n3z e) tN fun d o d1 d2 d3 d4 d5 e => up d o d1 (up7 d o d1 d2 d3 d4 d5 e)
/-- the first list is at its end -/
theorem zip3_end {z TI TO i1 i2 i3 l1 l2 l3 : Addr} {k : Nat} {xs : Array Value} {Q : Fin → Shared → Prop} (hh : A.handled = none) (D : Far3 z TI TO i1 i2 i3 l1 l2 l3) (hz : IsZip s.heap z TI TO .none) (hTI : IsTri s.heap TI (.ref i1) (.ref i2) (.ref i3))
    (h1 : s.heap.IsListIter i1 l1 k) (hl1 : s.heap.IsList l1 xs) (hx : xs[k]? = none)
    (hE : ∀ h' e, (∀ c o, c ≠ z → c ≠ i1 → s.heap.get? c = some o → h'.get? c = some o) → (∃ o, h'.get? e = some o ∧ o.cls = .type "StopIteration") → E (.ref e) { s with heap := h' }) :
    wpAny (model prog w) A (Builtin.«zip.__next__» ⟨[.ref z], []⟩) Q E s := by
  have n1z := D.az i1 (by simp)
  show wpAny _ _ (field (.ref z) 2 >>= _) _ _ _; refine wpAny_bind (wpAny_field hz rfl (x := .bool false) rfl ?_)
  show wpAny _ _ (field (.ref z) 3 >>= _) _ _ _; refine wpAny_bind (wpAny_field hz rfl (x := .ref TI) rfl (wpAny_bind (wpAny_seqItems hTI rfl ?_)))
  show wpAny _ _ (Builtin.SmallTypes.ownedTupleIsFree (.ref z) >>= _) _ _ _; refine wpAny_bind ?_
  unfold Builtin.SmallTypes.ownedTupleIsFree; refine wpAny_bind (wpAny_field hz rfl (x := .none) rfl (wpAny_pure ?_))
  simp only [if_true]
  refine wpAny_bind (wpAny_rule (wpAny_bind (wpAny_field hz rfl (x := .ref TO) rfl (wpAny_bind (wpAny_setField_rec hz (by simp) fun g1 hz1 s1 => ?_)))))
  have hz1 : IsZip g1 z TI TO .ellipsis := hz1
  refine wpAny_bind ?_
  simp only [List.zipIdx_cons, List.zipIdx_nil, List.forIn_cons, List.forIn_nil]
  refine wpAny_bind (wpAny_bind (wpAny_onRaise ?_)); show wpAny _ _ (Builtin.SmallTypes.nextOf (.ref i1) >>= _) _ _ _
  refine wpAny_bind (wpAny_nextOf_list_end hh (h1.extBut s1.extBut n1z) (hl1.extBut s1.extBut (D.az l1 (by simp))) hx fun g2 e s2 ⟨oe, hoe, hce⟩ => ?_)
  have z2 : IsZip g2 z TI TO .ellipsis := s2 _ _ (Ne.symm n1z) hz1
  have hez : e ≠ z := fun q => by subst q; rw [z2] at hoe; cases hoe; simp at hce
  exact wpAny_setField_rec z2 (by simp) fun g3 _ s3 => hE g3 e (fun d o d1 d3 q => s3.extBut _ _ d1 (s2 _ _ d3 (s1.extBut _ _ d1 q))) ⟨oe, s3.extBut _ _ hez hoe, hce⟩
theorem next_zip3 {z TI TO i1 i2 i3 l1 l2 l3 : Addr} {k : Nat} {xs ys us : Array Value} {x y u a b c : Value} {Q : Option Value → Shared → Prop} (D : Far3 z TI TO i1 i2 i3 l1 l2 l3) (hz : IsZip s.heap z TI TO .none) (hTI : IsTri s.heap TI (.ref i1) (.ref i2) (.ref i3)) (hTO : IsTri s.heap TO a b c)
    (h1 : s.heap.IsListIter i1 l1 k) (h2 : s.heap.IsListIter i2 l2 k) (h3 : s.heap.IsListIter i3 l3 k) (hl1 : s.heap.IsList l1 xs) (hl2 : s.heap.IsList l2 ys) (hl3 : s.heap.IsList l3 us) (hx : xs[k]? = some x) (hy : ys[k]? = some y) (hu : us[k]? = some u)
    (hQ : ∀ h', IsZip h' z TI TO (rawInt s.heap.objs.size) → IsTri h' TO x y u → h'.IsListIter i1 l1 (k + 1) → h'.IsListIter i2 l2 (k + 1) → h'.IsListIter i3 l3 (k + 1) → IsTri h' s.heap.objs.size x y u →
      (∀ c o, c ≠ z → c ≠ TO → c ≠ i1 → c ≠ i2 → c ≠ i3 → s.heap.get? c = some o → h'.get? c = some o) → Q (some (.ref s.heap.objs.size)) { s with heap := h' }) : wpAny (model prog w) A (pyNext (.ref z)) Q E s := by
  have hT : s.TypeIs (.ref z) "zip" := ⟨_, hz, rfl⟩; unfold pyNext
  exact wpAny_bind (wpAny_attempt (wpAny_callSpecial?_slot (name := Str.ofString "__next__") hT F.slot_zip_next (wpAny_call_entry F.slot_zip_next hT F.entry_zip_next
      (zip3_item D hz hTI hTO h1 h2 h3 hl1 hl2 hl3 hx hy hu fun h' a1 a2 a3 a4 a5 a6 a7 => wpAny_pure (hQ h' a1 a2 a3 a4 a5 a6 a7)) (F.args_zip_next_1 _))))
theorem stop_zip3 {z TI TO i1 i2 i3 l1 l2 l3 : Addr} {k : Nat} {xs : Array Value} {Q : Option Value → Shared → Prop} (hh : A.handled = none) (D : Far3 z TI TO i1 i2 i3 l1 l2 l3) (hz : IsZip s.heap z TI TO .none) (hTI : IsTri s.heap TI (.ref i1) (.ref i2) (.ref i3))
    (h1 : s.heap.IsListIter i1 l1 k) (hl1 : s.heap.IsList l1 xs) (hx : xs[k]? = none) (hQ : ∀ h', (∀ c o, c ≠ z → c ≠ i1 → s.heap.get? c = some o → h'.get? c = some o) → Q none { s with heap := h' }) : wpAny (model prog w) A (pyNext (.ref z)) Q E s := by
  have hT : s.TypeIs (.ref z) "zip" := ⟨_, hz, rfl⟩; unfold pyNext
  refine wpAny_bind (wpAny_attempt (wpAny_callSpecial?_slot (name := Str.ofString "__next__") hT F.slot_zip_next (wpAny_call_entry F.slot_zip_next hT F.entry_zip_next (zip3_end hh D hz hTI h1 hl1 hx fun h' e hk ⟨o, ho, hc⟩ => ?_) (F.args_zip_next_1 _))))
  exact wpAny_bind (wpAny_isInstance (T := "StopIteration") (b := true) ⟨o, ho, hc⟩ isSubtype_stop (wpAny_pure (hQ _ hk)))
end
theorem typeCall_zip3 (a b c : Value) : checkTypeCall "zip" ⟨[a, b, c], []⟩ = pure () := by kernel_rfl
theorem newCall_zip3 (a b c : Value) : checkBuiltinCall "zip.__new__" ⟨[.type "zip", a, b, c], []⟩ = pure () := by kernel_rfl
theorem args_init4 (a b c d : Value) : argsOk "object.__init__" ⟨[a, b, c, d], []⟩ := by
  unfold argsOk; rw [signature?_of (id := "object.__init__") (n := ['_', '_', 't', 'i', 'n', 'i', '_', '_']) (o := ['t', 'c', 'e', 'j', 'b', 'o']) (by kernel_rfl) F.owner_object]; kernel_rfl
abbrev lio (l : Addr) : Obj := { cls := .type "list_iterator", data := .fields #[.ref l, .int 0 0] }
abbrev z3H3 (h : Heap) (l1 l2 l3 : Addr) : Heap := ((h.push (lio l1)).push (lio l2)).push (lio l3)
abbrev z3H4 (h : Heap) (l1 l2 l3 : Addr) : Heap := (z3H3 h l1 l2 l3).push { cls := .type "tuple", data := .seq #[.ref h.objs.size, .ref (h.push (lio l1)).objs.size, .ref ((h.push (lio l1)).push (lio l2)).objs.size] }
abbrev z3H5 (h : Heap) (l1 l2 l3 : Addr) : Heap := (z3H4 h l1 l2 l3).push { cls := .type "tuple", data := .seq #[.none, .none, .none] }
abbrev z3H6 (h : Heap) (l1 l2 l3 : Addr) : Heap := (z3H5 h l1 l2 l3).push { cls := .type "zip", data := .fields #[.none, .bool false, .bool false, .ref (z3H3 h l1 l2 l3).objs.size, .ref (z3H4 h l1 l2 l3).objs.size] }
theorem meets_zip3 (l1 l2 l3 : Addr) (xs ys us : Array Value) :
    Meets (Builtin.«zip.__new__» ⟨[.type "zip", .ref l1, .ref l2, .ref l3], []⟩) (fun _ R s => s.heap.IsList l1 xs ∧ s.heap.IsList l2 ys ∧ s.heap.IsList l3 us ∧ R (.ok (.ret (.ref (z3H5 s.heap l1 l2 l3).objs.size))) { s with heap := z3H6 s.heap l1 l2 l3 }) :=
  .of_wp fun prog w A R s h => by
    obtain ⟨hp, g, d, tk, os⟩ := s; obtain ⟨hl1, hl2, hl3, h⟩ := h
    have hsub := sub_zip
    have hL1 : Heap.IsList (Shared.heap ⟨hp, g, d, tk, os⟩) l1 xs := hl1
    have hL2 : Heap.IsList (Shared.heap ⟨hp.push (lio l1), g, d, tk, os⟩) l2 ys := Heap.IsList.push hl2 _
    have hL3 : Heap.IsList (Shared.heap ⟨(hp.push (lio l1)).push (lio l2), g, d, tk, os⟩) l3 us := Heap.IsList.push (Heap.IsList.push hl3 _) _
    wp_walk using wpAny_pyIter_list hL1, wpAny_pyIter_list hL2, wpAny_pyIter_list hL3
    exact ⟨_, rfl, h⟩
section
variable {prog : Program} {w : World} {A : Around} {E : Value → Shared → Prop} {s : Shared}
theorem call_zip3 {l1 l2 l3 : Addr} {xs ys us : Array Value} {Q : Value → Shared → Prop} (hl1 : s.heap.IsList l1 xs) (hl2 : s.heap.IsList l2 ys) (hl3 : s.heap.IsList l3 us)
    (h : ∀ h', IsZip h' (s.heap.objs.size + 5) (s.heap.objs.size + 3) (s.heap.objs.size + 4) .none → IsTri h' (s.heap.objs.size + 3) (.ref s.heap.objs.size) (.ref (s.heap.objs.size + 1)) (.ref (s.heap.objs.size + 2)) →
      IsTri h' (s.heap.objs.size + 4) .none .none .none → h'.IsListIter s.heap.objs.size l1 0 → h'.IsListIter (s.heap.objs.size + 1) l2 0 → h'.IsListIter (s.heap.objs.size + 2) l3 0 →
      (∀ c o, s.heap.get? c = some o → h'.get? c = some o) → Q (.ref (s.heap.objs.size + 5)) { s with heap := h' }) : wpAny (model prog w) A (call (.type "zip") [.ref l1, .ref l2, .ref l3]) Q E s := by
  refine callType_new F.called_zip (by decide) (typeCall_zip3 _ _ _) (newCall_zip3 _ _ _) (fun obj => args_init4 obj _ _ _) F.entry_zip_new (meets_zip3 l1 l2 l3 xs ys us) ⟨hl1, hl2, hl3, ?_⟩
  have z1 : (s.heap.push (lio l1)).objs.size = s.heap.objs.size + 1 := Heap.size_push ..
  have z2 : ((s.heap.push (lio l1)).push (lio l2)).objs.size = s.heap.objs.size + 2 := by rw [Heap.size_push, z1]
  have z3 : (z3H3 s.heap l1 l2 l3).objs.size = s.heap.objs.size + 3 := by rw [Heap.size_push, z2]
  have z4 : (z3H4 s.heap l1 l2 l3).objs.size = s.heap.objs.size + 4 := by rw [Heap.size_push, z3]
  have z5 : (z3H5 s.heap l1 l2 l3).objs.size = s.heap.objs.size + 5 := by rw [Heap.size_push, z4]
  have up : ∀ {h : Heap} {c : Addr} {o p : Obj}, h.get? c = some o → (h.push p).get? c = some o := fun e => Heap.get?_push_of_some _ e
  have g6 : (z3H6 s.heap l1 l2 l3).get? (z3H5 s.heap l1 l2 l3).objs.size = some _ := Heap.get?_push_size _ rfl
  have g5 : (z3H6 s.heap l1 l2 l3).get? (z3H4 s.heap l1 l2 l3).objs.size = some _ := up (Heap.get?_push_size _ rfl)
  have g4 : (z3H6 s.heap l1 l2 l3).get? (z3H3 s.heap l1 l2 l3).objs.size = some _ := up (up (Heap.get?_push_size _ rfl))
  have g3 : (z3H6 s.heap l1 l2 l3).get? ((s.heap.push (lio l1)).push (lio l2)).objs.size = some _ := up (up (up (Heap.get?_push_size (o := lio l3) _ rfl)))
  have g2 : (z3H6 s.heap l1 l2 l3).get? (s.heap.push (lio l1)).objs.size = some _ := up (up (up (up (Heap.get?_push_size (o := lio l2) _ rfl))))
  have g1 : (z3H6 s.heap l1 l2 l3).get? s.heap.objs.size = some _ := up (up (up (up (up (Heap.get?_push_size (o := lio l1) _ rfl)))))
  show _ ∧ _
  rw [z3, z4, z5] at g6
  rw [z4] at g5
  rw [z1, z2, z3] at g4
  rw [z2] at g3
  rw [z1] at g2
  rw [z5]
  exact ⟨⟨_, g6, rfl⟩, h _ g6 g4 g5 ⟨_, g1, rfl, rfl⟩ ⟨_, g2, rfl, rfl⟩ ⟨_, g3, rfl, rfl⟩ fun c o e => up (up (up (up (up (up e)))))⟩
end
def It3 (a b d : Addr) : It :=
  ⟨fun i H => ∃ xs ys us x y u, H a = some (.lst xs) ∧ H b = some (.lst ys) ∧ H d = some (.lst us) ∧ xs[i]? = some x ∧ ys[i]? = some y ∧ us[i]? = some u,
   fun i H v H' => ∃ T x y u, H T = none ∧ v = .ref T ∧ H' = upd H T (.tup [x, y, u]) ∧ (∀ xs, H a = some (.lst xs) → xs[i]? = some x) ∧ (∀ ys, H b = some (.lst ys) → ys[i]? = some y) ∧ (∀ us, H d = some (.lst us) → us[i]? = some u),
   fun i H => ∃ xs ys us, H a = some (.lst xs) ∧ H b = some (.lst ys) ∧ H d = some (.lst us) ∧ xs.length ≤ i⟩
theorem turn_zip3 {P : Program} {w : World} {K : PySem.W.Frag} {elts : List Expr} {kk : Nat} {tp : Pos} (a b d z TI TO i1 i2 i3 : Addr) (hd : [z, TI, TO, i1, i2, i3].Nodup) :
    Turn P w K (.Tuple elts kk tp) (It3 a b d) [z, TI, TO, i1, i2, i3] z (fun i h => IsZip h z TI TO .none ∧ IsTri h TI (.ref i1) (.ref i2) (.ref i3) ∧ (∃ u v t, IsTri h TO u v t) ∧ h.IsListIter i1 a i ∧ h.IsListIter i2 b i ∧ h.IsListIter i3 d i) := by
  have apart : ∀ {H : Hp} {xs ys us : List V}, (∀ c ∈ [z, TI, TO, i1, i2, i3], H c = none) → H a = some (.lst xs) → H b = some (.lst ys) → H d = some (.lst us) → Far3 z TI TO i1 i2 i3 a b d := fun {H xs ys us} hn ha hb hd' => by
    simp only [List.nodup_cons, List.mem_cons, List.not_mem_nil, or_false, not_or, List.nodup_nil, and_true] at hd
    obtain ⟨⟨d1, d2, d3, d4, d5⟩, ⟨d6, d7, d8, d9⟩, ⟨d10, d11, d12⟩, ⟨d13, d14⟩, d15⟩ := hd
    have d15 : i2 ≠ i3 := by simpa using d15
    have na : ∀ c ∈ [z, TI, TO, i1, i2, i3], a ≠ c ∧ b ≠ c ∧ d ≠ c := fun c hc => ⟨ne_of_none ha (hn c hc), ne_of_none hb (hn c hc), ne_of_none hd' (hn c hc)⟩
    have nz := na z (by simp); have nT := na TO (by simp); have n1 := na i1 (by simp); have n2 := na i2 (by simp); have n3 := na i3 (by simp)
    refine ⟨fun c hc => ?_, fun c hc => ?_, fun c hc => ?_, fun c hc => ?_, fun c hc => ?_⟩ <;> simp only [List.mem_cons, List.not_mem_nil, or_false] at hc
    · rcases hc with q | q | q | q | q | q | q | q <;> (rw [q]; first | exact nz.1 | exact nz.2.1 | exact nz.2.2 | assumption | exact Ne.symm (by assumption))
    · rcases hc with q | q | q | q | q | q | q <;> (rw [q]; first | exact nT.1 | exact nT.2.1 | exact nT.2.2 | assumption | exact Ne.symm (by assumption))
    · rcases hc with q | q | q | q | q | q <;> (rw [q]; first | exact n1.1 | exact n1.2.1 | exact n1.2.2 | assumption | exact Ne.symm (by assumption))
    · rcases hc with q | q | q | q | q <;> (rw [q]; first | exact n2.1 | exact n2.2.1 | exact n2.2.2 | assumption | exact Ne.symm (by assumption))
    · rcases hc with q | q | q | q <;> (rw [q]; first | exact n3.1 | exact n3.2.1 | exact n3.2.2 | assumption | exact Ne.symm (by assumption))
  refine ⟨by simp, fun i h st c hc => ?_, fun i h h' st k => ?_, ?_, ?_, fun _ _ _ _ _ st h => wpAny_pyIter_zip st.1 h⟩
  · obtain ⟨hz, hTI, ⟨u, v, t, hTO⟩, ⟨o1, ho1, _, hd1⟩, ⟨o2, ho2, _, hd2⟩, ⟨o3, ho3, _, hd3⟩⟩ := st
    have hc' : c = z ∨ c = TI ∨ c = TO ∨ c = i1 ∨ c = i2 ∨ c = i3 := by simpa using hc
    rcases hc' with q | q | q | q | q | q
    · rw [q]; exact ⟨_, hz, fun v q => by have q' : Data.fields _ = Data.cell v := q; cases q'⟩
    · rw [q]; exact ⟨_, hTI, fun v q => by have q' : Data.seq _ _ = Data.cell v := q; cases q'⟩
    · rw [q]; exact ⟨_, hTO, fun v q => by have q' : Data.seq _ _ = Data.cell v := q; cases q'⟩
    · rw [q]; exact ⟨o1, ho1, fun v q => by rw [hd1] at q; cases q⟩
    · rw [q]; exact ⟨o2, ho2, fun v q => by rw [hd2] at q; cases q⟩
    · rw [q]; exact ⟨o3, ho3, fun v q => by rw [hd3] at q; cases q⟩
  · obtain ⟨hz, hTI, ⟨u, v, t, hTO⟩, h1, h2, h3⟩ := st
    exact ⟨k z (by simp) _ hz, k TI (by simp) _ hTI, ⟨u, v, t, k TO (by simp) _ hTO⟩, h1.at fun o q => k i1 (by simp) o q, h2.at fun o q => k i2 (by simp) o q, h3.at fun o q => k i3 (by simp) o q⟩
  · intro X hP hw hK hc i pins s σ H E I hf st hg
    subst hP hw hK
    obtain ⟨hz, hTI, ⟨u, v, t, hTO⟩, h1, h2, h3⟩ := st
    obtain ⟨xs, ys, us, x, y, v3, ha, hb, hd3, hx, hy, hv3⟩ := hg
    obtain ⟨its, rv, pl, _⟩ := I.list (SqL.of ha)
    obtain ⟨jts, rw', pl2, _⟩ := I.list (SqL.of hb)
    obtain ⟨kts, rk, pl3, _⟩ := I.list (SqL.of hd3)
    obtain ⟨ux, hux, rux⟩ := rv.get hx
    obtain ⟨uy, huy, ruy⟩ := rw'.get hy
    obtain ⟨uu, huu, ruu⟩ := rk.get hv3
    have D := apart (fun c hc => (hf c hc).1) ha hb hd3
    refine next_zip3 D hz hTI hTO h1 h2 h3 pl.isList pl2.isList pl3.isList (x := ux) (y := uy) (u := uu) (by simpa using hux) (by simpa using huy) (by simpa using huu) fun h' a1 a2 a3 a4 a5 a6 hk => ?_
    refine ⟨.ref s.heap.objs.size, rfl, wpAny_letOwnedTupleGo_zip a1 fun h3' hz3 hs3 => ?_⟩
    have nz : s.heap.objs.size ≠ z := Nat.ne_of_gt (Heap.lt_size hz)
    have I1 : Inv X pins σ H { s with heap := h3' } := I.turnedL (t' := s.toks) (ch := [z, TI, TO, i1, i2, i3]) (fun c o hcn q => by
      have h6 : c ≠ z ∧ c ≠ TI ∧ c ≠ TO ∧ c ≠ i1 ∧ c ≠ i2 ∧ c ≠ i3 := by simpa using hcn
      exact (hs3.2 c h6.1).trans (hk c o h6.1 h6.2.2.1 h6.2.2.2.1 h6.2.2.2.2.1 h6.2.2.2.2.2 q)) hf
    obtain ⟨f0, f1, f2, f3, f4⟩ := I.fresh0 (Nat.le_refl s.heap.objs.size)
    have hT : h3'.get? s.heap.objs.size = some { cls := .type "tuple", data := .seq #[ux, uy, uu] } := (hs3.2 _ nz).trans a6
    have I2 := I1.track (o := .tup [x, y, v3]) f0 f1 f2 f3 f4 ⟨by show 3 ≤ sizeLine; decide, [ux, uy, uu], .cons rux (.cons ruy (.cons ruu .nil)), ⟨_, hT, rfl, _, rfl⟩⟩
    have e1 : ∀ {c : Addr} {o : Obj}, c ≠ z → h'.get? c = some o → h3'.get? c = some o := fun hc q => (hs3.2 _ hc).trans q
    refine ⟨.ref s.heap.objs.size, _, I2, rfl, ⟨_, x, y, v3, f0, rfl, rfl, fun l hl => by rw [ha] at hl; cases hl; exact hx, fun l hl => by rw [hb] at hl; cases hl; exact hy, fun l hl => by rw [hd3] at hl; cases hl; exact hv3⟩,
      ⟨hz3, e1 (D.az TI (by simp)) (hk TI _ (D.az TI (by simp)) (D.aT TI (by simp)) (D.a1 TI (by simp)) (D.a2 TI (by simp)) (D.a3 TI (by simp)) hTI), ⟨_, _, _, e1 (D.az TO (by simp)) a2⟩, a3.at fun o q => e1 (D.az i1 (by simp)) q, a4.at fun o q => e1 (D.az i2 (by simp)) q, a5.at fun o q => e1 (D.az i3 (by simp)) q⟩, fun c hc => ?_⟩
    rw [upd_ne ?_]
    · exact (hf c hc).1
    · have hc' : c = z ∨ c = TI ∨ c = TO ∨ c = i1 ∨ c = i2 ∨ c = i3 := by simpa using hc
      obtain ⟨o1, ho1, _⟩ := h1
      obtain ⟨o2, ho2, _⟩ := h2
      obtain ⟨o3, ho3, _⟩ := h3
      rcases hc' with q | q | q | q | q | q
      · rw [q]; exact Ne.symm nz
      · rw [q]; exact Nat.ne_of_lt (Heap.lt_size hTI)
      · rw [q]; exact Nat.ne_of_lt (Heap.lt_size hTO)
      · rw [q]; exact Nat.ne_of_lt (Heap.lt_size ho1)
      · rw [q]; exact Nat.ne_of_lt (Heap.lt_size ho2)
      · rw [q]; exact Nat.ne_of_lt (Heap.lt_size ho3)
  · intro X hP hw hK hc i pins s σ H E I hf st hg
    subst hP hw hK
    obtain ⟨hz, hTI, ⟨u, v, t, hTO⟩, h1, h2, h3⟩ := st
    obtain ⟨xs, ys, us, ha, hb, hd3, hend⟩ := hg
    obtain ⟨its, rv, pl, _⟩ := I.list (SqL.of ha)
    have l1 := rv.length
    have D := apart (fun c hc => (hf c hc).1) ha hb hd3
    refine stop_zip3 (I.ok.hd hc) D hz hTI h1 pl.isList (by simp; omega) fun h' hk => ⟨rfl, I.turnedL (t' := s.toks) (ch := [z, TI, TO, i1, i2, i3]) (fun c o hcn q => ?_) hf⟩
    have h6 : c ≠ z ∧ c ≠ TI ∧ c ≠ TO ∧ c ≠ i1 ∧ c ≠ i2 ∧ c ≠ i3 := by simpa using hcn
    exact hk c o h6.1 h6.2.2.2.1 q
section
variable {X : Cx} {elts : List Expr} {kk : Nat} {tp : Pos}
def iZip3 (ta : TA) : TI := fun σ H R => ta σ H fun vs H1 => ∃ a b d xs ys us, vs = [.ref a, .ref b, .ref d] ∧ H1 a = some (.lst xs) ∧ H1 b = some (.lst ys) ∧ H1 d = some (.lst us) ∧ R (It3 a b d) H1
theorem pi_zip3 {e1 e2 e3 : Expr} {ta : TA} {p pos : Pos} (hg : Gl X "zip") (hm : X.mg "zip" = none) (ha : PA X [e1, e2, e3] ta) (hs : starEach [e1, e2, e3] X.env = (false, eval e1 X.env) :: starEach [e2, e3] X.env := by rfl) (hs2 : (backTo pos (starEach [e2, e3] X.env)).any (·.1) = false := by rfl) :
    PI X (.Tuple elts kk tp) (.Call (.Name "zip" p) [e1, e2, e3] [] pos) (iZip3 ta) := by
  intro pins s σ H R I h
  refine Call_ (ld_blt I hg hm boot_zip (PyProof.Rows.callWith_type1 (thn (ha pos pins s σ H _ I h) fun us s1 ⟨vs, H1, I1, r1, q1⟩ => ?_) hs hs2))
  obtain ⟨a, b, d, xs, ys, zs, e, hx, hy, hu, q⟩ := q1
  subst e
  cases r1 with
  | cons ra r2 => cases r2 with
    | cons rb r3 => cases r3 with
      | cons rd r4 =>
        cases r4
        cases ra; cases rb; cases rd
        obtain ⟨its, _, pl, _⟩ := I1.list (SqL.of hx)
        obtain ⟨jts, _, pl2, _⟩ := I1.list (SqL.of hy)
        obtain ⟨kts, _, pl3, _⟩ := I1.list (SqL.of hu)
        refine call_zip3 pl.isList pl2.isList pl3.isList fun h' hz hTI hTO hi1 hi2 hi3 hk => ?_
        have I2 : Inv X pins σ H1 { s1 with heap := h' } := I1.kept (t' := s1.toks) hk
        refine wpAny_pyIter_zip hz ⟨s1.heap.objs.size + 5, [s1.heap.objs.size + 5, s1.heap.objs.size + 3, s1.heap.objs.size + 4, s1.heap.objs.size, s1.heap.objs.size + 1, s1.heap.objs.size + 2], _, _, H1, rfl, I2, turn_zip3 a b d _ _ _ _ _ _ ?_, ⟨hz, hTI, ⟨_, _, _, hTO⟩, hi1, hi2, hi3⟩, fun c hc => ?_, q⟩
        · simp only [List.nodup_cons, List.mem_cons, List.not_mem_nil, or_false, not_or, List.nodup_nil, and_true]
          generalize s1.heap.objs.size = n
          refine ⟨⟨?_, ?_, ?_, ?_, ?_⟩, ⟨?_, ?_, ?_, ?_⟩, ⟨?_, ?_, ?_⟩, ⟨?_, ?_⟩, ?_, ?_⟩ <;> first | (intro q; have q' : (_ : Nat) = _ := q; omega) | (intro q; omega)
        · have hc' : c = s1.heap.objs.size + 5 ∨ c = s1.heap.objs.size + 3 ∨ c = s1.heap.objs.size + 4 ∨ c = s1.heap.objs.size ∨ c = s1.heap.objs.size + 1 ∨ c = s1.heap.objs.size + 2 := by simpa using hc
          have hle : s1.heap.objs.size ≤ c := by
            rcases hc' with z | z | z | z | z | z
            · rw [z]; exact Nat.le_add_right _ _
            · rw [z]; exact Nat.le_add_right _ _
            · rw [z]; exact Nat.le_add_right _ _
            · rw [z]; exact Nat.le_refl _
            · rw [z]; exact Nat.le_add_right _ _
            · rw [z]; exact Nat.le_add_right _ _
          exact I1.fpOk hle (I1.hok.fresh hle)
end
end L2
namespace L2
open PySem PySem.Spec PyProof.Rows PySem.W
def gainAt (rows vrows : List (List Int)) (w k : Nat) : Int := ((WB.row vrows k).take (WB.cnt rows w k)).sum - WB.price rows w k
def spGains (T : Tab) : Sp := fun vs H Q _ => ∃ (a v : Addr) (w : Int) (rows vrows : List (List Int)), vs = [.ref a, .int w, .ref v] ∧ LL H a rows ∧ Sized rows ∧ WB.Good rows ∧ 0 ≤ w ∧ LL H v vrows ∧ vrows.length = rows.length ∧ T.Ok H ∧
  ∀ r H', Kp T H H' → H r = none → H' r = some (.lst (iV ((List.range rows.length).map (gainAt rows vrows w.toNat)))) → Q (.ref r) H'
theorem val_one (r : List Int) (c : Nat) : WB.val [r] [c] = (r.take c).sum := by simp [WB.val]
theorem row_of {rows : List (List Int)} {k : Nat} {r : List Int} (h : rows[k]? = some r) : WB.row rows k = r := by unfold WB.row; rw [List.getD_eq_getElem?_getD, h]; rfl
end L2

set_option Elab.async false
set_option linter.all false
set_option maxRecDepth 100000
set_option maxHeartbeats 4000000
namespace L2
open PySem PySem.Spec PyProof.Rows PySem.W
/-- the exception at a, of the class C, in flight: no entry yet, or one that stands in no frame -/
structure ExcAt (g : Heap) (a C : Addr) (H : Hp) (h : Heap) : Prop where
  ex : ∃ oe vs, h.get? a = some oe ∧ oe.cls = .ref C ∧ oe.dict = none ∧ oe.data = .fields vs ∧ 1 < vs.size ∧
    (vs[1]? = some .none ∨ ∃ T oT ts, vs[1]? = some (.ref T) ∧ T ≠ a ∧ h.get? T = some oT ∧ oT.data = .fields ts ∧ ts[3]? = some .none ∧ H T = none ∧ g.get? T = none)
  free : H a = none
  new : g.get? a = none
/-- what stays: all but the records at ch and the slots of the frames at fs -/
structure Ch (ch fs : List Addr) (h h' : Heap) : Prop where
  keep : ∀ b o, h.get? b = some o → b ∉ ch → b ∉ fs → h'.get? b = some o
  slot : ∀ b o, h.get? b = some o → b ∉ ch → ∃ sl, h'.get? b = some { o with slots := sl }
  there : ∀ b o, h.get? b = some o → ∃ o', h'.get? b = some o'
theorem Ch.trans {ch fs : List Addr} {h h1 h2 : Heap} (x : Ch ch fs h h1) (y : Ch ch fs h1 h2) : Ch ch fs h h2 where
  keep := fun b o e c f => y.keep b o (x.keep b o e c f) c f
  slot := fun b o e c => by
    obtain ⟨sl, e1⟩ := x.slot b o e c
    obtain ⟨sl', e2⟩ := y.slot b _ e1 c
    exact ⟨sl', e2⟩
  there := fun b o e => by
    obtain ⟨o1, e1⟩ := x.there b o e
    exact y.there b o1 e1
/-- a record that may have been changed: new since n, not tracked, no frame, no cell -/
def Rec (g : Heap) (H : Hp) (h : Heap) (c : Addr) : Prop := g.get? c = none ∧ H c = none ∧ ∃ o vs, h.get? c = some o ∧ o.data = .fields vs
theorem dict_mapF (o : Obj) (f : Array Value → Array Value) : (Obj.mapFields f o).dict = o.dict := by
  unfold Obj.mapFields; split <;> rfl
section
variable {M : Model} {A : Around} {E : Value → Shared → Prop} {s : Shared} {base : Heap} {env : Env} {outer : List Env} {L a : Addr}
theorem entry_land {oe : Obj} {vs : Array Value} {head : Value} {hadNext : Bool} {Q : Shared → Prop} (hfr : A.frames = some (env :: outer)) (hl : s.heap.FunFrames base (env :: outer)) (hf : env.frame = some L) (he : s.heap.get? a = some oe) (hd : oe.data = .fields vs) (hsz : 1 < vs.size)
    (hQ : ∀ h' (T : Addr) oe' vs' oT ts, @Eq Nat T s.heap.objs.size → Ch [a] (frs (env :: outer)) s.heap h' → h'.get? a = some oe' → oe'.cls = oe.cls → oe'.dict = oe.dict → oe'.data = .fields vs' → 1 < vs'.size → vs'[1]? = some (.ref T) → h'.get? T = some oT → oT.data = .fields ts → ts[3]? = some .none → Q { s with heap := h' }) :
    wpAny M A (do let x ← frameOf env; let pl ← entryPlaceOf L hadNext; let b ← EntryCells.newEntry head x .none (rawInt L) .none pl; setField (.ref a) 1 b) (fun _ s' => wpAny M A (setFlight (.ref a) none) (fun _ s'' => Q s'') E s') E s := by
  have hna : a ∉ frs (env :: outer) := fun hm => by
    obtain ⟨_, o, ho, hnf⟩ := hl.mem hm
    rw [he] at ho; cases ho; exact hnf vs hd
  refine wpAny_bind (wpAny_frameOf_fun hfr hl hf fun g1 k1 => wpAny_bind (wpAny_entryPlaceOf fun pl hpl => ?_))
  unfold EntryCells.newEntry newFields
  refine wpAny_bind (wpAny_newObj_type ?_ (hpl.sizeOk5 _ _ _ _ _))
  have hda : (({ cls := .type "traceback", dict := none, data := .fields ([head, .ref L, .none, rawInt L, .none] ++ (if pl.isEmpty then List.replicate 6 Value.none else pl)).toArray } : Obj)).data = .fields ([head, .ref L, .none, rawInt L, .none] ++ (if pl.isEmpty then List.replicate 6 Value.none else pl)).toArray := rfl
  have hfrd : (({ cls := .type "traceback", dict := none, data := .fields ([head, .ref L, .none, rawInt L, .none] ++ (if pl.isEmpty then List.replicate 6 Value.none else pl)).toArray } : Obj)).isFreed = false := rfl
  have hts : 3 < (([head, .ref L, .none, rawInt L, .none] ++ (if pl.isEmpty then List.replicate 6 Value.none else pl)).toArray).size := by simp only [List.size_toArray, List.length_append, List.length_cons, List.length_nil]; omega
  generalize ([head, .ref L, .none, rawInt L, .none] ++ (if pl.isEmpty then List.replicate 6 Value.none else pl)).toArray = ts at hda hts hfrd ⊢
  generalize ({ cls := .type "traceback", dict := none, data := .fields ts } : Obj) = ob at hda hfrd ⊢
  have sz1 : g1.objs.size = s.heap.objs.size := k1.1
  have he1 : g1.get? a = some oe := (k1.2.1 a hna).trans he
  have hTa : g1.objs.size ≠ a := Nat.ne_of_gt (Heap.lt_size he1)
  have he2 : (g1.push ob).get? a = some oe := Heap.get?_push_of_some _ he1
  refine wpAny_setField he2 hd hsz ?_
  have hd3 := Obj.data_mapFields hd (·.setIfInBounds 1 (Value.ref g1.objs.size))
  have he3 := Heap.get?_update_self (Obj.mapFields (·.setIfInBounds 1 (Value.ref g1.objs.size))) he2 (Obj.isFreed_of_fields hd3)
  have hT3 := (Heap.get?_update_other (g1.push ob) (Obj.mapFields (·.setIfInBounds 1 (Value.ref g1.objs.size))) (Ne.symm hTa)).trans (Heap.get?_push_size g1 hfrd)
  unfold setFlight; refine wpAny_bind (wpAny_field he3 hd3 (x := .ref g1.objs.size) (by simp [hsz]) ?_)
  rw [if_pos (show (Value.ref g1.objs.size != Value.none) = true from by simp)]; refine wpAny_setField hT3 hda hts ?_
  have other : ∀ b o, b ≠ a → g1.get? b = some o → (((g1.push ob).update a (Obj.mapFields (·.setIfInBounds 1 (Value.ref g1.objs.size)))).update g1.objs.size (Obj.mapFields (·.setIfInBounds 3 ((none : Option Addr).elim Value.none fun f => rawInt f)))).get? b = some o := fun b o hb e => by
    rw [Heap.get?_update_other _ _ (Nat.ne_of_gt (Heap.lt_size e)), Heap.get?_update_other _ _ (Ne.symm hb)]; exact Heap.get?_push_of_some _ e
  have heF := (Heap.get?_update_other ((g1.push ob).update a (Obj.mapFields (·.setIfInBounds 1 (Value.ref g1.objs.size)))) (Obj.mapFields (·.setIfInBounds 3 ((none : Option Addr).elim Value.none fun f => rawInt f))) hTa).trans he3
  have hTF := Heap.get?_update_self (Obj.mapFields (·.setIfInBounds 3 ((none : Option Addr).elim Value.none fun f => rawInt f))) hT3 (Obj.isFreed_of_fields (Obj.data_mapFields hda _))
  refine hQ _ g1.objs.size _ _ _ _ sz1 ⟨fun b o e c f => ?_, fun b o e c => ?_, fun b o e => ?_⟩ heF (Obj.cls_mapFields _ _) (dict_mapF _ _) hd3 (by simpa using hsz) (by simp [hsz]) hTF (Obj.data_mapFields hda _) (by simp [hts])
  · exact other b o (fun q => c (by simp [q])) ((k1.2.1 b f).trans e)
  · obtain ⟨sl, e1⟩ := k1.2.2 b o e
    exact ⟨sl, other b _ (fun q => c (by simp [q])) e1⟩
  · by_cases q : b = a
    · rw [q]; exact ⟨_, heF⟩
    · obtain ⟨sl, e1⟩ := k1.2.2 b o e
      exact ⟨_, other b _ q e1⟩
/-- the frame is noted and the exception stands in none -/
theorem note_land {g0 : Heap} {C : Addr} {H : Hp} {Q : Shared → Prop} (hfr : A.frames = some (env :: outer)) (hl : s.heap.FunFrames base (env :: outer)) (hf : env.frame = some L) (hx : ExcAt g0 a C H s.heap) (hn : ∀ b : Addr, s.heap.objs.size ≤ b → H b = none ∧ g0.get? b = none)
    (hQ : ∀ h' ch, Ch ch (frs (env :: outer)) s.heap h' → (∀ c ∈ ch, Rec g0 H s.heap c) → ExcAt g0 a C H h' → Q { s with heap := h' }) :
    wpAny M A (noteFrame (.ref a) env) (fun _ s2 => wpAny M A (setFlight (.ref a) none) (fun _ s3 => Q s3) E s2) E s := by
  obtain ⟨⟨oe, vs, he, hc, hdi, hd, hsz, hT⟩, hfree, hnew⟩ := hx
  have lta : a < s.heap.objs.size := Heap.lt_size he
  have ra : Rec g0 H s.heap a := ⟨hnew, hfree, oe, vs, he, hd⟩
  unfold noteFrame; simp only [hf]
  rcases hT with h1 | ⟨T, oT, ts, h1, hTa, hTo, hTd, h3, hTf, hTn⟩
  · refine wpAny_bind (wpAny_field he hd h1 ?_); rw [if_neg (by decide)]
    refine entry_land (Q := Q) hfr hl hf he hd hsz fun h' T oe' vs' oT ts eT c e1 e2 ed e3 e4 e5 e6 e7 e8 => ?_
    refine hQ h' [a] c (fun d hd' => by rw [List.mem_singleton.mp hd']; exact ra) ⟨⟨oe', vs', e1, e2.trans hc, ed.trans hdi, e3, e4, .inr ⟨T, oT, ts, e5, ?_, e6, e7, e8, (hn T (by show s.heap.objs.size ≤ T; omega)).1, (hn T (by show s.heap.objs.size ≤ T; omega)).2⟩⟩, hfree, hnew⟩
    · exact neGt (by have := ltN lta; omega)
  · refine wpAny_bind (wpAny_field he hd h1 ?_); rw [if_pos (show (Value.ref T != Value.none) = true from by simp)]
    refine wpAny_bind (wpAny_field hTo hTd h3 ?_); rw [if_neg (show ¬ ((Value.none == rawInt L) = true) from by simp [rawInt])]
    refine wpAny_bind (wpAny_setField hTo hTd (Array.getElem?_eq_some_iff.mp h3).1 ?_)
    generalize hg : s.heap.update T (Obj.mapFields (·.setIfInBounds 3 Value.none)) = g
    have oth : ∀ b, b ≠ T → g.get? b = s.heap.get? b := fun b hb => by rw [← hg]; exact Heap.get?_update_other _ _ (Ne.symm hb)
    have nrec : ∀ b o, s.heap.get? b = some o → (∀ vs, o.data ≠ .fields vs) → b ≠ T := fun b o e nf q => by rw [q, hTo] at e; cases e; exact nf ts hTd
    have gsz : g.objs.size = s.heap.objs.size := by rw [← hg]; first | exact Heap.size_update .. | simp
    have gT : ∃ o', g.get? T = some o' := by rw [← hg]; exact ⟨_, Heap.get?_update_self _ hTo (Obj.isFreed_of_fields (Obj.data_mapFields hTd _))⟩
    refine entry_land (s := { s with heap := g }) (Q := Q) hfr (hl.of_keeps fun b o e nf => ⟨o, (oth b (nrec b o e nf)).trans e, rfl⟩) hf ((oth a (Ne.symm hTa)).trans he) hd hsz fun h' T' oe' vs' oT' ts' eT c e1 e2 ed e3 e4 e5 e6 e7 e8 => ?_
    have eT' : @Eq Nat T' s.heap.objs.size := eT.trans gsz
    refine hQ h' [a, T] ⟨fun b o e cb f => ?_, fun b o e cb => ?_, fun b o e => ?_⟩ (fun d hd' => ?_) ⟨⟨oe', vs', e1, e2.trans hc, ed.trans hdi, e3, e4, .inr ⟨T', oT', ts', e5, ?_, e6, e7, e8, (hn T' (by show s.heap.objs.size ≤ T'; omega)).1, (hn T' (by show s.heap.objs.size ≤ T'; omega)).2⟩⟩, hfree, hnew⟩
    · exact c.keep b o ((oth b fun q => cb (by simp [q])).trans e) (fun q => cb (by simp at q; simp [q])) f
    · exact c.slot b o ((oth b fun q => cb (by simp [q])).trans e) (fun q => cb (by simp at q; simp [q]))
    · by_cases q : b = T
      · obtain ⟨o', e'⟩ := gT
        rw [q]; exact c.there T o' e'
      · exact c.there b o ((oth b q).trans e)
    · rcases List.mem_cons.mp hd' with q | q
      · rw [q]; exact ra
      · rw [List.mem_singleton.mp q]; exact ⟨hTn, hTf, oT, ts, hTo, hTd⟩
    · exact neGt (by have := ltN lta; omega)
/-- it stands in no frame, once more -/
theorem land_again {g0 : Heap} {C : Addr} {H : Hp} {Q : Shared → Prop} {fs : List Addr} (hx : ExcAt g0 a C H s.heap) (hQ : ∀ h' ch, Ch ch fs s.heap h' → (∀ c ∈ ch, Rec g0 H s.heap c) → ExcAt g0 a C H h' → Q { s with heap := h' }) :
    wpAny M A (setFlight (.ref a) none) (fun _ s3 => Q s3) E s := by
  obtain ⟨⟨oe, vs, he, hc, hdi, hd, hsz, hT⟩, hfree, hnew⟩ := id hx
  unfold setFlight
  rcases hT with h1 | ⟨T, oT, ts, h1, hTa, hTo, hTd, h3, hTf, hTn⟩
  · refine wpAny_bind (wpAny_field he hd h1 ?_); rw [if_neg (by decide)]
    exact wpAny_pure (hQ s.heap [] ⟨fun _ _ e _ _ => e, fun _ o e _ => ⟨o.slots, e⟩, fun _ o e => ⟨o, e⟩⟩ (fun _ h => (nomatch h)) hx)
  · refine wpAny_bind (wpAny_field he hd h1 ?_); rw [if_pos (show (Value.ref T != Value.none) = true from by simp)]
    have h3l : 3 < ts.size := (Array.getElem?_eq_some_iff.mp h3).1
    refine wpAny_setField hTo hTd h3l ?_
    have self := Heap.get?_update_self (Obj.mapFields (·.setIfInBounds 3 ((none : Option Addr).elim Value.none fun f => rawInt f))) hTo (Obj.isFreed_of_fields (Obj.data_mapFields hTd _))
    have oth : ∀ b, b ≠ T → (s.heap.update T (Obj.mapFields (·.setIfInBounds 3 ((none : Option Addr).elim Value.none fun f => rawInt f)))).get? b = s.heap.get? b := fun b hb => Heap.get?_update_other _ _ (Ne.symm hb)
    refine hQ _ [T] ⟨fun b o e cb _ => (oth b fun q => cb (by simp [q])).trans e, fun b o e cb => ⟨o.slots, (oth b fun q => cb (by simp [q])).trans e⟩, fun b o e => ?_⟩ (fun d hd' => by rw [List.mem_singleton.mp hd']; exact ⟨hTn, hTf, oT, ts, hTo, hTd⟩)
      ⟨⟨oe, vs, (oth a (Ne.symm hTa)).trans he, hc, hdi, hd, hsz, .inr ⟨T, _, _, h1, hTa, self, Obj.data_mapFields hTd _, by simp [h3l], hTf, hTn⟩⟩, hfree, hnew⟩
    by_cases q : b = T
    · rw [q]; exact ⟨_, self⟩
    · exact ⟨o, (oth b q).trans e⟩
end
/-! ### the frame's facts behind such a change -/
section
variable {X : Cx} {pins : List (Addr × Obj)} {σ : St} {H : Hp} {s : Shared}
theorem hok_ch {P : Program} {w : World} {h h' : Heap} {ch fs : List Addr} (ok : HOk P w H h) (c : Ch ch fs h h') (hc : ∀ d ∈ ch, H d = none) (hf : ∀ b ∈ fs, H b = none) : HOk P w H h' := fun b u e =>
  (ok b u e).stay (fun d v hd q => c.keep d v q (fun m => by
      have := hc d m
      rcases hd with z | z
      · rw [z, e] at this; cases this
      · rw [z] at this; cases this) (fun m => by
      have := hf d m
      rcases hd with z | z
      · rw [z, e] at this; cases this
      · rw [z] at this; cases this)) (fun _ q => q) fun _ _ q => q
theorem Inv.changed {h' : Heap} {ch : List Addr} {g0 : Heap} (I : Inv X pins σ H s) (c : Ch ch (frs X.stack) s.heap h') (hr : ∀ d ∈ ch, Rec g0 H s.heap d) (hg : ∀ b o, X.s₀.heap.get? b = some o → ∃ o', g0.get? b = some o') (hp : ∀ p ∈ X.pn ++ pins, p.1 ∉ ch) :
    Inv X pins σ H { s with heap := h' } := by
  have low : ∀ {b : Addr} {o : Obj}, X.s₀.heap.get? b = some o → b ∉ ch := fun {b o} e m => by
    obtain ⟨o', e'⟩ := hg b o e
    rw [(hr b m).1] at e'; cases e'
  have nfr : ∀ {b : Addr} {o : Obj}, X.s₀.heap.get? b = some o → b ∉ X.fs → b ∉ frs X.stack := fun {b o} e f m => by
    rcases List.mem_cons.mp (I.stkSub b m) with z | z
    · have h1 := ltN (Heap.lt_size e)
      have h2 := leN I.ok.above
      rw [z] at h1; omega
    · exact f z
  have dat : ∀ {b : Addr} {o : Obj}, s.heap.get? b = some o → (∀ vs, o.data ≠ .fields vs) → ∃ sl, h'.get? b = some { o with slots := sl } := fun {b o} e nf => c.slot b o e fun m => by
    obtain ⟨_, _, o', vs, e', d⟩ := hr b m
    rw [e] at e'; cases e'; exact nf vs d
  have cel : ∀ {b : Addr} {v : Option Value}, s.heap.IsCell b v → h'.IsCell b v := fun {b v} ⟨o, e, d⟩ => by
    obtain ⟨sl, e'⟩ := dat e (fun vs q => by rw [d] at q; cases q)
    exact ⟨_, e', d⟩
  refine ⟨I.ok, I.os, I.bare, ⟨fun b o e n f x => ?_, fun b o e n f x => ?_, I.base.free, fun b o e x => ?_, I.base.tups, I.base.frzs, I.base.tbls⟩, ?_, fun x a e => ?_, I.free, I.freeC, fun p hpp => ?_, hok_ch I.hok c (fun d m => (hr d m).2.1) I.stkFree, I.len⟩
  · exact c.keep b o (I.base.keep b o e n f x) (low e) (nfr e f)
  · obtain ⟨sl, e1⟩ := I.base.slot b o e n f x
    obtain ⟨sl', e2⟩ := c.slot b _ e1 (low e)
    exact ⟨sl', e2⟩
  · obtain ⟨o1, e1⟩ := I.base.there b o e x
    exact c.there b o1 e1
  · obtain ⟨m, ⟨o, es, ep, e, d, r⟩, hl⟩ := I.loc
    obtain ⟨sl, e'⟩ := dat e (fun vs q => by rw [d] at q; cases q)
    refine ⟨m, ⟨_, es, ep, e', d, r⟩, fun i x v e1 e2 e3 => ?_⟩
    obtain ⟨u, ru, lk⟩ := hl i x v e1 e2 e3
    refine ⟨u, ru, ?_⟩
    rcases lk with z | ⟨k, a, ea, z⟩
    · exact .inl z
    · exact .inr ⟨k, a, ea, cel z⟩
  · obtain ⟨v, z⟩ := I.cell x a e
    exact ⟨v, cel z⟩
  · obtain ⟨e, n, ne, nf, d⟩ := I.pin p hpp
    refine ⟨c.keep p.1 p.2 e (hp p hpp) (fun m => ?_), n, ne, nf, d⟩
    rcases List.mem_cons.mp (I.stkSub p.1 m) with z | z
    · exact ne z
    · exact nf z
end
/-! ### how an exception lies behind a call -/
def CXe (P : Program) (w : World) : CXT := fun outer H s E e s' => ∃ (a C : Addr) (H' : Hp), e = .ref a ∧ s'.os = s.os ∧ AllBare s'.gens ∧ Un (frs outer) [] H H' s.heap s'.heap ∧ HOk P w H' s'.heap ∧ ExcAt s.heap a C H' s'.heap ∧ E (.ref C) none H'
theorem ExcAt.low {g g' : Heap} {a C : Addr} {H : Hp} {h : Heap} (x : ExcAt g a C H h) (k : ∀ b, g.get? b = none → g'.get? b = none) : ExcAt g' a C H h := by
  obtain ⟨⟨oe, vs, he, hc, hdi, hd, hsz, hT⟩, hf, hn⟩ := x
  refine ⟨⟨oe, vs, he, hc, hdi, hd, hsz, ?_⟩, hf, k _ hn⟩
  rcases hT with z | ⟨T, oT, ts, h1, h2, h3, h4, h5, h6, h7⟩
  · exact .inl z
  · exact .inr ⟨T, oT, ts, h1, h2, h3, h4, h5, h6, k _ h7⟩
/-- what was there is there -/
def Old (h h' : Heap) : Prop := ∀ b o, h.get? b = some o → ∃ o', h'.get? b = some o'
theorem Old.none {h h' : Heap} (k : Old h h') {b : Addr} (e : h'.get? b = none) : h.get? b = none := by
  cases q : h.get? b with
  | none => rfl
  | some o =>
    obtain ⟨o', e'⟩ := k b o q
    rw [e] at e'; cases e'
section
variable {P : Program} {w : World} {K : PySem.W.Frag} {mg : Str → Option Value} {base : Heap} {N : List Str} {qual : Str} {scope : Scope} {f : Addr} {cd : Value} {A : Around} {outer : List Env} {s : Shared} {H : Hp} {E : XK}
theorem flies {pins : List (Addr × Obj)} {σ : St} {H1 : Hp} {s1 : Shared} {a C : Addr} (I : Inv (cxOf (CXe P w) P w K mg base N qual scope f cd A outer s H E) pins σ H1 s1) (hx : ExcAt s.heap a C H1 s1.heap) (hE : E (.ref C) none H1) :
    (cxOf (CXe P w) P w K mg base N qual scope f cd A outer s H E).xe (.ref a) s1 := by
  show wpAny _ _ (leaving (envOfC qual scope s.heap.objs.size f cd) (.ref a)) _ _ s1
  unfold leaving
  have old : Old s.heap s1.heap := fun b o e => I.base.there b o e (fun z => absurd (show b ∈ ([] : List Addr) from z) (by simp))
  refine wpAny_bind (note_land (base := base) (outer := outer) (Q := fun s2 => CXe P w outer H s E (.ref a) s2) I.ok.frames I.stack rfl hx (fun b hb => ⟨I.hok.fresh hb, old.none (Heap.get?_none_of_le hb)⟩) fun h' ch c hr x' => ?_)
  have low : ∀ {b : Addr} {o : Obj}, s.heap.get? b = some o → b ∉ ch := fun {b o} e m => by rw [(hr b m).1] at e; cases e
  have nfr : ∀ {b : Addr} {o : Obj}, s.heap.get? b = some o → b ∉ frs outer → b ∉ frs (envOfC qual scope s.heap.objs.size f cd :: outer) := fun {b o} e fo m => by
    rcases List.mem_cons.mp (I.stkSub b m) with z | z
    · have h1 := ltN (Heap.lt_size e)
      have h2 := leN I.ok.above
      rw [z] at h1
      exact absurd (Nat.lt_of_lt_of_le h1 h2) (Nat.lt_irrefl _)
    · exact fo z
  refine ⟨a, C, H1, rfl, I.os, I.bare, ⟨fun b o e n fo x => ?_, fun b o e n fo x => ?_, I.base.free, fun b o e x => ?_, I.base.tups, I.base.frzs, I.base.tbls⟩, hok_ch I.hok c (fun d m => (hr d m).2.1) I.stkFree, x', hE⟩
  · exact c.keep b o (I.base.keep b o e n fo x) (low e) (nfr e fo)
  · obtain ⟨sl, e1⟩ := I.base.slot b o e n fo x
    obtain ⟨sl', e2⟩ := c.slot b _ e1 (low e)
    exact ⟨sl', e2⟩
  · obtain ⟨o1, e1⟩ := I.base.there b o e x
    exact c.there b o1 e1
theorem passX : Passes (CXe P w) (cxOf (CXe P w) P w K mg base N qual scope f cd A outer s H E) E := by
  intro pins σ H1 s1 e s2 I h
  obtain ⟨a, C, H2, rfl, os, bare, un, hok, hx, hE⟩ := h
  have I2 : Inv (cxOf (CXe P w) P w K mg base N qual scope f cd A outer s H E) pins σ H2 s2 := I.call' (ch := []) os un hok bare (fun b z => absurd z (by simp))
  have old : Old s.heap s1.heap := fun b o e => I.base.there b o e (fun z => absurd (show b ∈ ([] : List Addr) from z) (by simp))
  exact flies I2 (hx.low fun b e => old.none e) hE
theorem ownX : PassesOwn (model P w) (A.deeper (envOfC qual scope s.heap.objs.size f cd)) (envOfC qual scope s.heap.objs.size f cd) (cxOf (CXe P w) P w K mg base N qual scope f cd A outer s H E).xe := PassesOwn.leaving
end
end L2

set_option Elab.async false
set_option linter.all false
set_option maxRecDepth 100000
set_option maxHeartbeats 4000000
namespace L2
open PySem PySem.Spec PyProof.Rows PySem.W
theorem ObjOk.obj {P : Program} {w : World} {H : Hp} {h : Heap} {a : Addr} {o : HO} (x : ObjOk P w H h a o) : ∃ ob, h.get? a = some ob := by
  cases o with
  | lst xs => obtain ⟨_, _, _, _, e⟩ := x; exact ⟨_, e⟩
  | tup xs => obtain ⟨_, _, _, ob, e, _⟩ := x; exact ⟨ob, e⟩
  | dK kvs => obtain ⟨_, _, _, _, o, _, _, e, _⟩ := x; exact ⟨o, e⟩
  | dT kvs => obtain ⟨_, _, _, _, o, _, _, e, _⟩ := x; exact ⟨o, e⟩
  | set S n => obtain ⟨o, _, _, _, e, _⟩ := x; exact ⟨o, e⟩
  | ins C dx fs => obtain ⟨_, _, _, e, _⟩ := x; exact ⟨_, e⟩
  | own y => exact x
  | xd fs => obtain ⟨_, ⟨o, _, _, e, _⟩, _⟩ := x; exact ⟨o, e⟩
  | rng lo hi => obtain ⟨_, _, _, e⟩ := x; exact ⟨_, e⟩
  | frz ob u => obtain ⟨e, _⟩ := x; exact ⟨ob, e⟩
  | tbl ps => exact ⟨_, show h.get? a = some _ from x⟩
  | met f y => exact ⟨_, show h.get? a = some _ from x⟩
  | ext φ => obtain ⟨_, e, _⟩ := x; exact e
/-- an own class at C whose base is an own class of ValueError -/
structure ExcK (K : PySem.W.Frag) (C : Addr) : Prop where
  ex : ∃ (nm q : Str) (N A : Addr) (bs : List Value) (hdct : Bool) (sn : List Str) (sub : List Value) (ab : Bool) (col : Option Bool) (dd : Option Addr) (k0 k1 k2 k3 k5 : Option Value),
    K.lookup C = some (excClassObj nm q C N bs (.ref A :: [.type "ValueError", .type "Exception", .type "BaseException", .type "object"]) hdct sn sub ab col dd k0 k1 k2 k3 k5 "ValueError.__new__") ∧
    (∃ mN : Str → Option Value, mN "__init__" = none ∧ ∀ h, K.In h → h.Ns N mN) ∧ ∀ h, K.In h → OwnTail h [.type "ValueError", .type "Exception", .type "BaseException", .type "object"] (.ref A :: [.type "ValueError", .type "Exception", .type "BaseException", .type "object"])
theorem ns_mk {K : PySem.W.Frag} {N : Addr} {c : Value} {d : Option Addr} {es : Array DictEntry} {ep : Nat} {sl : Array (Option Value)} (l : K.lookup N = some ⟨c, d, .dict es ep, sl⟩) (sk : es.toList.all (fun e => match e.key with | .str _ _ => true | _ => false) = true) (hi : nsFind es "__init__" = none) :
    ∃ mN : Str → Option Value, mN "__init__" = none ∧ ∀ h, K.In h → h.Ns N mN := by
  refine ⟨nsFind es, hi, fun h X => ⟨_, es, ep, X _ _ l, rfl, fun e he => ?_, fun _ => rfl⟩⟩
  have := List.all_eq_true.mp sk e (by simpa using he)
  cases hk : e.key with
  | str n t => exact ⟨n, t, rfl⟩
  | _ => rw [hk] at this; simp at this
theorem excK_mk {K : PySem.W.Frag} {C N A : Addr} {nm q : Str} {bs : List Value} {hdct : Bool} {sn : List Str} {sub : List Value} {ab : Bool} {col : Option Bool} {dd : Option Addr} {k0 k1 k2 k3 k5 : Option Value} {c cA cM : Value} {d dA dM : Option Addr} {es esM : Array DictEntry} {ep epM : Nat} {sl slA slM : Array (Option Value)} {cd : ClassData}
    (lC : K.lookup C = some (excClassObj nm q C N bs (.ref A :: [.type "ValueError", .type "Exception", .type "BaseException", .type "object"]) hdct sn sub ab col dd k0 k1 k2 k3 k5 "ValueError.__new__"))
    (lN : K.lookup N = some ⟨c, d, .dict es ep, sl⟩) (sk : es.toList.all (fun e => match e.key with | .str _ _ => true | _ => false) = true) (hi : nsFind es "__init__" = none)
    (lA : K.lookup A = some { cls := cA, dict := dA, data := .cls cd, slots := slA }) (lM : K.lookup cd.ns = some ⟨cM, dM, .dict esM epM, slM⟩) (skM : esM.toList.all (fun e => match e.key with | .str _ _ => true | _ => false) = true) (hiM : nsFind esM "__init__" = none) : ExcK K C :=
  ⟨nm, q, N, A, bs, hdct, sn, sub, ab, col, dd, k0, k1, k2, k3, k5, lC, ns_mk lN sk hi, fun h X => by
    obtain ⟨mA, n1, n2⟩ := ns_mk lM skM hiM
    exact .own (X _ _ lA) (n2 h X) n1 .base⟩
section
variable {X : Cx} {C : Addr} {E : XK}
/-- raise C('..') -/
theorem ps_raise {x : Str} {np cpos pos p1 : Pos} {t : Str} {j : Nat} (hc : X.calm = true) (hex : X.ex = []) (hg : Gl X x) (hm : X.mg x = some (.ref C)) (k : ExcK X.K C)
    (fly : ∀ {pins : List (Addr × Obj)} {σ : St} {H : Hp} {s : Shared} {a : Addr}, Inv X pins σ H s → ExcAt X.s₀.heap a C H s.heap → E (.ref C) none H → X.xe (.ref a) s) (hd : (x == ("__debug__" : Str)) = false := by decide) :
    PS X (.Raise (some (.Call (.Name x np) [.Constant (.str t) j p1] [] cpos)) none pos) (fun _ _ H => E (.ref C) none H) := by
  intro pins s σ H D I h
  obtain ⟨nm, q, N, A, bs, hdct, sn, sub, ab, col, dd, k0, k1, k2, k3, k5, lC, hN, hT⟩ := k.ex
  obtain ⟨mN, n2, n1⟩ := hN
  refine wpAny_Raise_call_subT (mN := mN) PySem.F.excBase_ValueError (nm := nm) (q := q) (bs := bs) (hdct := hdct) (sn := sn) (sub := sub) (ab := ab) (col := col) (dd := dd) (k0 := k0) (k1 := k1) (k2 := k2) (k3 := k3) (k5 := k5) (C := C) (N := N) (bm := .ref A :: [.type "ValueError", .type "Exception", .type "BaseException", .type "object"]) (by simp) (I.ok.hd hc) rfl n2 ?_
  have hpa : PA X [.Constant (.str t) j p1] (tCons (tC (.str t)) tNil) := pa_cons pe_str pa_nil
  refine ld_glob I hg hm ⟨rfl, Calls.evalArgs_plain (wpAny_mono (hpa cpos pins s σ H (fun vs H2 => vs = [.str t] ∧ H2 = H) I ⟨rfl, rfl⟩) (fun us s2 ⟨vs, H2, I2, r2, e3, e4⟩ => ?_) fun _ _ z => z)⟩ hd
  subst e3 e4
  have hlen : us.length ≤ sizeLine := by rw [← r2.length]; show 1 ≤ sizeLine; decide
  refine ⟨rfl, hlen, I2.kIn _ _ lC, n1 _ I2.kIn, hT _ I2.kIn, fun h' e hm => ?_⟩
  have I3 : Inv X pins σ H2 { s2 with heap := h' } := I2.kept (t' := s2.toks) hm.keeps
  obtain ⟨ta, he, _, _⟩ := hm.there
  have hfree : H2 e = none := by
    cases hq : H2 e with
    | none => rfl
    | some u =>
      obtain ⟨ob, hob⟩ := (I2.hok e u hq).obj
      rw [hm.new] at hob; cases hob
  have old : Old X.s₀.heap s2.heap := fun b o e => I2.base.there b o e (fun z => by rw [hex] at z; cases z)
  exact fly I3 ⟨⟨_, _, he, rfl, rfl, rfl, by simp, .inl rfl⟩, hfree, old.none hm.new⟩ h
/-! ### try -/
/-- what is known where a suite's exception lands: the frame stands as it was -/
def XT (X : Cx) (pins : List (Addr × Obj)) (σ : St) (W : XK) : Value → Shared → Prop := fun e s1 => ∃ (a C : Addr) (H1 : Hp) (g0 : Heap), e = .ref a ∧ Inv X pins σ H1 s1 ∧ ExcAt g0 a C H1 s1.heap ∧ Old X.s₀.heap g0 ∧ Old g0 s1.heap ∧ (∀ p ∈ X.pn ++ pins, ∃ o, g0.get? p.1 = some o) ∧ W (.ref C) none H1
abbrev TB := Ends → XK → St → Hp → Prop
/-- a try's suite -/
def PB (X : Cx) (sts : List Stmt) (t : TB) : Prop := ∀ (pins : List (Addr × Obj)) (s : Shared) (σ : St) (H : Hp) (D : Ends) (W : XK), Inv X pins σ H s → t D W σ H → wpAny (model X.prog X.w) X.A (execs sts X.env) (SP X pins D) (XT X pins σ W) s
theorem pb_plain {sts : List Stmt} {t : TS} (h : PSs X sts t) (hx : ∀ e s, X.xe e s → False) : PB X sts (fun D _ => t D) := fun pins s σ H D W I q => wpAny_mono (h pins s σ H D I q) (fun _ _ z => z) fun e s1 z => (hx e s1 z).elim
theorem pb_if {c : Expr} {a b : List Stmt} {pos : Pos} {tc : TT} {ta tb : TB} (hc : PT X c tc) (ha : PB X a ta) (hb : PB X b tb) (hx : ∀ e s, X.xe e s → False) : PB X [.If c a b pos] (fun D W σ H => tc σ H fun v H1 => if v = true then ta D W σ H1 else tb D W σ H1) := by
  intro pins s σ H D W I h
  refine wpAny_execs_cons (wpAny_If (wpAny_mono (hc pins s σ H _ I h) (fun d s1 ⟨H1, I1, q1⟩ => ?_) fun e s1 z => (hx e s1 z).elim))
  cases d with
  | true => exact wpAny_mono (ha pins s1 σ H1 D W I1 q1) (fun f s2 z => by cases f <;> first | exact wpAny_execs_nil z | exact z) fun _ _ z => z
  | false => exact wpAny_mono (hb pins s1 σ H1 D W I1 q1) (fun f s2 z => by cases f <;> first | exact wpAny_execs_nil z | exact z) fun _ _ z => z
/-- f(..) as a try's suite, f may raise -/
theorem pb_call {k j : Nat} {f : Addr} {fd : FuncData} {ps : List Str} {sp : Sp} {x : Str} {p pos epos : Pos} {e : Expr} {es : List Expr} {t : TA} (F : FnOk X.prog X.w X.K X.mg X.base (CXe X.prog X.w) k f fd ps sp) (hr : Room k X.A) (hex : X.ex = []) (hg : Gl X x) (hm : X.mg x = some (.ref f)) (hk : PySem.W.keepIn X.K (.ref f) = true) (hb : Binds X.K fd ps [])
    (ha : PA X (e :: es) t) (hx : ∀ e s, X.xe e s → False) (hdb : (x == ("__debug__" : Str)) = false := by decide) (he : starEach (e :: es) X.env = (false, eval e X.env) :: starEach es X.env := by rfl) (hpl : (backTo pos (starEach es X.env)).any (·.1) = false := by rfl)
    (hsw : swapsWith (.Call (.Name x p) (e :: es) [] pos) none epos.line X.env = pure false := by rfl) :
    PB X [.Expr (.Call (.Name x p) (e :: es) [] pos) epos] (fun D W σ H => t σ H fun vs H1 => sp vs H1 (fun _ H2 => D.nx σ H2) W) := by
  intro pins s σ H D W I h
  have emp : ∀ {e : Value} {s1 : Shared}, X.xe e s1 → XT X pins σ W e s1 := fun z => (hx _ _ z).elim
  refine wpAny_execs_cons (wpAny_Expr_any (Q := fun f s' => match f with | .next => wpAny (model X.prog X.w) X.A (execs [] X.env) (SP X pins D) (XT X pins σ W) s' | f => SP X pins D f s') ?_ I.quiet hsw)
  refine wpAny_Call_Name_kw (ld_glob I hg hm ?_ hdb)
  refine PySem.W.callWith_K (h₀ := X.base) I.ok.mod.kin hk (wpAny_mono (ha pos pins s σ H _ I h) (fun us s1 ⟨vs, H1, I1, r, q⟩ => ⟨I1.kIn, ?_⟩) fun e s1 z => emp z) he hpl
  have hl : us.length = ps.length := by rw [← r.length]; exact F.len _ _ _ _ q
  refine wpAny_call (codeAny_mono (F.run X.A X.stack s1 H1 ⟨us, []⟩ us vs (fun _ H2 => D.nx σ H2) W hr I1.env0 (by have := hb s1 us I1.kIn (by rw [List.append_nil]; exact hl); rw [List.append_nil] at this; exact this) r q) fun res s' hq => ?_)
  cases res with
  | error e =>
    obtain ⟨a, C', H2, rfl, os, bare, un, hok, hxc, hW⟩ := hq
    have old : Old X.s₀.heap s1.heap := fun b o e => I1.base.there b o e (fun z => by rw [hex] at z; cases z)
    have old2 : Old s1.heap s'.heap := fun b o e => un.there b o e (by simp)
    exact ⟨a, C', H2, s1.heap, rfl, I1.call' (ch := []) os un hok bare (fun b z => absurd z (by simp)), hxc, old, old2, fun p hp => ⟨_, (I1.pin p hp).1⟩, hW⟩
  | ok fl =>
    cases fl with
    | ret u =>
      obtain ⟨v, H2, I2, r2, q2⟩ := I1.after hq
      exact wpAny_execs_nil ⟨σ, H2, I2, q2⟩
    | next => exact False.elim hq
    | brk => exact False.elim hq
    | cont => exact False.elim hq
/-- within an except suite -/
def Cx.held (X : Cx) (a : Addr) : Cx := { X with A := X.A.mark (some (.ref a)), calm := false, xe := fun _ _ => False }
theorem Inv.hold {pins : List (Addr × Obj)} {σ : St} {H : Hp} {s : Shared} {a : Addr} (I : Inv X pins σ H s) : Inv (X.held a) pins σ H s :=
  ⟨⟨I.ok.mod, I.ok.kind, I.ok.glob, I.ok.blt, I.ok.above, I.ok.inj, I.ok.has, I.ok.cab, fun z => (by cases z), I.ok.frames, I.ok.stk, I.ok.exf, I.ok.bs, I.ok.bsz, I.ok.noex, I.ok.exfs, I.ok.funs, I.ok.frf⟩, I.os, I.bare, I.base, I.loc, I.cell, I.free, I.freeC, I.pin, I.hok, I.len⟩
theorem Inv.release {pins : List (Addr × Obj)} {σ : St} {H : Hp} {s : Shared} {a : Addr} (I : Inv (X.held a) pins σ H s) (ok : X.Ok) : Inv X pins σ H s := ⟨ok, I.os, I.bare, I.base, I.loc, I.cell, I.free, I.freeC, I.pin, I.hok, I.len⟩
theorem SP.release {pins : List (Addr × Obj)} {D : Ends} {f : Flow} {s : Shared} {a : Addr} (h : SP (X.held a) pins D f s) (ok : X.Ok) : SP X pins D f s := by
  cases f with
  | next => obtain ⟨σ', H', I, q⟩ := h; exact ⟨σ', H', I.release ok, q⟩
  | brk => obtain ⟨σ', H', I, q⟩ := h; exact ⟨σ', H', I.release ok, q⟩
  | cont => obtain ⟨σ', H', I, q⟩ := h; exact ⟨σ', H', I.release ok, q⟩
  | ret u => obtain ⟨v, σ', H', I, r, q⟩ := h; exact ⟨v, σ', H', I.release ok, r, q⟩
/-- the clauses, for an exception of the class C -/
def HS (X : Cx) (hs : List ExceptHandler) (C : Addr) (t : TS) : Prop := ∀ (pins : List (Addr × Obj)) (s : Shared) (σ : St) (H : Hp) (D : Ends) (a : Addr) (g0 : Heap), Inv X pins σ H s → ExcAt g0 a C H s.heap → Old X.s₀.heap g0 → Old g0 s.heap → (∀ p ∈ X.pn ++ pins, ∃ o, g0.get? p.1 = some o) → t D σ H →
  wpAny (model X.prog X.w) X.A (handleBy (.ref a) X.env hs) (SP X pins D) X.xe s
theorem hs_never {hs : List ExceptHandler} : HS X hs C (fun _ _ _ => False) := fun _ _ _ _ _ _ _ _ _ _ _ _ h => h.elim
theorem exc_ty {g0 : Heap} {a : Addr} {H : Hp} {h : Heap} {M : Model} (x : ExcAt g0 a C H h) : Looks M h (typeOf (.ref a)) (.ref C) := by
  obtain ⟨oe, vs, he, hc, _⟩ := x.ex
  exact hc ▸ (Looks.ld he).andThen .now
theorem hs_test {pins : List (Addr × Obj)} {s : Shared} {σ : St} {H : Hp} {a : Addr} {g0 : Heap} {x : Str} {np pos : Pos} {Cx' : Addr} {b : Bool} {R : Result → Shared → Prop} (I : Inv X pins σ H s) (hx : ExcAt g0 a C H s.heap) (hg : Gl X x) (hm : X.mg x = some (.ref Cx')) (hk : exmOne X.K (.ref C) (.ref Cx') = some b)
    (hd : (x == ("__debug__" : Str)) = false) (hR : R (.ok (if b then .brk else .next)) s) :
    codeAny (model X.prog X.w) (X.A.mark (some (.ref a))) (.handlers (.ref a) [.ExceptHandler (some (.Name x np)) none [] pos] X.env) R s := by
  refine codeAny_handlers_test (ld_glob (X := X.held a) I.hold hg hm ?_ hd)
  exact (exm_one I.kIn (exc_ty hx) hk).here hR
theorem hs_miss {x : Str} {np pos : Pos} {name : Option Str} {body : List Stmt} {rest : List ExceptHandler} {D' : Addr} {t : TS} (hg : Gl X x) (hm : X.mg x = some (.ref D')) (hk : exmOne X.K (.ref C) (.ref D') = some false) (hr : HS X rest C t) (hd : (x == ("__debug__" : Str)) = false := by decide) :
    HS X (.ExceptHandler (some (.Name x np)) name body pos :: rest) C t := by
  intro pins s σ H D a g0 I hx o1 o2 hp h
  exact wpAny_handleBy_cons (hs_test I hx hg hm hk hd (hr pins s σ H D a g0 I hx o1 o2 hp h)) (by intro q; cases q)
theorem hs_hit {x : Str} {np pos : Pos} {b0 : Stmt} {body : List Stmt} {rest : List ExceptHandler} {D' : Addr} {t : TS} (hg : Gl X x) (hm : X.mg x = some (.ref D')) (hk : exmOne X.K (.ref C) (.ref D') = some true) (hs : ∀ a, PSs (X.held a) (b0 :: body) t) (hd : (x == ("__debug__" : Str)) = false := by decide) :
    HS X (.ExceptHandler (some (.Name x np)) none (b0 :: body) pos :: rest) C t := by
  intro pins s σ H D a g0 I hx o1 o2 hp h
  refine wpAny_handleBy_cons (hs_test I hx hg hm hk hd ?_) (by intro q; cases q)
  refine codeAny_handlers_suite (land_again (fs := frs X.stack) (Q := fun s1 => wpAny (model X.prog X.w) (X.A.mark (some (.ref a))) (execs (b0 :: body) X.env) _ _ s1) hx fun h' ch c hr x' => ?_)
  have I2 : Inv X pins σ H { s with heap := h' } := I.changed c hr (fun b o e => o1 b o e) fun p hpp m => by
    obtain ⟨o, e⟩ := hp p hpp
    rw [(hr p.1 m).1] at e; cases e
  exact wpAny_mono (hs a pins _ σ H D I2.hold h) (fun f s2 z => z.release I.ok) fun _ _ z => False.elim z
/-- try, where all is caught -/
theorem ps_try {body : List Stmt} {h0 : ExceptHandler} {hs : List ExceptHandler} {pos : Pos} {tb : TB} {th : Addr → TS} (hst : X.stack = X.env :: X.outer) (hf : X.env.frame = some X.env.locals) (hb : PB X body tb) (hh : ∀ C, HS X (h0 :: hs) C (th C)) :
    PS X (.Try body (h0 :: hs) [] [] pos) (fun D σ H => tb D (fun cls _ H1 => ∃ C, cls = .ref C ∧ th C D σ H1) σ H) := by
  intro pins s σ H D I h
  refine wpAny_Try_except (wpAny_mono (hb pins s σ H D _ I h) (fun f s1 q => ?_) fun e s1 q => ?_)
  · cases f <;> first | exact wpAny_execs_nil q | exact q
  · obtain ⟨a, C, H1, g0, rfl, I1, hx, o1, o2, hp, C', eC, w⟩ := q
    cases eC
    have hfr : X.A.frames = some (X.env :: X.outer) := by rw [← hst]; exact I1.ok.frames
    have hfu : s1.heap.FunFrames X.base (X.env :: X.outer) := by rw [← hst]; exact I1.stack
    refine note_land (Q := fun s2 => wpAny (model X.prog X.w) X.A (handleBy (.ref a) X.env (h0 :: hs)) (SP X pins D) X.xe s2) hfr hfu hf hx (fun b hb => ⟨I1.hok.fresh hb, o2.none (Heap.get?_none_of_le hb)⟩) fun h' ch c hr x' => ?_
    rw [← hst] at c
    have I2 : Inv X pins σ H1 { s1 with heap := h' } := I1.changed c hr (fun b o e => o1 b o e) fun p hpp m => by
      obtain ⟨o, e⟩ := hp p hpp
      rw [(hr p.1 m).1] at e; cases e
    exact hh C pins _ σ H1 D a g0 I2 x' o1 (fun b o e => by obtain ⟨o', e'⟩ := o2 b o e; exact c.there b o' e') hp w
/-! ### except .. as n -/
theorem Inv.wipe {pins : List (Addr × Obj)} {σ : St} {H : Hp} {s : Shared} {h' : Heap} {m' : Str → Option Value} {t' : Nat} (I : Inv X pins σ H s) (hn : h'.Ns X.env.locals m') (hs : Heap.SameBut X.env.locals s.heap h') : Inv X pins (List.replicate X.N.length none) H { s with heap := h', toks := t' } := by
  have low : ∀ {b : Addr} {o : Obj}, X.s₀.heap.get? b = some o → b ≠ X.env.locals := fun {b o} e z => by
    have h1 := ltN (Heap.lt_size e)
    have h2 := leN I.ok.above
    rw [z] at h1; omega
  refine ⟨I.ok, I.os, I.bare, ⟨fun b o e n f x => ?_, fun b o e n f x => ?_, I.base.free, fun b o e x => ?_, I.base.tups, I.base.frzs, I.base.tbls⟩, ⟨m', hn, fun i x v e1 e2 _ => ?_⟩, fun x a e => ?_, I.free, I.freeC, fun p hp => ?_, fun b u e => ?_, by simp⟩
  · exact (hs.2 b (low e)).trans (I.base.keep b o e n f x)
  · obtain ⟨sl, e1⟩ := I.base.slot b o e n f x
    exact ⟨sl, (hs.2 b (low e)).trans e1⟩
  · obtain ⟨o1, e1⟩ := I.base.there b o e x
    exact ⟨o1, (hs.2 b (low e)).trans e1⟩
  · rw [List.getElem?_replicate] at e2
    split at e2 <;> cases e2
  · obtain ⟨v, o, ho, hd⟩ := I.cell x a e
    exact ⟨v, o, (hs.2 a (I.cne x a e)).trans ho, hd⟩
  · obtain ⟨e, n, ne, nf, d⟩ := I.pin p hp
    exact ⟨(hs.2 p.1 ne).trans e, n, ne, nf, d⟩
  · refine (I.hok b u e).stay (fun d v hd q => (hs.2 d ?_).trans q) (fun _ q => q) fun _ _ q => q
    rcases hd with z | z
    · rw [z]; exact ne_of_none e I.free
    · exact ne_of_none z I.free
theorem Inv.track0 {pins : List (Addr × Obj)} {σ : St} {H : Hp} {s : Shared} {a : Addr} {o : HO} (I : Inv X pins σ H s) (hn : H a = none) (h0 : X.s₀.heap.get? a = none) (hL : a ≠ X.env.locals) (hc : ∀ x c, X.env.cells.lookup x = some c → c ≠ a) (hp : ∀ p ∈ X.pn ++ pins, p.1 ≠ a)
    (new : ObjOk X.prog X.w (upd H a o) s.heap a o) : Inv X pins σ (upd H a o) s := by
  refine ⟨I.ok, I.os, I.bare, ⟨I.base.keep, I.base.slot, fun b ob e n hx => ?_, I.base.there, fun b xs e => ?_, fun b ob u e => ?_, fun b ps e => ?_⟩, I.loc, I.cell, ?_, fun x c e => ?_, fun p hq => ?_, ?_, I.len⟩
  · rw [upd_ne (fun z => by rw [z, h0] at e; cases e)]
    exact I.base.free b ob e n hx
  · have q := I.base.tups b xs e
    rw [upd_ne (ne_of_none q hn)]; exact q
  · have q := I.base.frzs b ob u e
    rw [upd_ne (ne_of_none q hn)]; exact q
  · obtain ⟨more, q⟩ := I.base.tbls b ps e
    exact ⟨more, by rw [upd_ne (ne_of_none q hn)]; exact q⟩
  · rw [upd_ne (Ne.symm hL)]; exact I.free
  · rw [upd_ne (hc x c e)]; exact I.freeC x c e
  · obtain ⟨e1, e2, e3⟩ := I.pin p hq
    exact ⟨e1, by rw [upd_ne (hp p hq)]; exact e2, e3⟩
  · intro b u e
    by_cases hb : b = a
    · subst hb; rw [upd_same] at e; cases e; exact new
    · rw [upd_ne hb] at e
      exact (I.hok b u e).stay (fun c v _ q => q) (fun c q => by rw [upd_ne (ne_of_none q hn)]; exact q) fun c xs q => by rw [upd_ne (ne_of_none q hn)]; exact q
def isExc (a C : Addr) : HO := .ext fun h => ∃ oe vs, h.get? a = some oe ∧ oe.cls = .ref C ∧ oe.dict = none ∧ oe.data = .fields vs
theorem hs_as {x n : Str} {np pos : Pos} {b0 : Stmt} {body : List Stmt} {rest : List ExceptHandler} {D' : Addr} {t : TS} {i : Nat} (hN : X.N.Nodup) (hi : X.N[i]? = some n) (hl : X.env.scope.names.lookup n = some .local) (hg : Gl X x) (hm : X.mg x = some (.ref D')) (hk : exmOne X.K (.ref C) (.ref D') = some true)
    (hs : ∀ a, PSs (X.held a) (b0 :: body) t) (hd : (x == ("__debug__" : Str)) = false := by decide) :
    HS X (.ExceptHandler (some (.Name x np)) (some n) (b0 :: body) pos :: rest) C (fun D σ H => ∀ a, H a = none →
      t { nx := fun _ H' => D.nx (List.replicate X.N.length none) H', bk := fun _ H' => D.bk (List.replicate X.N.length none) H', ct := fun _ H' => D.ct (List.replicate X.N.length none) H', rt := D.rt } (σ.set i (some (.ref a))) (upd H a (isExc a C))) := by
  intro pins s σ H D a g0 I hx o1 o2 hp h
  refine wpAny_handleBy_cons (hs_test I hx hg hm hk hd ?_) (by intro q; cases q)
  refine codeAny_handlers_suite_as (land_again (fs := frs X.stack) (Q := fun s1 => wpAny (model X.prog X.w) (X.A.mark (some (.ref a))) (storeName X.env n (.ref a)) _ _ s1) hx fun h' ch c hr x' => ?_)
  have I2 : Inv X pins σ H { s with heap := h' } := I.changed c hr (fun b o e => o1 b o e) fun p hpp m => by
    obtain ⟨o, e⟩ := hp p hpp
    rw [(hr p.1 m).1] at e; cases e
  obtain ⟨oe, vs, he, hc, hdi, hdd, _⟩ := x'.ex
  have s0 : X.s₀.heap.get? a = none := by
    cases q : X.s₀.heap.get? a with
    | none => rfl
    | some o =>
      obtain ⟨o', e'⟩ := o1 a o q
      rw [hx.new] at e'; cases e'
  have pa : ∀ p ∈ X.pn ++ pins, p.1 ≠ a := fun p hpp z => by
    obtain ⟨o, e⟩ := hp p hpp
    rw [z, hx.new] at e; cases e
  have nl : a ≠ X.env.locals := fun z => by
    obtain ⟨m, ⟨o, es, ep, e, d, _⟩, _⟩ := I2.loc
    rw [← z, he] at e; cases e; rw [hdd] at d; cases d
  have nc : ∀ x c, X.env.cells.lookup x = some c → c ≠ a := fun x c ec z => by
    obtain ⟨v, o, e, d⟩ := I2.cell x c ec
    rw [z, he] at e; cases e; rw [hdd] at d; cases d
  have I3 : Inv X pins σ (upd H a (isExc a C)) { s with heap := h' } := I2.track0 hx.free s0 nl nc pa ⟨⟨oe, vs, he, hc, hdi, hdd⟩, ⟨oe, he⟩, fun h1 h2 ⟨o, vs', e1, e2, e3, e4⟩ k => ⟨o, vs', k _ e1, e2, e3, e4⟩⟩
  refine store_ok (X := X.held a) I3.hold hN hi (.inl hl) (v := .ref a) rfl (fun s' I4 => ?_) (.inr hl)
  refine wpAny_mono (hs a pins s' _ _ _ I4 (h a hx.free)) (fun f s2 z => ?_) fun _ _ z => False.elim z
  have done : ∀ {σ' : St} {H' : Hp}, Inv (X.held a) pins σ' H' s2 → (∀ s3, Inv X pins (List.replicate X.N.length none) H' s3 → SP X pins D f s3) → wpAny (model X.prog X.w) X.A (do bindName X.env n .none; unbindBehindTheSuite X.env n pos) (fun _ s3 => SP X pins D f s3) X.xe s2 := fun {σ' H'} J q => by
    obtain ⟨m, hnn, _⟩ := J.loc
    refine wpAny_nameGoes hl hnn (by rw [I.ok.kind]; rfl) fun h2 m2 hn2 hs2 => ?_
    exact q _ ((J.release I.ok).wipe hn2 hs2)
  cases f with
  | next => obtain ⟨σ', H', J, q⟩ := z; exact done J fun s3 J3 => ⟨_, H', J3, q⟩
  | brk => obtain ⟨σ', H', J, q⟩ := z; exact done J fun s3 J3 => ⟨_, H', J3, q⟩
  | cont => obtain ⟨σ', H', J, q⟩ := z; exact done J fun s3 J3 => ⟨_, H', J3, q⟩
  | ret u => obtain ⟨v, σ', H', J, r, q⟩ := z; exact done J fun s3 J3 => ⟨v, _, H', J3, r, q⟩
end
section
variable {prog : Program} {w : World} {A : Around} {E : Value → Shared → Prop} {s : Shared} {K : Frag} {a C : Addr} {ox : Obj}
theorem exc_class_attr {Q : Option Value → Shared → Prop} (X : K.In s.heap) (I : InstAt s.heap a ox C none) (hga : findIn K (.ref C) "__getattribute__" = some (some (.builtin "BaseException.__getattribute__"))) (hgr : findIn K (.ref C) "__getattr__" = some none)
    (hf : findObj K C none "__class__" = some (.bind (.builtin "getset_descriptor.__get__") (.builtin "object.__class__"))) (hmB : mroIn K C (.type "BaseException") = some true) (hmO : mroIn K C (.type "object") = some true) (h : Q (some (.ref C)) { s with toks := s.toks + 1 }) :
    wpAny (model prog w) A (getAttr? (.ref a) "__class__") Q E s := by
  obtain ⟨hh, g, d, t, os⟩ := s
  have L0 := I.type (M := model prog w)
  have L1 := looks_findIn (M := model prog w) X hga
  have L2 := looks_findIn (M := model prog w) X hgr
  have L3 := looks_find (M := model prog w) X I hf
  have L4 := looks_mroIn (M := model prog w) X hmB
  unfold getAttr? getAttrBy? getAttrBy
  refine wpAny_bind (wpAny_mkText (wpAny_bind (wpAny_attempt (wpAny_holding (wpAny_bind (L0.at (wpAny_bind (L1.at ?_))))))))
  have hne : (onTheHeap (Value.ref C) && Value.builtin "BaseException.__getattribute__" == Value.builtin "object.__getattribute__") = false := by rw [show (Value.builtin "BaseException.__getattribute__" == Value.builtin "object.__getattribute__") = false by decide +kernel]; rfl
  show wpAny _ _ (if (onTheHeap (Value.ref C) && Value.builtin "BaseException.__getattribute__" == Value.builtin "object.__getattribute__") = true then _ else _) _ _ _
  rw [hne]
  rw [if_neg (by decide)]
  unfold getAttrByItsOwn hookBefore
  have hk : builtinKind "BaseException.__getattribute__" = some .slot := by decide +kernel
  have hsplit : splitId "BaseException.__getattribute__" = some ("BaseException", "__getattribute__") := by decide +kernel
  have f3 := F.excAttr_ValueError.ga.bind (.ref a)
  rw [if_pos (show onTheHeap (Value.ref C) = true from rfl)]
  refine wpAny_bind (L2.at ?_)
  refine wpAny_bind (wpAny_attempt (wpAny_holding ?_))
  show wpAny _ _ (bindSpecial (Value.builtin "BaseException.__getattribute__") (Value.ref a) >>= _) _ _ _
  refine wpAny_bind (wpAny_of_eq f3 ?_)
  refine wpAny_call (codeAny_call_builtin F.excAttr_ValueError.ga.plain F.entry_bexc_ga ?_)
  have hargs := F.args_bexc_ga (.ref a) (.str "__class__" t)
  simp only [checkBuiltinCall, hk, hsplit]
  refine wpAny_bind ?_
  unfold isInstance
  repeat lk
  refine wpAny_run (h := none) ?_ (by intro q; cases q)
  refine class_get (K := K) (x := a) (C := C) (ox := ox) (od := none) X I hmO ?_
  repeat (any_goals (first | assumption | lk | wp_step))
/-- what the written part knows of an own exception's class -/
structure ExcI (K : Frag) (C : Addr) : Prop where
  ga : findIn K (.ref C) "__getattribute__" = some (some (.builtin "BaseException.__getattribute__"))
  gr : findIn K (.ref C) "__getattr__" = some none
  fo : findObj K C none "__class__" = some (.bind (.builtin "getset_descriptor.__get__") (.builtin "object.__class__"))
  mB : mroIn K C (.type "BaseException") = some true
  mO : mroIn K C (.type "object") = some true
  cl : ∃ (c : Value) (d : Option Addr) (cd : ClassData) (sl : Array (Option Value)), K.lookup C = some ⟨c, d, .cls cd, sl⟩
theorem kitx_exc (F : ExcI K C) : KitX K (.ref a) (.ref C) (fun h => ∃ ox, InstAt h a ox C none) where
  ty := fun _ _ _ ⟨_, I⟩ => I.type
  it := fun _ _ X _ => by
    obtain ⟨c, d, cd, sl, l⟩ := F.cl
    intro A' Q' E' s' k q
    unfold isType loadHead; exact wpAny_bind (wpAny_loadPart (k _ _ (X _ _ l)) (wpAny_pure q))
  ne := fun h tp dd its n sl X htp => by
    obtain ⟨c, d, cd, sl', l⟩ := F.cl
    refine Bool.eq_false_iff.mpr fun q => ?_
    have e : C = tp := Value.ref.inj (beq_iff_eq.mp q)
    subst e
    have z := (X _ _ l).symm.trans htp; cases z
  ca := fun X ⟨_, I⟩ k => exc_class_attr X I F.ga F.gr F.fo F.mB F.mO k
end
section
variable {X : Cx}
/-- isinstance(e, D): e an own exception that was caught; D a class by its value -/
def rIsX (K : PySem.W.Frag) : List V → Hp → VK → Prop := fun xs H Q => ∃ (a C : Addr) (v : V) (d : Value) (b : Bool), xs = [.ref a, v] ∧ RelV v d ∧ (∀ u, RelV v u → u = d) ∧ H a = some (isExc a C) ∧ ExcI K C ∧ PySem.W.kitOne K (.ref C) d = some b ∧ Q (.bl b) H
theorem call_isinstX : CallR X (.builtin "isinstance") (rIsX X.K) := by
  intro pins s σ H xs us Q I r h
  obtain ⟨a, C, v, d, b, e, rd, ud, ha, F, k, q⟩ := h
  subst e
  obtain ⟨u1, u2, rfl, r1, r2⟩ := vals2 r
  cases (show u1 = Value.ref a from r1)
  have e2 := ud u2 r2
  subst e2
  obtain ⟨⟨oe, vs, he, hc, hdi, hdd⟩, _⟩ := (show ObjOk X.prog X.w H s.heap a (isExc a C) from I.hok a _ ha)
  refine PySem.W.kia_one (kitx_exc F) I.kIn ⟨oe, ⟨he, hc, by unfold notCls; rw [hdd], by rw [hdi]; trivial⟩⟩ k (fun z => nomatch z) fun tk => ⟨.bl b, H, I.tok tk, rfl, q⟩
end
end L2

set_option Elab.async false
set_option linter.all false
set_option maxRecDepth 100000
set_option maxHeartbeats 4000000
namespace L2
open PySem PySem.Spec PyProof.Rows PySem.W
/-! ### defs that may raise -/
section
variable {P : Program} {w : World} {K : PySem.W.Frag} {mg : Str → Option Value} {base : Heap}
theorem Fun.okX {x qual : Str} {st : Stmt} {f : Addr} {fd : FuncData} {N ps : List Str} {k : Nat} {sp : Sp} (F : Fun K x qual st f fd) (S : FnScope N ps (defScope st)) (len : ∀ vs H Q E, sp vs H Q E → vs.length = ps.length)
    (hbody : ∀ (cdv : Value) (A : Around) (outer : List Env) (s : Shared) (H : Hp) (vs : List V) (Q : VK) (E : XK), Room k (A.deeper (envOfC qual (defScope st) s.heap.objs.size f cdv)) → sp vs H Q E →
      ∃ t, PSs (cxOf (CXe P w) P w K mg base N qual (defScope st) f cdv A outer s H E) (defBody st) t ∧ t { nx := fun _ H' => Q .non H', rt := Q } (start N vs) H) : FnOk P w K mg base (CXe P w) (k + 1) f fd ps sp := by
  obtain ⟨oc, od, kV, doc, pm, an, cdv, ct, osl, rfl, lk, hcd⟩ := F.ex
  exact fn_of lk hcd S len fun A outer s H vs Q E hr hsp => hbody cdv A outer s H vs Q E hr hsp
end
/-- a def that may be called by its name and may raise -/
structure CalX (P : Program) (w : World) (K : PySem.W.Frag) (mg : Str → Option Value) (base : Heap) (k : Nat) (x : Str) (ps : List Str) (sp : Sp) : Prop where
  ex : ∃ (g : Addr) (gd : FuncData), FnOk P w K mg base (CXe P w) k g gd ps sp ∧ Binds K gd ps [] ∧ PySem.W.keepIn K (.ref g) = true ∧ mg x = some (.ref g)
theorem pe_calX {X : Cx} {k j : Nat} {x : Str} {ps : List Str} {sp : Sp} {p pos : Pos} {e : Expr} {es : List Expr} {t : TA} {E : XK} (C : CalX X.prog X.w X.K X.mg X.base k x ps sp) (hr : Room j X.A) (hk : k ≤ j) (hg : Gl X x) (hx : Passes (CXe X.prog X.w) X E) (ha : PA X (e :: es) t) (hdb : (x == ("__debug__" : Str)) = false := by decide)
    (he : starEach (e :: es) X.env = (false, eval e X.env) :: starEach es X.env := by rfl) (hpl : (backTo pos (starEach es X.env)).any (·.1) = false := by rfl) : PE X (.Call (.Name x p) (e :: es) [] pos) (tCall sp [] E t) := by
  obtain ⟨g, gd, F, b, kp, m⟩ := C.ex
  exact pe_call (F.mono hk) hr hg m kp b .nil hx ha hdb he hpl
theorem pb_cal {X : Cx} {k j : Nat} {x : Str} {ps : List Str} {sp : Sp} {p pos epos : Pos} {e : Expr} {es : List Expr} {t : TA} (C : CalX X.prog X.w X.K X.mg X.base k x ps sp) (hr : Room j X.A) (hk : k ≤ j) (hex : X.ex = []) (hg : Gl X x) (ha : PA X (e :: es) t) (hx : ∀ e s, X.xe e s → False) (hdb : (x == ("__debug__" : Str)) = false := by decide)
    (he : starEach (e :: es) X.env = (false, eval e X.env) :: starEach es X.env := by rfl) (hpl : (backTo pos (starEach es X.env)).any (·.1) = false := by rfl) (hsw : swapsWith (.Call (.Name x p) (e :: es) [] pos) none epos.line X.env = pure false := by rfl) :
    PB X [.Expr (.Call (.Name x p) (e :: es) [] pos) epos] (fun D W σ H => t σ H fun vs H1 => sp vs H1 (fun _ H2 => D.nx σ H2) W) := by
  obtain ⟨g, gd, F, b, kp, m⟩ := C.ex
  exact pb_call (j := j) (F.mono hk) hr hex hg m kp b ha hx hdb he hpl hsw
/-- the clauses, for an exception of one of two classes -/
theorem hs_two {X : Cx} {hs : List ExceptHandler} {C1 C2 : Addr} {t1 t2 : TS} (h1 : HS X hs C1 t1) (h2 : HS X hs C2 t2) (C : Addr) : HS X hs C (fun D σ H => (C = C1 ∧ t1 D σ H) ∨ (C = C2 ∧ t2 D σ H)) := by
  intro pins s σ H D a g0 I hx o1 o2 hp h
  rcases h with ⟨rfl, h⟩ | ⟨rfl, h⟩
  · exact h1 pins s σ H D a g0 I hx o1 o2 hp h
  · exact h2 pins s σ H D a g0 I hx o1 o2 hp h
/-! ### xs.insert(i, y) -/
def rInsert : V → List V → Hp → VK → Prop := fun x vs H Q => ∃ (l : Addr) (xs : List V) (i : Nat) (y : V), x = .ref l ∧ vs = [.int (i : Int), y] ∧ H l = some (.lst xs) ∧ i ≤ xs.length ∧ xs.length < 1000 ∧ Q .non (upd H l (.lst (xs.take i ++ y :: xs.drop i)))
theorem ins_arr (its : List Value) (x : Int) (y : Value) (h0 : 0 ≤ x) (h1 : x.toNat ≤ its.length) : (fun xs : Array Value => have k := if x < 0 then (x + (xs.size : Int)).toNat else min x.toNat xs.size; (xs.extract 0 k).push y ++ xs.extract k) its.toArray = (its.take x.toNat ++ y :: its.drop x.toNat).toArray := by
  have e : (if x < 0 then (x + (its.toArray.size : Int)).toNat else min x.toNat its.toArray.size) = x.toNat := by
    rw [if_neg (by omega), List.size_toArray]; omega
  show (its.toArray.extract 0 (if x < 0 then (x + (its.toArray.size : Int)).toNat else min x.toNat its.toArray.size)).push y ++ its.toArray.extract (if x < 0 then (x + (its.toArray.size : Int)).toNat else min x.toNat its.toArray.size) = _
  rw [e]
  exact kl_ins_eq its x.toNat y
theorem mt_insert {X : Cx} : MtM X "list.insert" rInsert := by
  intro pins s σ H x vs v us Q I rx rv h
  obtain ⟨l, xs, i, y, rfl, rfl, hH, hi, hz, q⟩ := h
  cases rx
  obtain ⟨u1, u2, rfl, r1, r2⟩ := rv.two
  obtain ⟨t, rfl⟩ := (show ∃ t, u1 = Value.int (i : Int) t from r1)
  obtain ⟨z, its, n, r, hl, e⟩ := I.lstM hH
  have hf : Builtin.List.listFitsIndex (i : Int) = true := fitsIndex_both (by omega) (by omega)
  have h0 : 0 ≤ (i : Int) := by omega
  have ht : ((i : Int)).toNat = i := by omega
  generalize (i : Int) = k at hf h0 ht
  have M := PySem.AutoSeq1.list_insert_list_int_val_1 l its.toArray n k t u2 (by rw [hf]; decide) (by rw [List.size_toArray]; omega)
  refine call_meets PySem.F.slot_list_insert ⟨_, e, rfl⟩ PySem.F.entry_list_insert (PySem.F.args_list_insert_3 _ _ _) M ⟨e, ?_⟩
  refine ⟨.non, _, I.lset (its' := its.take i ++ u2 :: its.drop i) hH e ?_ ((r.take i).append (.cons r2 (r.drop i))) ?_, rfl, q⟩
  · exact (ins_arr its k u2 h0 (by omega)).trans (by rw [ht])
  · have : (1000 : Nat) < sizeLine := by decide
    rw [List.length_append, List.length_take, List.length_cons, List.length_drop]; omega
/-! ### rows that are refused -/
def GoodRow (r : List Int) : Prop := (∀ x ∈ r, 0 ≤ x) ∧ r.Pairwise (fun a b => WB.geB a b = true)
theorem good_next {r : List Int} {i : Nat} (hi : i < r.length) (h : GoodRow (r.take i)) (h0 : 0 ≤ r[i]) (h1 : ∀ (j : Nat) (hj : j < r.length), j + 1 = i → r[i] ≤ r[j]) : GoodRow (r.take (i + 1)) := by
  refine ⟨fun x hx => ?_, ?_⟩
  · rw [List.take_add_one, List.getElem?_eq_getElem hi, Option.toList_some] at hx
    rcases List.mem_append.mp hx with hx | hx
    · exact h.1 x hx
    · rw [List.mem_singleton.mp hx]; exact h0
  · rw [List.take_add_one, List.getElem?_eq_getElem hi, Option.toList_some, List.pairwise_append]
    refine ⟨h.2, List.pairwise_singleton _ _, fun a ha b hb => ?_⟩
    rw [List.mem_singleton.mp hb]
    obtain ⟨j, hj, rfl⟩ := List.mem_iff_getElem.mp ha
    have hl : (r.take i).length = i := by rw [List.length_take]; omega
    have hji : j < i := by omega
    have hm : i - 1 < (r.take i).length := by omega
    have e2 : (r.take i)[i - 1] = r[i - 1] := List.getElem_take
    have l1 := h1 (i - 1) (by omega) (by omega)
    refine decide_eq_true ?_
    by_cases c : j = i - 1
    · subst c; rw [e2]; exact l1
    · have := of_decide_eq_true (List.pairwise_iff_getElem.mp h.2 j (i - 1) hj hm (by omega))
      rw [e2] at this
      omega
theorem good_nn {r : List Int} {i : Nat} (h : GoodRow r) (hi : i < r.length) : 0 ≤ r[i] := h.1 _ (List.getElem_mem hi)
theorem good_adj {r : List Int} {i j : Nat} (h : GoodRow r) (hi : i < r.length) (hj : j < r.length) (e : j + 1 = i) : r[i] ≤ r[j] := of_decide_eq_true (List.pairwise_iff_getElem.mp h.2 j i hj hi (by omega))
theorem good_all {rows : List (List Int)} (g : ∀ r ∈ rows, GoodRow r) : WB.Good rows := ⟨fun r hr => (g r hr).1, fun r hr => (g r hr).2⟩
theorem good_of {rows : List (List Int)} (g : WB.Good rows) : ∀ r ∈ rows, GoodRow r := fun r hr => ⟨g.nn r hr, g.fall r hr⟩
/-- true: some row is none; false: the wares are below nought -/
def Bads (rows : List (List Int)) (w : Int) : Bool → Prop
  | true => ∃ r ∈ rows, ¬ GoodRow r
  | false => (∀ r ∈ rows, GoodRow r) ∧ w < 0
def Rais (C1 C2 : Addr) (rows : List (List Int)) (w : Int) (H : Hp) (E : XK) : Prop := ∃ b, Bads rows w b ∧ ∀ H', Same H H' → E (.ref (bif b then C1 else C2)) none H'
def spRowX (C : Addr) : Sp := fun vs H Q E => ∃ (p : Addr) (r : List Int), vs = [.ref p] ∧ H p = some (.lst (iV r)) ∧ r.length < 200 ∧ (GoodRow r → ∀ H', Same H H' → Q .non H') ∧ (¬ GoodRow r → ∀ H', Same H H' → E (.ref C) none H')
structure Few (rows : List (List Int)) : Prop where
  few : rows.length ≤ 199
  row : ∀ r ∈ rows, r.length < 199
def spX2 (C1 C2 : Addr) : Sp := fun vs H Q E => ∃ (a : Addr) (w : Int) (rows : List (List Int)), vs = [.ref a, .int w] ∧ LL H a rows ∧ Few rows ∧ Rais C1 C2 rows w H E
def spX3 (C1 C2 : Addr) : Sp := fun vs H Q E => ∃ (a : Addr) (w : Int) (v : V) (rows : List (List Int)), vs = [.ref a, .int w, v] ∧ LL H a rows ∧ Few rows ∧ Rais C1 C2 rows w H E
/-- [[0] * 110 for _ in rows] -/
theorem zeros_w {K : PySem.W.Frag} {i : Nat} {a : Addr} {rows : List (List Int)} {σ : St} {H : Hp} {Q : VK} (hv : σ[i]? = some (some (.ref a))) (hL : LL H a rows) (few : rows.length ≤ 200)
    (q : ∀ D H' (vrows : List (List Int)), Same H H' → LL H' D vrows → vrows.length = rows.length → Q (.ref D) H') : tLC (iList K (tVar i)) 1 [] (gName 0) (tOp rRep (tLst (tCons (tC (.int 0)) tNil)) (tC (.int 110))) σ H Q := by
  obtain ⟨as, h1, h2⟩ := hL
  have hlen : as.length = rows.length := h2.length
  refine ⟨_, hv, a, rfl, ⟨_, SqL.of h1⟩, ?_⟩
  refine lcw rows.length (fun D i ys H' => Same H H' ∧ H D = none ∧ H' D = some (.lst ys) ∧ ∃ bs : List Addr, ys = bs.map V.ref ∧ (∀ b ∈ bs, b ≠ D) ∧ bs.length = i ∧ ∀ b ∈ bs, RowAt H' b (List.replicate 110 0)) (fun D hD => ⟨same_upd hD, hD, upd_same, [], rfl, fun _ h => (nomatch h), rfl, fun _ h => (nomatch h)⟩) (fun D i ys H' hi hP => ?_) (fun D i ys H' hi hP x H2 hy => ?_) (fun D ys H' hP => ?_)
  · obtain ⟨same, hD, hD', bs, rfl, hnb, hbl, hb⟩ := hP
    exact ⟨hD', by rw [List.length_map]; omega, fun hlt => ⟨_, .ref (as[i]'(by omega)), SqL.of (same _ _ h1), by simp [hlen, hlt]⟩, fun e => ⟨_, SqL.of (same _ _ h1), by rw [List.length_map]; omega⟩⟩
  · obtain ⟨same, hD, hD', bs, rfl, hnb, hbl, hb⟩ := hP
    obtain ⟨rfl, hv⟩ := hy
    refine ⟨(Held.refl _).set rfl, (by show 1 ≤ sizeLine; decide), fun l0 hl0 => ?_⟩
    have s1 := same_upd (o := .lst [.int 0]) hl0
    refine ⟨l0, 110, _, rfl, rfl, upd_same, by decide, by decide, (by show 1 * 110 ≤ sizeLine; decide), fun l hl => ?_⟩
    have s2 := s1.trans (same_upd (o := .lst (List.replicate (110 : Int).toNat [V.int 0]).flatten) hl)
    have nD : D ≠ l := ne_of_none (s1 _ _ hD') hl
    refine ⟨s2 _ _ hD', fun b o e => ?_, hD, upd_same, bs ++ [l], by simp, fun b hb' => ?_, by simp [hbl], fun b hb' => ?_⟩
    · rw [upd_ne (ne_of_none e hD)]; exact s2 _ _ (same b o e)
    · rcases List.mem_append.mp hb' with hb' | hb'
      · exact hnb b hb'
      · rw [List.mem_singleton.mp hb']; exact Ne.symm nD
    · rcases List.mem_append.mp hb' with hb' | hb'
      · show upd _ D _ b = _
        rw [upd_ne (hnb b hb')]; exact s2 _ _ (hb b hb')
      · rw [List.mem_singleton.mp hb']
        show upd _ D _ l = _
        rw [upd_ne (Ne.symm nD), upd_same, rep_flat]
        unfold iV
        rw [List.map_replicate]; rfl
  · obtain ⟨same, hD, hD', bs, rfl, hnb, hbl, hb⟩ := hP
    refine q D H' (bs.map fun _ => List.replicate 110 0) same ⟨bs, hD', ?_⟩ (by rw [List.length_map]; exact hbl)
    clear hD' hnb hbl
    induction bs with
    | nil => exact .nil
    | cons b bs ih => exact .cons (hb b List.mem_cons_self) (ih fun c hc => hb c (List.mem_cons_of_mem _ hc))
end L2

set_option Elab.async false
set_option linter.all false
set_option maxRecDepth 100000
set_option maxHeartbeats 4000000
namespace My
open PySem L2
def top (i : Nat) : Stmt := PySem.Challenge.pw_warebids_k08_refused.main.body.getD i (.Pass ⟨0, 0, 0, 0⟩)
abbrev sRefuseRow : Stmt := top 5
abbrev sRefuse : Stmt := top 6
abbrev sRanked : Stmt := top 7
abbrev sDealt : Stmt := top 8
abbrev sFirstLeft : Stmt := top 9
abbrev sWorth : Stmt := top 10
abbrev sReplaced : Stmt := top 12
abbrev sLostByOthers : Stmt := top 13
abbrev sPaid : Stmt := top 14
abbrev sTakenIn : Stmt := top 15
abbrev sGains : Stmt := top 16
abbrev sLawWhole : Stmt := top 18
abbrev sLawAt : Stmt := top 19
abbrev sLawDrawn : Stmt := top 20
abbrev sLawCopies : Stmt := top 21
abbrev sLawKept : Stmt := top 22
abbrev sLawSaid : Stmt := top 23
abbrev sLawMost : Stmt := top 24
abbrev sLawRoom : Stmt := top 25
abbrev sLawBadRow : Stmt := top 26
abbrev sLawBaseTells : Stmt := top 27
abbrev sLawAny : Stmt := top 28
abbrev sLawSo : Stmt := top 29
abbrev sLawDealtBy : Stmt := top 30
abbrev sLaw : Stmt := top 31
section
variable {P : Program} {w : World} {K : PySem.W.Frag} {mg : Str → Option Value} {base : Heap} {f g g1 g2 g3 g4 c : Addr} {fd gd gd1 gd2 gd3 gd4 : FuncData} {T : Tab}
theorem scRefuseRow : FnScope ["row", "place", "bid"] ["row"] (defScope sRefuseRow) := ⟨rfl, rfl, rfl, by decide +kernel, rfl, by decide +kernel, by decide +kernel⟩
theorem ok_refuse_row (F : Fun K "refuse_row" "refuse_row" sRefuseRow f fd) (me : mg "enumerate" = none) : FnOk P w K mg base CX0 1 f fd ["row"] spRefuseRow := by
  refine F.ok (k := 0) scRefuseRow (fun vs H Q E h => ?_) (fun cdv A outer s H vs Q E hr h => ?_)
  · obtain ⟨p, r, rfl, _⟩ := h
    rfl
  obtain ⟨p, r, rfl, hp, hz, hnn, hfall, q⟩ := h
  refine ⟨_, pss_one (ps_for PassesOwn.never rfl (pi_enum rfl me (pa_cons (pv 0) pa_nil)) (pg_tup rfl (pgs_cons (pg_name (i := 1) scRefuseRow.nd rfl (Or.inl rfl)) (pgs_cons (pg_name (i := 2) scRefuseRow.nd rfl (Or.inl rfl)) pgs_nil)))
    (pss_cons (ps_if (pt_cmpR op_lt (pv 2) pe_int (nomark _)) pss_never pss_nil)
      (pss_one (ps_if (pw_and (pt_cmpR op_gt (pv 1) pe_int (nomark _)) (pw_and1 (pt_cmpR op_gt (pv 2) (pe_ix ix_list (pv 0) (pe_op op_sub (pv 1) pe_int) (fun _ _ => rfl)) (nomark _)))).pt pss_never pss_nil)))), ?_⟩
  refine ⟨_, rfl, p, _, rfl, SqL.of hp, ?_⟩
  refine forw r.length (fun i σ H' => Same H H' ∧ ∃ x y, σ = [some (.ref p), x, y]) ⟨Same.refl H, _, _, rfl⟩ (fun i σ H' hi hP => ?_) (fun i σ H' hi hP x H2 hy => ?_) (fun σ H' hP => q H' hP.1)
  · refine ⟨fun hlt => ⟨_, .int r[i], SqL.of (hP.1 _ _ hp), by simp [hlt]⟩, fun e => ⟨_, SqL.of (hP.1 _ _ hp), by rw [List.length_map]; omega⟩⟩
  · obtain ⟨same, x0, y0, rfl⟩ := hP
    obtain ⟨t, v, ht, rfl, rfl, hv⟩ := hy
    have hv' := hv _ (SqL.of (same _ _ hp))
    rw [List.getElem?_map, List.getElem?_eq_getElem hi] at hv'
    have ev : v = .int r[i] := (Option.some.inj hv').symm
    subst ev
    have same2 : Same H (upd H' t (.tup [.int (i : Nat), .int r[i]])) := same.trans (same_upd ht)
    refine ⟨t, _, rfl, SqT.of upd_same, rfl, _, _, rfl, _, _, rfl, rfl, ?_⟩
    refine ⟨_, rfl, _, _, rfl, rfl, _, rfl, ?_⟩
    have nneg : ¬ r[i] < 0 := by have := hnn r[i] (List.getElem_mem hi); omega
    refine tF (dF nneg) ?_
    refine ⟨_, rfl, _, _, rfl, rfl, _, rfl, ?_⟩
    by_cases h0 : (0 : Int) < (i : Int)
    · refine tT (dT h0) ?_
      have hi1 : i - 1 < r.length := by omega
      have hat : atI (iV r) ((i : Int) - 1) = some (.int r[i - 1]) := by
        have e : ((i : Int) - 1) = ((i - 1 : Nat) : Int) := by omega
        rw [e]; exact atI_nat (by rw [List.getElem?_map, List.getElem?_eq_getElem hi1]; rfl)
      refine ⟨_, rfl, _, rfl, _, rfl, _, _, rfl, rfl, p, _, _, _, rfl, rfl, SqL.of (same2 _ _ hp), hat, _, _, rfl, rfl, _, rfl, ?_⟩
      have hle : ¬ (r[i - 1] < r[i]) := by
        have := (List.pairwise_iff_getElem.mp hfall) (i - 1) i hi1 hi (by omega)
        simp only [WB.geB, decide_eq_true_eq] at this; omega
      exact tF (dF hle) ⟨same2, _, _, rfl⟩
    · exact tF (dF h0) (tF rfl ⟨same2, _, _, rfl⟩)

theorem scRefuse : FnScope ["bids", "wares", "row"] ["bids", "wares"] (defScope sRefuse) := ⟨rfl, rfl, rfl, by decide +kernel, rfl, by decide +kernel, by decide +kernel⟩
theorem ok_refuse (F : Fun K "refuse" "refuse" sRefuse f fd) (G : FnOk P w K mg base CX0 1 g gd ["row"] spRefuseRow) (bG : Binds K gd ["row"] []) (kG : PySem.W.keepIn K (.ref g) = true) (mG : mg "refuse_row" = some (.ref g)) :
    FnOk P w K mg base CX0 2 f fd ["bids", "wares"] spRefuse := by
  refine F.ok (k := 1) scRefuse (fun vs H Q E h => ?_) (fun cdv A outer s H vs Q E hr h => ?_)
  · obtain ⟨a, wn, rows, rfl, _⟩ := h
    rfl
  obtain ⟨a, wn, rows, rfl, hL, hz, hgood, hw, q⟩ := h
  refine ⟨_, pss_cons (ps_for PassesOwn.never rfl (pi_list (pv 0)) (pg_name (i := 2) scRefuse.nd rfl (Or.inl rfl)) (pss_one (ps_expr (pe_call G hr rfl mG kG bG .nil pass0 (pa_cons (pv 2) pa_nil)))))
    (pss_one (ps_if (pt_cmpR op_lt (pv 1) pe_int (nomark _)) pss_never pss_nil)), ?_⟩
  obtain ⟨as, h1, h2⟩ := hL
  have hlen : as.length = rows.length := h2.length
  refine ⟨_, rfl, a, rfl, ⟨_, SqL.of h1⟩, ?_⟩
  refine for_list (xs := as.map V.ref) (fun i σ H' => Same H H' ∧ ∃ x, σ = [some (.ref a), some (.int wn), x]) ⟨Same.refl H, _, rfl⟩ (fun i σ H' hi hP => SqL.of (hP.1 _ _ h1)) (fun i x σ H' hx hP => ?_) (fun σ H' hP => ?_)
  · obtain ⟨same, x0, rfl⟩ := hP
    rw [List.getElem?_map] at hx
    cases hq : as[i]? with
    | none => rw [hq] at hx; cases hx
    | some p =>
      rw [hq] at hx
      have ex : x = .ref p := (Option.some.inj hx).symm
      subst ex
      obtain ⟨r, hr1, hr2⟩ := paired_get' h2 hq
      have hm : r ∈ rows := List.mem_of_getElem? hr1
      refine ⟨_, rfl, p, r, rfl, same _ _ hr2, by have := hz.row hm; omega, hgood.nn r hm, hgood.fall r hm, fun H2 s2 => ⟨same.trans s2, _, rfl⟩⟩
  · obtain ⟨same, x0, rfl⟩ := hP
    exact ⟨_, rfl, _, _, rfl, rfl, _, rfl, tF (dF (by omega)) (q H' same)⟩

theorem scRanked : FnScope ["bids", "offers", "bidder", "row", "bid"] ["bids"] (defScope sRanked) := ⟨rfl, rfl, rfl, by decide +kernel, rfl, by decide +kernel, by decide +kernel⟩
def lamBody : Expr := match (defBody sRanked).getD 2 (.Pass ⟨0, 0, 0, 0⟩) with
  | .Return (some (.Call _ _ [⟨_, .Lambda _ b _ _, _⟩] _)) _ => b
  | _ => .Name "x" ⟨0, 0, 0, 0⟩
def lamPos : Pos := match (defBody sRanked).getD 2 (.Pass ⟨0, 0, 0, 0⟩) with
  | .Return (some (.Call _ _ [⟨_, .Lambda _ _ _ p, _⟩] _)) _ => p
  | _ => ⟨0, 0, 0, 0⟩
def lamScope : Scope := match (defBody sRanked).getD 2 (.Pass ⟨0, 0, 0, 0⟩) with
  | .Return (some (.Call _ _ [⟨_, .Lambda _ _ sc _, _⟩] _)) _ => sc
  | _ => { kind := .function, names := [], isGenerator := false, isCoroutine := false }
def tabOf (Pt : Addr) : Tab := ⟨Pt, lamPos, "ranked.<locals>.<lambda>"⟩
theorem scLam : FnScope ["offer"] ["offer"] lamScope := ⟨rfl, rfl, rfl, by decide +kernel, rfl, by decide +kernel, by decide +kernel⟩
theorem offers_snoc (rows : List (List Int)) (i : Nat) (r : List Int) (h : rows[i]? = some r) : ∀ k, WB.offersFrom k (rows.take (i + 1)) = WB.offersFrom k (rows.take i) ++ r.map (fun b => (b, k + i)) := by
  induction rows generalizing i with
  | nil => simp at h
  | cons q rows ih =>
    intro k
    cases i with
    | zero =>
      simp at h; subst h
      simp [WB.offersFrom]
    | succ i =>
      have := ih i (by simpa using h) (k + 1)
      simp only [List.take_succ_cons, WB.offersFrom, this, List.append_assoc]
      congr 3
      funext b
      rw [show k + 1 + i = k + (i + 1) by omega]
theorem ok_ranked {Pt : Addr} {oc : Value} {od : Option Addr} {kV doc pm ct : Value} {an : Option Addr} {osl : Array (Option Value)}
    (lk : K.lookup f = some ⟨oc, od, .func (PySem.W.fnOf "ranked" "ranked" (defArgs sRanked) (defBody sRanked) (defScope sRanked) .none kV doc pm an (.ref c) ct), osl⟩) (hcd : PySem.W.codeIn K (.ref c) "ranked" = true)
    (C : PySem.W.CodeHd base c Pt) (hB : base.BuiltinsAt mg Pt) (me : mg "enumerate" = none) (ms : mg "sorted" = none) :
    FnOk P w K mg base CX0 5 f (PySem.W.fnOf "ranked" "ranked" (defArgs sRanked) (defBody sRanked) (defScope sRanked) .none kV doc pm an (.ref c) ct) ["bids"] (spRanked (tabOf Pt)) := by
  refine fn_of (k := 4) lk hcd scRanked (fun vs H Q E h => ?_) (fun A outer s H vs Q E hr h => ?_)
  · obtain ⟨a, rows, rfl, _⟩ := h
    rfl
  obtain ⟨a, rows, rfl, hL, hz, tok, q⟩ := h
  have lam : LamBody (cxOf CX0 P w K mg base ["bids", "offers", "bidder", "row", "bid"] "ranked" (defScope sRanked) f (.ref c) A outer s H E).nox (tabOf Pt) ["offer"] lamScope lamBody kneg := by
    intro f1 c1 A1 o1 s1 H1 t pr ht
    refine ⟨_, pe_tup (pa_cons (pe_un un_neg (pe_ix ix_tup (pv 0) pe_int (fun _ _ => rfl))) (pa_cons (pe_ix ix_tup (pv 0) pe_int (fun _ _ => rfl)) pa_nil)), fun Q hq => ?_⟩
    refine ⟨_, rfl, t, _, 0, _, rfl, rfl, SqT.of ht, rfl, _, rfl, _, rfl, t, _, 1, _, rfl, rfl, SqT.of ht, rfl, (by show 2 ≤ sizeLine; decide), fun p hp => ?_⟩
    exact hq p _ (same_upd hp) hp upd_same
  have tm : ∃ t, PSs (cxOf CX0 P w K mg base ["bids", "offers", "bidder", "row", "bid"] "ranked" (defScope sRanked) f (.ref c) A outer s H E).nox (defBody sRanked) t ∧ t { nx := fun _ H' => Q .non H', rt := Q } (start ["bids", "offers", "bidder", "row", "bid"] [.ref a]) H := by
    refine ⟨_, pss_cons (ps_set (i := 1) scRanked.nd rfl (Or.inl rfl) (pe_lst pa_nil))
      (pss_cons (ps_for PassesOwn.never rfl (pi_enum rfl me (pa_cons (pv 0) pa_nil)) (pg_tup rfl (pgs_cons (pg_name (i := 2) scRanked.nd rfl (Or.inl rfl)) (pgs_cons (pg_name (i := 3) scRanked.nd rfl (Or.inl rfl)) pgs_nil)))
        (pss_one (ps_for PassesOwn.never rfl (pi_list (pv 3)) (pg_name (i := 4) scRanked.nd rfl (Or.inl rfl))
          (pss_one (ps_expr (pe_bm PySem.F.plainAttrs_list PySem.F.slot_list_append rfl mt_append (pv 1) (pa_cons (pe_tup (pa_cons (pv 4) (pa_cons (pv 2) pa_nil))) pa_nil)))))))
      (pss_one (ps_ret (pe_sortedLam (k := 1) (T := tabOf Pt) (c := c) (kf := kneg) rfl ms (pa_cons (pv 1) pa_nil) hr rfl C hB rfl rfl scLam rfl (by decide +kernel) rfl (fun _ _ _ _ => rfl) lam)))), ?_⟩
    refine ⟨(by show 0 ≤ sizeLine; decide), fun o ho => ?_⟩
    obtain ⟨as, h1, h2⟩ := hL
    have hlen : as.length = rows.length := h2.length
    have same0 : Same H (upd H o (.lst [])) := same_upd ho
    refine ⟨_, rfl, a, _, rfl, SqL.of (same0 _ _ h1), ?_⟩
    refine forw rows.length (fun i σ H' => Same H H' ∧ ∃ zs x y z, σ = [some (.ref a), some (.ref o), x, y, z] ∧ H' o = some (.lst (zRefs zs)) ∧ ZsOk H' zs ∧ zs.map (·.2) = ofs (WB.offersFrom 0 (rows.take i)))
      ⟨same0, [], _, _, _, rfl, upd_same, fun _ hz' => (nomatch hz'), rfl⟩ (fun i σ H' hi hP => ?_) (fun i σ H' hi hP x H2 hy => ?_) (fun σ H' hP => ?_)
    · have hs := SqL.of (K := K) (hP.1 _ _ h1)
      exact ⟨fun hlt => ⟨_, .ref (as[i]'(by omega)), hs, by simp [hlen, hlt]⟩, fun e => ⟨_, hs, by rw [List.length_map]; omega⟩⟩
    · obtain ⟨same, zs, x0, y0, z0, rfl, hoo, hzs, hmap⟩ := hP
      obtain ⟨t, v, ht, rfl, rfl, hv⟩ := hy
      have hi' : i < as.length := by omega
      have hv' := hv _ (SqL.of (same _ _ h1))
      rw [List.getElem?_map, List.getElem?_eq_getElem hi'] at hv'
      have ev : v = .ref as[i] := (Option.some.inj hv').symm
      subst ev
      obtain ⟨r, hr1, hr2⟩ := paired_get' h2 (List.getElem?_eq_getElem hi')
      have same2 : Same H (upd H' t (.tup [.int (i : Nat), .ref as[i]])) := same.trans (same_upd ht)
      refine ⟨t, _, rfl, SqT.of upd_same, rfl, _, _, rfl, _, _, rfl, rfl, ?_⟩
      refine ⟨_, rfl, as[i], rfl, ⟨_, SqL.of (same2 _ _ hr2)⟩, ?_⟩
      refine for_list (xs := iV r) (fun j σ H' => Same H H' ∧ ∃ zs z, σ = [some (.ref a), some (.ref o), some (.int (i : Nat)), some (.ref as[i]), z] ∧ H' o = some (.lst (zRefs zs)) ∧ ZsOk H' zs ∧
        zs.map (·.2) = ofs (WB.offersFrom 0 (rows.take i) ++ (r.take j).map fun b => (b, i))) ⟨same2, zs, _, rfl, ?_, fun z hz' => ?_, ?_⟩ (fun j σ H' hj hP => SqL.of (hP.1 _ _ hr2)) (fun j x σ H' hx hP => ?_) (fun σ H' hP => ?_)
      · rw [upd_ne (ne_of_none hoo ht)]; exact hoo
      · rw [upd_ne (ne_of_none (hzs z hz') ht)]; exact hzs z hz'
      · rw [hmap]; simp
      · obtain ⟨same3, zs3, z3, rfl, ho3, hzs3, hmap3⟩ := hP
        rw [List.getElem?_map] at hx
        cases hq : r[j]? with
        | none => rw [hq] at hx; cases hx
        | some b =>
          rw [hq] at hx
          have ex : x = .int b := (Option.some.inj hx).symm
          subst ex
          have hjl : j < r.length := (List.getElem?_eq_some_iff.mp hq).1
          have hlz : zs3.length ≤ 1000 := by
            have e := congrArg List.length hmap3
            simp only [List.length_map, List.length_append, List.length_take] at e
            have e2 : (WB.offersFrom 0 (rows.take i)).length ≤ (rows.map List.length).sum := by
              rw [WB.offersFrom_len]
              have := List.sum_take_map_le rows i
              exact this
            have e3 := hz.all
            have e4 := hz.row (List.mem_of_getElem? hr1)
            omega
          refine ⟨_, rfl, .inl ⟨rfl, _, SqL.of ho3⟩, _, rfl, _, rfl, (by show 2 ≤ sizeLine; decide), fun tt htt => ?_⟩
          have ho4 : (upd H' tt (.tup [.int b, .int (i : Nat)])) o = some (.lst (zRefs zs3)) := by rw [upd_ne (ne_of_none ho3 htt)]; exact ho3
          refine ⟨o, _, .ref tt, rfl, rfl, ho4, by rw [len_zr]; exact small1000 hlz, ?_⟩
          have hso : Same H (upd (upd H' tt (.tup [.int b, .int (i : Nat)])) o (.lst (zRefs zs3 ++ [.ref tt]))) := fun c u hc => by
            rw [upd_ne (ne_of_none hc ho)]; exact (same3.trans (same_upd htt)) c u hc
          refine ⟨hso, zs3 ++ [(tt, (b, (i : Int)))], _, rfl, ?_, fun z hz' => ?_, ?_⟩
          · rw [upd_same]; simp [zRefs]
          · rcases List.mem_append.mp hz' with hz' | hz'
            · have e0 := hzs3 z hz'
              rw [upd_ne (ne_of e0 ho3 (by intro q; cases q)), upd_ne (ne_of_none e0 htt)]; exact e0
            · have e0 : z = (tt, (b, (i : Int))) := by simpa using hz'
              subst e0
              rw [upd_ne (Ne.symm (ne_of_none ho3 htt)), upd_same]
          · rw [List.map_append, hmap3, List.take_add_one, hq]
            simp [ofs]
      · obtain ⟨same3, zs3, z3, rfl, ho3, hzs3, hmap3⟩ := hP
        refine ⟨same3, zs3, _, _, _, rfl, ho3, hzs3, ?_⟩
        rw [hmap3, offers_snoc rows i r hr1 0]
        simp
    · obtain ⟨same, zs, x0, y0, z0, rfl, hoo, hzs, hmap⟩ := hP
      rw [List.take_length] at hmap
      have tok1 := (Same.kp same (T := tabOf Pt)).tab tok
      have hl64 : zs.length < 64 := by
        have e := congrArg List.length hmap
        simp only [List.length_map] at e
        rw [e, WB.offersFrom_len]; exact hz.all
      refine ⟨_, rfl, o, zs, rfl, SqL.of hoo, hzs, hl64, tok1, fun r H2 zs' kp hr0 hr2 hp hs => ?_⟩
      exact q r H2 zs' ((Same.kp same).trans kp) (same.free hr0) hr2 (fun z hz' => kp.tup tok1 (hzs z (hp.mem_iff.mp hz'))) (ranked_of hmap hp hs)
  obtain ⟨t, h1, h2⟩ := tm
  exact ⟨t, h1.nox, h2⟩

theorem scDealt : FnScope ["bids", "wares", "counts", "offer"] ["bids", "wares"] (defScope sDealt) := ⟨rfl, rfl, rfl, by decide +kernel, rfl, by decide +kernel, by decide +kernel⟩
theorem ok_dealt (F : Fun K "dealt" "dealt" sDealt f fd) (G : FnOk P w K mg base CX0 2 g gd ["bids", "wares"] spRefuse) (bG : Binds K gd ["bids", "wares"] []) (kG : PySem.W.keepIn K (.ref g) = true) (mG : mg "refuse" = some (.ref g))
    (G1 : FnOk P w K mg base CX0 5 g1 gd1 ["bids"] (spRanked T)) (bG1 : Binds K gd1 ["bids"] []) (kG1 : PySem.W.keepIn K (.ref g1) = true) (mG1 : mg "ranked" = some (.ref g1)) (ml : mg "len" = none) :
    FnOk P w K mg base CX0 6 f fd ["bids", "wares"] (spDealt T) := by
  refine F.ok (k := 5) scDealt (fun vs H Q E h => ?_) (fun cdv A outer s H vs Q E hr h => ?_)
  · obtain ⟨a, wn, rows, rfl, _⟩ := h
    rfl
  obtain ⟨a, wn, rows, rfl, hL, hz, hgood, hw, tok, q⟩ := h
  refine ⟨_, pss_cons (ps_expr (pe_call (G.mono (by omega)) hr rfl mG kG bG .nil pass0 (pa_cons (pv 0) (pa_cons (pv 1) pa_nil))))
    (pss_cons (ps_set (i := 2) scDealt.nd rfl (Or.inl rfl) (pe_op op_rep (pe_lst (pa_cons pe_int pa_nil)) (pe_callB call_len_seq rfl ml PySem.boot_len (pa_cons (pv 0) pa_nil))))
    (pss_cons (ps_for PassesOwn.never rfl (pi_list (pe_slice sl_list (pe_call G1 hr rfl mG1 kG1 bG1 .nil pass0 (pa_cons (pv 0) pa_nil)) po_none (po_some (pv 1)))) (pg_name (i := 3) scDealt.nd rfl (Or.inl rfl))
      (pss_one (ps_augS (pv 2) (pe_ix ix_tup (pv 3) pe_int (fun _ _ => rfl)) get_list pe_int ip_add set_list)))
    (pss_one (ps_ret (pv 2))))), ?_⟩
  refine ⟨_, rfl, _, rfl, a, wn, rows, rfl, hL, hz, hgood, hw, fun H1 s1 => ?_⟩
  have tok1 := (Same.kp s1).tab tok
  have hL1 := hL.same s1
  obtain ⟨as, h1, h2⟩ := id hL1
  have hlen : as.length = rows.length := h2.length
  refine ⟨(by show 1 ≤ sizeLine; decide), fun l0 hl0 => ?_⟩
  have s2 : Same H1 (upd H1 l0 (.lst [.int 0])) := same_upd hl0
  refine ⟨_, rfl, a, _, rfl, .inl (SqL.of (s2 _ _ h1)), ?_⟩
  have hfew := hz.few
  refine ⟨l0, _, _, rfl, rfl, upd_same, by omega, by rw [List.length_map, hlen]; omega, ?_, fun cN hcN => ?_⟩
  · rw [List.length_map, hlen]
    simp only [Int.toNat_natCast, List.length_singleton, Nat.one_mul]
    exact Nat.le_of_lt (small1000 (by omega))
  have s3 := s2.trans (same_upd (o := .lst (List.replicate ((((as.map V.ref).length : Nat) : Int)).toNat [V.int 0]).flatten) hcN)
  have s13 := s1.trans s3
  refine ⟨_, rfl, a, rows, rfl, hL1.same s3, hz, (Same.kp s13).tab tok, fun r H4 zs kp hr0 hr2 hzs hmap => ?_⟩
  refine ⟨_, rfl, _, rfl, r, _, rfl, SqL.of hr2, fun sl hsl => ?_⟩
  have hcN4 : H4 cN = some (.lst (nV (cntL rows.length []))) := by
    refine kp.lst ((Same.kp s13).tab tok) ?_
    rw [upd_same, List.length_map, hlen, cntL_nil, nV_rep, Int.toNat_natCast, rep_flat]
  rw [cut_take hw, zr_take] at *
  have hmapT : (zs.take wn.toNat).map (·.2) = ofs ((WB.ranked rows).take wn.toNat) := by rw [List.map_take, hmap]; simp [ofs, List.map_take]
  have hrl : ((WB.ranked rows).take wn.toNat).length ≤ 64 := by
    have := WB.ranked_len rows
    rw [List.length_take, this]
    have := hz.all
    omega
  have hcf : H cN = none := s1.free (s2.free hcN)
  have kp4 : Kp T H H4 := (Same.kp s13).trans kp
  have tok4 := kp4.tab tok
  have n4 : cN ≠ T.P := Tab.ne tok4 hcN4
  refine ⟨sl, rfl, ⟨_, SqL.of upd_same⟩, ?_⟩
  refine for_list (xs := zRefs (zs.take wn.toNat)) (fun i σ H' => Kp T H H' ∧ ∃ x, σ = [some (.ref a), some (.int wn), some (.ref cN), x] ∧ H' cN = some (.lst (nV (cntL rows.length (((WB.ranked rows).take wn.toNat).take i)))) ∧ H' sl = some (.lst (zRefs (zs.take wn.toNat))) ∧ ZsOk H' (zs.take wn.toNat))
    ⟨kp4.trans (Same.kp (same_upd hsl)), _, rfl, ?_, upd_same, fun z hz' => ?_⟩ (fun i σ H' hi hP => SqL.of hP.2.choose_spec.2.2.1) (fun i x σ H' hx hP => ?_) (fun σ H' hP => ?_)
  · rw [upd_ne (ne_of_none hcN4 hsl)]; exact hcN4
  · have e0 := hzs z (List.mem_of_mem_take hz')
    rw [upd_ne (ne_of_none e0 hsl)]; exact e0
  · obtain ⟨kp', x0, rfl, hc', hsl', hzs'⟩ := hP
    unfold zRefs at hx
    rw [List.getElem?_map] at hx
    cases hq : (zs.take wn.toNat)[i]? with
    | none => rw [hq] at hx; cases hx
    | some z =>
      rw [hq] at hx
      have ex : x = .ref z.1 := (Option.some.inj hx).symm
      subst ex
      obtain ⟨p, hp1, hp2⟩ := ofs_get hmapT hq
      have hpn : p.2 < rows.length := WB.ranked_lt rows p (List.mem_of_mem_take (List.mem_of_getElem? hp1))
      have hzt : H' z.1 = some (.tup [.int p.1, .int (p.2 : Int)]) := by
        have e0 := hzs' z (List.mem_of_getElem? hq)
        rw [hp2] at e0; exact e0
      have hget : (nV (cntL rows.length (((WB.ranked rows).take wn.toNat).take i)))[p.2]? = some (.int (((((WB.ranked rows).take wn.toNat).take i).filter (fun y => y.2 == p.2)).length : Nat)) := by
        unfold nV; rw [List.getElem?_map, cntL_get hpn]; rfl
      have hnl : (nV (cntL rows.length (((WB.ranked rows).take wn.toNat).take i))).length = rows.length := by simp [nV, cntL]
      refine ⟨_, rfl, _, rfl, z.1, _, 1, _, rfl, rfl, SqT.of hzt, rfl, cN, _, p.2, _, rfl, rfl, SqL.of hc', hget, _, _, rfl, rfl, cN, _, _, p.2, rfl, rfl, hc', ?_, ?_⟩
      · rw [hnl]; unfold ixN; rw [if_pos (by omega), if_pos (by omega)]; simp
      · have tk := kp'.tab tok
        have nP : cN ≠ T.P := Tab.ne tk hc'
        refine ⟨⟨fun b o hb e => ?_, fun _ => ?_⟩, _, rfl, ?_, ?_, fun y hy => ?_⟩
        · rw [upd_ne (ne_of_none e hcf)]; exact kp'.same b o hb e
        · exact Tab.upd tk hc' nP
        · rw [upd_same, List.take_add_one, hp1]
          show _ = some (HO.lst (nV (cntL rows.length (_ ++ [p]))))
          rw [cntL_snoc hpn, nV_set]
          simp
        · rw [upd_ne (ne_of hsl' hc' ?_)]
          · exact hsl'
          · intro q
            have := HO.lst.inj q
            -- the slice holds a pair's address, the counts an int
            have h0 : (zRefs (zs.take wn.toNat))[i]? = some (.ref z.1) := by unfold zRefs; rw [List.getElem?_map, hq]; rfl
            rw [this] at h0
            unfold nV at h0
            rw [List.getElem?_map] at h0
            cases y : (cntL rows.length (((WB.ranked rows).take wn.toNat).take i))[i]? with
            | none => rw [y] at h0; cases h0
            | some m => rw [y] at h0; cases h0
        · have e0 := hzs' y hy
          rw [upd_ne (ne_of e0 hc' (by intro q; cases q))]; exact e0
  · obtain ⟨kp', x0, rfl, hc', hsl', hzs'⟩ := hP
    refine ⟨_, rfl, q cN H' kp' hcf ?_⟩
    have e : (zRefs (zs.take wn.toNat)).length = ((WB.ranked rows).take wn.toNat).length := by
      have := congrArg List.length hmapT
      rw [len_zr]; simpa using this
    rw [e, List.take_length] at hc'
    exact hc'

theorem scFirst : FnScope ["bids", "wares", "left"] ["bids", "wares"] (defScope sFirstLeft) := ⟨rfl, rfl, rfl, by decide +kernel, rfl, by decide +kernel, by decide +kernel⟩
theorem ok_first (F : Fun K "first_left" "first_left" sFirstLeft f fd) (G : FnOk P w K mg base CX0 2 g gd ["bids", "wares"] spRefuse) (bG : Binds K gd ["bids", "wares"] []) (kG : PySem.W.keepIn K (.ref g) = true) (mG : mg "refuse" = some (.ref g))
    (G1 : FnOk P w K mg base CX0 5 g1 gd1 ["bids"] (spRanked T)) (bG1 : Binds K gd1 ["bids"] []) (kG1 : PySem.W.keepIn K (.ref g1) = true) (mG1 : mg "ranked" = some (.ref g1)) (ml : mg "len" = none) :
    FnOk P w K mg base CX0 6 f fd ["bids", "wares"] (spFirst T) := by
  refine F.ok (k := 5) scFirst (fun vs H Q E h => ?_) (fun cdv A outer s H vs Q E hr h => ?_)
  · obtain ⟨a, wn, rows, rfl, _⟩ := h
    rfl
  obtain ⟨a, wn, rows, rfl, hL, hz, hgood, hw, tok, q⟩ := h
  refine ⟨_, pss_cons (ps_expr (pe_call (G.mono (by omega)) hr rfl mG kG bG .nil pass0 (pa_cons (pv 0) (pa_cons (pv 1) pa_nil))))
    (pss_cons (ps_set (i := 2) scFirst.nd rfl (Or.inl rfl) (pe_slice sl_list (pe_call G1 hr rfl mG1 kG1 bG1 .nil pass0 (pa_cons (pv 0) pa_nil)) (po_some (pv 1)) po_none))
    (pss_cons (ps_if (pt_cmpR op_eq (pe_callB call_len_seq rfl ml PySem.boot_len (pa_cons (pv 2) pa_nil)) pe_int (nomark _)) (pss_one (ps_ret pe_non)) pss_nil)
    (pss_one (ps_ret (pe_ix ix_tup (pe_ix ix_list (pv 2) pe_int (fun _ _ => rfl)) pe_int (fun _ _ => rfl)))))), ?_⟩
  refine ⟨_, rfl, _, rfl, a, wn, rows, rfl, hL, hz, hgood, hw, fun H1 s1 => ?_⟩
  have tok1 := (Same.kp s1).tab tok
  refine ⟨_, rfl, a, rows, rfl, hL.same s1, hz, tok1, fun r H4 zs kp hr0 hr2 hzs hmap => ?_⟩
  refine ⟨_, rfl, _, rfl, r, _, rfl, SqL.of hr2, fun sl hsl => ?_⟩
  rw [cut_drop hw, zr_drop]
  have kp4 : Kp T H (upd H4 sl (.lst (zRefs (zs.drop wn.toNat)))) := ((Same.kp s1).trans kp).trans (Same.kp (same_upd hsl))
  have hmapD : (zs.drop wn.toNat).map (·.2) = ofs ((WB.ranked rows).drop wn.toNat) := by rw [List.map_drop, hmap]; simp [ofs, List.map_drop]
  refine ⟨_, rfl, sl, _, rfl, .inl (SqL.of upd_same), rfl, _, rfl, ?_⟩
  rw [len_zr]
  cases hd : zs.drop wn.toNat with
  | nil =>
    refine tT rfl ?_
    have e : WB.firstLeft rows wn.toNat = none := by
      rw [hd] at hmapD
      have e2 : (WB.ranked rows).drop wn.toNat = [] := by
        have := congrArg List.length hmapD
        simp only [List.length_map, List.length_nil, List.map_nil] at this
        exact List.eq_nil_of_length_eq_zero this.symm
      unfold WB.firstLeft; rw [e2]; rfl
    have := q _ kp4
    rw [e, hd] at this
    exact this
  | cons z zr =>
    refine tF ?_ ?_
    · refine dF fun e => ?_
      have e2 := V.int.inj e
      simp only [List.length_cons] at e2
      omega
    · have hz1 : (zs.drop wn.toNat)[0]? = some z := by rw [hd]; rfl
      obtain ⟨p, hp1, hp2⟩ := ofs_get hmapD hz1
      have hzt : upd H4 sl (.lst (zRefs (z :: zr))) z.1 = some (.tup [.int p.1, .int (p.2 : Int)]) := by
        have e0 := hzs z (List.mem_of_mem_drop (List.mem_of_getElem? hz1))
        rw [hp2] at e0
        rw [upd_ne (ne_of_none e0 hsl)]; exact e0
      refine ⟨_, rfl, sl, _, 0, _, rfl, rfl, SqL.of upd_same, (show atI (zRefs (z :: zr)) ((0 : Nat) : Int) = some (.ref z.1) from atI_nat rfl), z.1, _, 0, _, rfl, rfl, SqT.of hzt, rfl, ?_⟩
      have e : WB.firstLeft rows wn.toNat = some p.1 := by
        unfold WB.firstLeft
        rw [List.head?_eq_getElem?, hp1]; rfl
      have := q _ kp4
      rw [e, hd] at this
      exact this

theorem scWhole : FnScope ["_law_found"] ["_law_found"] (defScope sLawWhole) := ⟨rfl, rfl, rfl, by decide +kernel, rfl, by decide +kernel, by decide +kernel⟩
theorem ok_whole (F : Fun K "_law_whole" "_law_whole" sLawWhole f fd) (mi : mg "isinstance" = none) (mint : mg "int" = none) (mbool : mg "bool" = none) : FnOk P w K mg base CX0 1 f fd ["_law_found"] spWhole := by
  refine F.ok (k := 0) scWhole (fun vs H Q E h => ?_) (fun cdv A outer s H vs Q E hr h => ?_)
  · obtain ⟨i, rfl, _⟩ := h
    rfl
  obtain ⟨i, rfl, q⟩ := h
  refine ⟨_, pss_one (ps_ret (pe_and (pe_callB call_isinst rfl mi PyProof.Rows.boot_isinstance (pa_cons (pv 0) (pa_cons (pe_bltn (v := .ty "int") rfl mint PyProof.Rows.boot_int rfl) pa_nil)))
    (pe_one (pe_not (pe_callB call_isinst rfl mi PyProof.Rows.boot_isinstance (pa_cons (pv 0) (pa_cons (pe_bltn (v := .ty "bool") rfl mbool PyProof.Rows.boot_bool rfl) pa_nil))))))), ?_⟩
  refine ⟨_, rfl, _, _, _, _, rfl, .int i, (rfl : PySem.W.kitOne K (.type "int") (.type "int") = some true), true, rfl, ?_⟩
  refine tT rfl ⟨_, rfl, _, _, _, _, rfl, .int i, (rfl : PySem.W.kitOne K (.type "int") (.type "bool") = some false), false, rfl, q⟩
theorem scAt : FnScope ["_law_script", "_law_k"] ["_law_script", "_law_k"] (defScope sLawAt) := ⟨rfl, rfl, rfl, by decide +kernel, rfl, by decide +kernel, by decide +kernel⟩
theorem ok_at (F : Fun K "_law_at" "_law_at" sLawAt f fd) (ml : mg "len" = none) : FnOk P w K mg base CX0 1 f fd ["_law_script", "_law_k"] (spAt K) := by
  refine F.ok (k := 0) scAt (fun vs H Q E h => ?_) (fun cdv A outer s H vs Q E hr h => ?_)
  · obtain ⟨a, ns, k, rfl, _⟩ := h
    rfl
  obtain ⟨a, ns, k, rfl, hS, h63, h0, q⟩ := h
  refine ⟨_, pss_cons (ps_if (pt_cmpR op_lt (pv 1) (pe_callB call_len_seq rfl ml PySem.boot_len (pa_cons (pv 0) pa_nil)) (nomark _)) (pss_one (ps_ret (pe_ix ix_list (pv 0) (pv 1) (fun _ _ => rfl)))) pss_nil) (pss_one (ps_ret pe_int)), ?_⟩
  refine ⟨_, rfl, _, rfl, a, _, rfl, .inl hS, _, _, rfl, rfl, _, rfl, ?_⟩
  have hl : (iV ns).length = ns.length := List.length_map _
  rw [hl]
  by_cases c : k < (ns.length : Int)
  · refine tT (dT c) ⟨_, rfl, _, rfl, a, _, k, .int (ns.getD k.toNat 0), rfl, rfl, hS, atI_getD h0 c, q⟩
  · refine tF (dF c) ?_
    have e : ns.getD k.toNat 0 = 0 := by
      rw [List.getD_eq_getElem?_getD, List.getElem?_eq_none (by omega)]; rfl
    rw [e] at q
    exact q
theorem scRoom : FnScope ["_law_script", "_law_few", "_law_bound"] ["_law_script", "_law_few", "_law_bound"] (defScope sLawRoom) := ⟨rfl, rfl, rfl, by decide +kernel, rfl, by decide +kernel, by decide +kernel⟩
theorem ok_room (F : Fun K "_law_room" "_law_room" sLawRoom f fd) (ml : mg "len" = none) : FnOk P w K mg base CX0 1 f fd ["_law_script", "_law_few", "_law_bound"] (spRoom K) := by
  refine F.ok (k := 0) scRoom (fun vs H Q E h => ?_) (fun cdv A outer s H vs Q E hr h => ?_)
  · obtain ⟨a, ns, k, b, rfl, _⟩ := h
    rfl
  obtain ⟨a, ns, k, b, rfl, hS, h63, q⟩ := h
  refine ⟨_, pss_cons (ps_if (pt_cmpR op_gt (pe_callB call_len_seq rfl ml PySem.boot_len (pa_cons (pv 0) pa_nil)) pe_int (nomark _)) (pss_one (ps_ret (pv 2))) pss_nil) (pss_one (ps_ret (pv 1))), ?_⟩
  refine ⟨_, rfl, a, _, rfl, .inl hS, _, _, rfl, rfl, _, rfl, tF (dF ?_) ⟨_, rfl, q⟩⟩
  have hl : (iV ns).length = ns.length := List.length_map _
  rw [hl]; omega

theorem scAny : FnScope ["_law_cell", "_law_size"] ["_law_cell"] (defScope sLawAny) := ⟨rfl, rfl, rfl, by decide +kernel, rfl, by decide +kernel, by decide +kernel⟩
theorem ok_any (F : Fun K "_law_any" "_law_any" sLawAny f fd) : FnOk P w K mg base CX0 1 f fd ["_law_cell"] spAny := by
  refine F.ok (k := 0) scAny (fun vs H Q E h => ?_) (fun cdv A outer s H vs Q E hr h => ?_)
  · obtain ⟨c, rfl, _⟩ := h
    rfl
  obtain ⟨c, rfl, q⟩ := h
  refine ⟨_, pss_cons (ps_set (i := 1) scAny.nd rfl (Or.inl rfl) (pe_op op_mod (pe_op op_fdiv (pv 0) pe_int) (pe_op op_pow pe_int pe_int)))
    (pss_one (ps_ret (pe_op op_mul (pv 1) (pe_ix ix_list (pe_lst (pa_cons pe_int (pa_cons (pe_un un_neg pe_int) pa_nil))) (pe_op op_mod (pv 0) pe_int) (fun _ _ => rfl))))), ?_⟩
  refine ⟨_, rfl, _, _, rfl, rfl, ⟨by decide, by decide⟩, _, _, rfl, rfl, ⟨by decide, by decide, by decide⟩, _, _, rfl, rfl, ?_, ?_⟩
  · show (0 : Int) < 10 ^ (59 : Int).toNat
    decide
  · refine ⟨_, rfl, _, rfl, (by show 2 ≤ sizeLine; decide), fun l hl => ?_⟩
    refine ⟨_, rfl, _, _, rfl, rfl, (by show (0 : Int) < 2; decide), ?_⟩
    obtain ⟨v, hv, hor⟩ := at2 (x := .int 1) (y := .int (-1)) (i := c % 2) (by omega) (by omega)
    rcases hor with e | e
    · subst e
      exact ⟨l, _, _, _, rfl, rfl, SqL.of upd_same, hv, _, _, rfl, rfl, .inr ⟨by decide, by decide⟩, q _ _ (same_upd hl)⟩
    · subst e
      exact ⟨l, _, _, _, rfl, rfl, SqL.of upd_same, hv, _, _, rfl, rfl, .inr ⟨by decide, by decide⟩, q _ _ (same_upd hl)⟩

theorem scCopies : FnScope ["_law_lists"] ["_law_lists"] (defScope sLawCopies) := ⟨rfl, rfl, rfl, by decide +kernel, rfl, by decide +kernel, by decide +kernel⟩
theorem ok_copies (F : Fun K "_law_copies" "_law_copies" sLawCopies f fd) (ml : mg "list" = none) : FnOk P w K mg base CX0 1 f fd ["_law_lists"] spCopies := by
  refine F.ok (k := 0) scCopies (fun vs H Q E h => ?_) (fun cdv A outer s H vs Q E hr h => ?_)
  · obtain ⟨a, rows, rfl, _⟩ := h
    rfl
  obtain ⟨a, rows, rfl, hL, h200, hr200, q⟩ := h
  refine ⟨_, pss_one (ps_ret (pe_lc (N' := ["_law_row"]) (fr := []) (te := tCB (rListOf K) (tCons (tVar 0) tNil)) rfl ⟨rfl, by decide +kernel, by decide +kernel, rfl, rfl⟩ (pi_list (pv 0))
    (fun cl C s₂ H₂ fp => pg_name (i := 0) (show (["_law_row"] : List Str).Nodup by decide +kernel) rfl (Or.inl rfl)) (fun cl C s₂ H₂ fp => pe_callTy call_list_of rfl ml PyProof.Rows.boot_list (pa_cons (pv 0) pa_nil)))), ?_⟩
  obtain ⟨as, h1, h2⟩ := hL
  have hlen : as.length = rows.length := h2.length
  refine ⟨_, rfl, a, rfl, ⟨_, SqL.of h1⟩, ?_⟩
  refine lcw rows.length (fun D i ys H' => Same H H' ∧ H D = none ∧ H' D = some (.lst ys) ∧ ∃ bs : List Addr, ys = bs.map V.ref ∧ Paired (RowAt H') bs (rows.take i)) (fun D hD => ⟨same_upd hD, hD, upd_same, [], rfl, .nil⟩) (fun D i ys H' hi hP => ?_) (fun D i ys H' hi hP x H2 hy => ?_) (fun D ys H' hP => ?_)
  · obtain ⟨same, hD, hD', bs, rfl, hb⟩ := hP
    have hl := hb.length
    rw [List.length_take] at hl
    refine ⟨hD', by rw [List.length_map]; omega, fun hlt => ⟨_, .ref (as[i]'(by omega)), SqL.of (same _ _ h1), by simp [hlen, hlt]⟩, fun e => ⟨_, SqL.of (same _ _ h1), by rw [List.length_map]; omega⟩⟩
  · obtain ⟨same, hD, hD', bs, rfl, hb⟩ := hP
    obtain ⟨rfl, hv⟩ := hy
    have hi' : i < as.length := by omega
    have hv' := hv _ (SqL.of (same _ _ h1))
    rw [List.getElem?_map, List.getElem?_eq_getElem hi'] at hv'
    have ev : x = .ref as[i] := (Option.some.inj hv').symm
    subst ev
    obtain ⟨r, hr1, hr2⟩ := paired_get' h2 (List.getElem?_eq_getElem hi')
    refine ⟨(Held.refl _).set rfl, _, rfl, as[i], _, rfl, .inl (SqL.of (same _ _ hr2)), fun l hl => ?_⟩
    have nD : D ≠ l := ne_of_none hD' hl
    refine ⟨by rw [upd_ne nD]; exact hD', ?_, hD, upd_same, bs ++ [l], by simp, ?_⟩
    · exact fun b o e => by rw [upd_ne (ne_of_none e hD)]; exact (same.trans (same_upd hl)) b o e
    · have keep : ∀ {b : Addr} {z : List Int}, RowAt H2 b z → b ≠ D → RowAt (upd (upd H2 l (.lst (iV r))) D (.lst (bs.map V.ref ++ [.ref l]))) b z := fun {b z} e hb => by
        unfold RowAt
        rw [upd_ne hb, upd_ne (ne_of_none e hl)]; exact e
      rw [List.take_add_one, hr1]
      refine Paired.snocP (Paired.mapP' hb fun b z hb' e => keep e ?_) ?_
      · -- the new list holds addresses, a row ints: an empty row is no trouble, D holds bs
        intro z'
        subst z'
        have e2 : H2 b = some (.lst (iV z)) := e
        rw [hD'] at e2
        have e3 := HO.lst.inj (Option.some.inj e2)
        cases bs with
        | nil => cases hb'
        | cons b0 br => cases z with
          | nil => simp [iV] at e3
          | cons z0 zr => simp [iV] at e3
      · unfold RowAt
        rw [upd_ne (Ne.symm nD), upd_same]
  · obtain ⟨same, hD, hD', bs, rfl, hb⟩ := hP
    rw [List.take_length] at hb
    exact q D H' same hD ⟨bs, hD', hb⟩

theorem scKept : FnScope ["_law_found", "_law_due", "_law_k", "_law_j"] ["_law_found", "_law_due"] (defScope sLawKept) := ⟨rfl, rfl, rfl, by decide +kernel, rfl, by decide +kernel, by decide +kernel⟩
theorem ok_kept (F : Fun K "_law_kept" "_law_kept" sLawKept f fd) (G : FnOk P w K mg base CX0 1 g gd ["_law_found"] spWhole) (bG : Binds K gd ["_law_found"] []) (kG : PySem.W.keepIn K (.ref g) = true) (mG : mg "_law_whole" = some (.ref g))
    (mi : mg "isinstance" = none) (mli : mg "list" = none) (ml : mg "len" = none) (mr : mg "range" = none) : FnOk P w K mg base CX0 2 f fd ["_law_found", "_law_due"] spKept := by
  refine F.ok (k := 1) scKept (fun vs H Q E h => ?_) (fun cdv A outer s H vs Q E hr h => ?_)
  · obtain ⟨a, b, rows, rfl, _⟩ := h
    rfl
  obtain ⟨a, b, rows, rfl, hA, hB, h200, hr200, q⟩ := h
  refine ⟨_, pss_cons (ps_if (PW.pt (pw_or (pt_not (pt_val (pe_callB call_isinst rfl mi PyProof.Rows.boot_isinstance (pa_cons (pv 0) (pa_cons (pe_bltn (v := .ty "list") rfl mli PyProof.Rows.boot_list rfl) pa_nil)))))
      (pw_or1 (pt_cmpR op_ne (pe_callB call_len_seq rfl ml PySem.boot_len (pa_cons (pv 0) pa_nil)) (pe_callB call_len_seq rfl ml PySem.boot_len (pa_cons (pv 1) pa_nil)) (nomark _))))) pss_never pss_nil)
    (pss_cons (ps_for PassesOwn.never rfl (pi_range1 rfl mr (pa_cons (pe_callB call_len_seq rfl ml PySem.boot_len (pa_cons (pv 1) pa_nil)) pa_nil)) (pg_name (i := 2) scKept.nd rfl (Or.inl rfl))
      (pss_cons (ps_if (PW.pt (pw_or (pt_not (pt_val (pe_callB call_isinst rfl mi PyProof.Rows.boot_isinstance (pa_cons (pe_ix ix_list (pv 0) (pv 2) (fun _ _ => rfl)) (pa_cons (pe_bltn (v := .ty "list") rfl mli PyProof.Rows.boot_list rfl) pa_nil)))))
          (pw_or1 (pt_cmpR op_ne (pe_callB call_len_seq rfl ml PySem.boot_len (pa_cons (pe_ix ix_list (pv 0) (pv 2) (fun _ _ => rfl)) pa_nil)) (pe_callB call_len_seq rfl ml PySem.boot_len (pa_cons (pe_ix ix_list (pv 1) (pv 2) (fun _ _ => rfl)) pa_nil)) (nomark _))))) pss_never pss_nil)
      (pss_one (ps_for PassesOwn.never rfl (pi_range1 rfl mr (pa_cons (pe_callB call_len_seq rfl ml PySem.boot_len (pa_cons (pe_ix ix_list (pv 1) (pv 2) (fun _ _ => rfl)) pa_nil)) pa_nil)) (pg_name (i := 3) scKept.nd rfl (Or.inl rfl))
        (pss_one (ps_if (PW.pt (pw_or (pt_not (pt_val (pe_call G hr rfl mG kG bG .nil pass0 (pa_cons (pe_ix ix_list (pe_ix ix_list (pv 0) (pv 2) (fun _ _ => rfl)) (pv 3) (fun _ _ => rfl)) pa_nil))))
          (pw_or1 (pt_cmpR op_ne (pe_ix ix_list (pe_ix ix_list (pv 0) (pv 2) (fun _ _ => rfl)) (pv 3) (fun _ _ => rfl)) (pe_ix ix_list (pe_ix ix_list (pv 1) (pv 2) (fun _ _ => rfl)) (pv 3) (fun _ _ => rfl)) (nomark _))))) pss_never pss_nil))))))
    (pss_one (ps_ret pe_bl))), ?_⟩
  obtain ⟨as, a1, a2⟩ := hA
  obtain ⟨bs, b1, b2⟩ := hB
  have la : as.length = rows.length := a2.length
  have lb : bs.length = rows.length := b2.length
  have sA := SqL.of (K := K) a1
  have sB := SqL.of (K := K) b1
  refine ⟨_, rfl, _, _, _, _, rfl, .lst a1, (rfl : PySem.W.kitOne K (.type "list") (.type "list") = some true), true, rfl, ?_⟩
  refine tF rfl ⟨_, rfl, a, _, rfl, .inl sA, _, rfl, b, _, rfl, .inl sB, rfl, _, rfl, tF ?_ ?_⟩
  · rw [List.length_map, List.length_map, la, lb]; simp
  refine ⟨_, rfl, b, _, rfl, .inl sB, _, rfl, by rw [List.length_map]; omega, by rw [List.length_map]; omega, ?_⟩
  have hn : ((((bs.map V.ref).length : Nat) : Int)).toNat = rows.length := by rw [List.length_map, lb]; simp
  rw [hn]
  refine for_range (fun i σ H' => H' = H ∧ ∃ x y, σ = [some (.ref a), some (.ref b), x, y]) ⟨rfl, _, _, rfl⟩ (fun i σ H' hi hP => ?_) (fun σ H' hP => ?_)
  · obtain ⟨rfl, x0, y0, rfl⟩ := hP
    have ha' : i < as.length := by omega
    have hb' : i < bs.length := by omega
    obtain ⟨r, r1, r2⟩ := paired_get' a2 (List.getElem?_eq_getElem ha')
    obtain ⟨r', r1', r2'⟩ := paired_get' b2 (List.getElem?_eq_getElem hb')
    have er : r' = r := Option.some.inj (r1'.symm.trans r1)
    subst er
    have e0 : (0 : Int) + (i : Int) = ((i : Nat) : Int) := by omega
    have ga : atI (as.map V.ref) ((0 : Int) + (i : Int)) = some (.ref as[i]) := by rw [e0]; exact atI_nat (by rw [List.getElem?_map, List.getElem?_eq_getElem ha']; rfl)
    have gb : atI (bs.map V.ref) ((0 : Int) + (i : Int)) = some (.ref bs[i]) := by rw [e0]; exact atI_nat (by rw [List.getElem?_map, List.getElem?_eq_getElem hb']; rfl)
    have sR := SqL.of (K := K) r2
    have sR' := SqL.of (K := K) r2'
    refine ⟨_, rfl, _, rfl, a, _, _, _, rfl, rfl, sA, ga, _, _, _, _, rfl, .lst r2, (rfl : PySem.W.kitOne K (.type "list") (.type "list") = some true), true, rfl, ?_⟩
    refine tF rfl ⟨_, rfl, _, rfl, a, _, _, _, rfl, rfl, sA, ga, as[i], _, rfl, .inl sR, _, rfl, _, rfl, b, _, _, _, rfl, rfl, sB, gb, bs[i], _, rfl, .inl sR', rfl, _, rfl, tF ?_ ?_⟩
    · simp
    refine ⟨_, rfl, _, rfl, b, _, _, _, rfl, rfl, sB, gb, bs[i], _, rfl, .inl sR', _, rfl, by rw [List.length_map]; omega, ?_, ?_⟩
    · have := hr200 r' (List.mem_of_getElem? r1)
      rw [List.length_map]; omega
    have hn2 : ((((r'.map V.int).length : Nat) : Int)).toNat = r'.length := by rw [List.length_map]; simp
    rw [hn2]
    refine for_range (fun j σ H2 => H2 = H' ∧ ∃ y, σ = [some (.ref a), some (.ref b), some (.int ((0 : Int) + (i : Int))), y]) ⟨rfl, _, rfl⟩ (fun j σ H2 hj hP => ?_) (fun σ H2 hP => ?_)
    · obtain ⟨rfl, y1, rfl⟩ := hP
      have ej : (0 : Int) + (j : Int) = ((j : Nat) : Int) := by omega
      have gj : atI (iV r') ((0 : Int) + (j : Int)) = some (.int r'[j]) := by rw [ej]; exact atI_nat (by rw [List.getElem?_map, List.getElem?_eq_getElem hj]; rfl)
      refine ⟨_, rfl, _, rfl, a, _, _, _, rfl, rfl, sA, ga, _, rfl, as[i], _, _, _, rfl, rfl, sR, gj, _, rfl, true, rfl, ?_⟩
      refine tF rfl ⟨_, rfl, _, rfl, a, _, _, _, rfl, rfl, sA, ga, _, rfl, as[i], _, _, _, rfl, rfl, sR, gj, _, rfl, _, rfl, b, _, _, _, rfl, rfl, sB, gb, _, rfl, bs[i], _, _, _, rfl, rfl, sR', gj, rfl, _, rfl, tF ?_ ⟨rfl, _, rfl⟩⟩
      simp
    · obtain ⟨rfl, y1, rfl⟩ := hP
      exact ⟨rfl, _, _, rfl⟩
  · obtain ⟨rfl, _⟩ := hP
    exact q

theorem scDrawn : FnScope ["_law_cells", "_law_count", "_law_rows", "_law_k", "_law_cell", "_law_bid"] ["_law_cells", "_law_count"] (defScope sLawDrawn) := ⟨rfl, rfl, rfl, by decide +kernel, rfl, by decide +kernel, by decide +kernel⟩
theorem nem {x c : Addr} {bs : List Addr} (hx : x ∈ bs) (hc : c ∉ bs) : x ≠ c := fun q => hc (by rw [← q]; exact hx)
theorem paired_set {H : Hp} {z : List Int} : ∀ {bs : List Addr} {rows : List (List Int)} {j : Nat} {b : Addr}, Paired (RowAt H) bs rows → bs.Nodup → bs[j]? = some b → Paired (RowAt (upd H b (.lst (iV z)))) bs (rows.set j z)
  | _, _, _, _, .nil, _, e => by simp at e
  | c :: bs, r :: rows, 0, b, .cons h t, nd, e => by
    have e' : c = b := by simpa using e
    subst e'
    have nd' := List.nodup_cons.mp nd
    refine .cons (show RowAt _ _ _ from upd_same) (Paired.mapP' t fun x y hx hy => ?_)
    show upd H c _ x = _
    rw [upd_ne (nem hx nd'.1)]; exact hy
  | c :: bs, r :: rows, j + 1, b, .cons h t, nd, e => by
    have nd' := List.nodup_cons.mp nd
    have e' : bs[j]? = some b := by simpa using e
    refine .cons ?_ (paired_set t nd'.2 e')
    show upd H b _ c = _
    rw [upd_ne (Ne.symm (nem (List.mem_of_getElem? e') nd'.1))]; exact h
theorem sum_set : ∀ {rows : List (List Int)} {j : Nat} {r z : List Int}, rows[j]? = some r → ((rows.set j z).map List.length).sum + r.length = (rows.map List.length).sum + z.length
  | [], _, _, _, e => by simp at e
  | q :: rows, 0, r, z, e => by
    have e' : q = r := by simpa using e
    subst e'
    simp only [List.set_cons_zero, List.map_cons, List.sum_cons]; omega
  | q :: rows, j + 1, r, z, e => by
    have := sum_set (rows := rows) (j := j) (r := r) (z := z) (by simpa using e)
    simp only [List.set_cons_succ, List.map_cons, List.sum_cons]; omega
def RevOf (r s : List Int) : Prop := s.Perm r ∧ s.Pairwise (fun a b => WB.geB a b = true)
theorem rev_good : ∀ {rows rows2 : List (List Int)}, Paired RevOf rows rows2 → (∀ r ∈ rows, ∀ x ∈ r, (0 : Int) ≤ x) → WB.Good rows2 ∧ rows2.length = rows.length ∧ (rows2.map List.length).sum = (rows.map List.length).sum
  | _, _, .nil, _ => ⟨⟨fun _ h => (nomatch h), fun _ h => (nomatch h)⟩, rfl, rfl⟩
  | r :: rows, s :: rows2, .cons h t, nn => by
    obtain ⟨g, l, e⟩ := rev_good t fun r' hr' => nn r' (List.mem_cons_of_mem _ hr')
    refine ⟨⟨fun q hq x hx => ?_, fun q hq => ?_⟩, by simp [l], ?_⟩
    · rcases List.mem_cons.mp hq with e' | hq
      · subst e'; exact nn r List.mem_cons_self x (h.1.mem_iff.mp hx)
      · exact g.nn q hq x hx
    · rcases List.mem_cons.mp hq with e' | hq
      · subst e'; exact h.2
      · exact g.fall q hq
    · simp only [List.map_cons, List.sum_cons, e, h.1.length_eq]
theorem ok_drawn (F : Fun K "_law_drawn" "_law_drawn" sLawDrawn f fd) (G : FnOk P w K mg base CX0 1 g gd ["_law_cell"] spAny) (bG : Binds K gd ["_law_cell"] []) (kG : PySem.W.keepIn K (.ref g) = true) (mG : mg "_law_any" = some (.ref g))
    (mr : mg "range" = none) (ml : mg "len" = none) (mab : mg "abs" = none) (mli : mg "list" = none) (mrev : mg "reversed" = none) (mso : mg "sorted" = none) : FnOk P w K mg base CX0 2 f fd ["_law_cells", "_law_count"] spDrawn := by
  refine F.ok (k := 1) scDrawn (fun vs H Q E h => ?_) (fun cdv A outer s H vs Q E hr h => ?_)
  · obtain ⟨a, ns, n, rfl, _⟩ := h
    rfl
  obtain ⟨a, ns, n, rfl, hA, h64, h0, h100, q⟩ := h
  refine ⟨_, pss_cons (ps_setLC (N' := ["_law_k"]) (fr := []) (i := 2) (te := tLst tNil) rfl scDrawn.nd rfl rfl ⟨rfl, by decide +kernel, by decide +kernel, rfl, rfl⟩ (pi_range1 rfl mr (pa_cons (pv 1) pa_nil))
      (fun cl C s₂ H₂ fp => pg_name (i := 0) (show (["_law_k"] : List Str).Nodup by decide +kernel) rfl (Or.inl rfl)) (fun cl C s₂ H₂ fp => pe_lst pa_nil))
    (pss_cons (ps_for PassesOwn.never rfl (pi_range1 rfl mr (pa_cons (pe_callB call_len_seq rfl ml PySem.boot_len (pa_cons (pv 0) pa_nil)) pa_nil)) (pg_name (i := 3) scDrawn.nd rfl (Or.inl rfl))
      (pss_cons (ps_set (i := 4) scDrawn.nd rfl (Or.inl rfl) (pe_ix ix_list (pv 0) (pv 3) (fun _ _ => rfl)))
      (pss_one (ps_if (pt_cmpR op_gt (pv 1) pe_int (nomark _))
        (pss_cons (ps_set (i := 5) scDrawn.nd rfl (Or.inl rfl) (pe_op op_mod (pe_op op_fdiv (pv 4) pe_int) (pe_ix ix_list (pe_lst (pa_cons pe_int (pa_cons pe_int (pa_cons pe_int pa_nil)))) (pe_op op_mod (pv 4) pe_int) (fun _ _ => rfl))))
        (pss_cons (ps_if (pt_cmpR op_eq (pe_op op_mod (pv 4) pe_int) pe_int (nomark _)) (pss_one (ps_set (i := 5) scDrawn.nd rfl (Or.inl rfl) (pe_callB call_abs rfl mab PyProof.Rows.boot_abs (pa_cons (pe_call G hr rfl mG kG bG .nil pass0 (pa_cons (pv 4) pa_nil)) pa_nil)))) pss_nil)
        (pss_one (ps_expr (pe_bm PySem.F.plainAttrs_list PySem.F.slot_list_append rfl mt_append (pe_ix ix_list (pv 2) (pe_op op_mod (pe_op op_add (pv 4) (pe_op op_fdiv (pv 3) pe_int)) (pv 1)) (fun _ _ => rfl)) (pa_cons (pv 5) pa_nil))))))
        pss_nil))))
    (pss_one (ps_ret (pe_lc (N' := ["_law_row"]) (fr := []) (te := tRev K (tCons (tCB (rSorted K) (tCons (tVar 0) tNil)) tNil)) rfl ⟨rfl, by decide +kernel, by decide +kernel, rfl, rfl⟩ (pi_list (pv 2))
      (fun cl C s₂ H₂ fp => pg_name (i := 0) (show (["_law_row"] : List Str).Nodup by decide +kernel) rfl (Or.inl rfl))
      (fun cl C s₂ H₂ fp => pe_listrev rfl rfl mli rfl mrev (pa_cons (pe_callB call_sorted_ints rfl mso PyProof.Rows.boot_sorted (pa_cons (pv 0) pa_nil)) pa_nil)))))), ?_⟩
  refine ⟨_, rfl, _, rfl, by omega, by omega, ?_⟩
  refine lcw n.toNat (fun D i ys H' => Same H H' ∧ H D = none ∧ H' D = some (.lst ys) ∧ ∃ bs : List Addr, ys = bs.map V.ref ∧ bs.length = i ∧ bs.Nodup ∧ ∀ b ∈ bs, H b = none ∧ b ≠ D ∧ H' b = some (.lst []))
    (fun D hD => ⟨same_upd hD, hD, upd_same, [], rfl, rfl, List.nodup_nil, fun _ hb => (nomatch hb)⟩) (fun D i ys H' hi hP => ?_) (fun D i ys H' hi hP x H2 hy => ?_) (fun D ys H1 hP => ?_)
  · obtain ⟨same, hD, hD', bs, rfl, hb, nd, hbs⟩ := hP
    exact ⟨hD', by rw [List.length_map]; omega, fun hlt => hlt, fun e => Nat.le_of_eq e.symm⟩
  · obtain ⟨same, hD, hD', bs, rfl, hb, nd, hbs⟩ := hP
    obtain ⟨rfl, rfl⟩ := hy
    refine ⟨(Held.refl _).set rfl, (by show 0 ≤ sizeLine; decide), fun l hl => ?_⟩
    have nD : D ≠ l := ne_of_none hD' hl
    have hlb : l ∉ bs := fun hm => by
      have := (hbs l hm).2.2
      rw [hl] at this; cases this
    refine ⟨by rw [upd_ne nD]; exact hD', ?_, hD, upd_same, bs ++ [l], by simp, by simp [hb], ?_, fun b hb' => ?_⟩
    · exact fun b o e => by rw [upd_ne (ne_of_none e hD)]; exact (same.trans (same_upd hl)) b o e
    · rw [List.nodup_append]
      exact ⟨nd, by simp, fun b hb' c hc => by rw [List.mem_singleton.mp hc]; exact fun z => hlb (z ▸ hb')⟩
    · rcases List.mem_append.mp hb' with hb' | hb'
      · obtain ⟨b1, b2, b3⟩ := hbs b hb'
        exact ⟨b1, b2, by rw [upd_ne b2, upd_ne (nem hb' hlb)]; exact b3⟩
      · rw [List.mem_singleton.mp hb']
        exact ⟨same.free hl, Ne.symm nD, by rw [upd_ne (Ne.symm nD), upd_same]⟩
  obtain ⟨same, hD, hD', bs, rfl, hb, nd, hbs⟩ := hP
  have sA : ∀ {H2 : Hp}, Same H H2 → SqL K H2 a (iV ns) := fun z => SqL.of (z _ _ hA)
  have ln : (iV ns).length = ns.length := List.length_map _
  refine ⟨_, rfl, a, _, rfl, .inl (sA same), _, rfl, by omega, by rw [ln]; omega, ?_⟩
  have hn : ((((iV ns).length : Nat) : Int)).toNat = ns.length := by rw [ln]; simp
  rw [hn]
  refine for_range (fun i σ H' => ∃ x y z rows, σ = [some (.ref a), some (.int n), some (.ref D), x, y, z] ∧ Same H H' ∧ H' D = some (.lst (bs.map V.ref)) ∧ Paired (RowAt H') bs rows ∧ (rows.map List.length).sum ≤ i ∧ ∀ r ∈ rows, ∀ x ∈ r, (0 : Int) ≤ x)
    ⟨_, _, _, List.replicate bs.length [], rfl, same, hD', ?_, ?_, fun r hr' x hx => ?_⟩ (fun i σ H' hi hP => ?_) (fun σ H' hP => ?_)
  · clear hb nd hD'
    induction bs with
    | nil => exact .nil
    | cons b bs ih => exact .cons (hbs b List.mem_cons_self).2.2 (ih fun c hc => hbs c (List.mem_cons_of_mem _ hc))
  · rw [List.map_replicate]; simp
  · rw [(List.mem_replicate.mp hr').2] at hx; cases hx
  · obtain ⟨x0, y0, z0, rows, rfl, same', hD2, hrows, hsum, hnn⟩ := hP
    have e0 : (0 : Int) + (i : Int) = ((i : Nat) : Int) := by omega
    have ga : atI (iV ns) ((0 : Int) + (i : Int)) = some (.int ns[i]) := by rw [e0]; exact atI_nat (by rw [List.getElem?_map, List.getElem?_eq_getElem hi]; rfl)
    generalize ns[i] = cell at ga
    refine ⟨_, rfl, _, rfl, a, _, _, _, rfl, rfl, sA same', ga, ?_⟩
    refine ⟨_, rfl, _, _, rfl, rfl, _, rfl, ?_⟩
    by_cases c : 0 < n
    · refine tT (dT c) ?_
      refine ⟨_, rfl, _, _, rfl, rfl, ⟨by decide, by decide⟩, (by show 3 ≤ sizeLine; decide), fun l hl => ?_⟩
      refine ⟨_, rfl, _, _, rfl, rfl, (by show (0 : Int) < 3; decide), ?_⟩
      obtain ⟨v, hv, hor⟩ := at3 (x := .int 6) (y := .int 40) (z := .int 1000000000000) (i := cell % 3) (by omega) (by omega)
      obtain ⟨m, rfl, hm⟩ : ∃ m : Int, v = .int m ∧ 0 < m := by
        rcases hor with e | e | e
        · exact ⟨_, e, by decide⟩
        · exact ⟨_, e, by decide⟩
        · exact ⟨_, e, by decide⟩
      refine ⟨l, _, _, _, rfl, rfl, SqL.of upd_same, hv, _, _, rfl, rfl, hm, ?_⟩
      have hbid : 0 ≤ cell / 3 % m := Int.emod_nonneg _ (by omega)
      have same2 : Same H' (upd H' l (.lst [.int 6, .int 40, .int 1000000000000])) := same_upd hl
      refine ⟨_, rfl, _, _, rfl, rfl, (by show (0 : Int) < 11; decide), rfl, _, rfl, ?_⟩
      have fin : ∀ (bid : Int) (H3 : Hp), 0 ≤ bid → Same H' H3 → ∃ j b r, atI (bs.map V.ref) ((cell + (0 + (i : Int)) / 2) % n) = some (.ref b) ∧ RowAt H3 b r ∧ r.length ≤ 1000 ∧ H3 D = some (.lst (bs.map V.ref)) ∧ Same H (upd H3 b (.lst (iV r ++ [.int bid]))) ∧
          upd H3 b (.lst (iV r ++ [.int bid])) D = some (.lst (bs.map V.ref)) ∧ Paired (RowAt (upd H3 b (.lst (iV r ++ [.int bid])))) bs (rows.set j (r ++ [bid])) ∧ ((rows.set j (r ++ [bid])).map List.length).sum ≤ i + 1 ∧ ∀ q ∈ rows.set j (r ++ [bid]), ∀ x ∈ q, (0 : Int) ≤ x := by
        intro bid H3 hb0 same3
        have n1 : 0 ≤ (cell + (0 + (i : Int)) / 2) % n := Int.emod_nonneg _ (by omega)
        have n2 : (cell + (0 + (i : Int)) / 2) % n < n := Int.emod_lt_of_pos _ c
        obtain ⟨j, hj⟩ : ∃ j : Nat, (cell + (0 + (i : Int)) / 2) % n = (j : Int) := ⟨((cell + (0 + (i : Int)) / 2) % n).toNat, by omega⟩
        rw [hj] at n2 ⊢
        have hjl : j < bs.length := by omega
        obtain ⟨r, r1, r2⟩ := paired_get' hrows (List.getElem?_eq_getElem hjl)
        have ev : iV r ++ [.int bid] = iV (r ++ [bid]) := by simp [iV]
        have hfr := hbs bs[j] (List.getElem_mem hjl)
        refine ⟨j, bs[j], r, atI_nat (by rw [List.getElem?_map, List.getElem?_eq_getElem hjl]; rfl), same3 _ _ r2, ?_, same3 _ _ hD2, ?_, ?_, ?_, ?_, fun q hq x hx => ?_⟩
        · have := len_le_sum (List.mem_of_getElem? r1)
          omega
        · exact fun b o e => by rw [upd_ne (ne_of_none e hfr.1)]; exact same3 _ _ (same' _ _ e)
        · rw [upd_ne (Ne.symm hfr.2.1)]; exact same3 _ _ hD2
        · rw [ev]
          exact paired_set (Paired.mapP hrows fun b z e => same3 _ _ e) nd (List.getElem?_eq_getElem hjl)
        · have := sum_set (z := r ++ [bid]) r1
          rw [List.length_append, List.length_singleton] at this
          omega
        · rcases List.mem_or_eq_of_mem_set hq with hq | hq
          · exact hnn q hq x hx
          · subst hq
            rcases List.mem_append.mp hx with hx | hx
            · exact hnn r (List.mem_of_getElem? r1) x hx
            · rw [List.mem_singleton.mp hx]; exact hb0
      have cd : CDiv (0 + (i : Int)) 2 := ⟨by decide, by decide⟩
      by_cases c8 : cell % 11 = 8
      · refine tT (dT (congrArg V.int c8)) ⟨_, rfl, cell, rfl, fun v H3 same3 => ⟨_, rfl, ?_⟩⟩
        obtain ⟨j, b, r, f1, f2, f3, f4, f5, f6, f7, f8, f9⟩ := fin (if v < 0 then -v else v) H3 (by split <;> omega) (same2.trans same3)
        refine ⟨_, rfl, _, rfl, _, rfl, _, _, rfl, rfl, cd, _, _, rfl, rfl, _, rfl, _, _, rfl, rfl, c, D, _, _, _, rfl, rfl, SqL.of f4, f1, .inl ⟨rfl, _, SqL.of f2⟩, _, rfl, b, _, _, rfl, rfl, f2, ?_, ?_⟩
        · rw [List.length_map]; exact small1000 f3
        · exact ⟨_, _, _, _, rfl, f5, f6, f7, f8, f9⟩
      · refine tF (dF (fun z => c8 (V.int.inj z))) ?_
        obtain ⟨j, b, r, f1, f2, f3, f4, f5, f6, f7, f8, f9⟩ := fin (cell / 3 % m) _ hbid same2
        refine ⟨_, rfl, _, rfl, _, rfl, _, _, rfl, rfl, cd, _, _, rfl, rfl, _, rfl, _, _, rfl, rfl, c, D, _, _, _, rfl, rfl, SqL.of f4, f1, .inl ⟨rfl, _, SqL.of f2⟩, _, rfl, b, _, _, rfl, rfl, f2, ?_, ?_⟩
        · rw [List.length_map]; exact small1000 f3
        · exact ⟨_, _, _, _, rfl, f5, f6, f7, f8, f9⟩
    · refine tF (dF c) ⟨_, _, _, rows, rfl, same', hD2, hrows, by omega, hnn⟩
  · obtain ⟨x0, y0, z0, rows, rfl, same', hD2, hrows, hsum, hnn⟩ := hP
    have hlen := hrows.length
    refine ⟨_, rfl, D, rfl, ⟨_, SqL.of hD2⟩, ?_⟩
    refine lcw rows.length (fun D2 i ys H2 => Same H' H2 ∧ H' D2 = none ∧ H2 D2 = some (.lst ys) ∧ ∃ (cs : List Addr) (rows2 : List (List Int)), ys = cs.map V.ref ∧ cs.length = i ∧ (∀ b ∈ cs, b ≠ D2) ∧ Paired (RowAt H2) cs rows2 ∧ Paired RevOf (rows.take i) rows2)
      (fun D2 hD3 => ⟨same_upd hD3, hD3, upd_same, [], [], rfl, rfl, fun _ hb => (nomatch hb), .nil, .nil⟩) (fun D2 i ys H2 hi hP => ?_) (fun D2 i ys H2 hi hP x H3 hy => ?_) (fun D2 ys H2 hP => ?_)
    · obtain ⟨same3, hD3, hD4, cs, rows2, rfl, hc, hcD, hp1, hp2⟩ := hP
      refine ⟨hD4, by rw [List.length_map]; omega, fun hlt => ⟨_, .ref (bs[i]'(by omega)), SqL.of (same3 _ _ hD2), by simp [hlen, hlt]⟩, fun e => ⟨_, SqL.of (same3 _ _ hD2), by rw [List.length_map]; omega⟩⟩
    · obtain ⟨same3, hD3, hD4, cs, rows2, rfl, hc, hcD, hp1, hp2⟩ := hP
      obtain ⟨rfl, hv⟩ := hy
      have hi' : i < bs.length := by omega
      have hv' := hv _ (SqL.of (same3 _ _ hD2))
      rw [List.getElem?_map, List.getElem?_eq_getElem hi'] at hv'
      have ev : x = .ref bs[i] := (Option.some.inj hv').symm
      subst ev
      obtain ⟨r, r1, r2⟩ := paired_get' hrows (List.getElem?_eq_getElem hi')
      have hrl : r.length < 64 := by
        have := len_le_sum (List.mem_of_getElem? r1)
        omega
      refine ⟨(Held.refl _).set rfl, _, rfl, bs[i], r, rfl, SqL.of (same3 _ _ r2), hrl, fun p ms hp hperm hord => ?_⟩
      refine ⟨p, _, rfl, SqL.of upd_same, fun l H4 same4 hl hl4 => ?_⟩
      have nDp : D2 ≠ p := ne_of_none hD4 hp
      have hD5 : upd H3 p (.lst (ms.map V.int)) D2 = some (.lst (cs.map V.ref)) := by rw [upd_ne nDp]; exact hD4
      have nDl : D2 ≠ l := ne_of_none hD5 hl
      have keep : Same H3 H4 := (same_upd hp).trans same4
      refine ⟨same4 _ _ hD5, ?_, hD3, upd_same, cs ++ [l], rows2 ++ [ms.reverse], by simp, by simp [hc], fun b hb' => ?_, ?_, ?_⟩
      · exact fun b o e => by rw [upd_ne (ne_of_none e hD3)]; exact (same3.trans keep) b o e
      · rcases List.mem_append.mp hb' with hb' | hb'
        · exact hcD b hb'
        · rw [List.mem_singleton.mp hb']; exact Ne.symm nDl
      · refine Paired.snocP (Paired.mapP' hp1 fun b z hb' e => ?_) ?_
        · show upd H4 D2 _ b = _
          rw [upd_ne (hcD b hb')]; exact keep _ _ e
        · show upd H4 D2 _ l = _
          rw [upd_ne (Ne.symm nDl), hl4, iV, List.map_reverse]
      · rw [List.take_add_one, r1]
        refine Paired.snocP hp2 ⟨(List.reverse_perm ms).trans hperm, ?_⟩
        rw [List.pairwise_reverse]
        exact hord.imp fun {a b} h => decide_eq_true h
    · obtain ⟨same3, hD3, hD4, cs, rows2, rfl, hc, hcD, hp1, hp2⟩ := hP
      rw [List.take_length] at hp2
      obtain ⟨gd', l, e⟩ := rev_good hp2 hnn
      exact q D2 H2 rows2 (same'.trans same3) (same'.free hD3) ⟨cs, hD4, hp1⟩ gd' (by rw [l, ← hlen, hb]) (by omega)

theorem scWorth : FnScope ["bids", "counts"] ["bids", "counts"] (defScope sWorth) := ⟨rfl, rfl, rfl, by decide +kernel, rfl, by decide +kernel, by decide +kernel⟩
theorem ok_worth (F : Fun K "worth" "worth" sWorth f fd) (ms : mg "sum" = none) (mz : mg "zip" = none) : FnOk P w K mg base CX0 1 f fd ["bids", "counts"] spWorth := by
  refine F.ok (k := 0) scWorth (fun vs H Q E h => ?_) (fun cdv A outer s H vs Q E hr h => ?_)
  · obtain ⟨a, c, rows, cs, rfl, _⟩ := h
    rfl
  obtain ⟨a, c, rows, cs, rfl, hL, hc, hl, few, q⟩ := h
  refine ⟨_, pss_one (ps_ret (pe_callB (call_sum rfl) rfl ms PyProof.Rows.boot_sum (pa_cons (pe_lc (N' := ["row", "count"]) (fr := []) (g := gTup K 2 (gCons (gName 0) (gCons (gName 1) gNil))) (te := tCB (rSum K) (tCons (tSl (rSlL K) (tVar 0) tNoPart (tPart (tVar 1))) tNil)) rfl ⟨rfl, by decide +kernel, by decide +kernel, rfl, rfl⟩ (pi_zip rfl mz (pa_cons (pv 0) (pa_cons (pv 1) pa_nil)))
    (fun cl C s₂ H₂ fp => pg_tup rfl (pgs_cons (pg_name (i := 0) (show (["row", "count"] : List Str).Nodup by decide +kernel) rfl (Or.inl rfl)) (pgs_cons (pg_name (i := 1) (show (["row", "count"] : List Str).Nodup by decide +kernel) rfl (Or.inl rfl)) pgs_nil)))
    (fun cl C s₂ H₂ fp => pe_callB (call_sum rfl) rfl ms PyProof.Rows.boot_sum (pa_cons (pe_slice sl_list (pv 0) po_none (po_some (pv 1))) pa_nil))) pa_nil))), ?_⟩
  obtain ⟨as, h1, h2⟩ := hL
  have hlen : as.length = rows.length := h2.length
  refine ⟨_, rfl, _, rfl, a, c, _, _, rfl, h1, hc, ?_⟩
  refine lcw rows.length (fun D i ys H' => Same H H' ∧ H D = none ∧ H' D = some (.lst ys) ∧ ys = iV ((List.zipWith (fun r c => (r.take c).sum) rows cs).take i)) (fun D hD => ⟨same_upd hD, hD, upd_same, rfl⟩) (fun D i ys H' hi hP => ?_) (fun D i ys H' hi hP x H2 hy => ?_) (fun D ys H' hP => ?_)
  · obtain ⟨same, hD, hD', rfl⟩ := hP
    refine ⟨hD', ?_, fun hlt => ⟨_, _, .ref (as[i]'(by omega)), .int ((cs[i]'(by omega) : Nat) : Int), same _ _ h1, same _ _ hc, by simp [hlen, hlt], by simp [hl, hlt]⟩, fun e => ⟨_, _, same _ _ h1, same _ _ hc, .inl (by rw [List.length_map]; omega)⟩⟩
    rw [List.length_map, List.length_take]; omega
  · obtain ⟨same, hD, hD', rfl⟩ := hP
    obtain ⟨T, u, v, hT, rfl, rfl, hu, hv⟩ := hy
    have hi' : i < as.length := by omega
    have hc' : i < cs.length := by omega
    have hu' := hu _ (same _ _ h1)
    have hv' := hv _ (same _ _ hc)
    rw [List.getElem?_map, List.getElem?_eq_getElem hi'] at hu'
    rw [List.getElem?_map, List.getElem?_eq_getElem hc'] at hv'
    have eu : u = .ref as[i] := (Option.some.inj hu').symm
    have ev : v = .int ((cs[i] : Nat) : Int) := (Option.some.inj hv').symm
    subst eu ev
    obtain ⟨r, hr1, hr2⟩ := paired_get' h2 (List.getElem?_eq_getElem hi')
    have sT := same_upd (o := .tup [.ref as[i], .int ((cs[i] : Nat) : Int)]) hT
    refine ⟨T, _, rfl, SqT.of upd_same, rfl, _, _, rfl, _, _, rfl, rfl, ((Held.refl _).set rfl).set rfl, ?_⟩
    refine ⟨_, rfl, _, rfl, _, rfl, as[i], _, rfl, SqL.of (sT _ _ (same _ _ hr2)), fun p hp => ?_⟩
    rw [cut_takeI]
    have nD : D ≠ p := ne_of_none (sT _ _ hD') hp
    refine ⟨p, r.take cs[i], rfl, SqL.of upd_same, ?_, ?_, hD, upd_same, ?_⟩
    · rw [upd_ne nD]; exact sT _ _ hD'
    · exact fun b o e => by rw [upd_ne (ne_of_none e hD)]; exact (same_upd hp) _ _ (sT _ _ (same b o e))
    · have e : (List.zipWith (fun r c => (r.take c).sum) rows cs)[i]? = some (r.take cs[i]).sum := by
        rw [List.getElem?_zipWith, hr1, List.getElem?_eq_getElem hc']
      rw [List.take_add_one, e]
      simp [iV]
  · obtain ⟨same, hD, hD', rfl⟩ := hP
    rw [List.take_of_length_le (by rw [List.length_zipWith]; omega)] at hD'
    exact ⟨D, _, rfl, SqL.of hD', q _ same⟩

theorem scReplaced : FnScope ["entries", "place", "entry"] ["entries", "place", "entry"] (defScope sReplaced) := ⟨rfl, rfl, rfl, by decide +kernel, rfl, by decide +kernel, by decide +kernel⟩
theorem ok_replaced (F : Fun K "replaced" "replaced" sReplaced f fd) : FnOk P w K mg base CX0 1 f fd ["entries", "place", "entry"] spReplaced := by
  refine F.ok (k := 0) scReplaced (fun vs H Q E h => ?_) (fun cdv A outer s H vs Q E hr h => ?_)
  · obtain ⟨a, xs, k, v, rfl, _⟩ := h
    rfl
  obtain ⟨a, xs, k, v, rfl, hA, hk, few, q⟩ := h
  refine ⟨_, pss_one (ps_ret (pe_op op_cat (pe_op op_cat (pe_slice sl_list (pv 0) po_none (po_some (pv 1))) (pe_lst (pa_cons (pv 2) pa_nil))) (pe_slice sl_list (pv 0) (po_some (pe_op op_add (pv 1) pe_int)) po_none))), ?_⟩
  refine ⟨_, rfl, _, rfl, _, rfl, a, _, rfl, SqL.of hA, fun p1 hp1 => ?_⟩
  rw [cut_take (by omega), Int.toNat_natCast]
  refine ⟨_, rfl, (by show 1 ≤ sizeLine; decide), fun p2 hp2 => ?_⟩
  have s1 := same_upd (o := .lst (xs.take k)) hp1
  have s2 := same_upd (o := .lst [v]) hp2
  refine ⟨p1, p2, _, _, rfl, rfl, s2 _ _ upd_same, upd_same, ?_, fun p3 hp3 => ?_⟩
  · rw [List.length_take, List.length_singleton]; exact Nat.le_of_lt (small1000 (by omega))
  have s3 := same_upd (o := .lst (xs.take k ++ [v])) hp3
  have s13 := (s1.trans s2).trans s3
  refine ⟨_, rfl, _, rfl, _, _, rfl, rfl, _, rfl, a, _, rfl, SqL.of (s13 _ _ hA), fun p4 hp4 => ?_⟩
  rw [cut_drop (by omega), show ((k : Int) + 1).toNat = k + 1 by omega]
  have s4 := same_upd (o := .lst (xs.drop (k + 1))) hp4
  refine ⟨p3, p4, _, _, rfl, rfl, s4 _ _ upd_same, upd_same, ?_, fun r hr => ?_⟩
  · rw [List.length_append, List.length_take, List.length_singleton, List.length_drop]; exact Nat.le_of_lt (small1000 (by omega))
  have s14 := s13.trans s4
  refine q r _ (s14.trans (same_upd hr)) (s14.free hr) ?_
  rw [upd_same, set_cat hk]
theorem scLost : FnScope ["bids", "wares", "counts", "bidder", "others", "without", "now"] ["bids", "wares", "counts", "bidder"] (defScope sLostByOthers) := ⟨rfl, rfl, rfl, by decide +kernel, rfl, by decide +kernel, by decide +kernel⟩
theorem ok_lost (F : Fun K "lost_by_others" "lost_by_others" sLostByOthers f fd) (cR : Cal P w K mg base 1 "replaced" ["entries", "place", "entry"] spReplaced) (cW : Cal P w K mg base 1 "worth" ["bids", "counts"] spWorth) (cD : Cal P w K mg base 6 "dealt" ["bids", "wares"] (spDealt T)) :
    FnOk P w K mg base CX0 7 f fd ["bids", "wares", "counts", "bidder"] (spLost T) := by
  refine F.ok (k := 6) scLost (fun vs H Q E h => ?_) (fun cdv A outer s H vs Q E hr h => ?_)
  · obtain ⟨a, c, wn, k, rows, rfl, _⟩ := h
    rfl
  obtain ⟨a, c, wn, k, rows, rfl, hL, hz, good, hw, hc, hk, tok, q⟩ := h
  refine ⟨_, pss_cons (ps_set (i := 4) scLost.nd rfl (Or.inl rfl) (pe_cal cR hr (by decide) rfl (pa_cons (pv 0) (pa_cons (pv 3) (pa_cons (pe_lst pa_nil) pa_nil)))))
    (pss_cons (ps_set (i := 5) scLost.nd rfl (Or.inl rfl) (pe_cal cW hr (by decide) rfl (pa_cons (pv 4) (pa_cons (pe_cal cD hr (by decide) rfl (pa_cons (pv 4) (pa_cons (pv 1) pa_nil))) pa_nil))))
    (pss_cons (ps_set (i := 6) scLost.nd rfl (Or.inl rfl) (pe_cal cW hr (by decide) rfl (pa_cons (pv 4) (pa_cons (pe_cal cR hr (by decide) rfl (pa_cons (pv 2) (pa_cons (pv 3) (pa_cons pe_int pa_nil)))) pa_nil))))
    (pss_one (ps_ret (pe_op op_sub (pv 5) (pv 6)))))), ?_⟩
  obtain ⟨as, h1, h2⟩ := id hL
  have hlen : as.length = rows.length := h2.length
  have few := hz.few
  have dl := WB.dealt_len rows wn.toNat
  refine ⟨_, rfl, _, rfl, (by show 0 ≤ sizeLine; decide), fun e he => ?_⟩
  have s1 := same_upd (o := .lst ([] : List V)) he
  refine ⟨a, _, k, .ref e, rfl, s1 _ _ h1, by rw [List.length_map]; omega, by rw [List.length_map]; omega, fun o H2 s2 ho ho2 => ?_⟩
  have s12 := s1.trans s2
  have hLo : LL H2 o (rows.set k []) := ⟨as.set k e, by rw [ho2, List.map_set], paired_setA (Paired.mapP h2 fun b z h => s12 _ _ h) (s2 _ _ upd_same)⟩
  have hzo := hz.set k
  have lo : (rows.set k []).length = rows.length := List.length_set
  have tok2 := (Same.kp s12).tab tok
  refine ⟨_, rfl, _, rfl, _, rfl, o, wn, _, rfl, hLo, hzo, good.out k, hw, tok2, fun d H3 k3 hd hd3 => ?_⟩
  have tok3 := k3.tab tok2
  refine ⟨o, d, _, _, rfl, hLo.kp k3 tok2, hd3, WB.dealt_len _ _, by rw [lo]; exact few, fun H4 s4 => ?_⟩
  refine ⟨_, rfl, _, rfl, _, rfl, c, _, k, .int 0, rfl, s4 _ _ (k3.lst tok2 (s12 _ _ hc)), by rw [List.length_map]; omega, by rw [List.length_map]; omega, fun p H5 s5 hp hp5 => ?_⟩
  have e0 : (nV (WB.dealt rows wn.toNat)).set k (.int 0) = nV ((WB.dealt rows wn.toNat).set k 0) := by rw [nV_set]; rfl
  rw [e0] at hp5
  refine ⟨o, p, _, _, rfl, ((hLo.kp k3 tok2).same s4).same s5, hp5, by rw [List.length_set, lo]; exact dl, by rw [lo]; exact few, fun H6 s6 => ?_⟩
  refine ⟨_, rfl, _, rfl, _, _, rfl, rfl, ?_⟩
  exact q H6 (((Same.kp s12).trans k3).trans (Same.kp ((s4.trans s5).trans s6)))
theorem scPaid : FnScope ["bids", "wares", "counts"] ["bids", "wares"] (defScope sPaid) := ⟨rfl, rfl, rfl, by decide +kernel, rfl, by decide +kernel, by decide +kernel⟩
theorem ok_paid (F : Fun K "paid" "paid" sPaid f fd) (cD : Cal P w K mg base 6 "dealt" ["bids", "wares"] (spDealt T)) (cL : Cal P w K mg base 7 "lost_by_others" ["bids", "wares", "counts", "bidder"] (spLost T)) (mr : mg "range" = none) (ml : mg "len" = none) :
    FnOk P w K mg base CX0 8 f fd ["bids", "wares"] (spPaid T) := by
  refine F.ok (k := 7) scPaid (fun vs H Q E h => ?_) (fun cdv A outer s H vs Q E hr h => ?_)
  · obtain ⟨a, wn, rows, rfl, _⟩ := h
    rfl
  obtain ⟨a, wn, rows, rfl, hL, hz, good, hw, tok, q⟩ := h
  refine ⟨_, pss_cons (ps_set (i := 2) scPaid.nd rfl (Or.inr rfl) (pe_cal cD hr (by decide) rfl (pa_cons (pv 0) (pa_cons (pv 1) pa_nil))))
    (pss_one (ps_ret (pe_lc (N' := ["bidder", "bids", "wares", "counts"]) (fr := [(1, 0), (2, 1), (3, 2)]) (te := tCall (spLost T) [] E0 (tCons (tVar 1) (tCons (tVar 2) (tCons (tVar 3) (tCons (tVar 0) tNil))))) rfl ⟨rfl, by decide +kernel, by decide +kernel, rfl, rfl⟩
      (pi_range1 rfl mr (pa_cons (pe_callB call_len_seq rfl ml PySem.boot_len (pa_cons (pv 0) pa_nil)) pa_nil))
      (fun cl C s₂ H₂ fp => pg_name (i := 0) (show (["bidder", "bids", "wares", "counts"] : List Str).Nodup by decide +kernel) rfl (Or.inl rfl))
      (fun cl C s₂ H₂ fp => pe_cal cL hr (by decide) rfl (pa_cons (pv 1) (pa_cons (pv 2) (pa_cons (pv 3) (pa_cons (pv 0) pa_nil)))))))), ?_⟩
  obtain ⟨as, h1, h2⟩ := id hL
  have hlen : as.length = rows.length := h2.length
  have few := hz.few
  refine ⟨_, rfl, _, rfl, a, wn, rows, rfl, hL, hz, good, hw, tok, fun c H1 k1 hc hc1 => ?_⟩
  have tok1 := k1.tab tok
  refine ⟨_, rfl, a, _, rfl, .inl (SqL.of (k1.lst tok h1)), _, rfl, by rw [List.length_map]; omega, by rw [List.length_map]; omega, ?_⟩
  have hn : ((((as.map V.ref).length : Nat) : Int)).toNat = rows.length := by rw [List.length_map, hlen]; simp
  rw [hn]
  refine lcw rows.length (fun D i ys H' => Kp T H1 H' ∧ H1 D = none ∧ H' D = some (.lst ys) ∧ ys = iV ((List.range i).map (WB.price rows wn.toNat))) (fun D hD => ⟨Same.kp (same_upd hD), hD, upd_same, rfl⟩) (fun D i ys H' hi hP => ?_) (fun D i ys H' hi hP x H2 hy => ?_) (fun D ys H' hP => ?_)
  · obtain ⟨kp, hD, hD', rfl⟩ := hP
    exact ⟨hD', by rw [List.length_map, List.length_map, List.length_range]; omega, fun hlt => hlt, fun e => Nat.le_of_eq e.symm⟩
  · obtain ⟨kp, hD, hD', rfl⟩ := hP
    obtain ⟨rfl, rfl⟩ := hy
    have tok2 := kp.tab tok1
    have e0 : (0 : Int) + (i : Int) = ((i : Nat) : Int) := by omega
    refine ⟨(Held.refl _).set rfl, _, rfl, _, rfl, _, rfl, _, rfl, a, c, wn, i, rows, by rw [e0]; rfl, hL.kp (k1.trans kp) tok, hz, good, hw, kp.lst tok1 hc1, hi, tok2, fun H3 k3 => ?_⟩
    have hD3 := k3.lst tok2 hD'
    refine ⟨hD3, ?_, hD, upd_same, ?_⟩
    · exact kp_upd (kp.trans k3) hD tok1 hD3
    · rw [List.range_succ, List.map_append]; simp [iV]
  · obtain ⟨kp, hD, hD', rfl⟩ := hP
    exact q D H' (k1.trans kp) (k1.free tok hD) hD'

theorem scTaken : FnScope ["bids", "wares"] ["bids", "wares"] (defScope sTakenIn) := ⟨rfl, rfl, rfl, by decide +kernel, rfl, by decide +kernel, by decide +kernel⟩
theorem ok_taken (F : Fun K "taken_in" "taken_in" sTakenIn f fd) (cP : Cal P w K mg base 8 "paid" ["bids", "wares"] (spPaid T)) (ms : mg "sum" = none) : FnOk P w K mg base CX0 9 f fd ["bids", "wares"] (spTaken T) := by
  refine F.ok (k := 8) scTaken (fun vs H Q E h => ?_) (fun cdv A outer s H vs Q E hr h => ?_)
  · obtain ⟨a, wn, rows, rfl, _⟩ := h
    rfl
  obtain ⟨a, wn, rows, rfl, hL, hz, good, hw, tok, q⟩ := h
  refine ⟨_, pss_one (ps_ret (pe_callB (call_sum rfl) rfl ms PyProof.Rows.boot_sum (pa_cons (pe_cal cP hr (by decide) rfl (pa_cons (pv 0) (pa_cons (pv 1) pa_nil))) pa_nil))), ?_⟩
  refine ⟨_, rfl, _, rfl, a, wn, rows, rfl, hL, hz, good, hw, tok, fun r H1 k1 hr0 hr1 => ?_⟩
  exact ⟨r, _, rfl, SqL.of hr1, q _ k1⟩

theorem scMost : FnScope ["_law_rows", "_law_wares", "_law_every", "_law_row"] ["_law_rows", "_law_wares"] (defScope sLawMost) := ⟨rfl, rfl, rfl, by decide +kernel, rfl, by decide +kernel, by decide +kernel⟩
theorem ok_most (F : Fun K "_law_most" "_law_most" sLawMost f fd) (ms : mg "sum" = none) (mli : mg "list" = none) (mrev : mg "reversed" = none) (mso : mg "sorted" = none) : FnOk P w K mg base CX0 1 f fd ["_law_rows", "_law_wares"] spMost := by
  refine F.ok (k := 0) scMost (fun vs H Q E h => ?_) (fun cdv A outer s H vs Q E hr h => ?_)
  · obtain ⟨a, wn, rows, rfl, _⟩ := h
    rfl
  obtain ⟨a, wn, rows, rfl, hL, hz, hw, q⟩ := h
  refine ⟨_, pss_cons (ps_set (i := 2) scMost.nd rfl (Or.inl rfl) (pe_lst pa_nil))
    (pss_cons (ps_for PassesOwn.never rfl (pi_list (pv 0)) (pg_name (i := 3) scMost.nd rfl (Or.inl rfl)) (pss_one (ps_set (i := 2) scMost.nd rfl (Or.inl rfl) (pe_op op_cat (pv 2) (pv 3)))))
    (pss_one (ps_ret (pe_callB (call_sum rfl) rfl ms PyProof.Rows.boot_sum (pa_cons (pe_slice sl_list (pe_listrev rfl rfl mli rfl mrev (pa_cons (pe_callB call_sorted_ints rfl mso PyProof.Rows.boot_sorted (pa_cons (pv 2) pa_nil)) pa_nil)) po_none (po_some (pv 1))) pa_nil))))), ?_⟩
  obtain ⟨as, a1, a2⟩ := hL
  have la : as.length = rows.length := a2.length
  have hall := hz.all
  refine ⟨(by show 0 ≤ sizeLine; decide), fun o ho => ?_⟩
  have s0 := same_upd (o := .lst ([] : List V)) ho
  refine ⟨_, rfl, a, rfl, ⟨_, SqL.of (s0 _ _ a1)⟩, ?_⟩
  refine for_list (xs := as.map V.ref) (fun i σ H' => Same H H' ∧ ∃ e y, σ = [some (.ref a), some (.int wn), some (.ref e), y] ∧ H' e = some (.lst (iV (rows.take i).flatten))) ⟨s0, o, _, rfl, upd_same⟩ (fun i σ H' hi hP => SqL.of (hP.1 _ _ a1)) (fun i x σ H' hx hP => ?_) (fun σ H' hP => ?_)
  · obtain ⟨same, e, y, rfl, he⟩ := hP
    rw [List.getElem?_map] at hx
    cases hq : as[i]? with
    | none => rw [hq] at hx; cases hx
    | some b =>
      rw [hq] at hx
      have ex : x = .ref b := (Option.some.inj hx).symm
      subst ex
      obtain ⟨r, r1, r2⟩ := paired_get' a2 hq
      have l1 := flat_take_len rows i
      have l2 := len_le_sum (List.mem_of_getElem? r1)
      refine ⟨_, rfl, _, rfl, e, b, _, _, rfl, rfl, he, same _ _ r2, ?_, fun p hp => ?_⟩
      · rw [List.length_map, List.length_map]; exact Nat.le_of_lt (small1000 (by omega))
      refine ⟨same.trans (same_upd hp), p, _, rfl, ?_⟩
      rw [upd_same, List.take_add_one, r1]
      simp [iV]
  · obtain ⟨same, e, y, rfl, he⟩ := hP
    rw [List.length_map, la, List.take_length] at he
    refine ⟨_, rfl, e, rows.flatten, rfl, SqL.of he, by rw [flat_len]; exact hall, fun p ms' hp hperm hord => ?_⟩
    refine ⟨p, _, rfl, SqL.of upd_same, fun r H2 s2 hr0 hr2 => ?_⟩
    refine ⟨_, rfl, _, rfl, r, _, rfl, SqL.of hr2, fun sl hsl => ?_⟩
    have ed : ms'.reverse = WB.desc rows.flatten := WB.desc_eq ((List.reverse_perm ms').trans hperm) (by rw [List.pairwise_reverse]; exact hord.imp fun {a b} h => decide_eq_true h)
    have ec : cutV (ms'.map V.int).reverse none (some wn) = ((WB.desc rows.flatten).take wn.toNat).map V.int := by rw [cut_take hw, ← List.map_reverse, ed, List.map_take]
    rw [ec]
    exact ⟨sl, _, rfl, SqL.of upd_same, q _ (((same.trans (same_upd hp)).trans s2).trans (same_upd hsl))⟩

theorem scDealtBy : FnScope ["_law_rows", "_law_wares", "_law_every", "_law_k", "_law_one", "_law_counts", "_law_pair"] ["_law_rows", "_law_wares"] (defScope sLawDealtBy) := ⟨rfl, rfl, rfl, by decide +kernel, rfl, by decide +kernel, by decide +kernel⟩
theorem ok_dealt_by (F : Fun K "_law_dealt_by" "_law_dealt_by" sLawDealtBy f fd) (mr : mg "range" = none) (ml : mg "len" = none) (mso : mg "sorted" = none) : FnOk P w K mg base CX0 1 f fd ["_law_rows", "_law_wares"] spDealtBy := by
  refine F.ok (k := 0) scDealtBy (fun vs H Q E h => ?_) (fun cdv A outer s H vs Q E hr h => ?_)
  · obtain ⟨a, wn, rows, rfl, _⟩ := h
    rfl
  obtain ⟨a, wn, rows, rfl, hL, hz, hw, q⟩ := h
  refine ⟨_, pss_cons (ps_set (i := 2) scDealtBy.nd rfl (Or.inl rfl) (pe_lst pa_nil))
    (pss_cons (ps_for PassesOwn.never rfl (pi_range1 rfl mr (pa_cons (pe_callB call_len_seq rfl ml PySem.boot_len (pa_cons (pv 0) pa_nil)) pa_nil)) (pg_name (i := 3) scDealtBy.nd rfl (Or.inl rfl))
      (pss_one (ps_for PassesOwn.never rfl (pi_list (pe_ix ix_list (pv 0) (pv 3) (fun _ _ => rfl))) (pg_name (i := 4) scDealtBy.nd rfl (Or.inl rfl))
        (pss_one (ps_expr (pe_bm PySem.F.plainAttrs_list PySem.F.slot_list_append rfl mt_append (pv 2) (pa_cons (pe_tup (pa_cons (pe_op op_sub pe_int (pv 4)) (pa_cons (pv 3) pa_nil))) pa_nil)))))))
    (pss_cons (ps_set (i := 5) scDealtBy.nd rfl (Or.inl rfl) (pe_op op_rep (pe_lst (pa_cons pe_int pa_nil)) (pe_callB call_len_seq rfl ml PySem.boot_len (pa_cons (pv 0) pa_nil))))
    (pss_cons (ps_for PassesOwn.never rfl (pi_list (pe_slice sl_list (pe_callB call_sorted_pairs rfl mso PyProof.Rows.boot_sorted (pa_cons (pv 2) pa_nil)) po_none (po_some (pv 1)))) (pg_name (i := 6) scDealtBy.nd rfl (Or.inl rfl))
      (pss_one (ps_asg (pe_op op_add (pe_ix ix_list (pv 5) (pe_ix ix_tup (pv 6) pe_int (fun _ _ => rfl)) (fun _ _ => rfl)) pe_int) (pg_sub (pv 5) (pe_ix ix_tup (pv 6) pe_int (fun _ _ => rfl)) set_list))))
    (pss_one (ps_ret (pv 5)))))), ?_⟩
  refine ⟨(by show 0 ≤ sizeLine; decide), fun o ho => ?_⟩
  obtain ⟨as, h1, h2⟩ := hL
  have hlen : as.length = rows.length := h2.length
  have hfew := hz.few
  have same0 : Same H (upd H o (.lst [])) := same_upd ho
  have hn : ((((as.map V.ref).length : Nat) : Int)).toNat = rows.length := by rw [List.length_map, hlen]; simp
  refine ⟨_, rfl, a, _, rfl, .inl (SqL.of (same0 _ _ h1)), _, rfl, by rw [List.length_map]; omega, by rw [List.length_map]; omega, ?_⟩
  rw [hn]
  refine for_range (fun i σ H' => Same H H' ∧ ∃ zs x y z u, σ = [some (.ref a), some (.int wn), some (.ref o), x, y, z, u] ∧ H' o = some (.lst (zRefs zs)) ∧ ZsOk H' zs ∧ zs.map (·.2) = nofs (WB.offersFrom 0 (rows.take i)))
      ⟨same0, [], _, _, _, _, rfl, upd_same, fun _ hz' => (nomatch hz'), rfl⟩ (fun i σ H' hi hP => ?_) (fun σ H' hP => ?_)
  · obtain ⟨same, zs, x0, y0, z0, u0, rfl, hoo, hzs, hmap⟩ := hP
    have hi' : i < as.length := by omega
    obtain ⟨r, hr1, hr2⟩ := paired_get' h2 (List.getElem?_eq_getElem hi')
    have e0 : (0 : Int) + (i : Int) = ((i : Nat) : Int) := by omega
    have ga : atI (as.map V.ref) ((0 : Int) + (i : Int)) = some (.ref as[i]) := by rw [e0]; exact atI_nat (by rw [List.getElem?_map, List.getElem?_eq_getElem hi']; rfl)
    refine ⟨_, rfl, _, rfl, a, _, _, _, rfl, rfl, SqL.of (same _ _ h1), ga, as[i], rfl, ⟨_, SqL.of (same _ _ hr2)⟩, ?_⟩
    refine for_list (xs := iV r) (fun j σ H' => Same H H' ∧ ∃ zs z z5 z6, σ = [some (.ref a), some (.int wn), some (.ref o), some (.int ((0 : Int) + (i : Int))), z, z5, z6] ∧ H' o = some (.lst (zRefs zs)) ∧ ZsOk H' zs ∧
      zs.map (·.2) = nofs (WB.offersFrom 0 (rows.take i) ++ (r.take j).map fun b => (b, i))) ⟨same, zs, _, _, _, rfl, hoo, hzs, ?_⟩ (fun j σ H' hj hP => SqL.of (hP.1 _ _ hr2)) (fun j x σ H' hx hP => ?_) (fun σ H' hP => ?_)
    · rw [hmap]; simp
    · obtain ⟨same3, zs3, z3, z35, z36, rfl, ho3, hzs3, hmap3⟩ := hP
      rw [List.getElem?_map] at hx
      cases hq : r[j]? with
      | none => rw [hq] at hx; cases hx
      | some b =>
        rw [hq] at hx
        have ex : x = .int b := (Option.some.inj hx).symm
        subst ex
        have hjl : j < r.length := (List.getElem?_eq_some_iff.mp hq).1
        have hlz : zs3.length ≤ 1000 := by
          have e := congrArg List.length hmap3
          simp only [List.length_map, List.length_append, List.length_take] at e
          have e2 : (WB.offersFrom 0 (rows.take i)).length ≤ (rows.map List.length).sum := by
            rw [WB.offersFrom_len]
            exact List.sum_take_map_le rows i
          have e3 := hz.all
          have e4 := hz.row (List.mem_of_getElem? hr1)
          omega
        refine ⟨_, rfl, .inl ⟨rfl, _, SqL.of ho3⟩, _, rfl, _, _, rfl, rfl, _, rfl, (by show 2 ≤ sizeLine; decide), fun tt htt => ?_⟩
        have ho4 : (upd H' tt (.tup [.int (0 - b), .int ((0 : Int) + (i : Int))])) o = some (.lst (zRefs zs3)) := by rw [upd_ne (ne_of_none ho3 htt)]; exact ho3
        refine ⟨o, _, .ref tt, rfl, rfl, ho4, by rw [len_zr]; exact small1000 hlz, ?_⟩
        have hso : Same H (upd (upd H' tt (.tup [.int (0 - b), .int ((0 : Int) + (i : Int))])) o (.lst (zRefs zs3 ++ [.ref tt]))) := fun c u hc => by
          rw [upd_ne (ne_of_none hc ho)]; exact (same3.trans (same_upd htt)) c u hc
        refine ⟨hso, zs3 ++ [(tt, (0 - b, (0 : Int) + (i : Int)))], _, _, _, rfl, ?_, fun z hz' => ?_, ?_⟩
        · rw [upd_same]; simp [zRefs]
        · rcases List.mem_append.mp hz' with hz' | hz'
          · have e0 := hzs3 z hz'
            rw [upd_ne (ne_of e0 ho3 (by intro q; cases q)), upd_ne (ne_of_none e0 htt)]; exact e0
          · have e0 : z = (tt, (0 - b, (0 : Int) + (i : Int))) := by simpa using hz'
            subst e0
            rw [upd_ne (Ne.symm (ne_of_none ho3 htt)), upd_same]
        · rw [List.map_append, hmap3, List.take_add_one, hq]
          simp [nofs]
    · obtain ⟨same3, zs3, z3, z35, z36, rfl, ho3, hzs3, hmap3⟩ := hP
      refine ⟨same3, zs3, _, _, _, _, rfl, ho3, hzs3, ?_⟩
      rw [hmap3, offers_snoc2 rows i r hr1 0]
      simp
  obtain ⟨same, zs, x0, y0, z0, u0, rfl, hoo, hzs, hmap⟩ := hP
  rw [List.take_length] at hmap
  have hl64 : zs.length < 64 := by
    have e := congrArg List.length hmap
    simp only [List.length_map] at e
    rw [e, WB.offersFrom_len]; exact hz.all
  refine ⟨(by show 1 ≤ sizeLine; decide), fun l0 hl0 => ?_⟩
  have s2 : Same H' (upd H' l0 (.lst [.int 0])) := same_upd hl0
  refine ⟨_, rfl, a, _, rfl, .inl (SqL.of (s2 _ _ (same _ _ h1))), ?_⟩
  refine ⟨l0, _, _, rfl, rfl, upd_same, by omega, by rw [List.length_map, hlen]; omega, ?_, fun cN hcN => ?_⟩
  · rw [List.length_map, hlen]
    simp only [Int.toNat_natCast, List.length_singleton, Nat.one_mul]
    exact Nat.le_of_lt (small1000 (by omega))
  have s3 := s2.trans (same_upd (o := .lst (List.replicate ((((as.map V.ref).length : Nat) : Int)).toNat [V.int 0]).flatten) hcN)
  refine ⟨_, rfl, o, zs, rfl, SqL.of (s3 _ _ hoo), fun z hz' => s3 _ _ (hzs z hz'), hl64, fun r zs' hr0 hperm hsrt => ?_⟩
  have hmap' := ranked_neg hmap hperm hsrt
  have s4 := s3.trans (same_upd (o := .lst (zRefs zs')) hr0)
  refine ⟨_, rfl, _, rfl, r, _, rfl, SqL.of upd_same, fun sl hsl => ?_⟩
  have s5 := s4.trans (same_upd (o := .lst (zRefs (zs'.take wn.toNat))) hsl)
  rw [cut_take hw, zr_take] at *
  have hcN5 : upd (upd (upd (upd H' l0 (.lst [.int 0])) cN (.lst (List.replicate ((((as.map V.ref).length : Nat) : Int)).toNat [V.int 0]).flatten)) r (.lst (zRefs zs'))) sl (.lst (zRefs (zs'.take wn.toNat))) cN = some (.lst (nV (cntL rows.length []))) := by
    refine same_upd hsl _ _ (same_upd hr0 _ _ ?_)
    rw [upd_same, List.length_map, hlen, cntL_nil, nV_rep, Int.toNat_natCast, rep_flat]
  have hmapT : (zs'.take wn.toNat).map (·.2) = nofs ((WB.ranked rows).take wn.toNat) := by rw [List.map_take, hmap']; simp [nofs, List.map_take]
  have hcf : H cN = none := same.free (s2.free hcN)
  have hzs' : ∀ z ∈ zs', H' z.1 = some (.tup [.int z.2.1, .int z.2.2]) := fun z hz' => hzs z (hperm.mem_iff.mp hz')
  refine ⟨sl, rfl, ⟨_, SqL.of upd_same⟩, ?_⟩
  refine for_list (xs := zRefs (zs'.take wn.toNat)) (fun i σ H2 => Same H H2 ∧ ∃ x, σ = [some (.ref a), some (.int wn), some (.ref o), x0, y0, some (.ref cN), x] ∧ H2 cN = some (.lst (nV (cntL rows.length (((WB.ranked rows).take wn.toNat).take i)))) ∧ H2 sl = some (.lst (zRefs (zs'.take wn.toNat))) ∧ ZsOk H2 (zs'.take wn.toNat))
    ⟨same.trans s5, _, rfl, hcN5, upd_same, fun z hz' => s5 _ _ (hzs' z (List.mem_of_mem_take hz'))⟩ (fun i σ H2 hi hP => SqL.of hP.2.choose_spec.2.2.1) (fun i x σ H2 hx hP => ?_) (fun σ H2 hP => ?_)
  · obtain ⟨sm, x6, rfl, hc', hsl', hzs2⟩ := hP
    unfold zRefs at hx
    rw [List.getElem?_map] at hx
    cases hq : (zs'.take wn.toNat)[i]? with
    | none => rw [hq] at hx; cases hx
    | some z =>
      rw [hq] at hx
      have ex : x = .ref z.1 := (Option.some.inj hx).symm
      subst ex
      obtain ⟨p, hp1, hp2⟩ := nofs_get hmapT hq
      have hpn : p.2 < rows.length := WB.ranked_lt rows p (List.mem_of_mem_take (List.mem_of_getElem? hp1))
      have hzt : H2 z.1 = some (.tup [.int (0 - p.1), .int (p.2 : Int)]) := by
        have e0 := hzs2 z (List.mem_of_getElem? hq)
        rw [hp2] at e0; exact e0
      have hget : atI (nV (cntL rows.length (((WB.ranked rows).take wn.toNat).take i))) (p.2 : Int) = some (.int (((((WB.ranked rows).take wn.toNat).take i).filter (fun y => y.2 == p.2)).length : Nat)) := by
        refine atI_nat ?_
        unfold nV; rw [List.getElem?_map, cntL_get hpn]; rfl
      have hnl : (nV (cntL rows.length (((WB.ranked rows).take wn.toNat).take i))).length = rows.length := by simp [nV, cntL]
      refine ⟨_, rfl, _, rfl, z.1, _, 1, _, rfl, rfl, SqT.of hzt, rfl, cN, _, _, _, rfl, rfl, SqL.of hc', hget, _, _, rfl, rfl, ?_⟩
      refine ⟨_, rfl, _, rfl, z.1, _, 1, _, rfl, rfl, SqT.of hzt, rfl, cN, _, _, p.2, rfl, rfl, hc', ?_, ?_⟩
      · rw [hnl]; unfold ixN; rw [if_pos (by omega), if_pos (by omega)]; simp
      · refine ⟨fun b u e => ?_, _, rfl, ?_, ?_, fun y hy => ?_⟩
        · rw [upd_ne (ne_of_none e hcf)]; exact sm b u e
        · rw [upd_same, List.take_add_one, hp1]
          show _ = some (HO.lst (nV (cntL rows.length (_ ++ [p]))))
          rw [cntL_snoc hpn, nV_set]
          simp
        · rw [upd_ne (ne_of hsl' hc' ?_)]
          · exact hsl'
          · intro q
            have := HO.lst.inj q
            have h0 : (zRefs (zs'.take wn.toNat))[i]? = some (.ref z.1) := by unfold zRefs; rw [List.getElem?_map, hq]; rfl
            rw [this] at h0
            unfold nV at h0
            rw [List.getElem?_map] at h0
            cases y : (cntL rows.length (((WB.ranked rows).take wn.toNat).take i))[i]? with
            | none => rw [y] at h0; cases h0
            | some m => rw [y] at h0; cases h0
        · have e0 := hzs2 y hy
          rw [upd_ne (ne_of e0 hc' (by intro q; cases q))]; exact e0
  · obtain ⟨sm, x6, rfl, hc', hsl', hzs2⟩ := hP
    refine ⟨_, rfl, q cN H2 sm hcf ?_⟩
    have e : (zRefs (zs'.take wn.toNat)).length = ((WB.ranked rows).take wn.toNat).length := by
      have := congrArg List.length hmapT
      rw [len_zr]; simpa using this
    rw [e, List.take_length] at hc'
    exact hc'

theorem scSo : FnScope ["_law_found", "_law_due", "_law_todo", "_law_one", "_law_other", "_law_k"] ["_law_found", "_law_due"] (defScope sLawSo) := ⟨rfl, rfl, rfl, by decide +kernel, rfl, by decide +kernel, by decide +kernel⟩
abbrev Zq := Addr × V × V × Nat
def qRefs (zs : List Zq) : List V := zs.map fun z => V.ref z.1
def QOk (H0 H : Hp) (zs : List Zq) : Prop := ∀ z ∈ zs, H z.1 = some (.tup [z.2.1, z.2.2.1]) ∧ ∃ d, Alk H0 d z.2.1 z.2.2.1 z.2.2.2
def qSum (zs : List Zq) : Nat := (zs.map fun z => z.2.2.2).sum
theorem q_len {H0 H : Hp} : ∀ {zs : List Zq}, QOk H0 H zs → zs.length ≤ qSum zs
  | [], _ => Nat.le_refl _
  | z :: zs, h => by
    obtain ⟨_, d, hd⟩ := h z List.mem_cons_self
    have := hd.pos
    have := q_len (zs := zs) fun y hy => h y (List.mem_cons_of_mem _ hy)
    unfold qSum at this ⊢
    simp only [List.map_cons, List.sum_cons, List.length_cons]; omega
theorem qSum_snoc (zs : List Zq) (z : Zq) : qSum (zs ++ [z]) = qSum zs + z.2.2.2 := by unfold qSum; simp
theorem qRefs_snoc (zs : List Zq) (z : Zq) : qRefs (zs ++ [z]) = qRefs zs ++ [.ref z.1] := by unfold qRefs; simp
theorem ok_so (F : Fun K "_law_so" "_law_so" sLawSo f fd) (mi : mg "isinstance" = none) (mli : mg "list" = none) (mt : mg "tuple" = none) (mst : mg "str" = none) (mb : mg "bool" = none) (mint : mg "int" = none) (ml : mg "len" = none) (mr : mg "range" = none) : FnOk P w K mg base CX0 1 f fd ["_law_found", "_law_due"] spSo := by
  refine F.ok (k := 0) scSo (fun vs H Q E h => ?_) (fun cdv A outer s H vs Q E hr h => ?_)
  · obtain ⟨x, y, d, n, rfl, _⟩ := h
    rfl
  obtain ⟨x, y, d, n, rfl, hal, h900, q⟩ := h
  have hu := hr.units0
  refine ⟨_, pss_cons (ps_set (i := 2) scSo.nd rfl (Or.inl rfl) (pe_lst (pa_cons (pe_tup (pa_cons (pv 0) (pa_cons (pv 1) pa_nil))) pa_nil)))
    (pss_cons (ps_while PassesOwn.never (pt_cmpR (op_neNil hu) (pv 2) (pe_lst pa_nil) (nomark _))
      (pss_cons (ps_asg (pe_bm0 PySem.F.plainAttrs_list PySem.F.slot_list_pop rfl mt_pop (pv 2)) (pg_tup rfl (pgs_cons (pg_name (i := 3) scSo.nd rfl (Or.inl rfl)) (pgs_cons (pg_name (i := 4) scSo.nd rfl (Or.inl rfl)) pgs_nil))))
      (pss_one (ps_if (pt_val (pe_callB call_isinst2 rfl mi PyProof.Rows.boot_isinstance (pa_cons (pv 4) (pa_cons (pe_tup (pa_cons (pe_bltn (v := .ty "list") rfl mli PyProof.Rows.boot_list rfl) (pa_cons (pe_bltn (v := .ty "tuple") rfl mt PyProof.Rows.boot_tuple rfl) pa_nil))) pa_nil))))
        (pss_cons (ps_if (pt_cmpR op_ne (pe_callB call_isinst rfl mi PyProof.Rows.boot_isinstance (pa_cons (pv 3) (pa_cons (pe_bltn (v := .ty "list") rfl mli PyProof.Rows.boot_list rfl) pa_nil))) (pe_callB call_isinst rfl mi PyProof.Rows.boot_isinstance (pa_cons (pv 4) (pa_cons (pe_bltn (v := .ty "list") rfl mli PyProof.Rows.boot_list rfl) pa_nil))) (nomark _)) pss_never pss_nil)
        (pss_cons (ps_if (pt_cmpR op_ne (pe_callB call_isinst rfl mi PyProof.Rows.boot_isinstance (pa_cons (pv 3) (pa_cons (pe_bltn (v := .ty "tuple") rfl mt PyProof.Rows.boot_tuple rfl) pa_nil))) (pe_callB call_isinst rfl mi PyProof.Rows.boot_isinstance (pa_cons (pv 4) (pa_cons (pe_bltn (v := .ty "tuple") rfl mt PyProof.Rows.boot_tuple rfl) pa_nil))) (nomark _)) pss_never pss_nil)
        (pss_cons (ps_if (pt_cmpR op_ne (pe_callB call_len_seq rfl ml PySem.boot_len (pa_cons (pv 3) pa_nil)) (pe_callB call_len_seq rfl ml PySem.boot_len (pa_cons (pv 4) pa_nil)) (nomark _)) pss_never pss_nil)
        (pss_one (ps_for PassesOwn.never rfl (pi_range1 rfl mr (pa_cons (pe_callB call_len_seq rfl ml PySem.boot_len (pa_cons (pv 4) pa_nil)) pa_nil)) (pg_name (i := 5) scSo.nd rfl (Or.inl rfl))
          (pss_one (ps_expr (pe_bm PySem.F.plainAttrs_list PySem.F.slot_list_append rfl mt_append (pv 2) (pa_cons (pe_tup (pa_cons (pe_ix ix_list (pv 3) (pv 5) (fun _ _ => rfl)) (pa_cons (pe_ix ix_list (pv 4) (pv 5) (fun _ _ => rfl)) pa_nil))) pa_nil)))))))))
        (pss_one (ps_if (pt_val (pe_callB call_isinst rfl mi PyProof.Rows.boot_isinstance (pa_cons (pv 4) (pa_cons (pe_bltn (v := .ty "str") rfl mst PyProof.Rows.boot_str rfl) pa_nil)))) pss_never
          (pss_one (ps_if (pt_val (pe_callB call_isinst rfl mi PyProof.Rows.boot_isinstance (pa_cons (pv 4) (pa_cons (pe_bltn (v := .ty "bool") rfl mb PyProof.Rows.boot_bool rfl) pa_nil)))) pss_never
            (pss_one (ps_if (pt_cmpR op_isN (pv 4) pe_non (nomark _)) pss_never
              (pss_one (ps_if (PW.pt (pw_or (pt_not (pt_val (pe_callB call_isinst rfl mi PyProof.Rows.boot_isinstance (pa_cons (pv 3) (pa_cons (pe_bltn (v := .ty "int") rfl mint PyProof.Rows.boot_int rfl) pa_nil)))))
                (pw_or (pt_val (pe_callB call_isinst rfl mi PyProof.Rows.boot_isinstance (pa_cons (pv 3) (pa_cons (pe_bltn (v := .ty "bool") rfl mb PyProof.Rows.boot_bool rfl) pa_nil)))) (pw_or1 (pt_cmpR op_ne (pv 3) (pv 4) (nomark _)))))) pss_never pss_nil))))))))))))
    (pss_one (ps_ret pe_bl))), ?_⟩
  refine ⟨_, rfl, _, rfl, (by show 2 ≤ sizeLine; decide), fun t0 ht0 => ⟨(by show 1 ≤ sizeLine; decide), fun TD hTD => ?_⟩⟩
  have s1 := (same_upd (o := .tup [x, y]) ht0).trans (same_upd (o := .lst [.ref t0]) hTD)
  have hTf : H TD = none := (same_upd (o := .tup [x, y]) ht0).free hTD
  refine ⟨fun m σ H' => Same H H' ∧ ∃ zs x3 x4 x5, σ = [some x, some y, some (.ref TD), x3, x4, x5] ∧ H' TD = some (.lst (qRefs zs)) ∧ QOk H H' zs ∧ qSum zs = m ∧ m ≤ 900, ⟨n, s1, [(t0, x, y, n)], _, _, _, rfl, upd_same, fun z hz => ?_, by simp [qSum], h900⟩, ?_⟩
  · have e : z = (t0, x, y, n) := by simpa using hz
    subst e
    exact ⟨(same_upd (o := .lst [.ref t0]) hTD) _ _ upd_same, d, hal⟩
  rintro m σ H' ⟨same, zs, x3, x4, x5, rfl, hT', hQ, hsum, hm⟩
  refine ⟨_, rfl, (by show 0 ≤ sizeLine; decide), fun e he => ?_⟩
  have s2 := same_upd (o := .lst ([] : List V)) he
  refine ⟨TD, e, _, rfl, rfl, SqL.of (s2 _ _ hT'), SqL.of upd_same, _, rfl, ?_⟩
  rcases List.eq_nil_or_concat zs with hz | ⟨init, z, hz⟩
  · subst hz
    exact tF rfl (q _ (same.trans s2))
  rw [List.concat_eq_append] at hz
  subst hz
  have hne : (!(qRefs (init ++ [z])).isEmpty) = true := by rw [qRefs_snoc]; simp
  refine tT hne ?_
  have same2 := same.trans s2
  have hT2 := s2 _ _ hT'
  have hQ2 : QOk H (upd H' e (.lst [])) (init ++ [z]) := fun y hy => ⟨s2 _ _ (hQ y hy).1, (hQ y hy).2⟩
  generalize upd H' e (.lst []) = H2 at same2 hT2 hQ2
  rw [qRefs_snoc] at hT2
  rw [qSum_snoc] at hsum
  obtain ⟨hz1, dz, hzal⟩ := hQ2 z (by simp)
  have hQi : QOk H H2 init := fun y hy => hQ2 y (List.mem_append_left _ hy)
  have hli := q_len hQi
  refine ⟨fun σ' H'' => Same H H'' ∧ ∃ zs x3 x4 x5, σ' = [some x, some y, some (.ref TD), x3, x4, x5] ∧ H'' TD = some (.lst (qRefs zs)) ∧ QOk H H'' zs ∧ qSum zs < m, fun σ' H'' hh => ?_, ?_⟩
  · obtain ⟨h1, zs, x3, x4, x5, h2, h3, h4, h5⟩ := hh
    exact ⟨qSum zs, h5, h1, zs, x3, x4, x5, h2, h3, h4, rfl, by omega⟩
  have hlast : (qRefs init ++ [V.ref z.1])[(qRefs init ++ [V.ref z.1]).length - 1]? = some (.ref z.1) := by simp
  refine ⟨_, rfl, .inl ⟨rfl, _, SqL.of hT2⟩, TD, _, _, rfl, rfl, hT2, hlast, ?_⟩
  rw [List.dropLast_concat]
  have nz : z.1 ≠ TD := ne_of hz1 hT2 (by intro w; cases w)
  have hz3 : upd H2 TD (.lst (qRefs init)) z.1 = some (.tup [z.2.1, z.2.2.1]) := by rw [upd_ne nz]; exact hz1
  have same3 : Same H (upd H2 TD (.lst (qRefs init))) := fun b o eb => by rw [upd_ne (ne_of_none eb hTf)]; exact same2 _ _ eb
  have hQ3 : QOk H (upd H2 TD (.lst (qRefs init))) init := fun y hy => ⟨by rw [upd_ne (ne_of (hQi y hy).1 hT2 (by intro w; cases w))]; exact (hQi y hy).1, (hQi y hy).2⟩
  have hT3 : upd H2 TD (.lst (qRefs init)) TD = some (.lst (qRefs init)) := upd_same
  generalize upd H2 TD (.lst (qRefs init)) = H3 at hz3 same3 hQ3 hT3
  refine ⟨z.1, _, rfl, SqT.of hz3, rfl, _, _, rfl, _, _, rfl, rfl, ?_⟩
  refine ⟨_, rfl, (by show 2 ≤ sizeLine; decide), fun tp htp => ?_⟩
  have s4 := same_upd (o := .tup [.ty "list", .ty "tuple"]) htp
  have same4 := same3.trans s4
  have hT4 := s4 _ _ hT3
  have hQ4 : QOk H (upd H3 tp (.tup [.ty "list", .ty "tuple"])) init := fun y hy => ⟨s4 _ _ (hQ3 y hy).1, (hQ3 y hy).2⟩
  have htp4 : upd H3 tp (.tup [.ty "list", .ty "tuple"]) tp = some (.tup (["list", "tuple"].map V.ty)) := upd_same
  generalize upd H3 tp (.tup [.ty "list", .ty "tuple"]) = H4 at same4 hT4 hQ4 htp4
  rcases hzal.cases with ⟨i, e1, e2, e3⟩ | ⟨d', a, b, xs, ys, ss, e1, e2, ha, hb, hlen, hls, hall, e3⟩
  · -- two ints
    rw [e1, e2]
    refine ⟨_, tp, _, _, false, rfl, htp4, .inl ⟨i, rfl, rfl⟩, rfl, false, rfl, tF rfl ?_⟩
    refine ⟨_, rfl, _, _, _, _, rfl, .int i, (rfl : PySem.W.kitOne K (.type "int") (.type "str") = some false), false, rfl, tF rfl ?_⟩
    refine ⟨_, rfl, _, _, _, _, rfl, .int i, (rfl : PySem.W.kitOne K (.type "int") (.type "bool") = some false), false, rfl, tF rfl ?_⟩
    refine ⟨_, rfl, rfl, _, rfl, tF rfl ?_⟩
    refine ⟨_, rfl, _, _, _, _, rfl, .int i, (rfl : PySem.W.kitOne K (.type "int") (.type "int") = some true), true, rfl, tF rfl ?_⟩
    refine ⟨_, rfl, _, _, _, _, rfl, .int i, (rfl : PySem.W.kitOne K (.type "int") (.type "bool") = some false), false, rfl, tF rfl ?_⟩
    refine ⟨_, rfl, _, rfl, rfl, _, rfl, tF (by simp) ?_⟩
    exact ⟨same4, init, _, _, _, rfl, hT4, hQ4, by omega⟩
  · -- two lists
    rw [e1, e2]
    have ha4 := same4 _ _ ha
    have hb4 := same4 _ _ hb
    refine ⟨_, tp, _, _, true, rfl, htp4, .inr ⟨b, ys, rfl, hb4, rfl⟩, rfl, true, rfl, tT rfl ?_⟩
    refine ⟨_, rfl, _, _, _, _, rfl, .lst ha4, (rfl : PySem.W.kitOne K (.type "list") (.type "list") = some true), _, rfl, _, _, _, _, rfl, .lst hb4, (rfl : PySem.W.kitOne K (.type "list") (.type "list") = some true), rfl, _, rfl, tF (by simp) ?_⟩
    refine ⟨_, rfl, _, _, _, _, rfl, .lst ha4, (rfl : PySem.W.kitOne K (.type "list") (.type "tuple") = some false), _, rfl, _, _, _, _, rfl, .lst hb4, (rfl : PySem.W.kitOne K (.type "list") (.type "tuple") = some false), rfl, _, rfl, tF (by simp) ?_⟩
    refine ⟨_, rfl, a, _, rfl, .inl (SqL.of ha4), _, rfl, b, _, rfl, .inl (SqL.of hb4), rfl, _, rfl, tF (by simp [hlen]) ?_⟩
    have hys : ys.length ≤ 900 := by
      have : ∀ {l : List Nat}, (∀ s ∈ l, 1 ≤ s) → l.length ≤ l.sum := by
        intro l
        induction l with
        | nil => intro _; simp
        | cons s l ih =>
          intro h
          have h1 := h s List.mem_cons_self
          have h2 := ih fun s' hs' => h s' (List.mem_cons_of_mem _ hs')
          simp only [List.length_cons, List.sum_cons]; omega
      have h1 : ss.length ≤ ss.sum := this fun s hs => by
        obtain ⟨i, hi, hsi⟩ := List.mem_iff_getElem.mp hs
        exact (hall i (xs[i]'(by omega)) (ys[i]'(by omega)) s (List.getElem?_eq_getElem _) (List.getElem?_eq_getElem _) (by rw [← hsi]; exact List.getElem?_eq_getElem hi)).pos
      omega
    refine ⟨_, rfl, b, _, rfl, .inl (SqL.of hb4), _, rfl, by omega, by omega, ?_⟩
    have hn : (((ys.length : Nat) : Int)).toNat = ys.length := by simp
    rw [hn]
    refine for_range (fun j σ H5 => Same H H5 ∧ ∃ zs x5, σ = [some x, some y, some (.ref TD), some (.ref a), some (.ref b), x5] ∧ H5 TD = some (.lst (qRefs zs)) ∧ QOk H H5 zs ∧ qSum zs = qSum init + (ss.take j).sum)
      ⟨same4, init, _, rfl, hT4, hQ4, by simp⟩ (fun j σ H5 hj hP => ?_) (fun σ H5 hP => ?_)
    · obtain ⟨same5, zs5, y5, rfl, hT5, hQ5, hs5⟩ := hP
      have e0 : (0 : Int) + (j : Int) = ((j : Nat) : Int) := by omega
      have hjx : j < xs.length := by omega
      have hjs : j < ss.length := by omega
      have gx : atI xs ((0 : Int) + (j : Int)) = some xs[j] := by rw [e0]; exact atI_nat (List.getElem?_eq_getElem hjx)
      have gy : atI ys ((0 : Int) + (j : Int)) = some ys[j] := by rw [e0]; exact atI_nat (List.getElem?_eq_getElem hj)
      have hal5 := hall j xs[j] ys[j] ss[j] (List.getElem?_eq_getElem hjx) (List.getElem?_eq_getElem hj) (List.getElem?_eq_getElem hjs)
      refine ⟨_, rfl, .inl ⟨rfl, _, SqL.of hT5⟩, _, rfl, _, rfl, a, _, _, _, rfl, rfl, SqL.of (same5 _ _ ha), gx, _, rfl, _, rfl, b, _, _, _, rfl, rfl, SqL.of (same5 _ _ hb), gy, (by show 2 ≤ sizeLine; decide), fun tt htt => ?_⟩
      have s6 := same_upd (o := .tup [xs[j], ys[j]]) htt
      have hl5 := q_len hQ5
      have hst : (ss.take j).sum ≤ ss.sum := by
        conv => rhs; rw [← List.take_append_drop j ss, List.sum_append]
        omega
      refine ⟨TD, _, _, rfl, rfl, s6 _ _ hT5, ?_, fun c o eb => ?_, zs5 ++ [(tt, xs[j], ys[j], ss[j])], _, rfl, ?_, fun z' hz' => ?_, ?_⟩
      · unfold qRefs; rw [List.length_map]; exact small1000 (by omega)
      · rw [upd_ne (ne_of_none eb hTf)]; exact s6 _ _ (same5 _ _ eb)
      · rw [upd_same, qRefs_snoc]
      · rcases List.mem_append.mp hz' with h | h
        · refine ⟨?_, (hQ5 z' h).2⟩
          rw [upd_ne (ne_of (s6 _ _ (hQ5 z' h).1) (s6 _ _ hT5) (by intro w; cases w))]; exact s6 _ _ (hQ5 z' h).1
        · rw [List.mem_singleton.mp h]
          refine ⟨?_, d', hal5⟩
          rw [upd_ne (Ne.symm (ne_of_none hT5 htt)), upd_same]
      · rw [qSum_snoc, hs5, List.take_add_one, List.getElem?_eq_getElem hjs, Option.toList_some, List.sum_append]
        simp
        omega
    · obtain ⟨same5, zs5, y5, rfl, hT5, hQ5, hs5⟩ := hP
      refine ⟨same5, zs5, _, _, _, rfl, hT5, hQ5, ?_⟩
      rw [← hls, List.take_length] at hs5
      omega

theorem scGains : FnScope ["bids", "wares", "values", "counts", "prices"] ["bids", "wares", "values"] (defScope sGains) := ⟨rfl, rfl, rfl, by decide +kernel, rfl, by decide +kernel, by decide +kernel⟩
theorem ok_gains (F : Fun K "gains" "gains" sGains f fd) (cD : Cal P w K mg base 6 "dealt" ["bids", "wares"] (spDealt T)) (cP : Cal P w K mg base 8 "paid" ["bids", "wares"] (spPaid T)) (cW : Cal P w K mg base 1 "worth" ["bids", "counts"] spWorth) (mz : mg "zip" = none) :
    FnOk P w K mg base CX0 9 f fd ["bids", "wares", "values"] (spGains T) := by
  refine F.ok (k := 8) scGains (fun vs H Q E h => ?_) (fun cdv A outer s H vs Q E hr h => ?_)
  · obtain ⟨a, v, wn, rows, vrows, rfl, _⟩ := h
    rfl
  obtain ⟨a, v, wn, rows, vrows, rfl, hL, hz, good, hw, hV, hvl, tok, q⟩ := h
  refine ⟨_, pss_cons (ps_set (i := 3) scGains.nd rfl (Or.inl rfl) (pe_cal cD hr (by decide) rfl (pa_cons (pv 0) (pa_cons (pv 1) pa_nil))))
    (pss_cons (ps_set (i := 4) scGains.nd rfl (Or.inl rfl) (pe_cal cP hr (by decide) rfl (pa_cons (pv 0) (pa_cons (pv 1) pa_nil))))
    (pss_one (ps_ret (pe_lc (N' := ["row", "count", "price"]) (fr := []) (g := gTup K 3 (gCons (gName 0) (gCons (gName 1) (gCons (gName 2) gNil)))) (te := tOp (rI0 fun i j => .int (i - j)) (tCall spWorth [] E0 (tCons (tLst (tCons (tVar 0) tNil)) (tCons (tLst (tCons (tVar 1) tNil)) tNil))) (tVar 2)) rfl ⟨rfl, by decide +kernel, by decide +kernel, rfl, rfl⟩
      (pi_zip3 rfl mz (pa_cons (pv 2) (pa_cons (pv 3) (pa_cons (pv 4) pa_nil))))
      (fun cl C s₂ H₂ fp => pg_tup rfl (pgs_cons (pg_name (i := 0) (show (["row", "count", "price"] : List Str).Nodup by decide +kernel) rfl (Or.inl rfl)) (pgs_cons (pg_name (i := 1) (show (["row", "count", "price"] : List Str).Nodup by decide +kernel) rfl (Or.inl rfl)) (pgs_cons (pg_name (i := 2) (show (["row", "count", "price"] : List Str).Nodup by decide +kernel) rfl (Or.inl rfl)) pgs_nil))))
      (fun cl C s₂ H₂ fp => pe_op op_sub (pe_cal cW hr (by decide) rfl (pa_cons (pe_lst (pa_cons (pv 0) pa_nil)) (pa_cons (pe_lst (pa_cons (pv 1) pa_nil)) pa_nil))) (pv 2)))))), ?_⟩
  have few := hz.few
  have dl := WB.dealt_len rows wn.toNat
  have lp := prices_len rows wn.toNat
  refine ⟨_, rfl, _, rfl, a, wn, rows, rfl, hL, hz, good, hw, tok, fun c H1 k1 hc hc1 => ?_⟩
  have tok1 := k1.tab tok
  refine ⟨_, rfl, _, rfl, a, wn, rows, rfl, hL.kp k1 tok, hz, good, hw, tok1, fun p H2 k2 hp hp2 => ?_⟩
  have tok2 := k2.tab tok1
  have k02 := k1.trans k2
  obtain ⟨vs', v1, v2⟩ := hV.kp k02 tok
  have lv : vs'.length = vrows.length := v2.length
  have hc2 := k2.lst tok1 hc1
  refine ⟨_, rfl, _, rfl, _, rfl, v, c, p, _, _, _, rfl, v1, hc2, hp2, ?_⟩
  refine lcw rows.length (fun D i ys H' => Same H2 H' ∧ H2 D = none ∧ H' D = some (.lst ys) ∧ ys = iV ((List.range i).map (gainAt rows vrows wn.toNat))) (fun D hD => ⟨same_upd hD, hD, upd_same, rfl⟩) (fun D i ys H' hi hP => ?_) (fun D i ys H' hi hP x H3 hy => ?_) (fun D ys H' hP => ?_)
  · obtain ⟨same, hD, hD', rfl⟩ := hP
    refine ⟨hD', by rw [List.length_map, List.length_map, List.length_range]; omega, fun hlt => ?_, fun e => ⟨_, _, _, same _ _ v1, same _ _ hc2, same _ _ hp2, by rw [List.length_map]; omega⟩⟩
    exact ⟨_, _, _, .ref (vs'[i]'(by omega)), _, _, same _ _ v1, same _ _ hc2, same _ _ hp2, by rw [List.getElem?_map, List.getElem?_eq_getElem (by omega)]; rfl, counts_get hlt, prices_get hlt⟩
  · obtain ⟨same, hD, hD', rfl⟩ := hP
    obtain ⟨t, x1, x2, x3, ht, rfl, rfl, hx1, hx2, hx3⟩ := hy
    have hi' : i < vs'.length := by omega
    have h1' := hx1 _ (same _ _ v1)
    have h2' := hx2 _ (same _ _ hc2)
    have h3' := hx3 _ (same _ _ hp2)
    rw [List.getElem?_map, List.getElem?_eq_getElem hi'] at h1'
    rw [counts_get hi] at h2'
    rw [prices_get hi] at h3'
    have e1 : x1 = .ref vs'[i] := (Option.some.inj h1').symm
    have e2 := (Option.some.inj h2').symm
    have e3 := (Option.some.inj h3').symm
    subst e1 e2 e3
    obtain ⟨r, r1, r2⟩ := paired_get' v2 (List.getElem?_eq_getElem hi')
    have er := row_of r1
    have sT := same_upd (o := .tup [.ref vs'[i], .int ((WB.cnt rows wn.toNat i : Nat) : Int), .int (WB.price rows wn.toNat i)]) ht
    refine ⟨t, _, rfl, SqT.of upd_same, rfl, _, _, rfl, _, _, rfl, _, _, rfl, rfl, (((Held.refl _).set rfl).set rfl).set rfl, ?_⟩
    refine ⟨_, rfl, (by show 1 ≤ sizeLine; decide), fun l1 hl1 => ?_⟩
    have s1 := same_upd (o := .lst [.ref vs'[i]]) hl1
    refine ⟨_, rfl, (by show 1 ≤ sizeLine; decide), fun l2 hl2 => ?_⟩
    have s2 := same_upd (o := .lst [.int ((WB.cnt rows wn.toNat i : Nat) : Int)]) hl2
    have sA := (sT.trans s1).trans s2
    refine ⟨l1, l2, [r], [WB.cnt rows wn.toNat i], rfl, ⟨[vs'[i]], s2 _ _ upd_same, .cons (sA _ _ (same _ _ r2)) .nil⟩, upd_same, rfl, by simp, fun H5 s5 => ?_⟩
    refine ⟨_, rfl, _, _, rfl, rfl, s5 _ _ (sA _ _ hD'), ?_, hD, upd_same, ?_⟩
    · exact fun b o e => by rw [upd_ne (ne_of_none e hD)]; exact s5 _ _ (sA _ _ (same b o e))
    · rw [List.range_succ, List.map_append]
      unfold iV
      rw [List.map_append]
      have eg : gainAt rows vrows wn.toNat i = WB.val [r] [WB.cnt rows wn.toNat i] - WB.price rows wn.toNat i := by unfold gainAt; rw [er, val_one]
      simp only [List.map_cons, List.map_nil, eg]
  · obtain ⟨same, hD, hD', rfl⟩ := hP
    exact q D H' (k02.trans (Same.kp same)) (k02.free tok hD) hD'

section
variable {C1 C2 : Addr}
theorem ok_refuse_rowX (F : Fun K "refuse_row" "refuse_row" sRefuseRow f fd) (me : mg "enumerate" = none) (mC : mg "NoBid" = some (.ref C1)) (kC : ExcK K C1) : FnOk P w K mg base (CXe P w) 1 f fd ["row"] (spRowX C1) := by
  refine F.okX (k := 0) scRefuseRow (fun vs H Q E h => ?_) (fun cdv A outer s H vs Q E hr h => ?_)
  · obtain ⟨p, r, rfl, _⟩ := h
    rfl
  obtain ⟨p, r, rfl, hp, hz, hgood, hbad⟩ := h
  refine ⟨_, pss_one (ps_for ownX rfl (pi_enum rfl me (pa_cons (pv 0) pa_nil)) (pg_tup rfl (pgs_cons (pg_name (i := 1) scRefuseRow.nd rfl (Or.inl rfl)) (pgs_cons (pg_name (i := 2) scRefuseRow.nd rfl (Or.inl rfl)) pgs_nil)))
    (pss_cons (ps_if (pt_cmpR op_lt (pv 2) pe_int (nomark _)) (pss_one (ps_raise rfl rfl rfl mC kC flies)) pss_nil)
      (pss_one (ps_if (PW.pt (pw_and (pt_cmpR op_gt (pv 1) pe_int (nomark _)) (pw_and1 (pt_cmpR op_gt (pv 2) (pe_ix ix_list (pv 0) (pe_op op_sub (pv 1) pe_int) (fun _ _ => rfl)) (nomark _))))) (pss_one (ps_raise rfl rfl rfl mC kC flies)) pss_nil)))), ?_⟩
  refine ⟨_, rfl, p, _, rfl, SqL.of hp, ?_⟩
  refine forw r.length (fun i σ H' => Same H H' ∧ GoodRow (r.take i) ∧ ∃ x y, σ = [some (.ref p), x, y]) ⟨Same.refl H, ⟨fun x hx => (by simp at hx), by simp⟩, _, _, rfl⟩ (fun i σ H' hi hP => ?_) (fun i σ H' hi hP x H2 hy => ?_) (fun σ H' hP => hgood (by have := hP.2.1; rwa [List.take_length] at this) H' hP.1)
  · refine ⟨fun hlt => ⟨_, .int r[i], SqL.of (hP.1 _ _ hp), by simp [hlt]⟩, fun e => ⟨_, SqL.of (hP.1 _ _ hp), by rw [List.length_map]; omega⟩⟩
  · obtain ⟨same, hpre, x0, y0, rfl⟩ := hP
    obtain ⟨t, v, ht, rfl, rfl, hv⟩ := hy
    have hv' := hv _ (SqL.of (same _ _ hp))
    rw [List.getElem?_map, List.getElem?_eq_getElem hi] at hv'
    have ev : v = .int r[i] := (Option.some.inj hv').symm
    subst ev
    have same2 : Same H (upd H' t (.tup [.int (i : Nat), .int r[i]])) := same.trans (same_upd ht)
    refine ⟨t, _, rfl, SqT.of upd_same, rfl, _, _, rfl, _, _, rfl, rfl, ?_⟩
    refine ⟨_, rfl, _, _, rfl, rfl, _, rfl, ?_⟩
    by_cases hn : r[i] < 0
    · refine tT (dT hn) ?_
      exact hbad (fun g => by have := good_nn g hi; omega) _ same2
    refine tF (dF hn) ?_
    refine ⟨_, rfl, _, _, rfl, rfl, _, rfl, ?_⟩
    by_cases h0 : (0 : Int) < (i : Int)
    · refine tT (dT h0) ?_
      have hi1 : i - 1 < r.length := by omega
      have hat : atI (iV r) ((i : Int) - 1) = some (.int r[i - 1]) := by
        have e : ((i : Int) - 1) = ((i - 1 : Nat) : Int) := by omega
        rw [e]; exact atI_nat (by rw [List.getElem?_map, List.getElem?_eq_getElem hi1]; rfl)
      refine ⟨_, rfl, _, rfl, _, rfl, _, _, rfl, rfl, p, _, _, _, rfl, rfl, SqL.of (same2 _ _ hp), hat, _, _, rfl, rfl, _, rfl, ?_⟩
      by_cases hle : r[i - 1] < r[i]
      · refine tT (dT hle) ?_
        exact hbad (fun g => by have := good_adj g hi hi1 (by omega); omega) _ same2
      · refine tF (dF hle) ⟨same2, good_next hi hpre (by omega) (fun j hj e => ?_), _, _, rfl⟩
        have ej : j = i - 1 := by omega
        subst ej; omega
    · exact tF (dF h0) (tF rfl ⟨same2, good_next hi hpre (by omega) (fun j hj e => by omega), _, _, rfl⟩)
theorem ok_refuseX (F : Fun K "refuse" "refuse" sRefuse f fd) (cR : CalX P w K mg base 1 "refuse_row" ["row"] (spRowX C1)) (mC : mg "NoWares" = some (.ref C2)) (kC : ExcK K C2) :
    FnOk P w K mg base (CXe P w) 2 f fd ["bids", "wares"] (spX2 C1 C2) := by
  refine F.okX (k := 1) scRefuse (fun vs H Q E h => ?_) (fun cdv A outer s H vs Q E hr h => ?_)
  · obtain ⟨a, wn, rows, rfl, _⟩ := h
    rfl
  obtain ⟨a, wn, rows, rfl, hL, hz, b, hb, he⟩ := h
  refine ⟨_, pss_cons (ps_for ownX rfl (pi_list (pv 0)) (pg_name (i := 2) scRefuse.nd rfl (Or.inl rfl)) (pss_one (ps_expr (pe_calX cR hr (by decide) rfl passX (pa_cons (pv 2) pa_nil)))))
    (pss_one (ps_if (pt_cmpR op_lt (pv 1) pe_int (nomark _)) (pss_one (ps_raise rfl rfl rfl mC kC flies)) pss_nil)), ?_⟩
  obtain ⟨as, h1, h2⟩ := hL
  have hlen : as.length = rows.length := h2.length
  refine ⟨_, rfl, a, rfl, ⟨_, SqL.of h1⟩, ?_⟩
  refine for_list (xs := as.map V.ref) (fun i σ H' => Same H H' ∧ (∀ r ∈ rows.take i, GoodRow r) ∧ ∃ x, σ = [some (.ref a), some (.int wn), x]) ⟨Same.refl H, fun r hr => (by simp at hr), _, rfl⟩ (fun i σ H' hi hP => SqL.of (hP.1 _ _ h1)) (fun i x σ H' hx hP => ?_) (fun σ H' hP => ?_)
  · obtain ⟨same, hpre, x0, rfl⟩ := hP
    rw [List.getElem?_map] at hx
    cases hq : as[i]? with
    | none => rw [hq] at hx; cases hx
    | some p =>
      rw [hq] at hx
      have ex : x = .ref p := (Option.some.inj hx).symm
      subst ex
      obtain ⟨r, hr1, hr2⟩ := paired_get' h2 hq
      have hm : r ∈ rows := List.mem_of_getElem? hr1
      refine ⟨_, rfl, p, r, rfl, same _ _ hr2, by have := hz.row r hm; omega, fun g H2 s2 => ⟨same.trans s2, fun z hz' => ?_, _, rfl⟩, fun g H2 s2 => ?_⟩
      · rw [List.take_add_one, hr1, Option.toList_some] at hz'
        rcases List.mem_append.mp hz' with h | h
        · exact hpre z h
        · rw [List.mem_singleton.mp h]; exact g
      · cases b with
        | true => exact he _ (same.trans s2)
        | false => exact absurd (hb.1 r hm) g
  · obtain ⟨same, hpre, x0, rfl⟩ := hP
    rw [List.length_map, hlen, List.take_length] at hpre
    refine ⟨_, rfl, _, _, rfl, rfl, _, rfl, ?_⟩
    cases b with
    | true =>
      obtain ⟨r, hr, ng⟩ := hb
      exact absurd (hpre r hr) ng
    | false => exact tT (dT hb.2) (he _ same)
theorem ok_dealtX (F : Fun K "dealt" "dealt" sDealt f fd) (cR : CalX P w K mg base 2 "refuse" ["bids", "wares"] (spX2 C1 C2)) : FnOk P w K mg base (CXe P w) 3 f fd ["bids", "wares"] (spX2 C1 C2) := by
  refine F.okX (k := 2) scDealt (fun vs H Q E h => ?_) (fun cdv A outer s H vs Q E hr h => ?_)
  · obtain ⟨a, wn, rows, rfl, _⟩ := h
    rfl
  obtain ⟨a, wn, rows, rfl, h⟩ := h
  exact ⟨_, pss_cons (ps_expr (pe_calX cR hr (by decide) rfl passX (pa_cons (pv 0) (pa_cons (pv 1) pa_nil)))) pss_never, _, rfl, _, rfl, a, wn, rows, rfl, h⟩
theorem ok_firstX (F : Fun K "first_left" "first_left" sFirstLeft f fd) (cR : CalX P w K mg base 2 "refuse" ["bids", "wares"] (spX2 C1 C2)) : FnOk P w K mg base (CXe P w) 3 f fd ["bids", "wares"] (spX2 C1 C2) := by
  refine F.okX (k := 2) scFirst (fun vs H Q E h => ?_) (fun cdv A outer s H vs Q E hr h => ?_)
  · obtain ⟨a, wn, rows, rfl, _⟩ := h
    rfl
  obtain ⟨a, wn, rows, rfl, h⟩ := h
  exact ⟨_, pss_cons (ps_expr (pe_calX cR hr (by decide) rfl passX (pa_cons (pv 0) (pa_cons (pv 1) pa_nil)))) pss_never, _, rfl, _, rfl, a, wn, rows, rfl, h⟩
theorem ok_paidX (F : Fun K "paid" "paid" sPaid f fd) (cD : CalX P w K mg base 3 "dealt" ["bids", "wares"] (spX2 C1 C2)) : FnOk P w K mg base (CXe P w) 4 f fd ["bids", "wares"] (spX2 C1 C2) := by
  refine F.okX (k := 3) scPaid (fun vs H Q E h => ?_) (fun cdv A outer s H vs Q E hr h => ?_)
  · obtain ⟨a, wn, rows, rfl, _⟩ := h
    rfl
  obtain ⟨a, wn, rows, rfl, h⟩ := h
  exact ⟨_, pss_cons (ps_set (i := 2) scPaid.nd rfl (Or.inr rfl) (pe_calX cD hr (by decide) rfl passX (pa_cons (pv 0) (pa_cons (pv 1) pa_nil)))) pss_never, _, rfl, _, rfl, a, wn, rows, rfl, h⟩
theorem ok_takenX (F : Fun K "taken_in" "taken_in" sTakenIn f fd) (cP : CalX P w K mg base 4 "paid" ["bids", "wares"] (spX2 C1 C2)) (ms : mg "sum" = none) : FnOk P w K mg base (CXe P w) 5 f fd ["bids", "wares"] (spX2 C1 C2) := by
  refine F.okX (k := 4) scTaken (fun vs H Q E h => ?_) (fun cdv A outer s H vs Q E hr h => ?_)
  · obtain ⟨a, wn, rows, rfl, _⟩ := h
    rfl
  obtain ⟨a, wn, rows, rfl, h⟩ := h
  exact ⟨_, pss_one (ps_ret (pe_callB (call_sum rfl) rfl ms PyProof.Rows.boot_sum (pa_cons (pe_calX cP hr (by decide) rfl passX (pa_cons (pv 0) (pa_cons (pv 1) pa_nil))) pa_nil))), _, rfl, _, rfl, a, wn, rows, rfl, h⟩
theorem ok_gainsX (F : Fun K "gains" "gains" sGains f fd) (cD : CalX P w K mg base 3 "dealt" ["bids", "wares"] (spX2 C1 C2)) : FnOk P w K mg base (CXe P w) 4 f fd ["bids", "wares", "values"] (spX3 C1 C2) := by
  refine F.okX (k := 3) scGains (fun vs H Q E h => ?_) (fun cdv A outer s H vs Q E hr h => ?_)
  · obtain ⟨a, wn, v, rows, rfl, _⟩ := h
    rfl
  obtain ⟨a, wn, v, rows, rfl, h⟩ := h
  exact ⟨_, pss_cons (ps_set (i := 3) scGains.nd rfl (Or.inl rfl) (pe_calX cD hr (by decide) rfl passX (pa_cons (pv 0) (pa_cons (pv 1) pa_nil)))) pss_never, _, rfl, _, rfl, a, wn, rows, rfl, h⟩
end

structure ExcJ (K : PySem.W.Frag) (C : Addr) : Prop where
  ga : PySem.W.findIn K (.ref C) "__getattribute__" = some (some (.builtin "BaseException.__getattribute__"))
  gr : PySem.W.findIn K (.ref C) "__getattr__" = some none
  fo : PySem.W.findObj K C none "__class__" = some (.bind (.builtin "getset_descriptor.__get__") (.builtin "object.__class__"))
  mB : PySem.W.mroIn K C (.type "BaseException") = some true
  mO : PySem.W.mroIn K C (.type "object") = some true
theorem exci {C : Addr} (k : ExcK K C) (j : ExcJ K C) : ExcI K C := ⟨j.ga, j.gr, j.fo, j.mB, j.mO, by
  obtain ⟨nm, q, N, A, bs, hdct, sn, sub, ab, col, dd, k0, k1, k2, k3, k5, lC, _⟩ := k.ex
  exact ⟨_, _, _, _, lC⟩⟩
/-- what is known of the three own exceptions -/
structure ExB (K : PySem.W.Frag) (C0 C1 C2 : Addr) : Prop where
  j1 : ExcJ K C1
  j2 : ExcJ K C2
  e11 : PySem.W.exmOne K (.ref C1) (.ref C1) = some true
  e21 : PySem.W.exmOne K (.ref C2) (.ref C1) = some false
  e22 : PySem.W.exmOne K (.ref C2) (.ref C2) = some true
  e10 : PySem.W.exmOne K (.ref C1) (.ref C0) = some true
  e20 : PySem.W.exmOne K (.ref C2) (.ref C0) = some true
  t11 : PySem.W.kitOne K (.ref C1) (.ref C1) = some true
  t12 : PySem.W.kitOne K (.ref C1) (.ref C2) = some false
  t21 : PySem.W.kitOne K (.ref C2) (.ref C1) = some false
  t22 : PySem.W.kitOne K (.ref C2) (.ref C2) = some true
  t1v : PySem.W.kitOne K (.ref C1) (.type "ValueError") = some true
  t2v : PySem.W.kitOne K (.ref C2) (.type "ValueError") = some true
structure Exs (K : PySem.W.Frag) (mg : Str → Option Value) (C0 C1 C2 : Addr) : Prop extends ExB K C0 C1 C2 where
  i1 : ExcI K C1
  i2 : ExcI K C2
  m0 : mg "BidError" = some (.ref C0)
  m1 : mg "NoBid" = some (.ref C1)
  m2 : mg "NoWares" = some (.ref C2)
def wordOf : Bool → Str
  | true => "no bid"
  | false => "no wares"
def spSaid (T : Tab) : Sp := fun vs H Q _ => ∃ (k : Int) (a : Addr) (w : Int) (rows : List (List Int)), vs = [.int k, .ref a, .int w] ∧ LL H a rows ∧ T.Ok H ∧
  ((Sized rows ∧ WB.Good rows ∧ 0 ≤ w ∧ ∀ H', Kp T H H' → Q (.str "done") H') ∨ ∃ b, Few rows ∧ Bads rows w b ∧ ∀ H', Same H H' → Q (.str (wordOf b)) H')
def spTells (T : Tab) : Sp := fun vs H Q _ => ∃ (a : Addr) (w : Int) (rows : List (List Int)), vs = [.ref a, .int w] ∧ LL H a rows ∧ T.Ok H ∧
  ((Sized rows ∧ WB.Good rows ∧ 0 ≤ w ∧ ∀ H', Kp T H H' → Q (.bl false) H') ∨ ∃ b, Few rows ∧ Bads rows w b ∧ ∀ H', Same H H' → Q (.bl true) H')
theorem scSaid : FnScope ["_law_way", "_law_rows", "_law_wares", "_law_word"] ["_law_way", "_law_rows", "_law_wares"] (defScope sLawSaid) := ⟨rfl, rfl, rfl, by decide +kernel, rfl, by decide +kernel, by decide +kernel⟩
theorem boot_VE : bootBuiltins "ValueError" = some (.type "ValueError") := by decide +kernel
section
variable {C0 C1 C2 : Addr}
theorem ok_said (F : Fun K "_law_said" "_law_said" sLawSaid f fd) (hX : Exs K mg C0 C1 C2) (cD : Cal P w K mg base 6 "dealt" ["bids", "wares"] (spDealt T)) (cP : Cal P w K mg base 8 "paid" ["bids", "wares"] (spPaid T)) (cT : Cal P w K mg base 9 "taken_in" ["bids", "wares"] (spTaken T))
    (cF : Cal P w K mg base 6 "first_left" ["bids", "wares"] (spFirst T)) (cG : Cal P w K mg base 9 "gains" ["bids", "wares", "values"] (spGains T))
    (xD : CalX P w K mg base 3 "dealt" ["bids", "wares"] (spX2 C1 C2)) (xP : CalX P w K mg base 4 "paid" ["bids", "wares"] (spX2 C1 C2)) (xT : CalX P w K mg base 5 "taken_in" ["bids", "wares"] (spX2 C1 C2))
    (xF : CalX P w K mg base 3 "first_left" ["bids", "wares"] (spX2 C1 C2)) (xG : CalX P w K mg base 4 "gains" ["bids", "wares", "values"] (spX3 C1 C2)) : FnOk P w K mg base CX0 10 f fd ["_law_way", "_law_rows", "_law_wares"] (spSaid T) := by
  refine F.ok (k := 9) scSaid (fun vs H Q E h => ?_) (fun cdv A outer s H vs Q E hr h => ?_)
  · obtain ⟨k, a, wn, rows, rfl, _⟩ := h
    rfl
  obtain ⟨k, a, wn, rows, rfl, hL, tok, h⟩ := h
  have nk : ∀ n : Int, k ≠ n → decide (V.int k = V.int n) = false := fun n h => dF fun e => h (V.int.inj e)
  rcases h with ⟨hz, good, hw, q⟩ | ⟨b, hz, hb, q⟩
  · refine ⟨_, pss_cons (ps_set (i := 3) scSaid.nd rfl (Or.inl rfl) pe_str)
      (pss_cons (ps_try (th := fun _ => tNever) rfl rfl (pb_plain (pss_one (ps_if (pt_cmpR op_eq (pv 0) pe_int (nomark _)) (pss_one (ps_expr (pe_cal cD hr (by decide) rfl (pa_cons (pv 1) (pa_cons (pv 2) pa_nil)))))
        (pss_one (ps_if (pt_cmpR op_eq (pv 0) pe_int (nomark _)) (pss_one (ps_expr (pe_cal cP hr (by decide) rfl (pa_cons (pv 1) (pa_cons (pv 2) pa_nil)))))
        (pss_one (ps_if (pt_cmpR op_eq (pv 0) pe_int (nomark _)) (pss_one (ps_expr (pe_cal cT hr (by decide) rfl (pa_cons (pv 1) (pa_cons (pv 2) pa_nil)))))
        (pss_one (ps_if (pt_cmpR op_eq (pv 0) pe_int (nomark _)) (pss_one (ps_expr (pe_cal cF hr (by decide) rfl (pa_cons (pv 1) (pa_cons (pv 2) pa_nil)))))
        (pss_one (ps_expr (pe_cal cG hr (by decide) rfl (pa_cons (pv 1) (pa_cons (pv 2) (pa_cons (pe_lc (N' := ["_law_row"]) (fr := []) (te := tOp rRep (tLst (tCons (tC (.int 0)) tNil)) (tC (.int 110))) rfl ⟨rfl, by decide +kernel, by decide +kernel, rfl, rfl⟩ (pi_list (pv 1))
          (fun cl C s₂ H₂ fp => pg_name (i := 0) (show (["_law_row"] : List Str).Nodup by decide +kernel) rfl (Or.inl rfl)) (fun cl C s₂ H₂ fp => pe_op op_rep (pe_lst (pa_cons pe_int pa_nil)) pe_int)) pa_nil)))))))))))))) (fun _ _ z => z)) (fun C => hs_never))
      (pss_one (ps_ret (pv 3)))), ?_⟩
    refine ⟨_, rfl, rfl, _, rfl, ?_⟩
    by_cases k0 : k = 0
    · subst k0
      exact tT rfl ⟨_, rfl, _, rfl, a, wn, rows, rfl, hL, hz, good, hw, tok, fun r H' kp _ _ => ⟨_, rfl, q H' kp⟩⟩
    refine tF (nk 0 k0) ⟨_, rfl, rfl, _, rfl, ?_⟩
    by_cases k1 : k = 1
    · subst k1
      exact tT rfl ⟨_, rfl, _, rfl, a, wn, rows, rfl, hL, hz, good, hw, tok, fun r H' kp _ _ => ⟨_, rfl, q H' kp⟩⟩
    refine tF (nk 1 k1) ⟨_, rfl, rfl, _, rfl, ?_⟩
    by_cases k2 : k = 2
    · subst k2
      exact tT rfl ⟨_, rfl, _, rfl, a, wn, rows, rfl, hL, hz, good, hw, tok, fun H' kp => ⟨_, rfl, q H' kp⟩⟩
    refine tF (nk 2 k2) ⟨_, rfl, rfl, _, rfl, ?_⟩
    by_cases k3 : k = 3
    · subst k3
      exact tT rfl ⟨_, rfl, _, rfl, a, wn, rows, rfl, hL, hz, good, hw, tok, fun H' kp => ⟨_, rfl, q H' kp⟩⟩
    refine tF (nk 3 k3) ⟨_, rfl, _, rfl, zeros_w (K := K) rfl hL hz.few fun D H1 vrows s1 hV hvl => ?_⟩
    exact ⟨a, D, wn, rows, vrows, rfl, hL.same s1, hz, good, hw, hV, hvl, (Same.kp s1).tab tok, fun r H2 k2 _ _ => ⟨_, rfl, q _ ((Same.kp s1).trans k2)⟩⟩
  · refine ⟨_, pss_cons (ps_set (i := 3) scSaid.nd rfl (Or.inl rfl) pe_str)
      (pss_cons (ps_try rfl rfl (pb_if (pt_cmpR op_eq (pv 0) pe_int (nomark _)) (pb_cal xD hr (by decide) rfl rfl (pa_cons (pv 1) (pa_cons (pv 2) pa_nil)) (fun _ _ z => z))
        (pb_if (pt_cmpR op_eq (pv 0) pe_int (nomark _)) (pb_cal xP hr (by decide) rfl rfl (pa_cons (pv 1) (pa_cons (pv 2) pa_nil)) (fun _ _ z => z))
        (pb_if (pt_cmpR op_eq (pv 0) pe_int (nomark _)) (pb_cal xT hr (by decide) rfl rfl (pa_cons (pv 1) (pa_cons (pv 2) pa_nil)) (fun _ _ z => z))
        (pb_if (pt_cmpR op_eq (pv 0) pe_int (nomark _)) (pb_cal xF hr (by decide) rfl rfl (pa_cons (pv 1) (pa_cons (pv 2) pa_nil)) (fun _ _ z => z))
        (pb_cal xG hr (by decide) rfl rfl (pa_cons (pv 1) (pa_cons (pv 2) (pa_cons (pe_lc (N' := ["_law_row"]) (fr := []) (te := tOp rRep (tLst (tCons (tC (.int 0)) tNil)) (tC (.int 110))) rfl ⟨rfl, by decide +kernel, by decide +kernel, rfl, rfl⟩ (pi_list (pv 1))
          (fun cl C s₂ H₂ fp => pg_name (i := 0) (show (["_law_row"] : List Str).Nodup by decide +kernel) rfl (Or.inl rfl)) (fun cl C s₂ H₂ fp => pe_op op_rep (pe_lst (pa_cons pe_int pa_nil)) pe_int)) pa_nil))) (fun _ _ z => z))
        (fun _ _ z => z)) (fun _ _ z => z)) (fun _ _ z => z)) (fun _ _ z => z))
        (hs_two (C1 := C1) (C2 := C2) (hs_hit rfl hX.m1 hX.e11 (fun a => pss_one (ps_set (i := 3) scSaid.nd rfl (Or.inl rfl) pe_str)))
          (hs_miss rfl hX.m1 hX.e21 (hs_hit rfl hX.m2 hX.e22 (fun a => pss_one (ps_set (i := 3) scSaid.nd rfl (Or.inl rfl) pe_str))))))
      (pss_one (ps_ret (pv 3)))), ?_⟩
    have two : ∀ {p1 p2 : Hp → Prop}, (b = true → ∀ H', Same H H' → p1 H') → (b = false → ∀ H', Same H H' → p2 H') → ∀ H', Same H H' → ∃ C, Value.ref (bif b then C1 else C2) = .ref C ∧ ((C = C1 ∧ p1 H') ∨ (C = C2 ∧ p2 H')) := fun h1 h2 H' s' => by
      cases b with
      | true => exact ⟨C1, rfl, .inl ⟨rfl, h1 rfl H' s'⟩⟩
      | false => exact ⟨C2, rfl, .inr ⟨rfl, h2 rfl H' s'⟩⟩
    have e1 : b = true → ∀ H', Same H H' → Q (.str "no bid") H' := fun e H' s' => by subst e; exact q H' s'
    have e2 : b = false → ∀ H', Same H H' → Q (.str "no wares") H' := fun e H' s' => by subst e; exact q H' s'
    refine ⟨_, rfl, rfl, _, rfl, ?_⟩
    by_cases k0 : k = 0
    · subst k0
      exact tT rfl ⟨_, rfl, _, rfl, a, wn, rows, rfl, hL, hz, b, hb, two (fun e H' s' => ⟨_, rfl, e1 e H' s'⟩) (fun e H' s' => ⟨_, rfl, e2 e H' s'⟩)⟩
    refine tF (nk 0 k0) ⟨_, rfl, rfl, _, rfl, ?_⟩
    by_cases k1 : k = 1
    · subst k1
      exact tT rfl ⟨_, rfl, _, rfl, a, wn, rows, rfl, hL, hz, b, hb, two (fun e H' s' => ⟨_, rfl, e1 e H' s'⟩) (fun e H' s' => ⟨_, rfl, e2 e H' s'⟩)⟩
    refine tF (nk 1 k1) ⟨_, rfl, rfl, _, rfl, ?_⟩
    by_cases k2 : k = 2
    · subst k2
      exact tT rfl ⟨_, rfl, _, rfl, a, wn, rows, rfl, hL, hz, b, hb, two (fun e H' s' => ⟨_, rfl, e1 e H' s'⟩) (fun e H' s' => ⟨_, rfl, e2 e H' s'⟩)⟩
    refine tF (nk 2 k2) ⟨_, rfl, rfl, _, rfl, ?_⟩
    by_cases k3 : k = 3
    · subst k3
      exact tT rfl ⟨_, rfl, _, rfl, a, wn, rows, rfl, hL, hz, b, hb, two (fun e H' s' => ⟨_, rfl, e1 e H' s'⟩) (fun e H' s' => ⟨_, rfl, e2 e H' s'⟩)⟩
    refine tF (nk 3 k3) ⟨_, rfl, _, rfl, zeros_w (K := K) rfl hL (by have := hz.few; omega) fun D H1 vrows s1 hV hvl => ?_⟩
    refine ⟨a, wn, .ref D, rows, rfl, hL.same s1, hz, b, hb, fun H' s' => ?_⟩
    exact two (fun e H' s' => ⟨_, rfl, e1 e H' s'⟩) (fun e H' s' => ⟨_, rfl, e2 e H' s'⟩) H' (s1.trans s')
theorem scTells : FnScope ["_law_rows", "_law_wares", "e", "_law_many"] ["_law_rows", "_law_wares"] (defScope sLawBaseTells) := ⟨rfl, rfl, rfl, by decide +kernel, rfl, by decide +kernel, by decide +kernel⟩
theorem ok_tells (F : Fun K "_law_base_tells" "_law_base_tells" sLawBaseTells f fd) (hX : Exs K mg C0 C1 C2) (cD : Cal P w K mg base 6 "dealt" ["bids", "wares"] (spDealt T)) (xD : CalX P w K mg base 3 "dealt" ["bids", "wares"] (spX2 C1 C2))
    (mis : mg "isinstance" = none) (mint : mg "int" = none) (mve : mg "ValueError" = none) : FnOk P w K mg base CX0 7 f fd ["_law_rows", "_law_wares"] (spTells T) := by
  refine F.ok (k := 6) scTells (fun vs H Q E h => ?_) (fun cdv A outer s H vs Q E hr h => ?_)
  · obtain ⟨a, wn, rows, rfl, _⟩ := h
    rfl
  obtain ⟨a, wn, rows, rfl, hL, tok, h⟩ := h
  rcases h with ⟨hz, good, hw, q⟩ | ⟨b, hz, hb, q⟩
  · refine ⟨_, pss_cons (ps_try (th := fun _ => tNever) rfl rfl (pb_plain (pss_one (ps_expr (pe_cal cD hr (by decide) rfl (pa_cons (pv 0) (pa_cons (pv 1) pa_nil))))) (fun _ _ z => z)) (fun C => hs_never))
      (pss_one (ps_ret pe_bl)), ?_⟩
    exact ⟨_, rfl, _, rfl, a, wn, rows, rfl, hL, hz, good, hw, tok, fun r H' kp _ _ => q H' kp⟩
  · have suite : ∀ x : Addr, ∃ t, (∀ a, PSs ((cxOf CX0 P w K mg base ["_law_rows", "_law_wares", "e", "_law_many"] "_law_base_tells" (defScope sLawBaseTells) f cdv A outer s H E).nox.held a) (match (defBody sLawBaseTells).getD 0 (.Pass ⟨0, 0, 0, 0⟩) with | .Try _ (.ExceptHandler _ _ body _ :: _) _ _ _ => body | _ => []) t) ∧
        ∀ (D : Ends) (H1 : Hp) (a : Addr) (C : Addr) (b1 b2 : Bool) (x0 x1 x3 : Option V), H1 a = some (isExc a C) → ExcI K C → PySem.W.kitOne K (.ref C) (.ref C1) = some b1 → PySem.W.kitOne K (.ref C) (.ref C2) = some b2 → PySem.W.kitOne K (.ref C) (.type "ValueError") = some true → (b1 ^^ b2) = true → D.rt (.bl true) H1 → t D [x0, x1, some (.ref a), x3] H1 := fun _ => by
      refine ⟨_, fun a => pss_cons (ps_set (i := 3) scTells.nd rfl (Or.inl rfl) (pe_op op_add
          (pe_callTy call_int1 rfl mint PyProof.Rows.boot_int (pa_cons (pe_callB (r := rIsX K) call_isinstX rfl mis PyProof.Rows.boot_isinstance (pa_cons (pv 2) (pa_cons (pe_glob (v := .ref C1) rfl hX.m1 rfl) pa_nil))) pa_nil))
          (pe_callTy call_int1 rfl mint PyProof.Rows.boot_int (pa_cons (pe_callB (r := rIsX K) call_isinstX rfl mis PyProof.Rows.boot_isinstance (pa_cons (pv 2) (pa_cons (pe_glob (v := .ref C2) rfl hX.m2 rfl) pa_nil))) pa_nil))))
        (pss_one (ps_ret (pe_and (pe_callB (r := rIsX K) call_isinstX rfl mis PyProof.Rows.boot_isinstance (pa_cons (pv 2) (pa_cons (pe_bltn (v := .ty "ValueError") rfl mve boot_VE rfl) pa_nil))) (pe_one (pe_cmpR op_eq (pv 3) pe_int (nomark _)))))), ?_⟩
      intro D H1 a C b1 b2 x0 x1 x3 ha hI h1 h2 hv hxor q
      refine ⟨_, rfl, a, C, _, .ref C1, b1, rfl, rfl, fun _ z => z, ha, hI, h1, .inr ⟨b1, rfl, ?_⟩⟩
      refine ⟨_, rfl, a, C, _, .ref C2, b2, rfl, rfl, fun _ z => z, ha, hI, h2, .inr ⟨b2, rfl, _, _, rfl, rfl, ?_⟩⟩
      refine ⟨_, rfl, a, C, _, .type "ValueError", true, rfl, rfl, fun _ z => z, ha, hI, hv, true, rfl, tT rfl ⟨_, rfl, rfl, ?_⟩⟩
      have e : decide (V.int ((if b1 then 1 else 0) + (if b2 then 1 else 0)) = V.int 1) = true := by
        cases b1 <;> cases b2 <;> first | rfl | cases hxor
      rw [e]
      exact q
    obtain ⟨t, p, r⟩ := suite a
    refine ⟨_, pss_cons (ps_try rfl rfl (pb_cal xD hr (by decide) rfl rfl (pa_cons (pv 0) (pa_cons (pv 1) pa_nil)) (fun _ _ z => z))
        (hs_two (C1 := C1) (C2 := C2) (hs_as (i := 2) scTells.nd rfl rfl rfl hX.m0 hX.e10 p) (hs_as (i := 2) scTells.nd rfl rfl rfl hX.m0 hX.e20 p)))
      (pss_one (ps_ret pe_bl)), ?_⟩
    refine ⟨_, rfl, _, rfl, a, wn, rows, rfl, hL, hz, b, hb, fun H' s' => ?_⟩
    cases b with
    | true => exact ⟨C1, rfl, .inl ⟨rfl, fun x hx => r _ _ x C1 _ _ _ _ _ upd_same hX.i1 hX.t11 hX.t12 hX.t1v rfl (q _ (s'.trans (same_upd hx)))⟩⟩
    | false => exact ⟨C2, rfl, .inr ⟨rfl, fun x hx => r _ _ x C2 _ _ _ _ _ upd_same hX.i2 hX.t21 hX.t22 hX.t2v rfl (q _ (s'.trans (same_upd hx)))⟩⟩
end

theorem bad_neg {r : List Int} {j : Nat} {x : Int} (hj : j < r.length) (hx : x < 0) : ¬ GoodRow (r.set j x) := fun g => by
  have := good_nn (i := j) g (by rw [List.length_set]; exact hj)
  rw [List.getElem_set_self] at this
  omega
theorem bad_up {r : List Int} {i j : Nat} {x : Int} (hj : j < r.length) (e : i + 1 = j) (hi : i < r.length) (hx : r[i] < x) : ¬ GoodRow (r.set j x) := fun g => by
  have := good_adj (i := j) (j := i) g (by rw [List.length_set]; exact hj) (by rw [List.length_set]; exact hi) e
  rw [List.getElem_set_self, List.getElem_set_ne (by omega)] at this
  omega
def spBadRow : Sp := fun vs H Q _ => ∃ c o : Int, vs = [.int c, .int o] ∧ ∀ (p : Addr) (H' : Hp) (r : List Int), Same H H' → H p = none → H' p = some (.lst (iV r)) → r.length ≤ 7 → ¬ GoodRow r → Q (.ref p) H'
theorem scBad : FnScope ["_law_cell", "_law_other", "_law_far", "_law_row", "_law_spot"] ["_law_cell", "_law_other"] (defScope sLawBadRow) := ⟨rfl, rfl, rfl, by decide +kernel, rfl, by decide +kernel, by decide +kernel⟩
abbrev badN : List Str := ["_law_cell", "_law_other", "_law_far", "_law_row", "_law_spot"]
section
variable {cdv : Value} {A : Around} {outer : List Env} {s : Shared} {H0 : Hp} {E : XK} {Q : VK}
theorem bad3 : ∃ t, PSs (cxOf CX0 P w K mg base badN "_law_bad_row" (defScope sLawBadRow) f cdv A outer s H0 E).nox ((defBody sLawBadRow).drop 3) t ∧
      ∀ (H H3 : Hp) (p : Addr) (r0 : List Int) (c far : Int) (j : Nat) (x1 : Option V), Same H H3 → H p = none → H3 p = some (.lst (iV r0)) → r0.length ≤ 7 → j < r0.length → 0 ≤ far → (∀ (H' : Hp) (r : List Int), Same H H' → H' p = some (.lst (iV r)) → r.length ≤ 7 → ¬ GoodRow r → Q (.ref p) H') →
        t { nx := fun _ H' => Q .non H', rt := Q } [some (.int c), x1, some (.int far), some (.ref p), some (.int (j : Int))] H3 := by
  refine ⟨_, pss_cons (ps_if (PW.pt (pw_and (pt_cmpR op_eq (pe_op op_mod (pv 0) pe_int) pe_int (nomark _)) (pw_and1 (pt_cmpR op_gt (pv 4) pe_int (nomark _)))))
      (pss_one (ps_asg (pe_op op_add (pe_op op_add (pe_ix ix_list (pv 3) (pe_op op_sub (pv 4) pe_int) (fun _ _ => rfl)) pe_int) (pe_op op_mod (pe_op op_fdiv (pv 0) pe_int) pe_int)) (pg_sub (pv 3) (pv 4) set_list)))
      (pss_one (ps_asg (pe_op op_sub (pe_un un_neg pe_int) (pv 2)) (pg_sub (pv 3) (pv 4) set_list))))
    (pss_one (ps_ret (pv 3))), ?_⟩
  intro H H3 p r0 c far j x1 s3 hpH hp3 hl7 hj hfar q
  have hiV : (iV r0).length = r0.length := List.length_map _
  have hix : ixN (iV r0).length (j : Int) = some j := by
    unfold ixN
    rw [if_pos (by omega), if_pos (by omega)]
    simp
  have fin : ∀ x : Int, ¬ GoodRow (r0.set j x) → Q (.ref p) (upd H3 p (.lst ((iV r0).set j (.int x)))) := fun x nb => by
    have e : (iV r0).set j (.int x) = iV (r0.set j x) := by unfold iV; rw [List.map_set]
    rw [e]
    refine q _ (r0.set j x) (fun b u hb => ?_) upd_same (by rw [List.length_set]; exact hl7) nb
    rw [upd_ne (ne_of_none hb hpH)]; exact s3 b u hb
  have neg : Q (.ref p) (upd H3 p (.lst ((iV r0).set j (.int (-1 - far))))) := fin _ (bad_neg hj (by omega))
  refine ⟨_, rfl, _, _, rfl, rfl, (by show (0 : Int) < 2; decide), rfl, _, rfl, ?_⟩
  by_cases c1 : c % 2 = 1
  · refine tT (dT (congrArg V.int c1)) ⟨_, rfl, _, _, rfl, rfl, _, rfl, ?_⟩
    by_cases c2 : (0 : Int) < (j : Int)
    · refine tT (dT c2) ?_
      have hj1 : j - 1 < r0.length := by omega
      have hat : atI (iV r0) ((j : Int) - 1) = some (.int r0[j - 1]) := by
        have e : ((j : Int) - 1) = ((j - 1 : Nat) : Int) := by omega
        rw [e]; exact atI_nat (by rw [List.getElem?_map, List.getElem?_eq_getElem hj1]; rfl)
      refine ⟨_, rfl, _, rfl, _, _, rfl, rfl, p, _, _, _, rfl, rfl, SqL.of hp3, hat, _, _, rfl, rfl, _, rfl, _, _, rfl, rfl, ⟨by decide, by decide⟩, _, _, rfl, rfl, (by show (0 : Int) < 9; decide), _, _, rfl, rfl, ?_⟩
      refine ⟨_, rfl, _, rfl, p, _, _, j, rfl, rfl, hp3, hix, _, rfl, ?_⟩
      have hm := Int.emod_nonneg (c / 3) (show (9 : Int) ≠ 0 by decide)
      exact fin _ (bad_up hj (by omega) hj1 (by omega))
    · refine tF (dF c2) ⟨_, rfl, _, rfl, _, _, rfl, rfl, _, rfl, _, rfl, p, _, _, j, rfl, rfl, hp3, hix, _, rfl, neg⟩
  · refine tF (dF fun e => c1 (V.int.inj e)) (tF rfl ⟨_, rfl, _, rfl, _, _, rfl, rfl, _, rfl, _, rfl, p, _, _, j, rfl, rfl, hp3, hix, _, rfl, neg⟩)
theorem bad2 (ml : mg "len" = none) : ∃ t, PSs (cxOf CX0 P w K mg base badN "_law_bad_row" (defScope sLawBadRow) f cdv A outer s H0 E).nox ((defBody sLawBadRow).drop 2) t ∧
      ∀ (H H3 : Hp) (p : Addr) (r0 : List Int) (c far : Int) (x1 x4 : Option V), Same H H3 → H p = none → H3 p = some (.lst (iV r0)) → r0.length ≤ 7 → 0 < r0.length → 0 ≤ far → (∀ (H' : Hp) (r : List Int), Same H H' → H' p = some (.lst (iV r)) → r.length ≤ 7 → ¬ GoodRow r → Q (.ref p) H') →
        t { nx := fun _ H' => Q .non H', rt := Q } [some (.int c), x1, some (.int far), some (.ref p), x4] H3 := by
  obtain ⟨t3, p3, q3⟩ := bad3 (P := P) (w := w) (K := K) (mg := mg) (base := base) (f := f) (cdv := cdv) (A := A) (outer := outer) (s := s) (H0 := H0) (E := E) (Q := Q)
  refine ⟨_, pss_cons (ps_set (i := 4) scBad.nd rfl (Or.inl rfl) (pe_op op_mod (pe_op op_fdiv (pv 0) pe_int) (pe_callB call_len_seq rfl ml PySem.boot_len (pa_cons (pv 3) pa_nil)))) p3, ?_⟩
  intro H H3 p r0 c far x1 x4 s3 hpH hp3 hl7 hl1 hfar q
  have hiV : (iV r0).length = r0.length := List.length_map _
  refine ⟨_, rfl, _, _, rfl, rfl, ⟨by decide, by decide⟩, _, rfl, p, _, rfl, .inl (SqL.of hp3), _, _, rfl, rfl, (by show (0 : Int) < ((iV r0).length : Int); omega), ?_⟩
  have g1 := Int.emod_nonneg (c / 14) (show ((iV r0).length : Int) ≠ 0 by omega)
  have g2 := Int.emod_lt_of_pos (c / 14) (show (0 : Int) < ((iV r0).length : Int) by omega)
  have e : c / 14 % ((iV r0).length : Int) = (((c / 14 % ((iV r0).length : Int)).toNat : Nat) : Int) := by omega
  have r := q3 H H3 p r0 c far (c / 14 % ((iV r0).length : Int)).toNat x1 s3 hpH hp3 hl7 (by omega) hfar q
  rw [← e] at r
  exact r
end
theorem ok_bad (F : Fun K "_law_bad_row" "_law_bad_row" sLawBadRow f fd) (cY : Cal P w K mg base 1 "_law_any" ["_law_cell"] spAny) (mab : mg "abs" = none) (ml : mg "len" = none) : FnOk P w K mg base CX0 2 f fd ["_law_cell", "_law_other"] spBadRow := by
  refine F.ok (k := 1) scBad (fun vs H Q E h => ?_) (fun cdv A outer s H vs Q E hr h => ?_)
  · obtain ⟨c, o, rfl, _⟩ := h
    rfl
  obtain ⟨c, o, rfl, q⟩ := h
  obtain ⟨t2, p2, q2⟩ := bad2 (P := P) (w := w) (K := K) (mg := mg) (base := base) (f := f) (cdv := cdv) (A := A) (outer := outer) (s := s) (H0 := H) (E := E) (Q := Q) ml
  refine ⟨_, pss_cons (ps_set (i := 2) scBad.nd rfl (Or.inl rfl) (pe_callB call_abs rfl mab PyProof.Rows.boot_abs (pa_cons (pe_cal cY hr (by decide) rfl (pa_cons (pv 1) pa_nil)) pa_nil)))
    (pss_cons (ps_set (i := 3) scBad.nd rfl (Or.inl rfl) (pe_slice sl_list (pe_lst (pa_cons (pe_op op_add (pv 2) pe_int) (pa_cons (pe_op op_add (pv 2) pe_int) (pa_cons (pe_op op_add (pv 2) pe_int) (pa_cons (pe_op op_add (pv 2) pe_int) (pa_cons (pv 2) (pa_cons pe_int (pa_cons pe_int pa_nil))))))))
      po_none (po_some (pe_op op_add pe_int (pe_op op_mod (pe_op op_fdiv (pv 0) pe_int) pe_int)))))
    p2), ?_⟩
  refine ⟨_, rfl, o, rfl, fun v H1 s1 => ⟨v, rfl, ?_⟩⟩
  have hfar : 0 ≤ (if v < 0 then -v else v) := by split <;> omega
  refine ⟨_, rfl, _, _, rfl, rfl, _, rfl, _, _, rfl, rfl, _, rfl, _, _, rfl, rfl, _, rfl, _, _, rfl, rfl, _, rfl, (by show 7 ≤ sizeLine; decide), fun l hl => ?_⟩
  refine ⟨_, rfl, _, _, rfl, rfl, ⟨by decide, by decide⟩, _, _, rfl, rfl, (by show (0 : Int) < 7; decide), _, _, rfl, rfl, _, rfl, l, _, rfl, SqL.of upd_same, fun p hp => ?_⟩
  have hm1 := Int.emod_nonneg (c / 2) (show (7 : Int) ≠ 0 by decide)
  have hm2 := Int.emod_lt_of_pos (c / 2) (show (0 : Int) < 7 by decide)
  have ec : ∀ far : Int, cutV [V.int (far + 5), V.int (far + 4), V.int (far + 4), V.int (far + 1), V.int far, V.int 0, V.int 0] none (some (1 + c / 2 % 7)) = iV (([far + 5, far + 4, far + 4, far + 1, far, 0, 0] : List Int).take (1 + c / 2 % 7).toNat) := fun far => by
    rw [cut_take (by omega)]
    unfold iV
    rw [List.map_take]; rfl
  have hr0 : ∀ far : Int, (([far + 5, far + 4, far + 4, far + 1, far, 0, 0] : List Int).take (1 + c / 2 % 7).toNat).length = (1 + c / 2 % 7).toNat := fun far => by
    rw [List.length_take]
    show min _ 7 = _
    omega
  have hpH : H p = none := (s1.trans (same_upd hl)).free hp
  refine q2 H _ p _ c _ _ _ ((s1.trans (same_upd hl)).trans (same_upd hp)) hpH (by rw [upd_same]; exact congrArg (fun z => some (HO.lst z)) (ec _)) (by rw [hr0]; omega) (by rw [hr0]; omega) hfar fun H' r s' h' hl nb => q p H' r s' hpH h' hl nb

def spLaw (K : PySem.W.Frag) (T : Tab) : Sp := fun vs H Q _ => ∃ (a : Addr) (ns : List Int), vs = [.ref a] ∧ SqL K H a (iV ns) ∧ ns.length ≤ 63 ∧ T.Ok H ∧ ∀ H', Q (.bl true) H'

abbrev lawN : List Str := ["_law_script", "_law_rows", "_law_way", "_law_spot", "_law_wares", "_law_due", "_law_handed", "_law_turn", "_law_told"]
theorem scLaw : FnScope lawN ["_law_script"] (defScope sLaw) := ⟨rfl, rfl, rfl, by decide +kernel, rfl, by decide +kernel, by decide +kernel⟩
theorem ne_same (v : V) : (!decide (v = v)) = false := by rw [dT rfl]; rfl
theorem ne_diff {v u : V} (h : v ≠ u) : (!decide (v = u)) = true := by rw [dF h]; rfl
theorem due_ne (b : Bool) : V.str (wordOf b) ≠ V.str "done" := by cases b <;> decide +kernel
theorem paired_ins {F : Addr → List Int → Prop} {p : Addr} {r : List Int} : ∀ {as : List Addr} {rows : List (List Int)} (m : Nat), Paired F as rows → F p r → Paired F (as.take m ++ p :: as.drop m) (rows.take m ++ r :: rows.drop m)
  | _, _, 0, h, e => .cons e h
  | _, _, m + 1, .nil, e => .cons e .nil
  | _, _, m + 1, .cons h t, e => .cons h (paired_ins m t e)
theorem refs_ints {as : List Addr} {r : List Int} {b : Addr} (h : b ∈ as) : HO.lst (as.map V.ref) ≠ HO.lst (iV r) := by
  intro e
  have e2 := HO.lst.inj e
  cases as with
  | nil => cases h
  | cons x xs =>
    cases r with
    | nil => cases e2
    | cons y ys =>
      have e3 := (List.cons.inj e2).1
      cases e3
section
variable {cdv : Value} {A : Around} {outer : List Env} {s : Shared} {H0 : Hp} {E : XK} {Q : VK}
theorem tail1 (hr : Room 10 (A.deeper (PyProof.Rows.envOfC "law" (defScope sLaw) s.heap.objs.size f cdv))) (cC : Cal P w K mg base 1 "_law_copies" ["_law_lists"] spCopies) (cB : Cal P w K mg base 7 "_law_base_tells" ["_law_rows", "_law_wares"] (spTells T)) (cS : Cal P w K mg base 10 "_law_said" ["_law_way", "_law_rows", "_law_wares"] (spSaid T))
    (cK : Cal P w K mg base 2 "_law_kept" ["_law_found", "_law_due"] spKept) (cW : Cal P w K mg base 1 "worth" ["bids", "counts"] spWorth) (cDB : Cal P w K mg base 1 "_law_dealt_by" ["_law_rows", "_law_wares"] spDealtBy) (cSo : Cal P w K mg base 1 "_law_so" ["_law_found", "_law_due"] spSo) (cM : Cal P w K mg base 1 "_law_most" ["_law_rows", "_law_wares"] spMost)
    (mr : mg "range" = none) :
    ∃ t, PSs (cxOf CX0 P w K mg base lawN "law" (defScope sLaw) f cdv A outer s H0 E).nox ((defBody sLaw).drop 7) t ∧
      ∀ (H : Hp) (ra : Addr) (rows : List (List Int)) (wn : Int) (due : Str) (x0 x2 x3 x6 x7 x8 : Option V), LL H ra rows → T.Ok H → ((Sized rows ∧ WB.Good rows ∧ 0 ≤ wn ∧ due = "done") ∨ ∃ b, Few rows ∧ Bads rows wn b ∧ due = wordOf b) → (∀ H', Q (.bl true) H') →
        t { nx := fun _ H' => Q .non H', rt := Q } [x0, some (.ref ra), x2, x3, some (.int wn), some (.str due), x6, x7, x8] H := by
  refine ⟨_, pss_cons (ps_set (i := 6) scLaw.nd rfl (Or.inl rfl) (pe_cal cC hr (by decide) rfl (pa_cons (pv 1) pa_nil)))
    (pss_cons (ps_if (pt_cmpR op_ne (pe_cal cB hr (by decide) rfl (pa_cons (pv 6) (pa_cons (pv 4) pa_nil))) (pe_cmpR op_ne (pv 5) pe_str (nomark _)) (nomark _)) pss_never pss_nil)
    (pss_cons (ps_for PassesOwn.never rfl (pi_range1 rfl mr (pa_cons pe_int pa_nil)) (pg_name (i := 7) scLaw.nd rfl (Or.inl rfl))
      (pss_one (ps_if (pt_cmpR op_ne (pe_cal cS hr (by decide) rfl (pa_cons (pv 7) (pa_cons (pv 6) (pa_cons (pv 4) pa_nil)))) (pv 5) (nomark _)) pss_never pss_nil)))
    (pss_cons (ps_if (pt_not (pt_val (pe_cal cK hr (by decide) rfl (pa_cons (pv 6) (pa_cons (pv 1) pa_nil))))) pss_never pss_nil)
    (pss_cons (ps_if (pt_cmpR op_ne (pv 5) pe_str (nomark _)) (pss_one (ps_ret pe_bl)) pss_nil)
    (pss_cons (ps_set (i := 8) scLaw.nd rfl (Or.inl rfl) (pe_cal cW hr (by decide) rfl (pa_cons (pe_cal cC hr (by decide) rfl (pa_cons (pv 1) pa_nil)) (pa_cons (pe_cal cDB hr (by decide) rfl (pa_cons (pv 1) (pa_cons (pv 4) pa_nil))) pa_nil))))
    (pss_one (ps_ret (pe_cal cSo hr (by decide) rfl (pa_cons (pv 8) (pa_cons (pe_cal cM hr (by decide) rfl (pa_cons (pv 1) (pa_cons (pv 4) pa_nil))) pa_nil)))))))))), ?_⟩
  intro H ra rows wn due x0 x2 x3 x6 x7 x8 hL tok h q
  have sz : rows.length ≤ 200 ∧ ∀ r ∈ rows, r.length ≤ 200 := by
    rcases h with ⟨hz, _⟩ | ⟨b, hz, _⟩
    · exact ⟨hz.few, fun r hr => by have := hz.row hr; omega⟩
    · exact ⟨by have := hz.few; omega, fun r hr => by have := hz.row r hr; omega⟩
  obtain ⟨few, r200⟩ := sz
  refine ⟨_, rfl, ra, rows, rfl, hL, few, r200, fun hd H1 s1 hd0 hLh => ?_⟩
  have tok1 := (Same.kp s1).tab tok
  have hL1 := hL.same s1
  rcases h with ⟨hz, good, hw, rfl⟩ | ⟨b, hz, hb, rfl⟩
  · refine ⟨_, rfl, _, rfl, hd, wn, rows, rfl, hLh, tok1, .inl ⟨hz, good, hw, fun H2 k2 => ?_⟩⟩
    refine ⟨_, rfl, rfl, rfl, _, rfl, tF (by rw [ne_same]; exact ne_same _) ?_⟩
    refine ⟨5, rfl, by decide, by decide, ?_⟩
    refine for_range (fun i σ H' => Kp T H1 H' ∧ ∃ x, σ = [x0, some (.ref ra), x2, x3, some (.int wn), some (.str "done"), some (.ref hd), x, x8]) ⟨k2, _, rfl⟩ (fun i σ H' hi hP => ?_) (fun σ H' hP => ?_)
    · obtain ⟨k, x, rfl⟩ := hP
      exact ⟨_, rfl, _, rfl, _, rfl, _, hd, wn, rows, rfl, hLh.kp k tok1, k.tab tok1, .inl ⟨hz, good, hw, fun H4 k4 => ⟨_, rfl, rfl, _, rfl, tF (ne_same _) ⟨k.trans k4, _, rfl⟩⟩⟩⟩
    · obtain ⟨k, x, rfl⟩ := hP
      have hL5 := hL1.kp k tok1
      refine ⟨_, rfl, _, rfl, hd, ra, rows, rfl, hLh.kp k tok1, hL5, few, r200, true, rfl, tF rfl ?_⟩
      refine ⟨_, rfl, rfl, _, rfl, tF (ne_same _) ?_⟩
      refine ⟨_, rfl, ra, rows, rfl, hL5, few, r200, fun c1 H6 s6 c10 hLc => ?_⟩
      refine ⟨_, rfl, _, rfl, ra, wn, rows, rfl, hL5.same s6, hz, hw, fun db H7 s7 db0 hdb => ?_⟩
      refine ⟨c1, db, rows, _, rfl, hLc.same s7, hdb, WB.dealt_len rows wn.toNat, few, fun H8 s8 => ?_⟩
      refine ⟨_, rfl, _, rfl, _, rfl, ra, wn, rows, rfl, ((hL5.same s6).same s7).same s8, hz, hw, fun H9 s9 => ?_⟩
      exact ⟨_, _, 0, 1, rfl, ⟨_, rfl, by rw [WB.val_dealt good], rfl⟩, by decide, fun H10 s10 => q H10⟩
  · refine ⟨_, rfl, _, rfl, hd, wn, rows, rfl, hLh, tok1, .inr ⟨b, hz, hb, fun H2 k2 => ?_⟩⟩
    refine ⟨_, rfl, rfl, rfl, _, rfl, tF (by rw [ne_diff (due_ne b)]; exact ne_same _) ?_⟩
    refine ⟨5, rfl, by decide, by decide, ?_⟩
    refine for_range (fun i σ H' => Same H1 H' ∧ ∃ x, σ = [x0, some (.ref ra), x2, x3, some (.int wn), some (.str (wordOf b)), some (.ref hd), x, x8]) ⟨k2, _, rfl⟩ (fun i σ H' hi hP => ?_) (fun σ H' hP => ?_)
    · obtain ⟨k, x, rfl⟩ := hP
      exact ⟨_, rfl, _, rfl, _, rfl, _, hd, wn, rows, rfl, hLh.same k, (Same.kp k).tab tok1, .inr ⟨b, hz, hb, fun H4 k4 => ⟨_, rfl, rfl, _, rfl, tF (ne_same _) ⟨k.trans k4, _, rfl⟩⟩⟩⟩
    · obtain ⟨k, x, rfl⟩ := hP
      refine ⟨_, rfl, _, rfl, hd, ra, rows, rfl, hLh.same k, hL1.same k, few, r200, true, rfl, tF rfl ?_⟩
      exact ⟨_, rfl, rfl, _, rfl, tT (ne_diff (due_ne b)) (q _)⟩
theorem tail0 (hr : Room 10 (A.deeper (PyProof.Rows.envOfC "law" (defScope sLaw) s.heap.objs.size f cdv))) (cT : Cal P w K mg base 1 "_law_at" ["_law_script", "_law_k"] (spAt K)) (cR : Cal P w K mg base 2 "_law_bad_row" ["_law_cell", "_law_other"] spBadRow)
    (h1 : ∃ t, PSs (cxOf CX0 P w K mg base lawN "law" (defScope sLaw) f cdv A outer s H0 E).nox ((defBody sLaw).drop 7) t ∧
      ∀ (H : Hp) (ra : Addr) (rows : List (List Int)) (wn : Int) (due : Str) (x0 x2 x3 x6 x7 x8 : Option V), LL H ra rows → T.Ok H → ((Sized rows ∧ WB.Good rows ∧ 0 ≤ wn ∧ due = "done") ∨ ∃ b, Few rows ∧ Bads rows wn b ∧ due = wordOf b) → (∀ H', Q (.bl true) H') →
        t { nx := fun _ H' => Q .non H', rt := Q } [x0, some (.ref ra), x2, x3, some (.int wn), some (.str due), x6, x7, x8] H) :
    ∃ t, PSs (cxOf CX0 P w K mg base lawN "law" (defScope sLaw) f cdv A outer s H0 E).nox ((defBody sLaw).drop 6) t ∧
      ∀ (H : Hp) (a ra : Addr) (ns : List Int) (rows : List (List Int)) (wn way spot : Int) (due : Str) (x6 x7 x8 : Option V), SqL K H a (iV ns) → ns.length ≤ 63 → LL H ra rows → T.Ok H → Sized rows → rows.length ≤ 9 → WB.Good rows → 0 ≤ spot → spot ≤ (rows.length : Int) → ((0 ≤ wn ∧ due = "done") ∨ (wn < 0 ∧ due = "no wares")) → (∀ H', Q (.bl true) H') →
        t { nx := fun _ H' => Q .non H', rt := Q } [some (.ref a), some (.ref ra), some (.int way), some (.int spot), some (.int wn), some (.str due), x6, x7, x8] H := by
  obtain ⟨t1, p1, q1⟩ := h1
  refine ⟨_, pss_cons (ps_if (PW.pt (pw_or (pt_cmpR op_eq (pv 2) pe_int (nomark _)) (pw_or1 (pt_cmpR op_eq (pv 2) pe_int (nomark _)))))
    (pss_cons (ps_expr (pe_bm PySem.F.plainAttrs_list PySem.F.slot_list_insert rfl mt_insert (pv 1) (pa_cons (pv 3) (pa_cons (pe_cal cR hr (by decide) rfl (pa_cons (pe_cal cT hr (by decide) rfl (pa_cons (pv 0) (pa_cons pe_int pa_nil))) (pa_cons (pe_cal cT hr (by decide) rfl (pa_cons (pv 0) (pa_cons pe_int pa_nil))) pa_nil))) pa_nil))))
      (pss_one (ps_set (i := 5) scLaw.nd rfl (Or.inl rfl) pe_str))) pss_nil) p1, ?_⟩
  intro H a ra ns rows wn way spot due x6 x7 x8 hS h63 hL tok hz h9 good sp0 sp1 hd q
  have go : t1 { nx := fun _ H' => Q .non H', rt := Q } [some (.ref a), some (.ref ra), some (.int way), some (.int spot), some (.int wn), some (.str due), x6, x7, x8] H := by
    refine q1 H ra rows wn due _ _ _ _ _ _ hL tok ?_ q
    rcases hd with ⟨hw, e⟩ | ⟨hw, e⟩
    · exact .inl ⟨hz, good, hw, e⟩
    · exact .inr ⟨false, ⟨by omega, fun r hr => by have := hz.row hr; omega⟩, ⟨good_of good, hw⟩, e⟩
  obtain ⟨as, a1, a2⟩ := hL
  have la : as.length = rows.length := a2.length
  obtain ⟨m, rfl⟩ : ∃ m : Nat, spot = (m : Int) := ⟨spot.toNat, by omega⟩
  refine ⟨_, rfl, rfl, _, rfl, ?_⟩
  have body : ∀ (p : Addr) (H1 : Hp) (r : List Int), Same H H1 → H p = none → H1 p = some (.lst (iV r)) → r.length ≤ 7 → ¬ GoodRow r →
      t1 { nx := fun _ H' => Q .non H', rt := Q } [some (.ref a), some (.ref ra), some (.int way), some (.int (m : Int)), some (.int wn), some (.str "no bid"), x6, x7, x8] (upd H1 ra (.lst ((as.map V.ref).take m ++ V.ref p :: (as.map V.ref).drop m))) := fun p H1 r s1 p0 hp hl nb => by
    have hra := s1 _ _ a1
    have npr : p ≠ ra := Ne.symm (ne_of_none a1 p0)
    have tok1 := (Same.kp s1).tab tok
    refine q1 _ ra (rows.take m ++ r :: rows.drop m) wn "no bid" _ _ _ _ _ _ ⟨as.take m ++ p :: as.drop m, ?_, paired_ins m (Paired.mapP' a2 fun b z hb e => ?_) ?_⟩ (Tab.upd tok1 hra (Tab.ne tok1 hra)) (.inr ⟨true, ⟨?_, fun z hz' => ?_⟩, ⟨r, by simp, nb⟩, rfl⟩) q
    · rw [upd_same, List.map_append, List.map_cons, List.map_take, List.map_drop]
    · show upd _ ra _ b = _
      have e' := s1 _ _ e
      rw [upd_ne (ne_of e' hra (Ne.symm (refs_ints hb)))]; exact e'
    · show upd _ ra _ p = _
      rw [upd_ne npr]; exact hp
    · rw [List.length_append, List.length_take, List.length_cons, List.length_drop]; omega
    · rcases List.mem_append.mp hz' with h | h
      · have := hz.row (List.mem_of_mem_take h); omega
      · rcases List.mem_cons.mp h with h | h
        · subst h; omega
        · have := hz.row (List.mem_of_mem_drop h); omega
  have hlm : (as.map V.ref).length = rows.length := by rw [List.length_map, la]
  by_cases w2 : way = 2
  · refine tT (dT (congrArg V.int w2)) (tT rfl ?_)
    refine ⟨_, rfl, .inl ⟨rfl, _, SqL.of a1⟩, _, rfl, _, rfl, a, ns, 4, rfl, hS, h63, by decide, _, rfl, a, ns, 5, rfl, hS, h63, by decide, _, _, rfl, fun p H1 r s1 p0 hp hl nb => ?_⟩
    exact ⟨ra, _, m, .ref p, rfl, rfl, s1 _ _ a1, by omega, by omega, body p H1 r s1 p0 hp hl nb⟩
  · refine tF (dF fun e => w2 (V.int.inj e)) ⟨_, rfl, rfl, _, rfl, ?_⟩
    by_cases w3 : way = 3
    · refine tT (dT (congrArg V.int w3)) ?_
      refine ⟨_, rfl, .inl ⟨rfl, _, SqL.of a1⟩, _, rfl, _, rfl, a, ns, 4, rfl, hS, h63, by decide, _, rfl, a, ns, 5, rfl, hS, h63, by decide, _, _, rfl, fun p H1 r s1 p0 hp hl nb => ?_⟩
      exact ⟨ra, _, m, .ref p, rfl, rfl, s1 _ _ a1, by omega, by omega, body p H1 r s1 p0 hp hl nb⟩
    · exact tF (dF fun e => w3 (V.int.inj e)) go
end
theorem ok_law (F : Fun K "law" "law" sLaw f fd) (cR : Cal P w K mg base 2 "_law_drawn" ["_law_cells", "_law_count"] spDrawn) (cT : Cal P w K mg base 1 "_law_at" ["_law_script", "_law_k"] (spAt K)) (cO : Cal P w K mg base 1 "_law_room" ["_law_script", "_law_few", "_law_bound"] (spRoom K)) (cY : Cal P w K mg base 1 "_law_any" ["_law_cell"] spAny)
    (cC : Cal P w K mg base 1 "_law_copies" ["_law_lists"] spCopies) (cB : Cal P w K mg base 7 "_law_base_tells" ["_law_rows", "_law_wares"] (spTells T)) (cS : Cal P w K mg base 10 "_law_said" ["_law_way", "_law_rows", "_law_wares"] (spSaid T))
    (cK : Cal P w K mg base 2 "_law_kept" ["_law_found", "_law_due"] spKept) (cW : Cal P w K mg base 1 "worth" ["bids", "counts"] spWorth) (cDB : Cal P w K mg base 1 "_law_dealt_by" ["_law_rows", "_law_wares"] spDealtBy) (cSo : Cal P w K mg base 1 "_law_so" ["_law_found", "_law_due"] spSo) (cM : Cal P w K mg base 1 "_law_most" ["_law_rows", "_law_wares"] spMost)
    (cBR : Cal P w K mg base 2 "_law_bad_row" ["_law_cell", "_law_other"] spBadRow) (mr : mg "range" = none) (ml : mg "len" = none) (mab : mg "abs" = none) : FnOk P w K mg base CX0 11 f fd ["_law_script"] (spLaw K T) := by
  refine F.ok (k := 10) scLaw (fun vs H Q E h => ?_) (fun cdv A outer s H vs Q E hr h => ?_)
  · obtain ⟨a, ns, rfl, _⟩ := h
    rfl
  obtain ⟨a, ns, rfl, hS, h63, tok, q⟩ := h
  obtain ⟨t0, p0, q0⟩ := tail0 (T := T) (P := P) (w := w) (K := K) (base := base) (f := f) (cdv := cdv) (A := A) (outer := outer) (s := s) (H0 := H) (E := E) (Q := Q) hr cT cBR (tail1 hr cC cB cS cK cW cDB cSo cM mr)
  refine ⟨_, pss_cons (ps_set (i := 1) scLaw.nd rfl (Or.inl rfl) (pe_cal cR hr (by decide) rfl (pa_cons (pe_slice sl_list (pv 0) (po_some pe_int) (po_some pe_int))
      (pa_cons (pe_op op_mod (pe_cal cT hr (by decide) rfl (pa_cons (pv 0) (pa_cons pe_int pa_nil))) (pe_cal cO hr (by decide) rfl (pa_cons (pv 0) (pa_cons pe_int (pa_cons pe_int pa_nil))))) pa_nil))))
    (pss_cons (ps_set (i := 2) scLaw.nd rfl (Or.inl rfl) (pe_op op_mod (pe_cal cT hr (by decide) rfl (pa_cons (pv 0) (pa_cons pe_int pa_nil))) pe_int))
    (pss_cons (ps_set (i := 3) scLaw.nd rfl (Or.inl rfl) (pe_op op_mod (pe_op op_fdiv (pe_cal cT hr (by decide) rfl (pa_cons (pv 0) (pa_cons pe_int pa_nil))) pe_int) (pe_op op_add (pe_callB call_len_seq rfl ml PySem.boot_len (pa_cons (pv 1) pa_nil)) pe_int)))
    (pss_cons (ps_set (i := 4) scLaw.nd rfl (Or.inl rfl) (pe_op op_mod (pe_cal cT hr (by decide) rfl (pa_cons (pv 0) (pa_cons pe_int pa_nil))) pe_int))
    (pss_cons (ps_set (i := 5) scLaw.nd rfl (Or.inl rfl) pe_str)
    (pss_cons (ps_if (PW.pt (pw_or (pt_cmpR op_eq (pv 2) pe_int (nomark _)) (pw_or1 (pt_cmpR op_eq (pv 2) pe_int (nomark _)))))
      (pss_cons (ps_set (i := 4) scLaw.nd rfl (Or.inl rfl) (pe_op op_sub (pe_op op_sub pe_int pe_int) (pv 4)))
      (pss_cons (ps_if (pt_cmpR op_eq (pe_op op_mod (pe_callB call_len_seq rfl ml PySem.boot_len (pa_cons (pv 0) pa_nil)) pe_int) pe_int (nomark _))
        (pss_one (ps_set (i := 4) scLaw.nd rfl (Or.inl rfl) (pe_op op_sub (pe_op op_sub pe_int pe_int) (pe_callB call_abs rfl mab PyProof.Rows.boot_abs (pa_cons (pe_cal cY hr (by decide) rfl (pa_cons (pe_cal cT hr (by decide) rfl (pa_cons (pv 0) (pa_cons pe_int pa_nil))) pa_nil)) pa_nil))))) pss_nil)
      (pss_one (ps_set (i := 5) scLaw.nd rfl (Or.inl rfl) pe_str)))) pss_nil)
    p0))))), ?_⟩
  refine ⟨_, rfl, _, rfl, _, rfl, a, _, rfl, hS, fun sl hsl => ?_⟩
  obtain ⟨ms', ec, hlc⟩ := cut_iV ns (some 2) (some 102)
  rw [ec]
  have s1 : Same H (upd H sl (.lst (iV ms'))) := same_upd hsl
  refine ⟨_, rfl, a, ns, 0, rfl, s1.seq hS, h63, by decide, _, rfl, a, ns, 9, 101, rfl, s1.seq hS, h63, _, _, rfl, rfl, (by show (0 : Int) < 9; decide), ?_⟩
  have m1 := Int.emod_nonneg (ns.getD (0 : Int).toNat 0) (show (9 : Int) ≠ 0 by decide)
  have m2 := Int.emod_lt_of_pos (ns.getD (0 : Int).toNat 0) (show (0 : Int) < 9 by decide)
  refine ⟨sl, ms', _, rfl, upd_same, by omega, m1, by omega, fun ra H1 rows s2 ra0 hL good hlen hsum => ?_⟩
  have sH := s1.trans s2
  have hz : Sized rows := ⟨by omega, by omega⟩
  have few := hz.few
  have tok1 := (Same.kp sH).tab tok
  have hS1 := sH.seq hS
  refine ⟨_, rfl, a, ns, 1, rfl, hS1, h63, by decide, _, _, rfl, rfl, (by show (0 : Int) < 6; decide), ?_⟩
  obtain ⟨as, a1, a2⟩ := id hL
  have la : (as.map V.ref).length = rows.length := by rw [List.length_map]; exact a2.length
  refine ⟨_, rfl, a, ns, 1, rfl, hS1, h63, by decide, _, _, rfl, rfl, ⟨by decide, by decide⟩, _, rfl, ra, _, rfl, .inl (SqL.of a1), _, _, rfl, rfl, _, _, rfl, rfl, (by show (0 : Int) < ((as.map V.ref).length : Int) + 1; omega), ?_⟩
  have g1 := Int.emod_nonneg (ns.getD (1 : Int).toNat 0 / 6) (show ((as.map V.ref).length : Int) + 1 ≠ 0 by omega)
  have g2 := Int.emod_lt_of_pos (ns.getD (1 : Int).toNat 0 / 6) (show (0 : Int) < ((as.map V.ref).length : Int) + 1 by omega)
  refine ⟨_, rfl, a, ns, 3, rfl, hS1, h63, by decide, _, _, rfl, rfl, (by show (0 : Int) < 20; decide), ?_⟩
  have m3 := Int.emod_nonneg (ns.getD (3 : Int).toNat 0) (show (20 : Int) ≠ 0 by decide)
  have neg : ∀ (H' : Hp) (wn : Int), Same H1 H' → wn < 0 → t0 { nx := fun _ H' => Q .non H', rt := Q } [some (.ref a), some (.ref ra), some (.int (ns.getD (1 : Int).toNat 0 % 6)), some (.int (ns.getD (1 : Int).toNat 0 / 6 % (((as.map V.ref).length : Int) + 1))), some (.int wn), some (.str "no wares"), none, none, none] H' := fun H' wn s' hw =>
    q0 H' a ra ns rows wn _ _ "no wares" _ _ _ (s'.seq hS1) h63 (hL.same s') ((Same.kp s').tab tok1) hz (by omega) good g1 (by omega) (.inr ⟨hw, rfl⟩) q
  refine ⟨_, rfl, rfl, _, rfl, ?_⟩
  by_cases w1 : ns.getD (1 : Int).toNat 0 % 6 = 1
  · refine tT (dT (congrArg V.int w1)) (tT rfl ?_)
    refine ⟨_, _, rfl, rfl, _, rfl, _, _, rfl, rfl, ?_⟩
    refine ⟨_, rfl, a, _, rfl, .inl hS1, _, _, rfl, rfl, (by show (0 : Int) < 3; decide), rfl, _, rfl, ?_⟩
    by_cases c3 : (((iV ns).length : Nat) : Int) % 3 = 1
    · refine tT (dT (congrArg V.int c3)) ?_
      refine ⟨_, _, rfl, rfl, _, rfl, a, ns, 3, rfl, hS1, h63, by decide, _, rfl, fun v H3 s4 => ⟨v, rfl, _, _, rfl, rfl, ?_⟩⟩
      exact neg H3 _ s4 (by split <;> omega)
    · exact tF (dF fun e => c3 (V.int.inj e)) (neg H1 _ (Same.refl _) (by omega))
  · refine tF (dF fun e => w1 (V.int.inj e)) ⟨_, rfl, rfl, _, rfl, ?_⟩
    by_cases w2 : ns.getD (1 : Int).toNat 0 % 6 = 2
    · refine tT (dT (congrArg V.int w2)) ?_
      refine ⟨_, _, rfl, rfl, _, rfl, _, _, rfl, rfl, ?_⟩
      refine ⟨_, rfl, a, _, rfl, .inl hS1, _, _, rfl, rfl, (by show (0 : Int) < 3; decide), rfl, _, rfl, ?_⟩
      by_cases c3 : (((iV ns).length : Nat) : Int) % 3 = 1
      · refine tT (dT (congrArg V.int c3)) ?_
        refine ⟨_, _, rfl, rfl, _, rfl, a, ns, 3, rfl, hS1, h63, by decide, _, rfl, fun v H3 s4 => ⟨v, rfl, _, _, rfl, rfl, ?_⟩⟩
        exact neg H3 _ s4 (by split <;> omega)
      · exact tF (dF fun e => c3 (V.int.inj e)) (neg H1 _ (Same.refl _) (by omega))
    · refine tF (dF fun e => w2 (V.int.inj e)) ?_
      exact q0 H1 a ra ns rows _ _ _ "done" _ _ _ hS1 h63 hL tok1 hz (by omega) good g1 (by omega) (.inl ⟨m3, rfl⟩) q

end
theorem all_mk {l : PySem.W.OpenLaw} {w : World} {K : PySem.W.Frag} {h : Heap} {mg : Str → Option Value} {fa c Pt : Addr} (X : K.In h) (G : h.Ns mainGlobals mg) (hfa : mg "law" = some (.ref fa))
    {f_law_any : Addr} {od_law_any an_law_any : Option Addr} {sl_law_any : Array (Option Value)} {oc_law_any kV_law_any dc_law_any pm_law_any ct_law_any cd_law_any : Value}
    {f_law_drawn : Addr} {od_law_drawn an_law_drawn : Option Addr} {sl_law_drawn : Array (Option Value)} {oc_law_drawn kV_law_drawn dc_law_drawn pm_law_drawn ct_law_drawn cd_law_drawn : Value}
    {f_law_at : Addr} {od_law_at an_law_at : Option Addr} {sl_law_at : Array (Option Value)} {oc_law_at kV_law_at dc_law_at pm_law_at ct_law_at cd_law_at : Value}
    {f_law_room : Addr} {od_law_room an_law_room : Option Addr} {sl_law_room : Array (Option Value)} {oc_law_room kV_law_room dc_law_room pm_law_room ct_law_room cd_law_room : Value}
    {f_law_copies : Addr} {od_law_copies an_law_copies : Option Addr} {sl_law_copies : Array (Option Value)} {oc_law_copies kV_law_copies dc_law_copies pm_law_copies ct_law_copies cd_law_copies : Value}
    {f_refuse_row : Addr} {od_refuse_row an_refuse_row : Option Addr} {sl_refuse_row : Array (Option Value)} {oc_refuse_row kV_refuse_row dc_refuse_row pm_refuse_row ct_refuse_row cd_refuse_row : Value}
    {f_refuse : Addr} {od_refuse an_refuse : Option Addr} {sl_refuse : Array (Option Value)} {oc_refuse kV_refuse dc_refuse pm_refuse ct_refuse cd_refuse : Value}
    {f_ranked : Addr} {od_ranked an_ranked : Option Addr} {sl_ranked : Array (Option Value)} {oc_ranked kV_ranked dc_ranked pm_ranked ct_ranked : Value}
    {f_dealt : Addr} {od_dealt an_dealt : Option Addr} {sl_dealt : Array (Option Value)} {oc_dealt kV_dealt dc_dealt pm_dealt ct_dealt cd_dealt : Value}
    {f_law_base_tells : Addr} {od_law_base_tells an_law_base_tells : Option Addr} {sl_law_base_tells : Array (Option Value)} {oc_law_base_tells kV_law_base_tells dc_law_base_tells pm_law_base_tells ct_law_base_tells cd_law_base_tells : Value}
    {f_replaced : Addr} {od_replaced an_replaced : Option Addr} {sl_replaced : Array (Option Value)} {oc_replaced kV_replaced dc_replaced pm_replaced ct_replaced cd_replaced : Value}
    {f_worth : Addr} {od_worth an_worth : Option Addr} {sl_worth : Array (Option Value)} {oc_worth kV_worth dc_worth pm_worth ct_worth cd_worth : Value}
    {f_lost_by_others : Addr} {od_lost_by_others an_lost_by_others : Option Addr} {sl_lost_by_others : Array (Option Value)} {oc_lost_by_others kV_lost_by_others dc_lost_by_others pm_lost_by_others ct_lost_by_others cd_lost_by_others : Value}
    {f_paid : Addr} {od_paid an_paid : Option Addr} {sl_paid : Array (Option Value)} {oc_paid kV_paid dc_paid pm_paid ct_paid cd_paid : Value}
    {f_taken_in : Addr} {od_taken_in an_taken_in : Option Addr} {sl_taken_in : Array (Option Value)} {oc_taken_in kV_taken_in dc_taken_in pm_taken_in ct_taken_in cd_taken_in : Value}
    {f_first_left : Addr} {od_first_left an_first_left : Option Addr} {sl_first_left : Array (Option Value)} {oc_first_left kV_first_left dc_first_left pm_first_left ct_first_left cd_first_left : Value}
    {f_gains : Addr} {od_gains an_gains : Option Addr} {sl_gains : Array (Option Value)} {oc_gains kV_gains dc_gains pm_gains ct_gains cd_gains : Value}
    {f_law_said : Addr} {od_law_said an_law_said : Option Addr} {sl_law_said : Array (Option Value)} {oc_law_said kV_law_said dc_law_said pm_law_said ct_law_said cd_law_said : Value}
    {f_law_whole : Addr} {od_law_whole an_law_whole : Option Addr} {sl_law_whole : Array (Option Value)} {oc_law_whole kV_law_whole dc_law_whole pm_law_whole ct_law_whole cd_law_whole : Value}
    {f_law_kept : Addr} {od_law_kept an_law_kept : Option Addr} {sl_law_kept : Array (Option Value)} {oc_law_kept kV_law_kept dc_law_kept pm_law_kept ct_law_kept cd_law_kept : Value}
    {f_law_dealt_by : Addr} {od_law_dealt_by an_law_dealt_by : Option Addr} {sl_law_dealt_by : Array (Option Value)} {oc_law_dealt_by kV_law_dealt_by dc_law_dealt_by pm_law_dealt_by ct_law_dealt_by cd_law_dealt_by : Value}
    {f_law_so : Addr} {od_law_so an_law_so : Option Addr} {sl_law_so : Array (Option Value)} {oc_law_so kV_law_so dc_law_so pm_law_so ct_law_so cd_law_so : Value}
    {f_law_most : Addr} {od_law_most an_law_most : Option Addr} {sl_law_most : Array (Option Value)} {oc_law_most kV_law_most dc_law_most pm_law_most ct_law_most cd_law_most : Value}
    {f_law_bad_row : Addr} {od_law_bad_row an_law_bad_row : Option Addr} {sl_law_bad_row : Array (Option Value)} {oc_law_bad_row kV_law_bad_row dc_law_bad_row pm_law_bad_row ct_law_bad_row cd_law_bad_row : Value}
    {f_law : Addr} {od_law an_law : Option Addr} {sl_law : Array (Option Value)} {oc_law kV_law dc_law pm_law ct_law cd_law : Value}
    {C0 C1 C2 : Addr}
    (a_law_any : PySem.W.nsIn K mainGlobals "_law_any" = some (some (.ref f_law_any))) (l_law_any : K.lookup f_law_any = some ⟨oc_law_any, od_law_any, .func (PySem.W.fnOf "_law_any" "_law_any" (defArgs sLawAny) (defBody sLawAny) (defScope sLawAny) .none kV_law_any dc_law_any pm_law_any an_law_any cd_law_any ct_law_any), sl_law_any⟩) (c_law_any : PySem.W.codeIn K cd_law_any "_law_any" = true) (k_law_any : PySem.W.keepIn K (.ref f_law_any) = true)
    (a_law_drawn : PySem.W.nsIn K mainGlobals "_law_drawn" = some (some (.ref f_law_drawn))) (l_law_drawn : K.lookup f_law_drawn = some ⟨oc_law_drawn, od_law_drawn, .func (PySem.W.fnOf "_law_drawn" "_law_drawn" (defArgs sLawDrawn) (defBody sLawDrawn) (defScope sLawDrawn) .none kV_law_drawn dc_law_drawn pm_law_drawn an_law_drawn cd_law_drawn ct_law_drawn), sl_law_drawn⟩) (c_law_drawn : PySem.W.codeIn K cd_law_drawn "_law_drawn" = true) (k_law_drawn : PySem.W.keepIn K (.ref f_law_drawn) = true)
    (a_law_at : PySem.W.nsIn K mainGlobals "_law_at" = some (some (.ref f_law_at))) (l_law_at : K.lookup f_law_at = some ⟨oc_law_at, od_law_at, .func (PySem.W.fnOf "_law_at" "_law_at" (defArgs sLawAt) (defBody sLawAt) (defScope sLawAt) .none kV_law_at dc_law_at pm_law_at an_law_at cd_law_at ct_law_at), sl_law_at⟩) (c_law_at : PySem.W.codeIn K cd_law_at "_law_at" = true) (k_law_at : PySem.W.keepIn K (.ref f_law_at) = true)
    (a_law_room : PySem.W.nsIn K mainGlobals "_law_room" = some (some (.ref f_law_room))) (l_law_room : K.lookup f_law_room = some ⟨oc_law_room, od_law_room, .func (PySem.W.fnOf "_law_room" "_law_room" (defArgs sLawRoom) (defBody sLawRoom) (defScope sLawRoom) .none kV_law_room dc_law_room pm_law_room an_law_room cd_law_room ct_law_room), sl_law_room⟩) (c_law_room : PySem.W.codeIn K cd_law_room "_law_room" = true) (k_law_room : PySem.W.keepIn K (.ref f_law_room) = true)
    (a_law_copies : PySem.W.nsIn K mainGlobals "_law_copies" = some (some (.ref f_law_copies))) (l_law_copies : K.lookup f_law_copies = some ⟨oc_law_copies, od_law_copies, .func (PySem.W.fnOf "_law_copies" "_law_copies" (defArgs sLawCopies) (defBody sLawCopies) (defScope sLawCopies) .none kV_law_copies dc_law_copies pm_law_copies an_law_copies cd_law_copies ct_law_copies), sl_law_copies⟩) (c_law_copies : PySem.W.codeIn K cd_law_copies "_law_copies" = true) (k_law_copies : PySem.W.keepIn K (.ref f_law_copies) = true)
    (a_refuse_row : PySem.W.nsIn K mainGlobals "refuse_row" = some (some (.ref f_refuse_row))) (l_refuse_row : K.lookup f_refuse_row = some ⟨oc_refuse_row, od_refuse_row, .func (PySem.W.fnOf "refuse_row" "refuse_row" (defArgs sRefuseRow) (defBody sRefuseRow) (defScope sRefuseRow) .none kV_refuse_row dc_refuse_row pm_refuse_row an_refuse_row cd_refuse_row ct_refuse_row), sl_refuse_row⟩) (c_refuse_row : PySem.W.codeIn K cd_refuse_row "refuse_row" = true) (k_refuse_row : PySem.W.keepIn K (.ref f_refuse_row) = true)
    (a_refuse : PySem.W.nsIn K mainGlobals "refuse" = some (some (.ref f_refuse))) (l_refuse : K.lookup f_refuse = some ⟨oc_refuse, od_refuse, .func (PySem.W.fnOf "refuse" "refuse" (defArgs sRefuse) (defBody sRefuse) (defScope sRefuse) .none kV_refuse dc_refuse pm_refuse an_refuse cd_refuse ct_refuse), sl_refuse⟩) (c_refuse : PySem.W.codeIn K cd_refuse "refuse" = true) (k_refuse : PySem.W.keepIn K (.ref f_refuse) = true)
    (a_ranked : PySem.W.nsIn K mainGlobals "ranked" = some (some (.ref f_ranked))) (l_ranked : K.lookup f_ranked = some ⟨oc_ranked, od_ranked, .func (PySem.W.fnOf "ranked" "ranked" (defArgs sRanked) (defBody sRanked) (defScope sRanked) .none kV_ranked dc_ranked pm_ranked an_ranked (.ref c) ct_ranked), sl_ranked⟩) (c_ranked : PySem.W.codeIn K (.ref c) "ranked" = true) (k_ranked : PySem.W.keepIn K (.ref f_ranked) = true)
    (a_dealt : PySem.W.nsIn K mainGlobals "dealt" = some (some (.ref f_dealt))) (l_dealt : K.lookup f_dealt = some ⟨oc_dealt, od_dealt, .func (PySem.W.fnOf "dealt" "dealt" (defArgs sDealt) (defBody sDealt) (defScope sDealt) .none kV_dealt dc_dealt pm_dealt an_dealt cd_dealt ct_dealt), sl_dealt⟩) (c_dealt : PySem.W.codeIn K cd_dealt "dealt" = true) (k_dealt : PySem.W.keepIn K (.ref f_dealt) = true)
    (a_law_base_tells : PySem.W.nsIn K mainGlobals "_law_base_tells" = some (some (.ref f_law_base_tells))) (l_law_base_tells : K.lookup f_law_base_tells = some ⟨oc_law_base_tells, od_law_base_tells, .func (PySem.W.fnOf "_law_base_tells" "_law_base_tells" (defArgs sLawBaseTells) (defBody sLawBaseTells) (defScope sLawBaseTells) .none kV_law_base_tells dc_law_base_tells pm_law_base_tells an_law_base_tells cd_law_base_tells ct_law_base_tells), sl_law_base_tells⟩) (c_law_base_tells : PySem.W.codeIn K cd_law_base_tells "_law_base_tells" = true) (k_law_base_tells : PySem.W.keepIn K (.ref f_law_base_tells) = true)
    (a_replaced : PySem.W.nsIn K mainGlobals "replaced" = some (some (.ref f_replaced))) (l_replaced : K.lookup f_replaced = some ⟨oc_replaced, od_replaced, .func (PySem.W.fnOf "replaced" "replaced" (defArgs sReplaced) (defBody sReplaced) (defScope sReplaced) .none kV_replaced dc_replaced pm_replaced an_replaced cd_replaced ct_replaced), sl_replaced⟩) (c_replaced : PySem.W.codeIn K cd_replaced "replaced" = true) (k_replaced : PySem.W.keepIn K (.ref f_replaced) = true)
    (a_worth : PySem.W.nsIn K mainGlobals "worth" = some (some (.ref f_worth))) (l_worth : K.lookup f_worth = some ⟨oc_worth, od_worth, .func (PySem.W.fnOf "worth" "worth" (defArgs sWorth) (defBody sWorth) (defScope sWorth) .none kV_worth dc_worth pm_worth an_worth cd_worth ct_worth), sl_worth⟩) (c_worth : PySem.W.codeIn K cd_worth "worth" = true) (k_worth : PySem.W.keepIn K (.ref f_worth) = true)
    (a_lost_by_others : PySem.W.nsIn K mainGlobals "lost_by_others" = some (some (.ref f_lost_by_others))) (l_lost_by_others : K.lookup f_lost_by_others = some ⟨oc_lost_by_others, od_lost_by_others, .func (PySem.W.fnOf "lost_by_others" "lost_by_others" (defArgs sLostByOthers) (defBody sLostByOthers) (defScope sLostByOthers) .none kV_lost_by_others dc_lost_by_others pm_lost_by_others an_lost_by_others cd_lost_by_others ct_lost_by_others), sl_lost_by_others⟩) (c_lost_by_others : PySem.W.codeIn K cd_lost_by_others "lost_by_others" = true) (k_lost_by_others : PySem.W.keepIn K (.ref f_lost_by_others) = true)
    (a_paid : PySem.W.nsIn K mainGlobals "paid" = some (some (.ref f_paid))) (l_paid : K.lookup f_paid = some ⟨oc_paid, od_paid, .func (PySem.W.fnOf "paid" "paid" (defArgs sPaid) (defBody sPaid) (defScope sPaid) .none kV_paid dc_paid pm_paid an_paid cd_paid ct_paid), sl_paid⟩) (c_paid : PySem.W.codeIn K cd_paid "paid" = true) (k_paid : PySem.W.keepIn K (.ref f_paid) = true)
    (a_taken_in : PySem.W.nsIn K mainGlobals "taken_in" = some (some (.ref f_taken_in))) (l_taken_in : K.lookup f_taken_in = some ⟨oc_taken_in, od_taken_in, .func (PySem.W.fnOf "taken_in" "taken_in" (defArgs sTakenIn) (defBody sTakenIn) (defScope sTakenIn) .none kV_taken_in dc_taken_in pm_taken_in an_taken_in cd_taken_in ct_taken_in), sl_taken_in⟩) (c_taken_in : PySem.W.codeIn K cd_taken_in "taken_in" = true) (k_taken_in : PySem.W.keepIn K (.ref f_taken_in) = true)
    (a_first_left : PySem.W.nsIn K mainGlobals "first_left" = some (some (.ref f_first_left))) (l_first_left : K.lookup f_first_left = some ⟨oc_first_left, od_first_left, .func (PySem.W.fnOf "first_left" "first_left" (defArgs sFirstLeft) (defBody sFirstLeft) (defScope sFirstLeft) .none kV_first_left dc_first_left pm_first_left an_first_left cd_first_left ct_first_left), sl_first_left⟩) (c_first_left : PySem.W.codeIn K cd_first_left "first_left" = true) (k_first_left : PySem.W.keepIn K (.ref f_first_left) = true)
    (a_gains : PySem.W.nsIn K mainGlobals "gains" = some (some (.ref f_gains))) (l_gains : K.lookup f_gains = some ⟨oc_gains, od_gains, .func (PySem.W.fnOf "gains" "gains" (defArgs sGains) (defBody sGains) (defScope sGains) .none kV_gains dc_gains pm_gains an_gains cd_gains ct_gains), sl_gains⟩) (c_gains : PySem.W.codeIn K cd_gains "gains" = true) (k_gains : PySem.W.keepIn K (.ref f_gains) = true)
    (a_law_said : PySem.W.nsIn K mainGlobals "_law_said" = some (some (.ref f_law_said))) (l_law_said : K.lookup f_law_said = some ⟨oc_law_said, od_law_said, .func (PySem.W.fnOf "_law_said" "_law_said" (defArgs sLawSaid) (defBody sLawSaid) (defScope sLawSaid) .none kV_law_said dc_law_said pm_law_said an_law_said cd_law_said ct_law_said), sl_law_said⟩) (c_law_said : PySem.W.codeIn K cd_law_said "_law_said" = true) (k_law_said : PySem.W.keepIn K (.ref f_law_said) = true)
    (a_law_whole : PySem.W.nsIn K mainGlobals "_law_whole" = some (some (.ref f_law_whole))) (l_law_whole : K.lookup f_law_whole = some ⟨oc_law_whole, od_law_whole, .func (PySem.W.fnOf "_law_whole" "_law_whole" (defArgs sLawWhole) (defBody sLawWhole) (defScope sLawWhole) .none kV_law_whole dc_law_whole pm_law_whole an_law_whole cd_law_whole ct_law_whole), sl_law_whole⟩) (c_law_whole : PySem.W.codeIn K cd_law_whole "_law_whole" = true) (k_law_whole : PySem.W.keepIn K (.ref f_law_whole) = true)
    (a_law_kept : PySem.W.nsIn K mainGlobals "_law_kept" = some (some (.ref f_law_kept))) (l_law_kept : K.lookup f_law_kept = some ⟨oc_law_kept, od_law_kept, .func (PySem.W.fnOf "_law_kept" "_law_kept" (defArgs sLawKept) (defBody sLawKept) (defScope sLawKept) .none kV_law_kept dc_law_kept pm_law_kept an_law_kept cd_law_kept ct_law_kept), sl_law_kept⟩) (c_law_kept : PySem.W.codeIn K cd_law_kept "_law_kept" = true) (k_law_kept : PySem.W.keepIn K (.ref f_law_kept) = true)
    (a_law_dealt_by : PySem.W.nsIn K mainGlobals "_law_dealt_by" = some (some (.ref f_law_dealt_by))) (l_law_dealt_by : K.lookup f_law_dealt_by = some ⟨oc_law_dealt_by, od_law_dealt_by, .func (PySem.W.fnOf "_law_dealt_by" "_law_dealt_by" (defArgs sLawDealtBy) (defBody sLawDealtBy) (defScope sLawDealtBy) .none kV_law_dealt_by dc_law_dealt_by pm_law_dealt_by an_law_dealt_by cd_law_dealt_by ct_law_dealt_by), sl_law_dealt_by⟩) (c_law_dealt_by : PySem.W.codeIn K cd_law_dealt_by "_law_dealt_by" = true) (k_law_dealt_by : PySem.W.keepIn K (.ref f_law_dealt_by) = true)
    (a_law_so : PySem.W.nsIn K mainGlobals "_law_so" = some (some (.ref f_law_so))) (l_law_so : K.lookup f_law_so = some ⟨oc_law_so, od_law_so, .func (PySem.W.fnOf "_law_so" "_law_so" (defArgs sLawSo) (defBody sLawSo) (defScope sLawSo) .none kV_law_so dc_law_so pm_law_so an_law_so cd_law_so ct_law_so), sl_law_so⟩) (c_law_so : PySem.W.codeIn K cd_law_so "_law_so" = true) (k_law_so : PySem.W.keepIn K (.ref f_law_so) = true)
    (a_law_most : PySem.W.nsIn K mainGlobals "_law_most" = some (some (.ref f_law_most))) (l_law_most : K.lookup f_law_most = some ⟨oc_law_most, od_law_most, .func (PySem.W.fnOf "_law_most" "_law_most" (defArgs sLawMost) (defBody sLawMost) (defScope sLawMost) .none kV_law_most dc_law_most pm_law_most an_law_most cd_law_most ct_law_most), sl_law_most⟩) (c_law_most : PySem.W.codeIn K cd_law_most "_law_most" = true) (k_law_most : PySem.W.keepIn K (.ref f_law_most) = true)
    (a_law_bad_row : PySem.W.nsIn K mainGlobals "_law_bad_row" = some (some (.ref f_law_bad_row))) (l_law_bad_row : K.lookup f_law_bad_row = some ⟨oc_law_bad_row, od_law_bad_row, .func (PySem.W.fnOf "_law_bad_row" "_law_bad_row" (defArgs sLawBadRow) (defBody sLawBadRow) (defScope sLawBadRow) .none kV_law_bad_row dc_law_bad_row pm_law_bad_row an_law_bad_row cd_law_bad_row ct_law_bad_row), sl_law_bad_row⟩) (c_law_bad_row : PySem.W.codeIn K cd_law_bad_row "_law_bad_row" = true) (k_law_bad_row : PySem.W.keepIn K (.ref f_law_bad_row) = true)
    (a_law : PySem.W.nsIn K mainGlobals "law" = some (some (.ref f_law))) (l_law : K.lookup f_law = some ⟨oc_law, od_law, .func (PySem.W.fnOf "law" "law" (defArgs sLaw) (defBody sLaw) (defScope sLaw) .none kV_law dc_law pm_law an_law cd_law ct_law), sl_law⟩) (c_law : PySem.W.codeIn K cd_law "law" = true) (k_law : PySem.W.keepIn K (.ref f_law) = true)
    (z_range : PySem.W.nsIn K mainGlobals "range" = some none)
    (z_len : PySem.W.nsIn K mainGlobals "len" = some none)
    (z_abs : PySem.W.nsIn K mainGlobals "abs" = some none)
    (z_list : PySem.W.nsIn K mainGlobals "list" = some none)
    (z_reversed : PySem.W.nsIn K mainGlobals "reversed" = some none)
    (z_sorted : PySem.W.nsIn K mainGlobals "sorted" = some none)
    (z_enumerate : PySem.W.nsIn K mainGlobals "enumerate" = some none)
    (z_isinstance : PySem.W.nsIn K mainGlobals "isinstance" = some none)
    (z_int : PySem.W.nsIn K mainGlobals "int" = some none)
    (z_ValueError : PySem.W.nsIn K mainGlobals "ValueError" = some none)
    (z_sum : PySem.W.nsIn K mainGlobals "sum" = some none)
    (z_zip : PySem.W.nsIn K mainGlobals "zip" = some none)
    (z_bool : PySem.W.nsIn K mainGlobals "bool" = some none)
    (z_tuple : PySem.W.nsIn K mainGlobals "tuple" = some none)
    (z_str : PySem.W.nsIn K mainGlobals "str" = some none)
    (z_BidError : PySem.W.nsIn K mainGlobals "BidError" = some (some (.ref C0)))
    (z_NoBid : PySem.W.nsIn K mainGlobals "NoBid" = some (some (.ref C1)))
    (z_NoWares : PySem.W.nsIn K mainGlobals "NoWares" = some (some (.ref C2)))
    (kE1 : ExcK K C1) (kE2 : ExcK K C2) (hB : ExB K C0 C1 C2)
    {oc_t : Value} {od_t : Option Addr} {vs_t : Array Value} {sl_t : Array (Option Value)} (tl : K.lookup c = some ⟨oc_t, od_t, .fields vs_t, sl_t⟩) (tp : (vs_t[11]? : Option Value) = some (.ref Pt)) (nt : PySem.W.noTabs K = true) :
    ∃ (fd : FuncData) (c Pt : Addr), PySem.W.tabIn K "ranked" = some (c, Pt) ∧ PySem.W.noTabs K = true ∧ (∀ (s : Shared) (u : Value), BindsTo s fd ⟨[u], []⟩ [("_law_script", u)]) ∧
      ∀ base : Heap, K.In base → base.Ns mainGlobals mg → PySem.W.CodeHd base c Pt → base.BuiltinsAt mg Pt → FnOk l.prog w K mg base CX0 11 fa fd ["_law_script"] (spLaw K (tabOf Pt)) := by
  have tb : PySem.W.tabIn K "ranked" = some (c, Pt) := by
    unfold PySem.W.tabIn
    simp only [a_ranked, l_ranked, tl, tp, PySem.W.fnOf]
  have e := hfa.symm.trans (PySem.W.mg_of X G a_law)
  cases e
  have F_law_any := fun_mk (st := sLawAny) l_law_any c_law_any k_law_any
  have b_law_any := F_law_any.binds (ps := ["_law_cell"]) fun _ _ _ _ _ _ us hl => match us, hl with | [_], _ => rfl
  have m_law_any := PySem.W.mg_of X G a_law_any
  have F_law_drawn := fun_mk (st := sLawDrawn) l_law_drawn c_law_drawn k_law_drawn
  have b_law_drawn := F_law_drawn.binds (ps := ["_law_cells", "_law_count"]) fun _ _ _ _ _ _ us hl => match us, hl with | [_, _], _ => rfl
  have m_law_drawn := PySem.W.mg_of X G a_law_drawn
  have F_law_at := fun_mk (st := sLawAt) l_law_at c_law_at k_law_at
  have b_law_at := F_law_at.binds (ps := ["_law_script", "_law_k"]) fun _ _ _ _ _ _ us hl => match us, hl with | [_, _], _ => rfl
  have m_law_at := PySem.W.mg_of X G a_law_at
  have F_law_room := fun_mk (st := sLawRoom) l_law_room c_law_room k_law_room
  have b_law_room := F_law_room.binds (ps := ["_law_script", "_law_few", "_law_bound"]) fun _ _ _ _ _ _ us hl => match us, hl with | [_, _, _], _ => rfl
  have m_law_room := PySem.W.mg_of X G a_law_room
  have F_law_copies := fun_mk (st := sLawCopies) l_law_copies c_law_copies k_law_copies
  have b_law_copies := F_law_copies.binds (ps := ["_law_lists"]) fun _ _ _ _ _ _ us hl => match us, hl with | [_], _ => rfl
  have m_law_copies := PySem.W.mg_of X G a_law_copies
  have F_refuse_row := fun_mk (st := sRefuseRow) l_refuse_row c_refuse_row k_refuse_row
  have b_refuse_row := F_refuse_row.binds (ps := ["row"]) fun _ _ _ _ _ _ us hl => match us, hl with | [_], _ => rfl
  have m_refuse_row := PySem.W.mg_of X G a_refuse_row
  have F_refuse := fun_mk (st := sRefuse) l_refuse c_refuse k_refuse
  have b_refuse := F_refuse.binds (ps := ["bids", "wares"]) fun _ _ _ _ _ _ us hl => match us, hl with | [_, _], _ => rfl
  have m_refuse := PySem.W.mg_of X G a_refuse
  have F_ranked := fun_mk (st := sRanked) l_ranked c_ranked k_ranked
  have b_ranked := F_ranked.binds (ps := ["bids"]) fun _ _ _ _ _ _ us hl => match us, hl with | [_], _ => rfl
  have m_ranked := PySem.W.mg_of X G a_ranked
  have F_dealt := fun_mk (st := sDealt) l_dealt c_dealt k_dealt
  have b_dealt := F_dealt.binds (ps := ["bids", "wares"]) fun _ _ _ _ _ _ us hl => match us, hl with | [_, _], _ => rfl
  have m_dealt := PySem.W.mg_of X G a_dealt
  have F_law_base_tells := fun_mk (st := sLawBaseTells) l_law_base_tells c_law_base_tells k_law_base_tells
  have b_law_base_tells := F_law_base_tells.binds (ps := ["_law_rows", "_law_wares"]) fun _ _ _ _ _ _ us hl => match us, hl with | [_, _], _ => rfl
  have m_law_base_tells := PySem.W.mg_of X G a_law_base_tells
  have F_replaced := fun_mk (st := sReplaced) l_replaced c_replaced k_replaced
  have b_replaced := F_replaced.binds (ps := ["entries", "place", "entry"]) fun _ _ _ _ _ _ us hl => match us, hl with | [_, _, _], _ => rfl
  have m_replaced := PySem.W.mg_of X G a_replaced
  have F_worth := fun_mk (st := sWorth) l_worth c_worth k_worth
  have b_worth := F_worth.binds (ps := ["bids", "counts"]) fun _ _ _ _ _ _ us hl => match us, hl with | [_, _], _ => rfl
  have m_worth := PySem.W.mg_of X G a_worth
  have F_lost_by_others := fun_mk (st := sLostByOthers) l_lost_by_others c_lost_by_others k_lost_by_others
  have b_lost_by_others := F_lost_by_others.binds (ps := ["bids", "wares", "counts", "bidder"]) fun _ _ _ _ _ _ us hl => match us, hl with | [_, _, _, _], _ => rfl
  have m_lost_by_others := PySem.W.mg_of X G a_lost_by_others
  have F_paid := fun_mk (st := sPaid) l_paid c_paid k_paid
  have b_paid := F_paid.binds (ps := ["bids", "wares"]) fun _ _ _ _ _ _ us hl => match us, hl with | [_, _], _ => rfl
  have m_paid := PySem.W.mg_of X G a_paid
  have F_taken_in := fun_mk (st := sTakenIn) l_taken_in c_taken_in k_taken_in
  have b_taken_in := F_taken_in.binds (ps := ["bids", "wares"]) fun _ _ _ _ _ _ us hl => match us, hl with | [_, _], _ => rfl
  have m_taken_in := PySem.W.mg_of X G a_taken_in
  have F_first_left := fun_mk (st := sFirstLeft) l_first_left c_first_left k_first_left
  have b_first_left := F_first_left.binds (ps := ["bids", "wares"]) fun _ _ _ _ _ _ us hl => match us, hl with | [_, _], _ => rfl
  have m_first_left := PySem.W.mg_of X G a_first_left
  have F_gains := fun_mk (st := sGains) l_gains c_gains k_gains
  have b_gains := F_gains.binds (ps := ["bids", "wares", "values"]) fun _ _ _ _ _ _ us hl => match us, hl with | [_, _, _], _ => rfl
  have m_gains := PySem.W.mg_of X G a_gains
  have F_law_said := fun_mk (st := sLawSaid) l_law_said c_law_said k_law_said
  have b_law_said := F_law_said.binds (ps := ["_law_way", "_law_rows", "_law_wares"]) fun _ _ _ _ _ _ us hl => match us, hl with | [_, _, _], _ => rfl
  have m_law_said := PySem.W.mg_of X G a_law_said
  have F_law_whole := fun_mk (st := sLawWhole) l_law_whole c_law_whole k_law_whole
  have b_law_whole := F_law_whole.binds (ps := ["_law_found"]) fun _ _ _ _ _ _ us hl => match us, hl with | [_], _ => rfl
  have m_law_whole := PySem.W.mg_of X G a_law_whole
  have F_law_kept := fun_mk (st := sLawKept) l_law_kept c_law_kept k_law_kept
  have b_law_kept := F_law_kept.binds (ps := ["_law_found", "_law_due"]) fun _ _ _ _ _ _ us hl => match us, hl with | [_, _], _ => rfl
  have m_law_kept := PySem.W.mg_of X G a_law_kept
  have F_law_dealt_by := fun_mk (st := sLawDealtBy) l_law_dealt_by c_law_dealt_by k_law_dealt_by
  have b_law_dealt_by := F_law_dealt_by.binds (ps := ["_law_rows", "_law_wares"]) fun _ _ _ _ _ _ us hl => match us, hl with | [_, _], _ => rfl
  have m_law_dealt_by := PySem.W.mg_of X G a_law_dealt_by
  have F_law_so := fun_mk (st := sLawSo) l_law_so c_law_so k_law_so
  have b_law_so := F_law_so.binds (ps := ["_law_found", "_law_due"]) fun _ _ _ _ _ _ us hl => match us, hl with | [_, _], _ => rfl
  have m_law_so := PySem.W.mg_of X G a_law_so
  have F_law_most := fun_mk (st := sLawMost) l_law_most c_law_most k_law_most
  have b_law_most := F_law_most.binds (ps := ["_law_rows", "_law_wares"]) fun _ _ _ _ _ _ us hl => match us, hl with | [_, _], _ => rfl
  have m_law_most := PySem.W.mg_of X G a_law_most
  have F_law_bad_row := fun_mk (st := sLawBadRow) l_law_bad_row c_law_bad_row k_law_bad_row
  have b_law_bad_row := F_law_bad_row.binds (ps := ["_law_cell", "_law_other"]) fun _ _ _ _ _ _ us hl => match us, hl with | [_, _], _ => rfl
  have m_law_bad_row := PySem.W.mg_of X G a_law_bad_row
  have F_law := fun_mk (st := sLaw) l_law c_law k_law
  have m_law := PySem.W.mg_of X G a_law
  have n_range := PySem.W.mg_none_of X G z_range
  have n_len := PySem.W.mg_none_of X G z_len
  have n_abs := PySem.W.mg_none_of X G z_abs
  have n_list := PySem.W.mg_none_of X G z_list
  have n_reversed := PySem.W.mg_none_of X G z_reversed
  have n_sorted := PySem.W.mg_none_of X G z_sorted
  have n_enumerate := PySem.W.mg_none_of X G z_enumerate
  have n_isinstance := PySem.W.mg_none_of X G z_isinstance
  have n_int := PySem.W.mg_none_of X G z_int
  have n_ValueError := PySem.W.mg_none_of X G z_ValueError
  have n_sum := PySem.W.mg_none_of X G z_sum
  have n_zip := PySem.W.mg_none_of X G z_zip
  have n_bool := PySem.W.mg_none_of X G z_bool
  have n_tuple := PySem.W.mg_none_of X G z_tuple
  have n_str := PySem.W.mg_none_of X G z_str
  have hX : Exs K mg C0 C1 C2 := { hB with i1 := exci kE1 hB.j1, i2 := exci kE2 hB.j2, m0 := PySem.W.mg_of X G z_BidError, m1 := PySem.W.mg_of X G z_NoBid, m2 := PySem.W.mg_of X G z_NoWares }
  refine ⟨PySem.W.fnOf "law" "law" (defArgs sLaw) (defBody sLaw) (defScope sLaw) .none kV_law dc_law pm_law an_law cd_law ct_law, c, Pt, tb, nt, fun s v => .of_eq rfl, fun base _ _ CD BA => ?_⟩
  have OX_refuse_row := ok_refuse_rowX (P := l.prog) (w := w) (mg := mg) (base := base) F_refuse_row n_enumerate hX.m1 kE1
  have OX_refuse := ok_refuseX (P := l.prog) (w := w) (mg := mg) (base := base) F_refuse ⟨⟨_, _, OX_refuse_row, b_refuse_row, k_refuse_row, m_refuse_row⟩⟩ hX.m2 kE2
  have OX_dealt := ok_dealtX (P := l.prog) (w := w) (mg := mg) (base := base) F_dealt ⟨⟨_, _, OX_refuse, b_refuse, k_refuse, m_refuse⟩⟩
  have OX_paid := ok_paidX (P := l.prog) (w := w) (mg := mg) (base := base) F_paid ⟨⟨_, _, OX_dealt, b_dealt, k_dealt, m_dealt⟩⟩
  have OX_taken_in := ok_takenX (P := l.prog) (w := w) (mg := mg) (base := base) F_taken_in ⟨⟨_, _, OX_paid, b_paid, k_paid, m_paid⟩⟩ n_sum
  have OX_first_left := ok_firstX (P := l.prog) (w := w) (mg := mg) (base := base) F_first_left ⟨⟨_, _, OX_refuse, b_refuse, k_refuse, m_refuse⟩⟩
  have OX_gains := ok_gainsX (P := l.prog) (w := w) (mg := mg) (base := base) F_gains ⟨⟨_, _, OX_dealt, b_dealt, k_dealt, m_dealt⟩⟩
  have O_law_any := ok_any (P := l.prog) (w := w) (mg := mg) (base := base) F_law_any
  have O_law_drawn := ok_drawn (P := l.prog) (w := w) (mg := mg) (base := base) F_law_drawn O_law_any b_law_any k_law_any m_law_any n_range n_len n_abs n_list n_reversed n_sorted
  have O_law_at := ok_at (P := l.prog) (w := w) (mg := mg) (base := base) F_law_at n_len
  have O_law_room := ok_room (P := l.prog) (w := w) (mg := mg) (base := base) F_law_room n_len
  have O_law_copies := ok_copies (P := l.prog) (w := w) (mg := mg) (base := base) F_law_copies n_list
  have O_refuse_row := ok_refuse_row (P := l.prog) (w := w) (mg := mg) (base := base) F_refuse_row n_enumerate
  have O_refuse := ok_refuse (P := l.prog) (w := w) (mg := mg) (base := base) F_refuse O_refuse_row b_refuse_row k_refuse_row m_refuse_row
  have O_ranked := ok_ranked (P := l.prog) (w := w) (mg := mg) (base := base) l_ranked c_ranked CD BA n_enumerate n_sorted
  have O_dealt := ok_dealt (P := l.prog) (w := w) (mg := mg) (base := base) F_dealt O_refuse b_refuse k_refuse m_refuse O_ranked b_ranked k_ranked m_ranked n_len
  have O_law_base_tells := ok_tells (P := l.prog) (w := w) (mg := mg) (base := base) F_law_base_tells hX ⟨⟨_, _, O_dealt, b_dealt, k_dealt, m_dealt⟩⟩ ⟨⟨_, _, OX_dealt, b_dealt, k_dealt, m_dealt⟩⟩ n_isinstance n_int n_ValueError
  have O_replaced := ok_replaced (P := l.prog) (w := w) (mg := mg) (base := base) F_replaced
  have O_worth := ok_worth (P := l.prog) (w := w) (mg := mg) (base := base) F_worth n_sum n_zip
  have O_lost_by_others := ok_lost (P := l.prog) (w := w) (mg := mg) (base := base) F_lost_by_others ⟨⟨_, _, O_replaced, b_replaced, k_replaced, m_replaced⟩⟩ ⟨⟨_, _, O_worth, b_worth, k_worth, m_worth⟩⟩ ⟨⟨_, _, O_dealt, b_dealt, k_dealt, m_dealt⟩⟩
  have O_paid := ok_paid (P := l.prog) (w := w) (mg := mg) (base := base) F_paid ⟨⟨_, _, O_dealt, b_dealt, k_dealt, m_dealt⟩⟩ ⟨⟨_, _, O_lost_by_others, b_lost_by_others, k_lost_by_others, m_lost_by_others⟩⟩ n_range n_len
  have O_taken_in := ok_taken (P := l.prog) (w := w) (mg := mg) (base := base) F_taken_in ⟨⟨_, _, O_paid, b_paid, k_paid, m_paid⟩⟩ n_sum
  have O_first_left := ok_first (P := l.prog) (w := w) (mg := mg) (base := base) F_first_left O_refuse b_refuse k_refuse m_refuse O_ranked b_ranked k_ranked m_ranked n_len
  have O_gains := ok_gains (P := l.prog) (w := w) (mg := mg) (base := base) F_gains ⟨⟨_, _, O_dealt, b_dealt, k_dealt, m_dealt⟩⟩ ⟨⟨_, _, O_paid, b_paid, k_paid, m_paid⟩⟩ ⟨⟨_, _, O_worth, b_worth, k_worth, m_worth⟩⟩ n_zip
  have O_law_said := ok_said (P := l.prog) (w := w) (mg := mg) (base := base) F_law_said hX ⟨⟨_, _, O_dealt, b_dealt, k_dealt, m_dealt⟩⟩ ⟨⟨_, _, O_paid, b_paid, k_paid, m_paid⟩⟩ ⟨⟨_, _, O_taken_in, b_taken_in, k_taken_in, m_taken_in⟩⟩ ⟨⟨_, _, O_first_left, b_first_left, k_first_left, m_first_left⟩⟩ ⟨⟨_, _, O_gains, b_gains, k_gains, m_gains⟩⟩ ⟨⟨_, _, OX_dealt, b_dealt, k_dealt, m_dealt⟩⟩ ⟨⟨_, _, OX_paid, b_paid, k_paid, m_paid⟩⟩ ⟨⟨_, _, OX_taken_in, b_taken_in, k_taken_in, m_taken_in⟩⟩ ⟨⟨_, _, OX_first_left, b_first_left, k_first_left, m_first_left⟩⟩ ⟨⟨_, _, OX_gains, b_gains, k_gains, m_gains⟩⟩
  have O_law_whole := ok_whole (P := l.prog) (w := w) (mg := mg) (base := base) F_law_whole n_isinstance n_int n_bool
  have O_law_kept := ok_kept (P := l.prog) (w := w) (mg := mg) (base := base) F_law_kept O_law_whole b_law_whole k_law_whole m_law_whole n_isinstance n_list n_len n_range
  have O_law_dealt_by := ok_dealt_by (P := l.prog) (w := w) (mg := mg) (base := base) F_law_dealt_by n_range n_len n_sorted
  have O_law_so := ok_so (P := l.prog) (w := w) (mg := mg) (base := base) F_law_so n_isinstance n_list n_tuple n_str n_bool n_int n_len n_range
  have O_law_most := ok_most (P := l.prog) (w := w) (mg := mg) (base := base) F_law_most n_sum n_list n_reversed n_sorted
  have O_law_bad_row := ok_bad (P := l.prog) (w := w) (mg := mg) (base := base) F_law_bad_row ⟨⟨_, _, O_law_any, b_law_any, k_law_any, m_law_any⟩⟩ n_abs n_len
  exact ok_law F_law ⟨⟨_, _, O_law_drawn, b_law_drawn, k_law_drawn, m_law_drawn⟩⟩ ⟨⟨_, _, O_law_at, b_law_at, k_law_at, m_law_at⟩⟩ ⟨⟨_, _, O_law_room, b_law_room, k_law_room, m_law_room⟩⟩ ⟨⟨_, _, O_law_any, b_law_any, k_law_any, m_law_any⟩⟩ ⟨⟨_, _, O_law_copies, b_law_copies, k_law_copies, m_law_copies⟩⟩ ⟨⟨_, _, O_law_base_tells, b_law_base_tells, k_law_base_tells, m_law_base_tells⟩⟩ ⟨⟨_, _, O_law_said, b_law_said, k_law_said, m_law_said⟩⟩ ⟨⟨_, _, O_law_kept, b_law_kept, k_law_kept, m_law_kept⟩⟩ ⟨⟨_, _, O_worth, b_worth, k_worth, m_worth⟩⟩ ⟨⟨_, _, O_law_dealt_by, b_law_dealt_by, k_law_dealt_by, m_law_dealt_by⟩⟩ ⟨⟨_, _, O_law_so, b_law_so, k_law_so, m_law_so⟩⟩ ⟨⟨_, _, O_law_most, b_law_most, k_law_most, m_law_most⟩⟩ ⟨⟨_, _, O_law_bad_row, b_law_bad_row, k_law_bad_row, m_law_bad_row⟩⟩ n_range n_len n_abs
end My
open PySem PySem.W PyProof.Rows
set_option maxRecDepth 100000 in
set_option maxHeartbeats 0 in
theorem PySem.Challenge.cw_warebids_k08_refused_holds : PySem.Challenge.rw_warebids_k08_refused.Holds := by
  w_on; o_law; k_head; (case hw => w_witness2)
  k_fill
  refine L2.walk_tab (l := PySem.Challenge.rw_warebids_k08_refused) (n := 63) (k := 11) (y := "ranked") (x := "_law_script") (sp := fun K Pt => My.spLaw K (My.tabOf Pt)) rfl (by decide) rfl ⟨rfl, by decide, by decide⟩ (fun w h Y => PySem.W.km_in_of Y) ?hrec ?F ?hsp
  case hrec => kernel_rfl
  case F =>
    intro w mg fa h KX G hmg
    refine' My.all_mk KX G hmg ?a_law_any ?l_law_any ?c_law_any ?k_law_any ?a_law_drawn ?l_law_drawn ?c_law_drawn ?k_law_drawn ?a_law_at ?l_law_at ?c_law_at ?k_law_at ?a_law_room ?l_law_room ?c_law_room ?k_law_room ?a_law_copies ?l_law_copies ?c_law_copies ?k_law_copies ?a_refuse_row ?l_refuse_row ?c_refuse_row ?k_refuse_row ?a_refuse ?l_refuse ?c_refuse ?k_refuse ?a_ranked ?l_ranked ?c_ranked ?k_ranked ?a_dealt ?l_dealt ?c_dealt ?k_dealt ?a_law_base_tells ?l_law_base_tells ?c_law_base_tells ?k_law_base_tells ?a_replaced ?l_replaced ?c_replaced ?k_replaced ?a_worth ?l_worth ?c_worth ?k_worth ?a_lost_by_others ?l_lost_by_others ?c_lost_by_others ?k_lost_by_others ?a_paid ?l_paid ?c_paid ?k_paid ?a_taken_in ?l_taken_in ?c_taken_in ?k_taken_in ?a_first_left ?l_first_left ?c_first_left ?k_first_left ?a_gains ?l_gains ?c_gains ?k_gains ?a_law_said ?l_law_said ?c_law_said ?k_law_said ?a_law_whole ?l_law_whole ?c_law_whole ?k_law_whole ?a_law_kept ?l_law_kept ?c_law_kept ?k_law_kept ?a_law_dealt_by ?l_law_dealt_by ?c_law_dealt_by ?k_law_dealt_by ?a_law_so ?l_law_so ?c_law_so ?k_law_so ?a_law_most ?l_law_most ?c_law_most ?k_law_most ?a_law_bad_row ?l_law_bad_row ?c_law_bad_row ?k_law_bad_row ?a_law ?l_law ?c_law ?k_law ?z_range ?z_len ?z_abs ?z_list ?z_reversed ?z_sorted ?z_enumerate ?z_isinstance ?z_int ?z_ValueError ?z_sum ?z_zip ?z_bool ?z_tuple ?z_str ?z_BidError ?z_NoBid ?z_NoWares ?kE1 ?kE2 ?hB ?tl ?tp ?nt
    (case a_law_any => k_is)
    (case l_law_any => k_is)
    (case c_law_any => k_is)
    (case k_law_any => k_is)
    (case a_law_drawn => k_is)
    (case l_law_drawn => k_is)
    (case c_law_drawn => k_is)
    (case k_law_drawn => k_is)
    (case a_law_at => k_is)
    (case l_law_at => k_is)
    (case c_law_at => k_is)
    (case k_law_at => k_is)
    (case a_law_room => k_is)
    (case l_law_room => k_is)
    (case c_law_room => k_is)
    (case k_law_room => k_is)
    (case a_law_copies => k_is)
    (case l_law_copies => k_is)
    (case c_law_copies => k_is)
    (case k_law_copies => k_is)
    (case a_refuse_row => k_is)
    (case l_refuse_row => k_is)
    (case c_refuse_row => k_is)
    (case k_refuse_row => k_is)
    (case a_refuse => k_is)
    (case l_refuse => k_is)
    (case c_refuse => k_is)
    (case k_refuse => k_is)
    (case a_ranked => k_is)
    (case l_ranked => k_is)
    (case c_ranked => k_is)
    (case k_ranked => k_is)
    (case a_dealt => k_is)
    (case l_dealt => k_is)
    (case c_dealt => k_is)
    (case k_dealt => k_is)
    (case a_law_base_tells => k_is)
    (case l_law_base_tells => k_is)
    (case c_law_base_tells => k_is)
    (case k_law_base_tells => k_is)
    (case a_replaced => k_is)
    (case l_replaced => k_is)
    (case c_replaced => k_is)
    (case k_replaced => k_is)
    (case a_worth => k_is)
    (case l_worth => k_is)
    (case c_worth => k_is)
    (case k_worth => k_is)
    (case a_lost_by_others => k_is)
    (case l_lost_by_others => k_is)
    (case c_lost_by_others => k_is)
    (case k_lost_by_others => k_is)
    (case a_paid => k_is)
    (case l_paid => k_is)
    (case c_paid => k_is)
    (case k_paid => k_is)
    (case a_taken_in => k_is)
    (case l_taken_in => k_is)
    (case c_taken_in => k_is)
    (case k_taken_in => k_is)
    (case a_first_left => k_is)
    (case l_first_left => k_is)
    (case c_first_left => k_is)
    (case k_first_left => k_is)
    (case a_gains => k_is)
    (case l_gains => k_is)
    (case c_gains => k_is)
    (case k_gains => k_is)
    (case a_law_said => k_is)
    (case l_law_said => k_is)
    (case c_law_said => k_is)
    (case k_law_said => k_is)
    (case a_law_whole => k_is)
    (case l_law_whole => k_is)
    (case c_law_whole => k_is)
    (case k_law_whole => k_is)
    (case a_law_kept => k_is)
    (case l_law_kept => k_is)
    (case c_law_kept => k_is)
    (case k_law_kept => k_is)
    (case a_law_dealt_by => k_is)
    (case l_law_dealt_by => k_is)
    (case c_law_dealt_by => k_is)
    (case k_law_dealt_by => k_is)
    (case a_law_so => k_is)
    (case l_law_so => k_is)
    (case c_law_so => k_is)
    (case k_law_so => k_is)
    (case a_law_most => k_is)
    (case l_law_most => k_is)
    (case c_law_most => k_is)
    (case k_law_most => k_is)
    (case a_law_bad_row => k_is)
    (case l_law_bad_row => k_is)
    (case c_law_bad_row => k_is)
    (case k_law_bad_row => k_is)
    (case a_law => k_is)
    (case l_law => k_is)
    (case c_law => k_is)
    (case k_law => k_is)
    (case z_range => k_is)
    (case z_len => k_is)
    (case z_abs => k_is)
    (case z_list => k_is)
    (case z_reversed => k_is)
    (case z_sorted => k_is)
    (case z_enumerate => k_is)
    (case z_isinstance => k_is)
    (case z_int => k_is)
    (case z_ValueError => k_is)
    (case z_sum => k_is)
    (case z_zip => k_is)
    (case z_bool => k_is)
    (case z_tuple => k_is)
    (case z_str => k_is)
    (case z_BidError => k_is)
    (case z_NoBid => k_is)
    (case z_NoWares => k_is)
    (case tl => k_is)
    (case kE1 => refine' L2.excK_mk ?lC ?lN ?sk ?hi ?lA ?lM ?skM ?hiM; (case lC => k_is); (case lN => k_is); (case sk => kernel_rfl); (case hi => kernel_rfl); (case lA => k_is); (case lM => k_is); (case skM => kernel_rfl); (case hiM => kernel_rfl))
    (case kE2 => refine' L2.excK_mk ?lC ?lN ?sk ?hi ?lA ?lM ?skM ?hiM; (case lC => k_is); (case lN => k_is); (case sk => kernel_rfl); (case hi => kernel_rfl); (case lA => k_is); (case lM => k_is); (case skM => kernel_rfl); (case hiM => kernel_rfl))
    (case hB => refine' ⟨⟨?ga, ?gr, ?fo, ?mB, ?mO⟩, ⟨?ga2, ?gr2, ?fo2, ?mB2, ?mO2⟩, ?_, ?_, ?_, ?_, ?_, ?_, ?_, ?_, ?_, ?_, ?_⟩; (case ga => k_is); (case gr => k_is); (case fo => kernel_rfl); (case mB => kernel_rfl); (case mO => kernel_rfl); (case ga2 => k_is); (case gr2 => k_is); (case fo2 => kernel_rfl); (case mB2 => kernel_rfl); (case mO2 => kernel_rfl); all_goals kernel_rfl)
    (case tp => exact rfl); (case nt => kernel_rfl)
  case hsp => exact fun K H a Pt ns hl hS hT => ⟨a, ns, rfl, hS, hl, .inl hT, fun _ => rfl⟩
