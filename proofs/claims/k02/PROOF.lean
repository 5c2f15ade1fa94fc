import PyProof.Rows.All
import Wide.All
import OpenK.AllK
import Wide.FinOn
import Lean
import PyProof.EqAt
import PyProof.EqKinds
import PyProof.TupleCall
import PyProof.NeKinds
import PySem.Challenge.RW_liftwell_k02_whole_doors_and_floors
set_option Elab.async false
set_option linter.all false
set_option maxRecDepth 100000
set_option maxRecDepth 100000
namespace L2
open PySem PySem.Spec PyProof.Rows

/-- a key: an int or a str -/
abbrev Key := Sum Int Str
def keyIs : Key → Value → Bool
  | .inl k, v => Value.isInt k v
  | .inr x, v => Value.isStrOf x v
def keyH (w : World) : Key → Int
  | .inl k => hashInt k
  | .inr x => hashStr w x
theorem keyIs_shape : ∀ {k : Key} {v : Value}, keyIs k v = true → (∃ i t, k = Sum.inl i ∧ v = Value.int i t) ∨ (∃ x t, k = Sum.inr x ∧ v = Value.str x t)
  | .inl i, v, h => by
    obtain ⟨t, e⟩ := Value.isInt_shape (k := i) (v := v) h
    exact .inl ⟨i, t, rfl, e⟩
  | .inr x, v, h => by
    obtain ⟨t, e⟩ := Value.isStrOf_shape (x := x) (v := v) h
    exact .inr ⟨x, t, rfl, e⟩
theorem keyIs_int (i : Int) (t : Tok) : keyIs (.inl i) (.int i t) = true := by simp [keyIs, Value.isInt]
theorem keyIs_str (x : Str) (t : Tok) : keyIs (.inr x) (.str x t) = true := by simp [keyIs, Value.isStrOf]
theorem key_ll (a b : Int) : decide ((Sum.inl a : Key) = Sum.inl b) = (a == b) := by
  by_cases e : a = b
  · subst e; simp
  · have h : ¬ (Sum.inl a : Key) = Sum.inl b := fun q => e (Sum.inl.inj q)
    rw [decide_eq_false h]
    exact (beq_eq_false_iff_ne.mpr e).symm
theorem key_rr (a b : Str) : decide ((Sum.inr a : Key) = Sum.inr b) = decide (a = b) := by
  by_cases e : a = b
  · subst e; simp
  · have h : ¬ (Sum.inr a : Key) = Sum.inr b := fun q => e (Sum.inr.inj q)
    rw [decide_eq_false h, decide_eq_false e]
theorem key_lr (a : Int) (b : Str) : decide ((Sum.inl a : Key) = Sum.inr b) = false := decide_eq_false (fun q => nomatch q)
theorem key_rl (a : Str) (b : Int) : decide ((Sum.inr a : Key) = Sum.inl b) = false := decide_eq_false (fun q => nomatch q)

def mixKind (prog : Program) (w : World) : PySem.KeyKind prog w Key where
  is := keyIs
  hash := keyH w
  inj := fun v a b ha hb => by
    rcases keyIs_shape ha with ⟨i, t, rfl, rfl⟩ | ⟨x, t, rfl, rfl⟩
    · rcases keyIs_shape hb with ⟨j, u, rfl, e⟩ | ⟨y, u, rfl, e⟩
      · injection e with e1 _; rw [e1]
      · exact nomatch e
    · rcases keyIs_shape hb with ⟨j, u, rfl, e⟩ | ⟨y, u, rfl, e⟩
      · exact nomatch e
      · injection e with e1 _; rw [e1]
  byValue := fun k v h => by
    rcases keyIs_shape h with ⟨i, t, rfl, rfl⟩ | ⟨x, t, rfl, rfl⟩ <;> rfl
  pyHash := fun hv h => by
    rcases keyIs_shape hv with ⟨i, t, rfl, rfl⟩ | ⟨x, t, rfl, rfl⟩
    · exact wpAny_pyHash_int h
    · exact wpAny_pyHash_str h
  eqBool := fun hu hv h => by
    rcases keyIs_shape hu with ⟨i, t, rfl, rfl⟩ | ⟨x, t, rfl, rfl⟩
    · rcases keyIs_shape hv with ⟨j, u, rfl, rfl⟩ | ⟨y, u, rfl, rfl⟩
      · rw [key_ll] at h; exact wpAny_eqBool_int h
      · rw [key_lr] at h; exact SeqAt.EqAt.int_str i t y u _ _ _ _ h
    · rcases keyIs_shape hv with ⟨j, u, rfl, rfl⟩ | ⟨y, u, rfl, rfl⟩
      · rw [key_rl] at h; exact SeqAt.EqAt.str_int x t j u _ _ _ _ h
      · rw [key_rr] at h; exact wpAny_eqBool_str h
  «strs» := fun k x t v h => by
    rcases keyIs_shape h with ⟨i, u, rfl, e⟩ | ⟨y, u, rfl, e⟩
    · exact nomatch e
    · injection e with e1 _
      subst e1
      cases v <;> rfl

theorem mixKind_is (prog : Program) (w : World) (k : Key) (v : Value) : (mixKind prog w).is k v = keyIs k v := rfl
theorem mixKind_int (prog : Program) (w : World) (i : Int) (t : Tok) : (mixKind prog w).is (.inl i) (.int i t) = true := keyIs_int i t
theorem mixKind_str (prog : Program) (w : World) (x : Str) (t : Tok) : (mixKind prog w).is (.inr x) (.str x t) = true := keyIs_str x t
end L2

namespace L2
open PySem PySem.Spec PyProof.Rows

/-- a value, without the heap -/
inductive V where
  | non | bl (b : Bool) | int (i : Int) | str (x : Str) | byt (b : Array UInt8) | flt (b : UInt64) | ref (a : Addr) | ty (n : String)
  deriving DecidableEq

def RelV : V → Value → Prop
  | .non, u => u = Value.none
  | .bl b, u => u = Value.bool b
  | .int i, u => ∃ t, u = Value.int i t
  | .str x, u => ∃ t, u = Value.str x t
  | .byt b, u => ∃ t, u = Value.bytes b t
  | .flt b, u => ∃ t, u = Value.float b t
  | .ref a, u => u = Value.ref a
  | .ty n, u => u = Value.type n

abbrev Vals : List V → List Value → Prop := Paired RelV
theorem Vals.length {xs : List V} {us : List Value} (r : Vals xs us) : xs.length = us.length := Paired.length r
theorem Vals.get : ∀ {xs : List V} {us : List Value} {i : Nat} {x : V}, Vals xs us → xs[i]? = some x → ∃ u, us[i]? = some u ∧ RelV x u
  | _, _, _, _, .nil, e => by simp at e
  | _, _, 0, _, .cons r _, e => by simp at e; subst e; exact ⟨_, rfl, r⟩
  | _, _, i + 1, x, .cons _ t, e => by
    obtain ⟨u, h1, h2⟩ := Vals.get (i := i) (x := x) t (by simpa using e)
    exact ⟨u, by simpa using h1, h2⟩
theorem Vals.set {x : V} {u : Value} (r : RelV x u) : ∀ {xs : List V} {us : List Value} (i : Nat), Vals xs us → Vals (xs.set i x) (us.set i u)
  | _, _, _, .nil => .nil
  | _, _, 0, .cons _ t => .cons r t
  | _, _, i + 1, .cons q t => .cons q (Vals.set r i t)
theorem Vals.append : ∀ {xs ys : List V} {us ws : List Value}, Vals xs us → Vals ys ws → Vals (xs ++ ys) (us ++ ws)
  | _, _, _, _, .nil, s => s
  | _, _, _, _, .cons r t, s => .cons r (Vals.append t s)
theorem Vals.take : ∀ {xs : List V} {us : List Value} (n : Nat), Vals xs us → Vals (xs.take n) (us.take n)
  | _, _, 0, _ => .nil
  | _, _, _ + 1, .nil => .nil
  | _, _, n + 1, .cons r t => .cons r (Vals.take n t)
theorem Vals.drop : ∀ {xs : List V} {us : List Value} (n : Nat), Vals xs us → Vals (xs.drop n) (us.drop n)
  | _, _, 0, r => r
  | _, _, _ + 1, .nil => .nil
  | _, _, n + 1, .cons _ t => Vals.drop n t
theorem Vals.none_of : ∀ {xs : List V} {us : List Value} {i : Nat}, Vals xs us → xs[i]? = none → us[i]? = none := fun {xs us i} r e => by
  have h1 := r.length
  have h2 : xs.length ≤ i := List.getElem?_eq_none_iff.mp e
  exact List.getElem?_eq_none_iff.mpr (by omega)

def RelO : Option V → Option Value → Prop
  | some v, some u => RelV v u
  | none, none => True
  | _, _ => False
def KV {κ : Type} : List (κ × V) → List (κ × Value) → Prop := Paired fun (p : κ × V) (q : κ × Value) => p.1 = q.1 ∧ RelV p.2 q.2

/-- a key of a dict (00_mix): an int or a text -/
def kV : Key → V
  | .inl i => .int i
  | .inr x => .str x

/-- what stands at a tracked address -/
inductive HO where
  /-- a list -/
  | lst (xs : List V)
  /-- a tuple (never changes) -/
  | tup (xs : List V)
  /-- a dict whose keys are ints and texts; one whose keys are tuples of ints and texts (the empty one is both) -/
  | dK (kvs : List (Key × V)) | dT (kvs : List (List Key × V))
  /-- a set of ints: its members, its size -/
  | set (S : Int → Bool) (n : Nat)
  /-- an instance of the class at C, its dict at dx, its attributes -/
  | ins (C dx : Addr) (fs : List (Str × V))
  /-- the dict of the instance at x -/
  | own (x : Addr)
  /-- the dict of an exception -/
  | xd (fs : List (Str × V))
  /-- a bound method, f of x -/
  | met (f x : Addr)
  /-- a range object lo, lo + 1, .. below hi -/
  | rng (lo hi : Int)
  /-- a thing that is known to the object (the script; a dict while a loop walks it): read, never written while it is so -/
  | frz (o : Obj) (u : HO)
  /-- a code object's table -/
  | tbl (ps : Array Value)
  /-- any other thing, by what is true of its one object (a def of one's own: SetO a S n := HO.ext fun h => ..) -/
  | ext (φ : Heap → Prop)

abbrev Hp := Addr → Option HO
def upd (H : Hp) (a : Addr) (o : HO) : Hp := fun b => if b = a then some o else H b
theorem upd_same {H : Hp} {a : Addr} {o : HO} : upd H a o a = some o := by unfold upd; rw [if_pos rfl]
theorem upd_ne {H : Hp} {a b : Addr} {o : HO} (h : b ≠ a) : upd H a o b = H b := by unfold upd; rw [if_neg h]
theorem upd_upd {H : Hp} {a : Addr} {o u : HO} : upd (upd H a o) a u = upd H a u := by
  funext b; unfold upd; split <;> rfl
/-- two objects of different content stand apart -/
theorem ne_of {H : Hp} {a b : Addr} {o u : HO} (h : H a = some o) (h' : H b = some u) (d : o ≠ u) : a ≠ b := by
  intro e; subst e; rw [h] at h'; exact d (Option.some.inj h')
theorem ne_of_none {H : Hp} {a b : Addr} {o : HO} (h : H a = some o) (h' : H b = none) : a ≠ b := by
  intro e; subst e; rw [h] at h'; cases h'

section
variable (P : Program) (w : World)
def ObjOk (H : Hp) (h : Heap) (a : Addr) : HO → Prop
  | .lst xs => xs.length ≤ sizeLine ∧ ∃ (its : List Value) (n : Nat), Vals xs its ∧ h.get? a = some { cls := .type "list", data := .seq its.toArray n }
  | .tup xs => xs.length ≤ sizeLine ∧ ∃ its : List Value, Vals xs its ∧ IsTup h a its.toArray
  | .dK kvs => kvs.length ≤ sizeLine ∧ (a == sysModules) = false ∧ ∃ vs, KV kvs vs ∧ h.DictOf (mixKind P w) a vs
  | .dT kvs => kvs.length ≤ sizeLine ∧ (a == sysModules) = false ∧ ∃ xs : List (List Key × Addr × Value),
      Paired (fun (p : List Key × V) (q : List Key × Addr × Value) => p.1 = q.1 ∧ H q.2.1 = some (.tup (p.1.map kV)) ∧ RelV p.2 q.2.2) kvs xs ∧
      ∃ o es ep, h.get? a = some o ∧ o.ExactDict ∧ o.data = .dict es ep ∧ es.toList = xs.map (entryOfKey (tupleKind (mixKind P w))) ∧ (xs.map (·.1)).Nodup
  | .set S n => h.SetOf (intKind P w) a S n
  | .ins C dx fs => H dx = some (.own a) ∧ fs.length ≤ 1000 ∧ dx ≠ a ∧ h.get? a = some (PySem.W.instObj C dx) ∧
      ∃ mA, h.Ns1 dx mA ∧ (∀ f, RelO (fs.lookup f) (mA f)) ∧ PySem.Within mA (fs.map (·.1))
  | .own _ => ∃ o, h.get? a = some o
  | .xd fs => ∃ mA, h.Ns1 a mA ∧ ∀ f, RelO (fs.lookup f) (mA f)
  | .rng lo hi => ∃ t u v, h.get? a = some { cls := .type "range", data := .fields #[.int lo t, .int hi u, .int 1 v] }
  | .frz o u => h.get? a = some o ∧ ObjOk H h a u
  | .tbl ps => h.get? a = some { cls := .none, data := .fields ps }
  | .met f x => h.get? a = some (PySem.W.methodObj (.ref f) (.ref x))
  | .ext φ => φ h ∧ (∃ o, h.get? a = some o) ∧ ∀ h1 h2 : Heap, φ h1 → (∀ o, h1.get? a = some o → h2.get? a = some o) → φ h2
/-- the abstract heap is held -/
def HOk (H : Hp) (h : Heap) : Prop := ∀ a o, H a = some o → ObjOk P w H h a o
end

section
variable {P : Program} {w : World} {H H' : Hp} {h h' : Heap} {a : Addr} {o : HO}
theorem ObjOk.lt (x : ObjOk P w H h a o) : a < h.objs.size := by
  cases o with
  | lst xs => obtain ⟨_, _, _, _, e⟩ := x; exact Heap.lt_size e
  | tup xs => obtain ⟨_, _, _, p⟩ := x; exact p.lt
  | dK kvs => obtain ⟨_, _, _, _, o, _, _, e, _⟩ := x; exact Heap.lt_size e
  | dT kvs => obtain ⟨_, _, _, _, o, _, _, e, _⟩ := x; exact Heap.lt_size e
  | set S n => obtain ⟨o, _, _, _, e, _⟩ := x; exact Heap.lt_size e
  | ins C dx fs => obtain ⟨_, _, _, e, _⟩ := x; exact Heap.lt_size e
  | own y => obtain ⟨_, e⟩ := x; exact Heap.lt_size e
  | xd fs => obtain ⟨_, ⟨_, _, _, e, _⟩, _⟩ := x; exact Heap.lt_size e
  | rng lo hi => obtain ⟨_, _, _, e⟩ := x; exact Heap.lt_size e
  | frz ob u => obtain ⟨e, _⟩ := x; exact Heap.lt_size e
  | tbl ps => exact Heap.lt_size (show h.get? a = some _ from x)
  | met f y => exact Heap.lt_size (show h.get? a = some _ from x)
  | ext φ => obtain ⟨_, ⟨_, e⟩, _⟩ := x; exact Heap.lt_size e
theorem Paired.mapP {α β : Type} {F G : α → β → Prop} : ∀ {l₁ : List α} {l₂ : List β}, Paired F l₁ l₂ → (∀ a b, F a b → G a b) → Paired G l₁ l₂
  | _, _, .nil, _ => .nil
  | _, _, .cons r t, f => .cons (f _ _ r) (Paired.mapP t f)
theorem Paired.imp' {α β : Type} {F G : α → β → Prop} (f : ∀ a b, F a b → G a b) {l₁ : List α} {l₂ : List β} (r : Paired F l₁ l₂) : Paired G l₁ l₂ := Paired.mapP r f
/-- what an object's description leans on: its own object, its own dict, the tuples -/
theorem ObjOk.stay (x : ObjOk P w H h a o) (k : ∀ b u, (b = a ∨ H b = some (.own a)) → h.get? b = some u → h'.get? b = some u)
    (ho : ∀ b, H b = some (.own a) → H' b = some (.own a)) (ht : ∀ b xs, H b = some (.tup xs) → H' b = some (.tup xs)) : ObjOk P w H' h' a o := by
  induction o with
  | lst xs => obtain ⟨z, its, n, r, e⟩ := x; exact ⟨z, its, n, r, k _ _ (.inl rfl) e⟩
  | tup xs => obtain ⟨z, its, r, ob, e, c⟩ := x; exact ⟨z, its, r, ob, k _ _ (.inl rfl) e, c⟩
  | dK kvs => obtain ⟨z, y, vs, r, ob, es, ep, e, c⟩ := x; exact ⟨z, y, vs, r, ob, es, ep, k _ _ (.inl rfl) e, c⟩
  | dT kvs =>
    obtain ⟨z, y, xs, r, ob, es, ep, e, c⟩ := x
    exact ⟨z, y, xs, Paired.mapP r fun p q z => ⟨z.1, ht _ _ z.2.1, z.2.2⟩, ob, es, ep, k _ _ (.inl rfl) e, c⟩
  | set S n => obtain ⟨ob, es, ep, t, e, c⟩ := x; exact ⟨ob, es, ep, t, k _ _ (.inl rfl) e, c⟩
  | ins C dx fs =>
    obtain ⟨d, z, ne, e, mA, ⟨od, es, ep, e2, c⟩, r⟩ := x
    exact ⟨ho _ d, z, ne, k _ _ (.inl rfl) e, mA, ⟨od, es, ep, k _ _ (.inr d) e2, c⟩, r⟩
  | own y => obtain ⟨ob, e⟩ := x; exact ⟨ob, k _ _ (.inl rfl) e⟩
  | xd fs => obtain ⟨mA, ⟨od, es, ep, e, c⟩, r⟩ := x; exact ⟨mA, ⟨od, es, ep, k _ _ (.inl rfl) e, c⟩, r⟩
  | rng lo hi => obtain ⟨t, u, v, e⟩ := x; exact ⟨t, u, v, k _ _ (.inl rfl) e⟩
  | frz ob u ih => obtain ⟨e, q⟩ := x; exact ⟨k _ _ (.inl rfl) e, ih q⟩
  | tbl ps =>
    have e : h.get? a = some { cls := .none, data := .fields ps } := x
    show h'.get? a = some { cls := .none, data := .fields ps }
    exact k a _ (.inl rfl) e
  | met f y =>
    have e : h.get? a = some (PySem.W.methodObj (.ref f) (.ref y)) := x
    show h'.get? a = some (PySem.W.methodObj (.ref f) (.ref y))
    exact k a _ (.inl rfl) e
  | ext φ => obtain ⟨p, ⟨o, e⟩, st⟩ := x; exact ⟨st _ _ p fun o q => k _ _ (.inl rfl) q, ⟨o, k _ _ (.inl rfl) e⟩, st⟩
theorem HOk.lt (x : HOk P w H h) (e : H a = some o) : a < h.objs.size := (x a o e).lt
theorem HOk.fresh (x : HOk P w H h) (e : h.objs.size ≤ a) : H a = none := by
  cases q : H a with
  | none => rfl
  | some u => exact absurd (Nat.lt_of_lt_of_le (x.lt q) e) (Nat.lt_irrefl _)
/-- every object of the heap is kept -/
theorem HOk.kept (x : HOk P w H h) (k : ∀ b u, h.get? b = some u → h'.get? b = some u) : HOk P w H h' := fun a o e =>
  (x a o e).stay (fun b u _ q => k b u q) (fun _ q => q) fun _ _ q => q
/-- a new object is laid and tracked -/
theorem HOk.laid (x : HOk P w H h) (k : ∀ b u, h.get? b = some u → h'.get? b = some u) (hp : h.objs.size ≤ a) (new : ObjOk P w (upd H a o) h' a o) : HOk P w (upd H a o) h' := fun b u e => by
  have hn := x.fresh hp
  by_cases hb : b = a
  · subst hb; rw [upd_same] at e; cases e; exact new
  · rw [upd_ne hb] at e
    exact (x b u e).stay (fun c v _ q => k c v q) (fun c q => by rw [upd_ne (ne_of_none q hn)]; exact q) fun c xs q => by rw [upd_ne (ne_of_none q hn)]; exact q
end

/-- what may be read as u: it is u, or a known u -/
def Rd (H : Hp) (a : Addr) (u : HO) : Prop := H a = some u ∨ ∃ o, H a = some (.frz o u)
theorem Rd.of {H : Hp} {a : Addr} {u : HO} (h : H a = some u) : Rd H a u := .inl h
theorem Rd.ok {P : Program} {w : World} {H : Hp} {h : Heap} {a : Addr} {u : HO} (r : Rd H a u) (x : HOk P w H h) : ObjOk P w H h a u := by
  rcases r with r | ⟨o, r⟩
  · exact x a u r
  · obtain ⟨_, q⟩ := x a _ r
    exact q
/-- what may be written -/
def Mut : Option HO → Prop
  | some (.lst _) => True
  | some (.dK _) => True
  | some (.dT _) => True
  | some (.set _ _) => True
  | some (.ins _ _ _) => True
  | some (.ext _) => True
  | _ => False
section
variable {P : Program} {w : World} {H : Hp} {h h' : Heap} {x e : Addr} {o' : HO}
/-- the object at e is changed: x itself, or the dict of the instance x -/
theorem HOk.write (ok : HOk P w H h) (mu : Mut (H x)) (he : e = x ∨ H e = some (.own x)) (k : ∀ b u, b ≠ e → h.get? b = some u → h'.get? b = some u) (heo : ∃ u, h'.get? e = some u)
    (new : ObjOk P w (upd H x o') h' x o') : HOk P w (upd H x o') h' := fun b u q => by
  have nown : ∀ c y, H c = some (.own y) → c ≠ x := fun c y r z => by subst z; rw [r] at mu; exact mu
  have ntup : ∀ c xs, H c = some (.tup xs) → c ≠ x := fun c xs r z => by subst z; rw [r] at mu; exact mu
  by_cases hb : b = x
  · subst hb; rw [upd_same] at q; cases q; exact new
  · rw [upd_ne hb] at q
    by_cases hbe : b = e
    · have q' : H b = some (.own x) := by
        rcases he with z | z
        · exact absurd (hbe.trans z) hb
        · rw [hbe]; exact z
      rw [q] at q'; cases q'
      obtain ⟨v, hv⟩ := heo
      exact ⟨v, by rw [hbe]; exact hv⟩
    · refine (ok b u q).stay (fun c v hc r => k c v ?_ r) (fun c r => by rw [upd_ne (nown c b r)]; exact r) fun c xs r => by rw [upd_ne (ntup c xs r)]; exact r
      rcases hc with rfl | hc
      · exact hbe
      · rintro rfl
        rcases he with z | z
        · exact nown c b hc z
        · rw [hc] at z; cases z; exact hb rfl
end

/-! ### kept unless tracked; of the frames at fs (the callers') the slots may change (an exception that passes writes there); of the records at ex (iterators) nothing is said -/
structure Un (fs ex : List Addr) (H H' : Hp) (h h' : Heap) : Prop where
  keep : ∀ b o, h.get? b = some o → H b = none → b ∉ fs → b ∉ ex → h'.get? b = some o
  slot : ∀ b o, h.get? b = some o → H b = none → b ∈ fs → b ∉ ex → ∃ sl, h'.get? b = some { o with slots := sl }
  free : ∀ b o, h.get? b = some o → H b = none → b ∉ ex → H' b = none
  there : ∀ b o, h.get? b = some o → b ∉ ex → ∃ o', h'.get? b = some o'
  tups : ∀ b xs, H b = some (.tup xs) → H' b = some (.tup xs)
  frzs : ∀ b o u, H b = some (.frz o u) → H' b = some (.frz o u)
  tbls : ∀ b ps, H b = some (.tbl ps) → ∃ more, H' b = some (.tbl (ps ++ more))
section
variable {fs fs' ex ex' : List Addr} {H H1 H2 : Hp} {h h1 h2 h' : Heap} {a x e : Addr} {o : HO}
theorem Un.any (u : Un fs ex H H1 h h1) {b : Addr} {ob : Obj} (q : h.get? b = some ob) (n : H b = none) (hx : b ∉ ex) : ∃ sl, h1.get? b = some { ob with slots := sl } := by
  by_cases hb : b ∈ fs
  · exact u.slot b ob q n hb hx
  · exact ⟨ob.slots, u.keep b ob q n hb hx⟩
theorem Un.trans (a : Un fs ex H H1 h h1) (b : Un fs ex H1 H2 h1 h2) : Un fs ex H H2 h h2 where
  keep := fun c ob q n hc hx => b.keep c ob (a.keep c ob q n hc hx) (a.free c ob q n hx) hc hx
  slot := fun c ob q n hc hx => by
    obtain ⟨sl, e1⟩ := a.slot c ob q n hc hx
    obtain ⟨sl', e2⟩ := b.slot c _ e1 (a.free c ob q n hx) hc hx
    exact ⟨sl', e2⟩
  free := fun c ob q n hx => by
    obtain ⟨o', e1⟩ := a.there c ob q hx
    exact b.free c o' e1 (a.free c ob q n hx) hx
  there := fun c ob q hx => by
    obtain ⟨o', e1⟩ := a.there c ob q hx
    exact b.there c o' e1 hx
  tups := fun c xs q => b.tups c xs (a.tups c xs q)
  frzs := fun c ob xs q => b.frzs c ob xs (a.frzs c ob xs q)
  tbls := fun c ps q => by
    obtain ⟨m1, e1⟩ := a.tbls c ps q
    obtain ⟨m2, e2⟩ := b.tbls c _ e1
    exact ⟨m1 ++ m2, by rw [e2, Array.append_assoc]⟩
theorem Un.kept (k : ∀ b u, h.get? b = some u → h'.get? b = some u) : Un fs ex H H h h' :=
  ⟨fun b ob q _ _ _ => k b ob q, fun b ob q _ _ _ => ⟨ob.slots, k b ob q⟩, fun _ _ _ n _ => n, fun b ob q _ => ⟨ob, k b ob q⟩, fun _ _ q => q, fun _ _ _ q => q, fun _ ps q => ⟨#[], by rw [q]; simp⟩⟩
theorem Un.refl : Un fs ex H H h h := Un.kept fun _ _ q => q
theorem Un.laid (k : ∀ b u, h.get? b = some u → h'.get? b = some u) (hp : h.objs.size ≤ a) (hn : H a = none) : Un fs ex H (upd H a o) h h' where
  keep := fun b u q _ _ _ => k b u q
  slot := fun b u q _ _ _ => ⟨u.slots, k b u q⟩
  free := fun b u q n _ => by rw [upd_ne (Nat.ne_of_lt (Nat.lt_of_lt_of_le (Heap.lt_size q) hp))]; exact n
  there := fun b u q _ => ⟨u, k b u q⟩
  tups := fun b xs q => by rw [upd_ne (ne_of_none q hn)]; exact q
  frzs := fun b u xs q => by rw [upd_ne (ne_of_none q hn)]; exact q
  tbls := fun b ps q => ⟨#[], by rw [upd_ne (ne_of_none q hn), q]; simp⟩
theorem Un.write (mu : Mut (H x)) (he : e = x ∨ H e = some (.own x)) (k : ∀ b u, b ≠ e → h.get? b = some u → h'.get? b = some u) (heo : ∃ u, h'.get? e = some u) : Un fs ex H (upd H x o) h h' := by
  have hx : ∀ b, H b = none → b ≠ x := fun b n z => by subst z; rw [n] at mu; exact mu
  have hb : ∀ b, H b = none → b ≠ e := fun b n z => by
    subst z
    rcases he with r | r
    · exact hx b n r
    · rw [n] at r; cases r
  have hm : ∀ b u, H b = some u → ¬ Mut (some u) → b ≠ x := fun b u q nm z => by subst z; rw [q] at mu; exact nm mu
  refine ⟨fun b u q n _ _ => k b u (hb b n) q, fun b u q n _ _ => ⟨u.slots, k b u (hb b n) q⟩, fun b u q n _ => by rw [upd_ne (hx b n)]; exact n, fun b u q _ => ?_,
    fun b xs q => by rw [upd_ne (hm b _ q fun z => z)]; exact q, fun b u xs q => by rw [upd_ne (hm b _ q fun z => z)]; exact q, fun b ps q => ⟨#[], by rw [upd_ne (hm b _ q fun z => z), q]; simp⟩⟩
  by_cases hbe : b = e
  · subst hbe; exact heo
  · exact ⟨u, k b u hbe q⟩
theorem Un.mono (u : Un fs ex H H1 h h1) (hs : ∀ b ∈ fs, b ∈ fs') (hx : ∀ b ∈ ex, b ∈ ex') : Un fs' ex' H H1 h h1 :=
  ⟨fun b ob q n hb he => u.keep b ob q n (fun z => hb (hs b z)) fun z => he (hx b z), fun _ _ q n _ he => u.any q n fun z => he (hx _ z), fun b ob q n he => u.free b ob q n fun z => he (hx b z), fun b ob q he => u.there b ob q fun z => he (hx b z), u.tups, u.frzs, u.tbls⟩
end

/-! ### the heap without what is tracked -/
def trk (h : Heap) (H : Hp) : List Addr := (List.range h.objs.size).filter fun a => (H a).isSome
def hidT (h : Heap) (H : Hp) : Heap := PySem.W.hideAll h (trk h H)
theorem hidT_size (h : Heap) (H : Hp) : (hidT h H).objs.size = h.objs.size := PySem.W.hideAll_size _ _
theorem hidT_get {h : Heap} {H : Hp} {b : Addr} {o : Obj} (e : h.get? b = some o) (n : H b = none) : (hidT h H).get? b = some o :=
  PySem.W.hideAll_get _ e fun hm => by
    have q : (H b).isSome = true := (List.mem_filter.mp hm).2
    rw [n] at q; simp at q
theorem of_hidT {h : Heap} {H : Hp} {b : Addr} {o : Obj} (e : (hidT h H).get? b = some o) : h.get? b = some o ∧ H b = none := by
  have e' : h.get? b = some o := PySem.W.of_hideAll (trk h H) e
  refine ⟨e', ?_⟩
  cases q : H b with
  | none => rfl
  | some x =>
    have hm : b ∈ trk h H := List.mem_filter.mpr ⟨List.mem_range.mpr (Heap.lt_size e'), by simp [q]⟩
    have z : (hidT h H).get? b = none := PySem.W.hideAll_none (trk h H) hm
    rw [z] at e; cases e

/-! ### OpenK's ledger, filled with every new object but one -/
def allNews (g h : Heap) (L : Addr) : List (Addr × Obj) := (List.range h.objs.size).filterMap fun a => if a = L ∨ (g.get? a).isSome = true then none else (h.get? a).map fun o => (a, o)
theorem mem_allNews {g h : Heap} {L a : Addr} {o : Obj} (h1 : a ≠ L) (h2 : g.get? a = none) (h3 : h.get? a = some o) : (a, o) ∈ allNews g h L :=
  List.mem_filterMap.mpr ⟨a, List.mem_range.mpr (Heap.lt_size h3), by simp [h1, h2, h3]⟩
theorem of_mem_allNews {g h : Heap} {L : Addr} {p : Addr × Obj} (hp : p ∈ allNews g h L) : p.1 ≠ L ∧ g.get? p.1 = none ∧ h.get? p.1 = some p.2 := by
  obtain ⟨b, _, e⟩ := List.mem_filterMap.mp hp
  split at e
  · cases e
  · rename_i hn
    cases q : h.get? b with
    | none => rw [q] at e; simp at e
    | some u =>
      rw [q] at e
      simp only [Option.map_some, Option.some.injEq] at e
      subst e
      refine ⟨fun z => hn (.inl z), ?_, q⟩
      show g.get? b = none
      cases r : g.get? b with
      | none => rfl
      | some v => exact (hn (.inr (by simp [r]))).elim
def rest (g h : Heap) (L d : Addr) : List (Addr × Obj) := (allNews g h L).filter fun p => decide (p.1 ≠ d)
theorem rest_ne {g h : Heap} {L d : Addr} : ∀ p ∈ rest g h L d, p.1 ≠ d := fun p hp => of_decide_eq_true (List.mem_filter.mp hp).2
theorem mem_rest {g h : Heap} {L d a : Addr} {o : Obj} (h1 : a ≠ L) (h2 : g.get? a = none) (h3 : h.get? a = some o) (h4 : a ≠ d) : (a, o) ∈ rest g h L d :=
  List.mem_filter.mpr ⟨mem_allNews h1 h2 h3, decide_eq_true h4⟩
theorem news_all {g h : Heap} {L : Addr} : News g L h (allNews g h L) := fun p hp => let ⟨a, b, c⟩ := of_mem_allNews hp; ⟨c, a, b⟩
theorem news_at {g h : Heap} {L d : Addr} {o : Obj} (h1 : d ≠ L) (h2 : g.get? d = none) (h3 : h.get? d = some o) : News g L h ((d, o) :: rest g h L d) := fun p hp => by
  rcases List.mem_cons.mp hp with rfl | hp
  · exact ⟨h3, h1, h2⟩
  · exact news_all p (List.mem_filter.mp hp).1
/-- behind a rule that changed d alone: all else but the frame is kept -/
theorem kept_of_news {g h h' : Heap} {L d : Addr} {m : Str → Option Value} (k : ∀ b o, g.get? b = some o → h.get? b = some o) (F : Fr g L h' m) (N : News g L h' (rest g h L d)) :
    ∀ b o, b ≠ L → b ≠ d → h.get? b = some o → h'.get? b = some o := fun b o h1 h2 e => by
  cases q : g.get? b with
  | some u =>
    have := k b u q
    rw [e] at this; cases this
    exact F.keep b _ q
  | none => exact (N (b, o) (mem_rest h1 q e h2)).1
end L2

namespace L2
open PySem PySem.Spec PyProof.Rows

/-- the module's facts, over the base: the heap at the law's entry without what is tracked there -/
structure Mod (K : PySem.W.Frag) (mg : Str → Option Value) (base : Heap) : Prop where
  kin : K.In base
  glob : base.Ns mainGlobals mg
  blt : ∃ mb, base.Ns builtinsNs mb ∧ ∀ x : Str, x ≠ "__name__" → mb x = bootBuiltins x
  nolimit : base.NoLimit

/-- the context: a def's body (or a comprehension's block) running. base: fixed through the whole law; s₀, H₀: the entry; outer: the frames whose slots others may change (a def's callers); stack: all frames that run;
   ex: iterators that were made ahead of the entry and are walked here (a comprehension's); fn: the names whose cells were made at the entry (a def: all; a comprehension's block: its own); calm: not within an except suite; pn: pins that every state bears; xe: what is wanted of an exception that leaves the code -/
structure Cx where
  prog : Program
  w : World
  K : PySem.W.Frag
  mg : Str → Option Value
  base : Heap
  A : Around
  N : List Str
  s₀ : Shared
  H₀ : Hp
  env : Env
  outer : List Env
  stack : List Env
  ex : List Addr
  fn : Str → Bool
  calm : Bool
  pn : List (Addr × Obj)
  xe : Value → Shared → Prop
/-- the callers' frames -/
def frs (l : List Env) : List Addr := l.filterMap (·.frame)
abbrev Cx.fs (X : Cx) : List Addr := frs X.outer

def Vis (sc : Scope) (x : Str) : Prop := sc.names.lookup x = some .local ∨ sc.names.lookup x = some .cell ∨ sc.names.lookup x = some .free
def Loc (sc : Scope) (x : Str) : Prop := sc.names.lookup x = some .local ∨ sc.names.lookup x = some .cell
def Look (env : Env) (h : Heap) (m : Str → Option Value) (x : Str) (u : Value) : Prop :=
  (env.kindOf x = some .local ∧ m x = some u) ∨ ((env.kindOf x = some .cell ∨ env.kindOf x = some .free) ∧ ∃ c, env.cells.lookup x = some c ∧ h.IsCell c (some u))

structure Cx.Ok (X : Cx) : Prop where
  mod : Mod X.K X.mg X.base
  kind : X.env.scope.kind = .function
  glob : X.env.globals = mainGlobals
  blt : X.env.builtins = builtinsNs
  above : X.s₀.heap.objs.size ≤ X.env.locals
  inj : ∀ x y c, X.env.cells.lookup x = some c → X.env.cells.lookup y = some c → x = y
  has : ∀ x, (X.env.kindOf x = some .cell ∨ X.env.kindOf x = some .free) → ∃ c, X.env.cells.lookup x = some c
  cab : ∀ x c, X.fn x = true → X.env.cells.lookup x = some c → X.s₀.heap.objs.size ≤ c
  hd : X.calm = true → X.A.handled = none
  frames : X.A.frames = some X.stack
  stk : X.stack = X.outer ∨ (X.stack = X.env :: X.outer ∧ X.env.frame = some X.env.locals)
  exf : ∀ b ∈ X.ex, b ≠ X.env.locals ∧ ∀ x c, X.env.cells.lookup x = some c → c ≠ b
  bs : ∀ b o, X.base.get? b = some o → X.s₀.heap.get? b = some o ∧ X.H₀ b = none
  bsz : X.base.objs.size ≤ X.s₀.heap.objs.size
  noex : ∀ b o, X.base.get? b = some o → b ∉ X.ex
  exfs : ∀ b ∈ X.ex, b ∉ X.fs
  funs : X.s₀.heap.FunFrames X.base X.outer
  frf : ∀ b ∈ X.fs, X.H₀ b = none

structure Inv (X : Cx) (pins : List (Addr × Obj)) (σ : List (Option V)) (H : Hp) (s : Shared) : Prop where
  ok : X.Ok
  os : s.os = X.s₀.os
  bare : AllBare s.gens
  base : Un X.fs X.ex X.H₀ H X.s₀.heap s.heap
  loc : ∃ m, s.heap.Ns X.env.locals m ∧ ∀ (i : Nat) (x : Str) (v : V), X.N[i]? = some x → σ[i]? = some (some v) → Vis X.env.scope x → ∃ u, RelV v u ∧ Look X.env s.heap m x u
  cell : ∀ x c, X.env.cells.lookup x = some c → ∃ v, s.heap.IsCell c v
  free : H X.env.locals = none
  freeC : ∀ x c, X.env.cells.lookup x = some c → H c = none
  pin : ∀ p ∈ X.pn ++ pins, s.heap.get? p.1 = some p.2 ∧ H p.1 = none ∧ p.1 ≠ X.env.locals ∧ p.1 ∉ X.fs ∧ ∀ v, p.2.data ≠ .cell v
  hok : HOk X.prog X.w H s.heap
  len : σ.length = X.N.length

section
variable {X : Cx} {pins : List (Addr × Obj)} {σ : List (Option V)} {H H' : Hp} {s : Shared} {h' : Heap}

theorem Cx.Ok.nofr (ok : X.Ok) {b : Addr} {o : Obj} (e : X.base.get? b = some o) : b ∉ X.fs := fun hb => by
  have := (ok.funs.mem hb).1
  rw [e] at this; cases this
theorem Inv.bs (I : Inv X pins σ H s) : ∀ b o, X.base.get? b = some o → s.heap.get? b = some o ∧ H b = none := fun b o e =>
  ⟨I.base.keep b o (I.ok.bs b o e).1 (I.ok.bs b o e).2 (I.ok.nofr e) (I.ok.noex b o e), I.base.free b o (I.ok.bs b o e).1 (I.ok.bs b o e).2 (I.ok.noex b o e)⟩
theorem Inv.bk (I : Inv X pins σ H s) : ∀ b o, X.base.get? b = some o → s.heap.get? b = some o := fun b o e => (I.bs b o e).1
theorem Inv.mod (I : Inv X pins σ H s) : Mod X.K X.mg X.base := I.ok.mod
theorem Inv.kIn (I : Inv X pins σ H s) : X.K.In s.heap := I.ok.mod.kin.keeps I.bk
theorem Inv.nolimit (I : Inv X pins σ H s) : s.heap.NoLimit := I.ok.mod.nolimit.keeps I.bk
/-- the frame over the base: for OpenK's rules (K.In X.base is I.mod.kin) -/
theorem Inv.fr (I : Inv X pins σ H s) : ∃ m, Fr X.base X.env.locals s.heap m :=
  let ⟨m, hn, _⟩ := I.loc
  ⟨m, hn, I.bk, Nat.le_trans I.ok.bsz I.ok.above⟩
theorem Inv.lt (I : Inv X pins σ H s) : X.env.locals < s.heap.objs.size := let ⟨_, hn, _⟩ := I.loc; hn.lt
theorem Inv.sz (I : Inv X pins σ H s) : X.s₀.heap.objs.size ≤ s.heap.objs.size := Nat.le_trans I.ok.above (Nat.le_of_lt I.lt)
theorem Inv.nofs (I : Inv X pins σ H s) {a : Addr} (h : s.heap.objs.size ≤ a) : a ∉ X.fs := fun hb => by
  obtain ⟨_, o, ho, _⟩ := I.ok.funs.mem hb
  exact absurd (Nat.lt_of_lt_of_le (Heap.lt_size ho) (Nat.le_trans I.sz h)) (Nat.lt_irrefl _)
theorem Inv.cne (I : Inv X pins σ H s) : ∀ x c, X.env.cells.lookup x = some c → c ≠ X.env.locals := fun x c e z => by
  obtain ⟨v, o, ho, hd⟩ := I.cell x c e
  obtain ⟨m, ⟨o', es, ep, ho', hd', _⟩, _⟩ := I.loc
  rw [z, ho'] at ho; cases ho; rw [hd'] at hd; cases hd
theorem Inv.funs (I : Inv X pins σ H s) : s.heap.FunFrames X.base X.outer := by
  have all : ∀ (l : List Env), (∀ b ∈ frs l, b ∈ X.fs) → X.s₀.heap.FunFrames X.base l → s.heap.FunFrames X.base l := by
    intro l
    induction l with
    | nil => intro _ _; trivial
    | cons env r ih =>
      intro hs hl
      obtain ⟨hk, ⟨L, o, hf, hn, ho, hd⟩, hr⟩ := hl
      have hL : L ∈ X.fs := hs L (by unfold frs; rw [List.filterMap_cons, hf]; exact List.mem_cons_self)
      obtain ⟨sl, e⟩ := I.base.slot L o ho (I.ok.frf L hL) hL fun z => I.ok.exfs L z hL
      exact ⟨hk, ⟨L, _, hf, hn, e, hd⟩, ih (fun b hb => hs b (by unfold frs; rw [List.filterMap_cons, hf]; exact List.mem_cons_of_mem _ hb)) hr⟩
  exact all X.outer (fun _ hb => hb) I.ok.funs

/-- the frames that run, for a call -/
theorem Inv.stack (I : Inv X pins σ H s) : s.heap.FunFrames X.base X.stack := by
  rcases I.ok.stk with e | ⟨e, hf⟩
  · rw [e]; exact I.funs
  · rw [e]
    obtain ⟨m, hn, _⟩ := I.loc
    refine .cons (by rw [I.ok.kind]; decide) hf hn ?_ I.funs
    exact Heap.get?_none_of_le (Nat.le_trans I.ok.bsz I.ok.above)
theorem Inv.stkSub (I : Inv X pins σ H s) : ∀ b ∈ frs X.stack, b ∈ X.env.locals :: X.fs := fun b hb => by
  rcases I.ok.stk with e | ⟨e, hf⟩
  · rw [e] at hb; exact List.mem_cons_of_mem _ hb
  · rw [e] at hb
    unfold frs at hb
    rw [List.filterMap_cons, hf] at hb
    exact hb
theorem Inv.stkFree (I : Inv X pins σ H s) : ∀ b ∈ frs X.stack, H b = none := fun b hb => by
  rcases List.mem_cons.mp (I.stkSub b hb) with e | hb
  · rw [e]; exact I.free
  · obtain ⟨_, o, ho, _⟩ := I.ok.funs.mem hb
    exact I.base.free b o ho (I.ok.frf b hb) fun z => I.ok.exfs b z hb

/-- THE STEP: the untracked objects but the frame and the records at ch are kept (the callers' frames up to slots), the frame's map is kept, the new abstract heap is held -/
theorem Inv.step {g' : Array GenState} {t' : Nat} {d' : Drawn} {ch : List Addr} (I : Inv X pins σ H s)
    (hch : ∀ b ∈ ch, (b ∈ X.ex ∨ X.s₀.heap.objs.size ≤ b) ∧ b ≠ X.env.locals ∧ (∀ x c, X.env.cells.lookup x = some c → c ≠ b) ∧ ∀ p ∈ X.pn ++ pins, p.1 ≠ b)
    (keep : ∀ b o, b ≠ X.env.locals → b ∉ X.fs → b ∉ ch → s.heap.get? b = some o → H b = none → h'.get? b = some o)
    (slot : ∀ b o, b ≠ X.env.locals → b ∈ X.fs → b ∉ ch → s.heap.get? b = some o → H b = none → ∃ sl, h'.get? b = some { o with slots := sl }) (free : ∀ b o, b ∉ ch → s.heap.get? b = some o → H b = none → H' b = none)
    (there : ∀ b o, b ∉ ch → s.heap.get? b = some o → ∃ o', h'.get? b = some o')
    (tups : ∀ b xs, H b = some (.tup xs) → H' b = some (.tup xs)) (frzs : ∀ b o u, H b = some (.frz o u) → H' b = some (.frz o u)) (tbls : ∀ b ps, H b = some (.tbl ps) → ∃ more, H' b = some (.tbl (ps ++ more)))
    (ns : ∀ m, s.heap.Ns X.env.locals m → h'.Ns X.env.locals m) (hok : HOk X.prog X.w H' h') (hg : AllBare g') :
    Inv X pins σ H' { s with heap := h', gens := g', drawn := d', toks := t' } := by
  have neL : ∀ b o, X.s₀.heap.get? b = some o → b ≠ X.env.locals := fun b o e => Nat.ne_of_lt (Nat.lt_of_lt_of_le (Heap.lt_size e) I.ok.above)
  have neC : ∀ b o, X.s₀.heap.get? b = some o → b ∉ X.ex → b ∉ ch := fun b o e hx hb => by
    rcases (hch b hb).1 with z | z
    · exact hx z
    · exact absurd (Nat.lt_of_lt_of_le (Heap.lt_size e) z) (Nat.lt_irrefl _)
  have cellK : ∀ x c, X.env.cells.lookup x = some c → ∀ v, s.heap.IsCell c v → h'.IsCell c v := fun x c e v ⟨o, ho, hd⟩ => by
    have nch : c ∉ ch := fun z => (hch c z).2.2.1 x c e rfl
    by_cases hc : c ∈ X.fs
    · obtain ⟨sl, q⟩ := slot c o (I.cne x c e) hc nch ho (I.freeC x c e)
      exact ⟨_, q, hd⟩
    · exact ⟨o, keep c o (I.cne x c e) hc nch ho (I.freeC x c e), hd⟩
  refine ⟨I.ok, I.os, hg, ⟨fun b o e n hb hx => ?_, fun b o e n hb hx => ?_, fun b o e n hx => ?_, fun b o e hx => ?_, fun b xs e => tups b xs (I.base.tups b xs e), fun b o xs e => frzs b o xs (I.base.frzs b o xs e), fun b ps e => ?_⟩, ?_, fun x c e => ?_, ?_, fun x c e => ?_, fun p hp => ?_, hok, I.len⟩
  · exact keep b o (neL b o e) hb (neC b o e hx) (I.base.keep b o e n hb hx) (I.base.free b o e n hx)
  · obtain ⟨sl, e1⟩ := I.base.slot b o e n hb hx
    obtain ⟨sl', e2⟩ := slot b _ (neL b o e) hb (neC b o e hx) e1 (I.base.free b o e n hx)
    exact ⟨sl', e2⟩
  · obtain ⟨o', e1⟩ := I.base.there b o e hx
    exact free b o' (neC b o e hx) e1 (I.base.free b o e n hx)
  · obtain ⟨o', e1⟩ := I.base.there b o e hx
    exact there b o' (neC b o e hx) e1
  · obtain ⟨m1, e1⟩ := I.base.tbls b ps e
    obtain ⟨m2, e2⟩ := tbls b _ e1
    exact ⟨m1 ++ m2, by rw [e2, Array.append_assoc]⟩
  · obtain ⟨m, hn, hl⟩ := I.loc
    refine ⟨m, ns m hn, fun i x v e1 e2 e3 => ?_⟩
    obtain ⟨u, r, l⟩ := hl i x v e1 e2 e3
    refine ⟨u, r, ?_⟩
    rcases l with l | ⟨k, c, e, z⟩
    · exact .inl l
    · exact .inr ⟨k, c, e, cellK x c e _ z⟩
  · obtain ⟨v, z⟩ := I.cell x c e
    exact ⟨v, cellK x c e v z⟩
  · obtain ⟨m, ⟨o, _, _, ho, _⟩, _⟩ := I.loc
    exact free _ o (fun z => (hch _ z).2.1 rfl) ho I.free
  · obtain ⟨v, o, ho, hd⟩ := I.cell x c e
    exact free c o (fun z => (hch c z).2.2.1 x c e rfl) ho (I.freeC x c e)
  · obtain ⟨e, n, ne, nf, d⟩ := I.pin p hp
    have nch : p.1 ∉ ch := fun z => (hch p.1 z).2.2.2 p hp rfl
    exact ⟨keep p.1 p.2 ne nf nch e n, free p.1 p.2 nch e n, ne, nf, d⟩
/-- .. where the frame's own object is kept too -/
theorem Inv.un {t' : Nat} (I : Inv X pins σ H s) (u : Un X.fs [] H H' s.heap h') (hok : HOk X.prog X.w H' h') : Inv X pins σ H' { s with heap := h', toks := t' } := by
  obtain ⟨m, ⟨o, es, ep, ho, r⟩, _⟩ := id I.loc
  obtain ⟨sl, hL⟩ := u.any ho I.free (by simp)
  exact I.step (g' := s.gens) (d' := s.drawn) (ch := []) (fun _ z => nomatch z) (fun b o _ hb _ e n => u.keep b o e n hb (by simp)) (fun b o _ hb _ e n => u.slot b o e n hb (by simp)) (fun b o _ e n => u.free b o e n (by simp)) (fun b o _ e => u.there b o e (by simp)) u.tups u.frzs u.tbls (fun m' hm => by
    obtain ⟨o', es', ep', ho', r'⟩ := hm
    rw [ho] at ho'; cases ho'
    exact ⟨_, es', ep', hL, r'⟩) hok I.bare
/-- behind a call (or a comprehension's block): the slots of this frame may have changed too, the records at ch may have turned -/
theorem Inv.call {g' : Array GenState} {t' : Nat} {d' : Drawn} {ch : List Addr} (I : Inv X pins σ H s) (u : Un (frs X.stack) ch H H' s.heap h') (hok : HOk X.prog X.w H' h') (hg : AllBare g')
    (hch : ∀ b ∈ ch, (b ∈ X.ex ∨ X.s₀.heap.objs.size ≤ b) ∧ b ≠ X.env.locals ∧ (∀ x c, X.env.cells.lookup x = some c → c ≠ b) ∧ ∀ p ∈ X.pn ++ pins, p.1 ≠ b) :
    Inv X pins σ H' { s with heap := h', gens := g', drawn := d', toks := t' } := by
  obtain ⟨m, ⟨o, es, ep, ho, r⟩, _⟩ := id I.loc
  obtain ⟨sl, hL⟩ := u.any ho I.free fun z => (hch _ z).2.1 rfl
  exact I.step (ch := ch) hch (fun b o hL hb hc e n => u.keep b o e n (fun z => (List.mem_cons.mp (I.stkSub b z)).elim hL hb) hc) (fun b o _ _ hc e n => u.any e n hc) (fun b o hc e n => u.free b o e n hc) (fun b o hc e => u.there b o e hc) u.tups u.frzs u.tbls (fun m' hm => by
    obtain ⟨o', es', ep', ho', r'⟩ := hm
    rw [ho] at ho'; cases ho'
    exact ⟨_, es', ep', hL, r'⟩) hok hg
/-- an untracked record of ours (an iterator) has turned -/
theorem Inv.turned {t' : Nat} {it : Addr} (I : Inv X pins σ H s) (k : ∀ b o, b ≠ it → s.heap.get? b = some o → h'.get? b = some o) (hn : H it = none) (hL : it ≠ X.env.locals)
    (h1 : it ∈ X.ex ∨ X.s₀.heap.objs.size ≤ it) (h2 : ∀ x c, X.env.cells.lookup x = some c → c ≠ it) (h3 : ∀ p ∈ X.pn ++ pins, p.1 ≠ it) : Inv X pins σ H { s with heap := h', toks := t' } := by
  have nit : ∀ b u, H b = some u → b ≠ it := fun b u e z => by rw [z, hn] at e; cases e
  refine I.step (g' := s.gens) (d' := s.drawn) (ch := [it]) (fun b hb => ?_) (fun b o _ _ hc e _ => k b o (fun z => hc (by simp [z])) e) (fun b o _ _ hc e _ => ⟨o.slots, k b o (fun z => hc (by simp [z])) e⟩) (fun _ _ _ _ n => n)
    (fun b o hc e => ⟨o, k b o (fun z => hc (by simp [z])) e⟩) (fun _ _ e => e) (fun _ _ _ e => e) (fun b ps e => ⟨#[], by rw [e]; simp⟩) (fun m hm => ?_) (fun b u e => ?_) I.bare
  · have e : b = it := by simpa using hb
    subst e
    exact ⟨h1, hL, h2, h3⟩
  · obtain ⟨o, es, ep, ho, r⟩ := hm
    exact ⟨o, es, ep, k _ o (Ne.symm hL) ho, r⟩
  · refine (I.hok b u e).stay (fun c v hc q => k c v ?_ q) (fun _ q => q) fun _ _ q => q
    rcases hc with z | z
    · rw [z]; exact nit b u e
    · exact nit c _ z
theorem Inv.tok (I : Inv X pins σ H s) (t : Nat) : Inv X pins σ H { s with toks := t } := I.un (h' := s.heap) (t' := t) Un.refl I.hok
/-- all objects kept -/
theorem Inv.kept {t' : Nat} (I : Inv X pins σ H s) (k : ∀ b u, s.heap.get? b = some u → h'.get? b = some u) : Inv X pins σ H { s with heap := h', toks := t' } := I.un (Un.kept k) (I.hok.kept k)
/-- a new object laid and tracked -/
theorem Inv.laid {a : Addr} {o : HO} {t' : Nat} (I : Inv X pins σ H s) (k : ∀ b u, s.heap.get? b = some u → h'.get? b = some u) (hp : s.heap.objs.size ≤ a) (new : ObjOk X.prog X.w (upd H a o) h' a o) :
    Inv X pins σ (upd H a o) { s with heap := h', toks := t' } := I.un (Un.laid k hp (I.hok.fresh hp)) (I.hok.laid k hp new)
/-- an object written -/
theorem Inv.write {x e : Addr} {o : HO} {t' : Nat} (I : Inv X pins σ H s) (mu : Mut (H x)) (he : e = x ∨ H e = some (.own x)) (k : ∀ b u, b ≠ e → s.heap.get? b = some u → h'.get? b = some u) (heo : ∃ u, h'.get? e = some u)
    (new : ObjOk X.prog X.w (upd H x o) h' x o) : Inv X pins σ (upd H x o) { s with heap := h', toks := t' } := I.un (Un.write mu he k heo) (I.hok.write mu he k heo new)
/-- forgetting slots, pins -/
theorem Inv.weak {σ' : List (Option V)} (I : Inv X pins σ H s) (hl : σ'.length = σ.length) (w : ∀ (i : Nat) v, σ'[i]? = some (some v) → σ[i]? = some (some v)) : Inv X pins σ' H s :=
  ⟨I.ok, I.os, I.bare, I.base, let ⟨m, hn, hl'⟩ := I.loc; ⟨m, hn, fun i x v e1 e2 e3 => hl' i x v e1 (w i v e2) e3⟩, I.cell, I.free, I.freeC, I.pin, I.hok, hl.trans I.len⟩
theorem Inv.pins_of {pins' : List (Addr × Obj)} (I : Inv X pins σ H s) (h : ∀ p ∈ pins', s.heap.get? p.1 = some p.2 ∧ H p.1 = none ∧ p.1 ≠ X.env.locals ∧ p.1 ∉ X.fs ∧ ∀ v, p.2.data ≠ .cell v) : Inv X pins' σ H s :=
  ⟨I.ok, I.os, I.bare, I.base, I.loc, I.cell, I.free, I.freeC, fun p hp => (List.mem_append.mp hp).elim (fun z => I.pin p (List.mem_append_left _ z)) (h p), I.hok, I.len⟩

theorem nodup_ix {N : List Str} (hN : N.Nodup) {i j : Nat} {x : Str} (a : N[i]? = some x) (b : N[j]? = some x) : i = j := by
  obtain ⟨h1, e1⟩ := List.getElem?_eq_some_iff.mp a
  obtain ⟨h2, e2⟩ := List.getElem?_eq_some_iff.mp b
  exact (List.getElem_inj hN).mp (e1.trans e2.symm)

/-- a name is stored; what changed -/
theorem store_ok2 {M : Model} {A : Around} {E : Value → Shared → Prop} {i : Nat} {x : Str} {v : V} {u : Value} {Q : Unit → Shared → Prop} (I : Inv X pins σ H s) (hN : X.N.Nodup) (hi : X.N[i]? = some x) (hx : Loc X.env.scope x) (r : RelV v u)
    (h : ∀ s', Inv X pins (σ.set i (some v)) H s' → (∃ a, Heap.SameBut a s.heap s'.heap ∧ (a = X.env.locals ∨ X.env.cells.lookup x = some a)) → Q () s') (hf : X.fn x = true ∨ X.env.scope.names.lookup x = some .local := by first | exact .inl rfl | exact .inr rfl | assumption) : wpAny M A (storeName X.env x u) Q E s := by
  obtain ⟨m, hn, hl⟩ := id I.loc
  have hcls : (X.env.scope.kind == .class || (X.env.scope.kind == .module && X.env.locals != X.env.globals)) = false := by rw [I.ok.kind]; rfl
  have hiσ : i < σ.length := by rw [I.len]; exact (List.getElem?_eq_some_iff.mp hi).1
  have cne := I.cne
  have tracked : ∀ {a : Addr} {h' : Heap}, (∃ o, s.heap.get? a = some o ∧ H a = none) → Heap.SameBut a s.heap h' → HOk X.prog X.w H h' := fun {a h'} ha hs b ob e => by
    obtain ⟨_, _, hfree⟩ := ha
    refine (I.hok b ob e).stay (fun c w' hc q => (hs.2 c ?_).trans q) (fun _ q => q) fun _ _ q => q
    rintro rfl
    rcases hc with rfl | hc
    · rw [hfree] at e; cases e
    · rw [hfree] at hc; cases hc
  rcases hx with hk | hk
  · refine wpAny_storeName_local hk hn (fun h' hn' hs => ?_) hcls
    obtain ⟨oL, _, _, hoL, _⟩ := id hn
    refine h _ ⟨I.ok, I.os, I.bare, ⟨fun b o e n hb hx => ?_, fun b o e n hb hx => ?_, I.base.free, fun b o e hx => ?_, I.base.tups, I.base.frzs, I.base.tbls⟩, ⟨_, hn', fun j y v' e1 e2 e3 => ?_⟩, fun y c e => ?_, I.free, I.freeC, fun p hp => ?_, tracked ⟨oL, hoL, I.free⟩ hs, by simpa using I.len⟩ ⟨_, hs, .inl rfl⟩
    · exact (hs.2 b (Nat.ne_of_lt (Nat.lt_of_lt_of_le (Heap.lt_size e) I.ok.above))).trans (I.base.keep b o e n hb hx)
    · obtain ⟨sl, e1⟩ := I.base.slot b o e n hb hx
      exact ⟨sl, (hs.2 b (Nat.ne_of_lt (Nat.lt_of_lt_of_le (Heap.lt_size e) I.ok.above))).trans e1⟩
    · obtain ⟨o', e1⟩ := I.base.there b o e hx
      exact ⟨o', (hs.2 b (Nat.ne_of_lt (Nat.lt_of_lt_of_le (Heap.lt_size e) I.ok.above))).trans e1⟩
    · by_cases hj : j = i
      · subst hj
        rw [hi] at e1; cases e1
        rw [List.getElem?_set_self hiσ] at e2
        cases e2
        exact ⟨u, r, .inl ⟨hk, by simp⟩⟩
      · rw [List.getElem?_set_ne (Ne.symm hj)] at e2
        obtain ⟨u', r', q⟩ := hl j y v' e1 e2 e3
        refine ⟨u', r', ?_⟩
        rcases q with ⟨k, e⟩ | ⟨k, c, e, z⟩
        · refine .inl ⟨k, ?_⟩
          have : y ≠ x := fun e => hj (nodup_ix hN e1 (e ▸ hi))
          simp [this, e]
        · exact .inr ⟨k, c, e, z.sameBut hs (cne y c e)⟩
    · obtain ⟨w', z⟩ := I.cell y c e
      exact ⟨w', z.sameBut hs (cne y c e)⟩
    · obtain ⟨e, n, ne, nf, d⟩ := I.pin p hp
      exact ⟨(hs.2 p.1 ne).trans e, n, ne, nf, d⟩
  · have hfn : X.fn x = true := by
      rcases hf with z | z
      · exact z
      · rw [z] at hk; cases hk
    obtain ⟨c, hc⟩ := I.ok.has x (.inl hk)
    obtain ⟨w', z⟩ := I.cell x c hc
    refine wpAny_storeName_cell I.ok.kind hk hc z (fun h' hc' hs => ?_)
    obtain ⟨oc, hoc, hocd⟩ := id z
    refine h { s with heap := h' } ⟨I.ok, I.os, I.bare, ⟨fun b o e n hb hx => ?_, fun b o e n hb hx => ?_, I.base.free, fun b o e hx => ?_, I.base.tups, I.base.frzs, I.base.tbls⟩, ⟨m, hn.sameBut hs (Ne.symm (cne x c hc)), fun j y v' e1 e2 e3 => ?_⟩, fun y c' e => ?_, I.free, I.freeC, fun p hp => ?_, tracked ⟨oc, hoc, I.freeC x c hc⟩ hs, by simpa using I.len⟩ ⟨c, hs, .inr hc⟩
    · exact (hs.2 b (Nat.ne_of_lt (Nat.lt_of_lt_of_le (Heap.lt_size e) (I.ok.cab x c hfn hc)))).trans (I.base.keep b o e n hb hx)
    · obtain ⟨sl, e1⟩ := I.base.slot b o e n hb hx
      exact ⟨sl, (hs.2 b (Nat.ne_of_lt (Nat.lt_of_lt_of_le (Heap.lt_size e) (I.ok.cab x c hfn hc)))).trans e1⟩
    · obtain ⟨o', e1⟩ := I.base.there b o e hx
      exact ⟨o', (hs.2 b (Nat.ne_of_lt (Nat.lt_of_lt_of_le (Heap.lt_size e) (I.ok.cab x c hfn hc)))).trans e1⟩
    · by_cases hj : j = i
      · subst hj
        rw [hi] at e1; cases e1
        rw [List.getElem?_set_self hiσ] at e2
        cases e2
        exact ⟨u, r, .inr ⟨.inl hk, c, hc, hc'⟩⟩
      · rw [List.getElem?_set_ne (Ne.symm hj)] at e2
        obtain ⟨u', r', q⟩ := hl j y v' e1 e2 e3
        refine ⟨u', r', ?_⟩
        rcases q with q | ⟨k, c', e, z'⟩
        · exact .inl q
        · refine .inr ⟨k, c', e, z'.sameBut hs ?_⟩
          rintro rfl
          exact hj (nodup_ix hN e1 (I.ok.inj _ _ _ e hc ▸ hi))
    · by_cases hcc : c' = c
      · subst hcc; exact ⟨_, hc'⟩
      · obtain ⟨w2, z2⟩ := I.cell y c' e
        exact ⟨w2, z2.sameBut hs hcc⟩
    · obtain ⟨e, n, ne, nf, d⟩ := I.pin p hp
      refine ⟨(hs.2 p.1 ?_).trans e, n, ne, nf, d⟩
      intro q
      rw [q, hoc] at e
      have q' : oc = p.2 := Option.some.inj e
      exact d w' (by rw [← q']; exact hocd)
theorem store_ok {M : Model} {A : Around} {E : Value → Shared → Prop} {i : Nat} {x : Str} {v : V} {u : Value} {Q : Unit → Shared → Prop} (I : Inv X pins σ H s) (hN : X.N.Nodup) (hi : X.N[i]? = some x) (hx : Loc X.env.scope x) (r : RelV v u)
    (h : ∀ s', Inv X pins (σ.set i (some v)) H s' → Q () s') (hf : X.fn x = true ∨ X.env.scope.names.lookup x = some .local := by first | exact .inl rfl | exact .inr rfl | assumption) : wpAny M A (storeName X.env x u) Q E s :=
  store_ok2 I hN hi hx r (fun s' I' _ => h s' I') hf
/-- behind a call or a block, the state as it is -/
theorem Inv.call' {s' : Shared} {ch : List Addr} (I : Inv X pins σ H s) (ho : s'.os = s.os) (u : Un (frs X.stack) ch H H' s.heap s'.heap) (hok : HOk X.prog X.w H' s'.heap) (hg : AllBare s'.gens)
    (hch : ∀ b ∈ ch, (b ∈ X.ex ∨ X.s₀.heap.objs.size ≤ b) ∧ b ≠ X.env.locals ∧ (∀ x c, X.env.cells.lookup x = some c → c ≠ b) ∧ ∀ p ∈ X.pn ++ pins, p.1 ≠ b) : Inv X pins σ H' s' := by
  obtain ⟨h', g', d', t', o'⟩ := s'
  have e : o' = s.os := ho
  subst e
  exact I.call (g' := g') (t' := t') (d' := d') u hok hg hch
end

/-! ### the judgements -/
/-- an exception: its class, its own dict's address (where it has one), the abstract heap behind it -/
abbrev XK := Value → Option Addr → Hp → Prop
abbrev St := List (Option V)
abbrev VK := V → Hp → Prop
/-- an expression's reading; a test's; an argument list's -/
abbrev TE := St → Hp → VK → Prop
abbrev TT := St → Hp → (Bool → Hp → Prop) → Prop
abbrev TA := St → Hp → (List V → Hp → Prop) → Prop
/-- what is wanted behind a statement -/
structure Ends where
  nx : St → Hp → Prop
  rt : VK
  bk : St → Hp → Prop := fun _ _ => False
  ct : St → Hp → Prop := fun _ _ => False
abbrev TS := Ends → St → Hp → Prop

def EP (X : Cx) (pins : List (Addr × Obj)) (σ : St) (Q : VK) (u : Value) (s' : Shared) : Prop := ∃ v H', Inv X pins σ H' s' ∧ RelV v u ∧ Q v H'
def TP (X : Cx) (pins : List (Addr × Obj)) (σ : St) (Q : Bool → Hp → Prop) (b : Bool) (s' : Shared) : Prop := ∃ H', Inv X pins σ H' s' ∧ Q b H'
def AP (X : Cx) (pins : List (Addr × Obj)) (σ : St) (Q : List V → Hp → Prop) (us : List Value) (s' : Shared) : Prop := ∃ vs H', Inv X pins σ H' s' ∧ Vals vs us ∧ Q vs H'
def SP (X : Cx) (pins : List (Addr × Obj)) (D : Ends) (f : Flow) (s' : Shared) : Prop :=
  match f with
  | .next => ∃ σ' H', Inv X pins σ' H' s' ∧ D.nx σ' H'
  | .brk => ∃ σ' H', Inv X pins σ' H' s' ∧ D.bk σ' H'
  | .cont => ∃ σ' H', Inv X pins σ' H' s' ∧ D.ct σ' H'
  | .ret u => ∃ v σ' H', Inv X pins σ' H' s' ∧ RelV v u ∧ D.rt v H'

def PE (X : Cx) (e : Expr) (t : TE) : Prop :=
  ∀ (pins : List (Addr × Obj)) (s : Shared) (σ : St) (H : Hp) (Q : VK), Inv X pins σ H s → t σ H Q → wpAny (model X.prog X.w) X.A (eval e X.env) (EP X pins σ Q) X.xe s
def PT (X : Cx) (e : Expr) (t : TT) : Prop :=
  ∀ (pins : List (Addr × Obj)) (s : Shared) (σ : St) (H : Hp) (Q : Bool → Hp → Prop), Inv X pins σ H s → t σ H Q → wpAny (model X.prog X.w) X.A (isTrue e X.env (eval e X.env)) (TP X pins σ Q) X.xe s
/-- a test whatever its 'whole' is (and, or) -/
def PW (X : Cx) (e : Expr) (t : TT) : Prop :=
  ∀ (whole : Sem Value) (pins : List (Addr × Obj)) (s : Shared) (σ : St) (H : Hp) (Q : Bool → Hp → Prop), Inv X pins σ H s → t σ H Q → wpAny (model X.prog X.w) X.A (isTrue e X.env whole) (TP X pins σ Q) X.xe s
theorem PW.pt {X : Cx} {e : Expr} {t : TT} (h : PW X e t) : PT X e t := h _
/-- an argument list (no star), from the left -/
def PA (X : Cx) (es : List Expr) (t : TA) : Prop :=
  ∀ (pos : Pos) (pins : List (Addr × Obj)) (s : Shared) (σ : St) (H : Hp) (Q : List V → Hp → Prop), Inv X pins σ H s → t σ H Q → wpAny (model X.prog X.w) X.A (spliced (backTo pos (starEach es X.env))) (AP X pins σ Q) X.xe s
def PS (X : Cx) (st : Stmt) (t : TS) : Prop :=
  ∀ (pins : List (Addr × Obj)) (s : Shared) (σ : St) (H : Hp) (D : Ends), Inv X pins σ H s → t D σ H → wpAny (model X.prog X.w) X.A (exec st X.env) (SP X pins D) X.xe s
def PSs (X : Cx) (st : List Stmt) (t : TS) : Prop :=
  ∀ (pins : List (Addr × Obj)) (s : Shared) (σ : St) (H : Hp) (D : Ends), Inv X pins σ H s → t D σ H → wpAny (model X.prog X.w) X.A (execs st X.env) (SP X pins D) X.xe s
/-- weaken the end -/
theorem thn {α : Type} {t : Sem α} {Q Q' : α → Shared → Prop} {M : Model} {A : Around} {E : Value → Shared → Prop} {s : Shared} (h : wpAny M A t Q E s) (hQ : ∀ a s, Q a s → Q' a s) : wpAny M A t Q' E s := wpAny_mono h hQ fun _ _ x => x
end L2

namespace L2
open PySem PySem.Spec PyProof.Rows
section
variable {X : Cx}

/-- two expressions in a row -/
theorem bin {a b : Expr} {ta tb : TE} (ha : PE X a ta) (hb : PE X b tb) {pins : List (Addr × Obj)} {s : Shared} {σ : St} {H : Hp} {R : V → V → Hp → Prop} (I : Inv X pins σ H s) (h : ta σ H fun x H1 => tb σ H1 fun y H2 => R x y H2)
    {α : Type} {Q : α → Shared → Prop} {f : Value → Value → Sem α}
    (hf : ∀ v u s2 x y H2, Inv X pins σ H2 s2 → RelV x v → RelV y u → R x y H2 → wpAny (model X.prog X.w) X.A (f v u) Q X.xe s2) :
    wpAny (model X.prog X.w) X.A (eval a X.env) (fun v s₁ => wpAny (model X.prog X.w) X.A (eval b X.env) (fun u s₂ => wpAny (model X.prog X.w) X.A (f v u) Q X.xe s₂) X.xe s₁) X.xe s := by
  refine thn (ha pins s σ H _ I h) fun v s1 ⟨x, H1, I1, r1, q1⟩ => ?_
  refine thn (hb pins s1 σ H1 _ I1 q1) fun u s2 ⟨y, H2, I2, r2, q2⟩ => ?_
  exact hf v u s2 x y H2 I2 r1 r2 q2

/-! ### names and constants -/
def tVar (i : Nat) : TE := fun σ H Q => ∃ v, σ[i]? = some (some v) ∧ Q v H
def tC (v : V) : TE := fun _ H Q => Q v H
theorem pe_var {i : Nat} {x : Str} {pos : Pos} (hN : X.N[i]? = some x) (hv : Vis X.env.scope x) (hd : (x == ("__debug__" : Str)) = false := by decide) (hcd : (x == ("__classdict__" : Str)) = false := by decide) : PE X (.Name x pos) (tVar i) := by
  intro pins s σ H Q I h
  obtain ⟨v, e, h⟩ := h
  obtain ⟨m, hn, hl⟩ := I.loc
  obtain ⟨u, r, l⟩ := hl i x v hN e hv
  have fin : EP X pins σ Q u s := ⟨v, H, I, r, h⟩
  rcases l with ⟨hk, hm⟩ | ⟨hk, c, hc, hcell⟩
  · exact wpAny_Name (wpAny_loadName_local I.ok.kind hk hn hm fin) hd
  · rcases hk with hk | hk
    · exact wpAny_Name (wpAny_loadName_cell I.ok.kind hk hc hcell fin) hd
    · exact wpAny_Name (wpAny_loadName_free I.ok.kind hk hc hcell fin hcd) hd
theorem pe_int {i j pos} : PE X (.Constant (.int i) j pos) (tC (.int i)) := fun _ _ _ H _ I h => wpAny_Constant_int ⟨.int i, H, I.tok _, ⟨_, rfl⟩, h⟩
theorem pe_bl {b j pos} : PE X (.Constant (.bool b) j pos) (tC (.bl b)) := fun _ _ _ H _ I h => Constant_bool ⟨.bl b, H, I, rfl, h⟩
theorem pe_non {j pos} : PE X (.Constant .none j pos) (tC .non) := fun _ _ _ H _ I h => Constant_none ⟨.non, H, I, rfl, h⟩
theorem pe_str {x j pos} : PE X (.Constant (.str x) j pos) (tC (.str x)) := fun _ _ _ H _ I h => Calls.Constant_str ⟨.str x, H, I.tok _, ⟨_, rfl⟩, h⟩

/-- a global name of the def -/
def Gl (X : Cx) (x : Str) : Prop := X.env.kindOf x = some .globalImplicit
theorem ld_glob {E : Value → Shared → Prop} {pins : List (Addr × Obj)} {s : Shared} {σ : St} {H : Hp} {x : Str} {u : Value} {pos : Pos} {Q : Value → Shared → Prop} (I : Inv X pins σ H s) (hg : Gl X x) (hm : X.mg x = some u) (h : Q u s)
    (hd : (x == ("__debug__" : Str)) = false := by decide) : wpAny (model X.prog X.w) X.A (eval (.Name x pos) X.env) Q E s :=
  Calls.Name_function_global I.ok.kind hg (Calls.loadGlobal_global (by rw [I.ok.glob]; exact I.mod.glob.keeps I.bk) hm h) hd
theorem ld_blt {E : Value → Shared → Prop} {pins : List (Addr × Obj)} {s : Shared} {σ : St} {H : Hp} {x : Str} {u : Value} {pos : Pos} {Q : Value → Shared → Prop} (I : Inv X pins σ H s) (hg : Gl X x) (hm : X.mg x = none) (hv : bootBuiltins x = some u) (h : Q u s)
    (hn : x ≠ "__name__" := by decide) (hd : (x == ("__debug__" : Str)) = false := by decide) : wpAny (model X.prog X.w) X.A (eval (.Name x pos) X.env) Q E s := by
  obtain ⟨mb, h1, h2⟩ := I.mod.blt
  exact Calls.Name_function_global I.ok.kind hg (Calls.loadGlobal_builtin (by rw [I.ok.glob]; exact I.mod.glob.keeps I.bk) hm (by rw [I.ok.blt]; exact h1.keeps I.bk) ((h2 x hn).trans hv) h) hd
/-- a module's constant, a class, a function, as a value -/
theorem pe_glob {x : Str} {v : V} {u : Value} {pos : Pos} (hg : Gl X x) (hm : X.mg x = some u) (r : RelV v u) (hd : (x == ("__debug__" : Str)) = false := by decide) : PE X (.Name x pos) (tC v) :=
  fun _ _ _ H _ I h => ld_glob I hg hm ⟨v, H, I, r, h⟩ hd
theorem pe_bltn {x : Str} {v : V} {u : Value} {pos : Pos} (hg : Gl X x) (hm : X.mg x = none) (hv : bootBuiltins x = some u) (r : RelV v u) (hn : x ≠ "__name__" := by decide) (hd : (x == ("__debug__" : Str)) = false := by decide) : PE X (.Name x pos) (tC v) :=
  fun _ _ _ H _ I h => ld_blt I hg hm hv ⟨v, H, I, r, h⟩ hn hd

/-! ### arithmetic -/
/-- two ints -/
def t2I (ta tb : TE) (k : Int → Int → Hp → Prop) : St → Hp → Prop := fun σ H => ta σ H fun x H1 => tb σ H1 fun y H2 => ∃ i j, x = .int i ∧ y = .int j ∧ k i j H2
def tAdd (ta tb : TE) : TE := fun σ H Q => t2I ta tb (fun i j H2 => Q (.int (i + j)) H2) σ H
def tSub (ta tb : TE) : TE := fun σ H Q => t2I ta tb (fun i j H2 => Q (.int (i - j)) H2) σ H
/-- the left factor below 2^64 -/
def tMul (ta tb : TE) : TE := fun σ H Q => t2I ta tb (fun i j H2 => (-(2 ^ 64) < i ∧ i < 2 ^ 64) ∧ Q (.int (i * j)) H2) σ H
variable {a b : Expr} {ta tb : TE} {pos : Pos}
theorem pe_add (ha : PE X a ta) (hb : PE X b tb) : PE X (.BinOp a .Add b pos) (tAdd ta tb) := by
  intro pins s σ H Q I h
  refine wpAny_BinOp (bin ha hb I h fun v u s2 x y H2 I2 rx ry q => ?_)
  obtain ⟨i, j, rfl, rfl, q⟩ := q
  obtain ⟨t, rfl⟩ := rx
  obtain ⟨t', rfl⟩ := ry
  exact add_int ⟨.int _, H2, I2.tok _, ⟨_, rfl⟩, q⟩
theorem pe_sub (ha : PE X a ta) (hb : PE X b tb) : PE X (.BinOp a .Sub b pos) (tSub ta tb) := by
  intro pins s σ H Q I h
  refine wpAny_BinOp (bin ha hb I h fun v u s2 x y H2 I2 rx ry q => ?_)
  obtain ⟨i, j, rfl, rfl, q⟩ := q
  obtain ⟨t, rfl⟩ := rx
  obtain ⟨t', rfl⟩ := ry
  exact sub_int ⟨.int _, H2, I2.tok _, ⟨_, rfl⟩, q⟩
theorem pe_mul (ha : PE X a ta) (hb : PE X b tb) : PE X (.BinOp a .Mult b pos) (tMul ta tb) := by
  intro pins s σ H Q I h
  refine wpAny_BinOp (bin ha hb I h fun v u s2 x y H2 I2 rx ry q => ?_)
  obtain ⟨i, j, rfl, rfl, ⟨q1, q2⟩, q⟩ := q
  obtain ⟨t, rfl⟩ := rx
  obtain ⟨t', rfl⟩ := ry
  exact mul_int ⟨.int _, H2, I2.tok _, ⟨_, rfl⟩, q⟩ (.of_left (intBits_le_64 q1 q2))

/-! ### comparisons -/
def PC (X : Cx) (op : CmpOp) (a b : Expr) (t : TE) : Prop :=
  ∀ (pins : List (Addr × Obj)) (s : Shared) (σ : St) (H : Hp) (Q : VK), Inv X pins σ H s → t σ H Q →
    wpAny (model X.prog X.w) X.A (eval a X.env) (fun v s₁ => wpAny (model X.prog X.w) X.A (eval b X.env) (fun u s₂ => wpAny (model X.prog X.w) X.A (compareOp op v u) (EP X pins σ Q) X.xe s₂) X.xe s₁) X.xe s
theorem nobehind (b : Expr) {op : CmpOp} (h : op ≠ .In) (h2 : op ≠ .NotIn) : behindInMarks op b = false := by
  have e1 : (op == CmpOp.In) = false := by cases op <;> first | rfl | exact absurd rfl h
  have e2 : (op == CmpOp.NotIn) = false := by cases op <;> first | rfl | exact absurd rfl h2
  cases b <;> simp [behindInMarks, e1, e2]
def tCmp (p : Int → Int → Bool) (ta tb : TE) : TE := fun σ H Q => t2I ta tb (fun i j H2 => Q (.bl (p i j)) H2) σ H
abbrev tLt : TE → TE → TE := tCmp fun i j => decide (i < j)
abbrev tLe : TE → TE → TE := tCmp fun i j => decide (i ≤ j)
abbrev tGt : TE → TE → TE := tCmp fun i j => decide (j < i)
abbrev tGe : TE → TE → TE := tCmp fun i j => decide (j ≤ i)
abbrev tEqI : TE → TE → TE := tCmp fun i j => decide (i = j)
abbrev tNeI : TE → TE → TE := tCmp fun i j => !decide (i = j)
/-- a comparison of two ints, by its rule -/
theorem pc_int {op : CmpOp} {p : Int → Int → Bool} (ha : PE X a ta) (hb : PE X b tb)
    (rule : ∀ (i j : Int) (t u : Tok) (Q : Value → Shared → Prop) (s : Shared), Q (.bool (p i j)) s → wpAny (model X.prog X.w) X.A (compareOp op (.int i t) (.int j u)) Q X.xe s) : PC X op a b (tCmp p ta tb) := by
  intro pins s σ H Q I h
  refine bin ha hb I h fun v u s2 x y H2 I2 rx ry q => ?_
  obtain ⟨i, j, rfl, rfl, q⟩ := q
  obtain ⟨t, rfl⟩ := rx
  obtain ⟨t', rfl⟩ := ry
  exact rule i j t t' _ s2 ⟨.bl _, H2, I2, rfl, q⟩
theorem pc_lt (ha : PE X a ta) (hb : PE X b tb) : PC X .Lt a b (tLt ta tb) := pc_int ha hb fun _ _ _ _ _ _ h => lt_int h
theorem pc_le (ha : PE X a ta) (hb : PE X b tb) : PC X .LtE a b (tLe ta tb) := pc_int ha hb fun _ _ _ _ _ _ h => le_int h
theorem pc_gt (ha : PE X a ta) (hb : PE X b tb) : PC X .Gt a b (tGt ta tb) := pc_int ha hb fun _ _ _ _ _ _ h => gt_int h
theorem pc_ge (ha : PE X a ta) (hb : PE X b tb) : PC X .GtE a b (tGe ta tb) := pc_int ha hb fun _ _ _ _ _ _ h => ge_int h
theorem pc_eqI (ha : PE X a ta) (hb : PE X b tb) : PC X .Eq a b (tEqI ta tb) := pc_int ha hb fun _ _ _ _ _ _ h => eq_int (by rw [Bool.beq_eq_decide_eq]; exact h)
theorem pc_neI (ha : PE X a ta) (hb : PE X b tb) : PC X .NotEq a b (tNeI ta tb) := pc_int ha hb fun _ _ _ _ _ _ h => ne_int (by rw [bne, Bool.beq_eq_decide_eq]; exact h)
/-- is None -/
def tIsN (ta : TE) : TE := fun σ H Q => ta σ H fun x H1 => Q (.bl (decide (x = .non))) H1
def tNotN (ta : TE) : TE := fun σ H Q => ta σ H fun x H1 => Q (.bl (!decide (x = .non))) H1
theorem RelV.none_iff {x : V} {v : Value} (r : RelV x v) : (v == Value.none) = decide (x = .non) := by
  cases x with
  | non => cases r; rfl
  | bl _ => cases r; rfl
  | int _ => obtain ⟨t, rfl⟩ := r; rfl
  | str _ => obtain ⟨t, rfl⟩ := r; rfl
  | byt _ => obtain ⟨t, rfl⟩ := r; rfl
  | flt _ => obtain ⟨t, rfl⟩ := r; rfl
  | ref _ => cases r; rfl
  | ty _ => cases r; rfl
theorem pc_isN {j pos'} (ha : PE X a ta) : PC X .Is a (.Constant .none j pos') (tIsN ta) := by
  intro pins s σ H Q I h
  refine thn (ha pins s σ H _ I h) fun v s1 ⟨x, H1, I1, r1, q1⟩ => ?_
  exact Constant_none (is_none_gen ⟨.bl _, H1, I1, by rw [r1.none_iff]; rfl, q1⟩)
theorem pc_notN {j pos'} (ha : PE X a ta) : PC X .IsNot a (.Constant .none j pos') (tNotN ta) := by
  intro pins s σ H Q I h
  refine thn (ha pins s σ H _ I h) fun v s1 ⟨x, H1, I1, r1, q1⟩ => ?_
  exact Constant_none (isnot_none_gen ⟨.bl _, H1, I1, by rw [r1.none_iff]; rfl, q1⟩)
/-- a comparison as a value, as a test -/
def tB (t : TE) : TT := fun σ H Q => t σ H fun x H1 => ∃ c, x = .bl c ∧ Q c H1
theorem pe_cmp {op : CmpOp} {t : TE} (h : PC X op a b t) (h1 : behindInMarks op b = false := by first | exact nobehind _ (by decide) (by decide) | rfl) : PE X (.Compare a [op] [b] pos) t := fun pins s σ H Q I hw => wpAny_Compare1 (h pins s σ H Q I hw) h1
theorem pt_cmp {op : CmpOp} {t : TE} (h : PC X op a b t) (h1 : behindInMarks op b = false := by first | exact nobehind _ (by decide) (by decide) | rfl) : PT X (.Compare a [op] [b] pos) (tB t) := by
  intro pins s σ H Q I hw
  refine wpAny_isTrue_Compare1 (thn (h pins s σ H _ I hw) fun v s1 h1 => thn h1 fun u s2 h2 => thn h2 fun c s3 ⟨x, H1, I1, r1, q1⟩ => ?_) h1
  obtain ⟨d, rfl, q⟩ := q1
  cases r1
  exact wpAny_truthy_bool ⟨H1, I1, q⟩
/-- an expression whose value is a bool, as a test -/
theorem pt_val {e : Expr} {t : TE} (h : PE X e t) (he : ∀ whole, isTrue e X.env whole = (do let v ← whole; standAt e.pos; holding [v] (truthy v)) := by intro _; rfl) : PT X e (tB t) := by
  intro pins s σ H Q I hw
  refine isTrue_plain (thn (h pins s σ H _ I hw) fun v s1 ⟨x, H1, I1, r1, q1⟩ => ?_) (he _)
  obtain ⟨d, rfl, q⟩ := q1
  cases r1
  exact wpAny_truthy_bool ⟨H1, I1, q⟩

/-! ### and, or, not -/
variable {tA tB' : TT} {rest : List Expr}
def tAnd (t u : TT) : TT := fun σ H Q => t σ H fun c H1 => if c = true then u σ H1 Q else Q false H1
def tOr (t u : TT) : TT := fun σ H Q => t σ H fun c H1 => if c = true then Q true H1 else u σ H1 Q
def tNot (t : TT) : TT := fun σ H Q => t σ H fun c H1 => Q (!c) H1
theorem pw_and1 (ha : PT X a tA) : PW X (.BoolOp .And [a] pos) tA := by
  intro wh pins s σ H Q I h
  refine isTrue_and (thn (ha pins s σ H Q I h) fun c s1 e => ?_)
  cases c with
  | true => exact isTrue_and_nil e
  | false => exact e
theorem pw_or1 (ha : PT X a tA) : PW X (.BoolOp .Or [a] pos) tA := by
  intro wh pins s σ H Q I h
  refine isTrue_or (thn (ha pins s σ H Q I h) fun c s1 e => ?_)
  cases c with
  | false => exact isTrue_or_nil e
  | true => exact e
theorem pw_and (ha : PT X a tA) (hb : PW X (.BoolOp .And (b :: rest) pos) tB') : PW X (.BoolOp .And (a :: b :: rest) pos) (tAnd tA tB') := by
  intro wh pins s σ H Q I h
  refine isTrue_and (thn (ha pins s σ H _ I h) fun c s1 ⟨H1, I1, q1⟩ => ?_)
  cases c with
  | true => exact hb wh pins s1 σ H1 Q I1 q1
  | false => exact ⟨H1, I1, q1⟩
theorem pw_or (ha : PT X a tA) (hb : PW X (.BoolOp .Or (b :: rest) pos) tB') : PW X (.BoolOp .Or (a :: b :: rest) pos) (tOr tA tB') := by
  intro wh pins s σ H Q I h
  refine isTrue_or (thn (ha pins s σ H _ I h) fun c s1 ⟨H1, I1, q1⟩ => ?_)
  cases c with
  | true => exact ⟨H1, I1, q1⟩
  | false => exact hb wh pins s1 σ H1 Q I1 q1
theorem pt_not (ha : PT X a tA) : PT X (.UnaryOp .Not a pos) (tNot tA) := by
  intro pins s σ H Q I h
  exact isTrue_not (ha pins s σ H (fun c H1 => Q (!c) H1) I h)
/-- .. as values (bools) -/
def tAndV (ta tb : TE) : TE := fun σ H Q => ta σ H fun x H1 => ∃ c, x = .bl c ∧ if c = true then tb σ H1 Q else Q (.bl false) H1
def tOrV (ta tb : TE) : TE := fun σ H Q => ta σ H fun x H1 => ∃ c, x = .bl c ∧ if c = true then Q (.bl true) H1 else tb σ H1 Q
def tNotV (ta : TE) : TE := fun σ H Q => ta σ H fun x H1 => ∃ c, x = .bl c ∧ Q (.bl (!c)) H1
theorem pe_one {op} {t : TE} (h : PE X a t) : PE X (.BoolOp op [a] pos) t := fun pins s σ H Q I hw => BoolOp_one (h pins s σ H Q I hw)
theorem pe_and (ha : PE X a ta) (hb : PE X (.BoolOp .And (b :: rest) pos) tb) : PE X (.BoolOp .And (a :: b :: rest) pos) (tAndV ta tb) := by
  intro pins s σ H Q I h
  refine BoolOp_and (thn (ha pins s σ H _ I h) fun v s1 ⟨x, H1, I1, r1, q1⟩ => ?_)
  obtain ⟨c, rfl, q1⟩ := q1
  cases r1
  refine wpAny_truthy_bool ?_
  cases c with
  | true => exact hb pins s1 σ H1 Q I1 q1
  | false => exact ⟨.bl false, H1, I1, rfl, q1⟩
theorem pe_or (ha : PE X a ta) (hb : PE X (.BoolOp .Or (b :: rest) pos) tb) : PE X (.BoolOp .Or (a :: b :: rest) pos) (tOrV ta tb) := by
  intro pins s σ H Q I h
  refine BoolOp_or (thn (ha pins s σ H _ I h) fun v s1 ⟨x, H1, I1, r1, q1⟩ => ?_)
  obtain ⟨c, rfl, q1⟩ := q1
  cases r1
  refine wpAny_truthy_bool ?_
  cases c with
  | false => exact hb pins s1 σ H1 Q I1 q1
  | true => exact ⟨.bl true, H1, I1, rfl, q1⟩
theorem pe_not (ha : PE X a ta) : PE X (.UnaryOp .Not a pos) (tNotV ta) := by
  intro pins s σ H Q I h
  refine UnaryOp_ (thn (ha pins s σ H _ I h) fun v s1 ⟨x, H1, I1, r1, q1⟩ => ?_)
  obtain ⟨c, rfl, q1⟩ := q1
  cases r1
  exact not_of (wpAny_truthy_bool ⟨.bl (!c), H1, I1, rfl, q1⟩)
/-- a if t else b -/
def tIf (t : TT) (ta tb : TE) : TE := fun σ H Q => t σ H fun c H1 => if c = true then ta σ H1 Q else tb σ H1 Q
theorem pe_ifExp {c : Expr} (hc : PT X c tA) (ha : PE X a ta) (hb : PE X b tb) : PE X (.IfExp c a b pos) (tIf tA ta tb) := by
  intro pins s σ H Q I h
  refine wpAny_IfExp (thn (hc pins s σ H _ I h) fun d s1 ⟨H1, I1, q1⟩ => ?_)
  cases d with
  | true => exact ha pins s1 σ H1 Q I1 q1
  | false => exact hb pins s1 σ H1 Q I1 q1
end
end L2

namespace L2
open PySem PySem.Spec PyProof.Rows

/-! ### a list, a tuple that is read: tracked, frozen, or an object of the module -/
def SqL (K : PySem.W.Frag) (H : Hp) (a : Addr) (xs : List V) : Prop :=
  Rd H a (.lst xs) ∨
    ∃ (o : Obj) (its : Array Value) (n : Nat), K.lookup a = some o ∧ o.cls = .type "list" ∧ o.dict = none ∧ o.data = .seq its n ∧ its.size ≤ sizeLine ∧ Vals xs its.toList
def SqT (K : PySem.W.Frag) (H : Hp) (a : Addr) (xs : List V) : Prop :=
  Rd H a (.tup xs) ∨
    ∃ (o : Obj) (its : Array Value) (n : Nat), K.lookup a = some o ∧ o.cls = .type "tuple" ∧ o.data = .seq its n ∧ its.size ≤ sizeLine ∧ Vals xs its.toList
def absV : Value → Option V
  | .none => some .non
  | .bool b => some (.bl b)
  | .int i _ => some (.int i)
  | .str x _ => some (.str x)
  | .bytes b _ => some (.byt b)
  | .float b _ => some (.flt b)
  | .ref a => some (.ref a)
  | .type n => some (.ty n)
  | _ => none
theorem RelV.abs {x : V} {u : Value} (r : RelV x u) : absV u = some x := by
  cases x with
  | non => cases r; rfl
  | bl _ => cases r; rfl
  | int _ => obtain ⟨t, rfl⟩ := r; rfl
  | str _ => obtain ⟨t, rfl⟩ := r; rfl
  | byt _ => obtain ⟨t, rfl⟩ := r; rfl
  | flt _ => obtain ⟨t, rfl⟩ := r; rfl
  | ref _ => cases r; rfl
  | ty _ => cases r; rfl
theorem RelV.inj {x y : V} {u : Value} (r : RelV x u) (q : RelV y u) : x = y := Option.some.inj (r.abs.symm.trans q.abs)
theorem Vals.inj : ∀ {xs ys : List V} {us : List Value}, Vals xs us → Vals ys us → xs = ys
  | _, _, _, .nil, .nil => rfl
  | _, _, _, .cons r t, .cons r' t' => by rw [r.inj r', Vals.inj t t']
section
variable {X : Cx} {pins : List (Addr × Obj)} {σ : St} {H : Hp} {s : Shared} {a : Addr} {xs ys : List V}
theorem SqL.of {K : PySem.W.Frag} (h : H a = some (.lst xs)) : SqL K H a xs := .inl (.inl h)
theorem SqT.of {K : PySem.W.Frag} (h : H a = some (.tup xs)) : SqT K H a xs := .inl (.inl h)
theorem Inv.list (I : Inv X pins σ H s) (h : SqL X.K H a xs) : ∃ its : List Value, Vals xs its ∧ PlainL s.heap a its.toArray ∧ xs.length ≤ sizeLine := by
  rcases h with h | ⟨o, its, n, hk, hc, hd, hs, hz, r⟩
  · obtain ⟨z, its, n, r, e⟩ := h.ok I.hok
    exact ⟨its, r, ⟨_, n, e, rfl, rfl, rfl⟩, z⟩
  · refine ⟨its.toList, r, ⟨o, n, I.kIn a o hk, hc, hd, by simpa using hs⟩, ?_⟩
    have e := r.length
    simp only [Array.length_toList] at e
    omega
theorem Inv.tuple (I : Inv X pins σ H s) (h : SqT X.K H a xs) : ∃ its : List Value, Vals xs its ∧ IsTup s.heap a its.toArray ∧ xs.length ≤ sizeLine := by
  rcases h with h | ⟨o, its, n, hk, hc, hs, hz, r⟩
  · obtain ⟨z, its, r, p⟩ := h.ok I.hok
    exact ⟨its, r, p, z⟩
  · refine ⟨its.toList, r, ⟨o, I.kIn a o hk, hc, n, by simpa using hs⟩, ?_⟩
    have e := r.length
    simp only [Array.length_toList] at e
    omega
theorem Inv.list_inj (I : Inv X pins σ H s) (h : SqL X.K H a xs) (h' : SqL X.K H a ys) : xs = ys := by
  obtain ⟨its, r, ⟨o, n, e, _, _, d⟩, _⟩ := I.list h
  obtain ⟨its', r', ⟨o', n', e', _, _, d'⟩, _⟩ := I.list h'
  rw [e] at e'; cases e'
  rw [d] at d'
  injection d' with d1 _
  have : its = its' := by simpa using congrArg Array.toList d1
  subst this
  exact r.inj r'
theorem Inv.tuple_inj (I : Inv X pins σ H s) (h : SqT X.K H a xs) (h' : SqT X.K H a ys) : xs = ys := by
  obtain ⟨its, r, ⟨o, e, _, n, d⟩, _⟩ := I.tuple h
  obtain ⟨its', r', ⟨o', e', _, n', d'⟩, _⟩ := I.tuple h'
  rw [e] at e'; cases e'
  rw [d] at d'
  injection d' with d1 _
  have : its = its' := by simpa using congrArg Array.toList d1
  subst this
  exact r.inj r'
end

/-! ### another wish about exceptions -/
abbrev Cx.wish (X : Cx) (E : Value → Shared → Prop) : Cx := { X with xe := E }
/-- no exception leaves -/
abbrev Cx.nox (X : Cx) : Cx := X.wish fun _ _ => False
theorem Cx.Ok.wish {X : Cx} (ok : X.Ok) (E : Value → Shared → Prop) : (X.wish E).Ok :=
  ⟨ok.mod, ok.kind, ok.glob, ok.blt, ok.above, ok.inj, ok.has, ok.cab, ok.hd, ok.frames, ok.stk, ok.exf, ok.bs, ok.bsz, ok.noex, ok.exfs, ok.funs, ok.frf⟩
theorem Cx.Ok.unwish {X : Cx} {E : Value → Shared → Prop} (ok : (X.wish E).Ok) : X.Ok :=
  ⟨ok.mod, ok.kind, ok.glob, ok.blt, ok.above, ok.inj, ok.has, ok.cab, ok.hd, ok.frames, ok.stk, ok.exf, ok.bs, ok.bsz, ok.noex, ok.exfs, ok.funs, ok.frf⟩
section
variable {X : Cx} {pins : List (Addr × Obj)} {σ : St} {H : Hp} {s : Shared} {E : Value → Shared → Prop}
theorem Inv.wish (I : Inv X pins σ H s) (E : Value → Shared → Prop) : Inv (X.wish E) pins σ H s := ⟨I.ok.wish E, I.os, I.bare, I.base, I.loc, I.cell, I.free, I.freeC, I.pin, I.hok, I.len⟩
theorem Inv.unwish (I : Inv (X.wish E) pins σ H s) : Inv X pins σ H s := ⟨I.ok.unwish, I.os, I.bare, I.base, I.loc, I.cell, I.free, I.freeC, I.pin, I.hok, I.len⟩
theorem SP.unwish {D : Ends} {f : Flow} {s' : Shared} (h : SP (X.wish E) pins D f s') : SP X pins D f s' := by
  cases f with
  | next => obtain ⟨σ', H', I, q⟩ := h; exact ⟨σ', H', I.unwish, q⟩
  | brk => obtain ⟨σ', H', I, q⟩ := h; exact ⟨σ', H', I.unwish, q⟩
  | cont => obtain ⟨σ', H', I, q⟩ := h; exact ⟨σ', H', I.unwish, q⟩
  | ret u => obtain ⟨v, σ', H', I, r, q⟩ := h; exact ⟨v, σ', H', I.unwish, r, q⟩
theorem PE.nox {e : Expr} {t : TE} (h : PE X.nox e t) : PE X e t := fun pins s σ H Q I hw =>
  wpAny_mono (h pins s σ H Q (I.wish _) hw) (fun _ _ ⟨v, H', I', r, q⟩ => ⟨v, H', I'.unwish, r, q⟩) fun _ _ z => False.elim z
theorem PT.nox {e : Expr} {t : TT} (h : PT X.nox e t) : PT X e t := fun pins s σ H Q I hw =>
  wpAny_mono (h pins s σ H Q (I.wish _) hw) (fun _ _ ⟨H', I', q⟩ => ⟨H', I'.unwish, q⟩) fun _ _ z => False.elim z
theorem PSs.nox {st : List Stmt} {t : TS} (h : PSs X.nox st t) : PSs X st t := fun pins s σ H D I hw =>
  wpAny_mono (h pins s σ H D (I.wish _) hw) (fun _ _ q => q.unwish) fun _ _ z => False.elim z
end

/-! ### blocks and small statements -/
section
variable {X : Cx} {st : Stmt} {rest : List Stmt} {t u : TS} {e : Expr} {te : TE} {pos : Pos}
def tNext : TS := fun D σ H => D.nx σ H
def tSeq (t u : TS) : TS := fun D σ H => t { D with nx := u D } σ H
theorem pss_nil : PSs X [] tNext := fun _ _ σ H _ I h => wpAny_execs_nil ⟨σ, H, I, h⟩
theorem pss_cons (h1 : PS X st t) (h2 : PSs X rest u) : PSs X (st :: rest) (tSeq t u) := by
  intro pins s σ H D I h
  refine wpAny_execs_cons (thn (h1 pins s σ H { D with nx := u D } I h) fun f s1 q => ?_)
  cases f with
  | next =>
    obtain ⟨σ', H', I', q⟩ := q
    exact h2 pins s1 σ' H' D I' q
  | ret v => exact q
  | brk => exact q
  | cont => exact q
theorem pss_one (h1 : PS X st t) : PSs X [st] t := by
  intro pins s σ H D I h
  refine wpAny_execs_cons (thn (h1 pins s σ H D I h) fun f s1 q => ?_)
  cases f with
  | next => exact wpAny_execs_nil q
  | ret v => exact q
  | brk => exact q
  | cont => exact q
def tBreak : TS := fun D σ H => D.bk σ H
def tCont : TS := fun D σ H => D.ct σ H
theorem ps_pass : PS X (.Pass pos) tNext := fun _ _ σ H _ I h => wpAny_Pass ⟨σ, H, I, h⟩
theorem ps_break : PS X (.Break pos) tBreak := fun _ _ σ H _ I h => wpAny_Break ⟨σ, H, I, h⟩
theorem ps_continue : PS X (.Continue pos) tCont := fun _ _ σ H _ I h => wpAny_Continue ⟨σ, H, I, h⟩
/-- in a def's body nothing is shown -/
theorem Inv.quiet {pins : List (Addr × Obj)} {σ : St} {H : Hp} {s : Shared} (I : Inv X pins σ H s) : interactive X.env = false := by simp [interactive, I.ok.kind]
/-- a docstring -/
theorem ps_doc {x j pos pos'} : PS X (.Expr (.Constant (.str x) j pos) pos') tNext := fun _ s σ H _ I h => wpAny_Expr (Calls.Constant_str (show SP X _ _ .next { s with toks := s.toks + 1 } from ⟨σ, H, I.tok _, h⟩)) I.quiet
/-- an expression whose value is dropped -/
def tDrop (te : TE) : TS := fun D σ H => te σ H fun _ H1 => D.nx σ H1
theorem ps_expr (he : PE X e te) (hs : swapsWith e none pos.line X.env = pure false := by rfl) : PS X (.Expr e pos) (tDrop te) := by
  intro pins s σ H D I h
  exact wpAny_Expr_any (thn (he pins s σ H _ I h) fun v s1 ⟨x, H1, I1, r1, q1⟩ => ⟨σ, H1, I1, q1⟩) I.quiet hs
def tRet (te : TE) : TS := fun D σ H => te σ H D.rt
theorem ps_ret (he : PE X e te) : PS X (.Return (some e) pos) (tRet te) := by
  intro pins s σ H D I h
  exact wpAny_Return_some (thn (he pins s σ H _ I h) fun v s1 ⟨x, H1, I1, r1, q1⟩ => ⟨x, σ, H1, I1, r1, q1⟩)
def tRetN : TS := fun D _ H => D.rt .non H
theorem ps_retN : PS X (.Return none pos) tRetN := fun _ _ σ H _ I h => wpAny_Return_none ⟨.non, σ, H, I, rfl, h⟩
def tIfS (c : TT) (t u : TS) : TS := fun D σ H => c σ H fun b H1 => if b = true then t D σ H1 else u D σ H1
theorem ps_if {c : Expr} {a b : List Stmt} {tc : TT} (hc : PT X c tc) (ha : PSs X a t) (hb : PSs X b u) : PS X (.If c a b pos) (tIfS tc t u) := by
  intro pins s σ H D I h
  refine wpAny_If (thn (hc pins s σ H _ I h) fun d s1 ⟨H1, I1, q1⟩ => ?_)
  cases d with
  | true => exact ha pins s1 σ H1 D I1 q1
  | false => exact hb pins s1 σ H1 D I1 q1
/-- code that the proof never comes to -/
def tNever : TS := fun _ _ _ => False
theorem ps_never : PS X st tNever := fun _ _ _ _ _ _ h => h.elim
theorem pss_never {sts : List Stmt} : PSs X sts tNever := fun _ _ _ _ _ _ h => h.elim
end

/-! ### targets -/
abbrev TG := V → St → Hp → (St → Hp → Prop) → Prop
abbrev TGs := List V → St → Hp → (St → Hp → Prop) → Prop
def PG (X : Cx) (target : Expr) (t : TG) : Prop :=
  ∀ (pins : List (Addr × Obj)) (s : Shared) (σ : St) (H : Hp) (v : V) (u : Value) (Q : St → Hp → Prop), Inv X pins σ H s → RelV v u → t v σ H Q →
    wpAny (model X.prog X.w) X.A (assign target X.env u) (fun _ s' => ∃ σ' H', Inv X pins σ' H' s' ∧ Q σ' H') X.xe s
/-- several targets, one after another -/
def PGs (X : Cx) (ts : List Expr) (t : TGs) : Prop :=
  ∀ (pins : List (Addr × Obj)) (s : Shared) (σ : St) (H : Hp) (vs : List V) (us : List Value) (Q : St → Hp → Prop), Inv X pins σ H s → Vals vs us → t vs σ H Q →
    wpAny (model X.prog X.w) X.A (assignInOrder ((assignEach ts X.env).map (·.2)) us) (fun _ s' => ∃ σ' H', Inv X pins σ' H' s' ∧ Q σ' H') X.xe s
/-- o[i] = v, by values -/
abbrev TSet := V → V → V → Hp → (Hp → Prop) → Prop
def PSet (X : Cx) (t : TSet) : Prop :=
  ∀ (pins : List (Addr × Obj)) (s : Shared) (σ : St) (H : Hp) (o i v : V) (ov iv u : Value) (Q : Hp → Prop), Inv X pins σ H s → RelV o ov → RelV i iv → RelV v u → t o i v H Q →
    wpAny (model X.prog X.w) X.A (setItem ov iv u) (fun _ s' => ∃ H', Inv X pins σ H' s' ∧ Q H') X.xe s
/-- a op= b, by values -/
abbrev TIp := V → V → Hp → VK → Prop
def PIp (X : Cx) (op : Operator) (t : TIp) : Prop :=
  ∀ (pins : List (Addr × Obj)) (s : Shared) (σ : St) (H : Hp) (x y : V) (v u : Value) (Q : VK), Inv X pins σ H s → RelV x v → RelV y u → t x y H Q →
    wpAny (model X.prog X.w) X.A (inplaceOp op v u) (EP X pins σ Q) X.xe s
section
variable {X : Cx} {pos : Pos}
def gName (i : Nat) : TG := fun v σ H Q => Q (σ.set i (some v)) H
theorem pg_name {i : Nat} {x : Str} (hN : X.N.Nodup) (hi : X.N[i]? = some x) (hx : Loc X.env.scope x) (hf : X.fn x = true ∨ X.env.scope.names.lookup x = some .local := by first | exact .inl rfl | exact .inr rfl | assumption) : PG X (.Name x pos) (gName i) := by
  intro pins s σ H v u Q I r h
  exact wpAny_assign_Name (store_ok I hN hi hx r (fun s' I' => ⟨_, H, I', h⟩) hf)
def gNil : TGs := fun vs σ H Q => vs = [] ∧ Q σ H
def gCons (t : TG) (u : TGs) : TGs := fun vs σ H Q => ∃ v r, vs = v :: r ∧ t v σ H fun σ' H' => u r σ' H' Q
theorem pgs_nil : PGs X [] gNil := by
  intro pins s σ H vs us Q I r h
  obtain ⟨e, h⟩ := h
  subst e
  cases r
  exact assignInOrder_nil ⟨σ, H, I, h⟩
theorem pgs_cons {e : Expr} {es : List Expr} {t : TG} {u : TGs} (h1 : PG X e t) (h2 : PGs X es u)
    (hs : (assignEach (e :: es) X.env).map (·.2) = assign e X.env :: (assignEach es X.env).map (·.2) := by rfl) : PGs X (e :: es) (gCons t u) := by
  intro pins s σ H vs us Q I r h
  obtain ⟨v, vr, e1, h⟩ := h
  subst e1
  cases r with
  | cons r rr =>
    rw [hs]
    refine assignInOrder_cons (thn (h1 pins s σ H _ _ _ I r h) fun _ s1 ⟨σ1, H1, I1, q1⟩ => ?_)
    exact h2 pins s1 σ1 H1 _ _ Q I1 rr q1
/-- (a, b, ..) = a tuple of that length -/
def gTup (K : PySem.W.Frag) (n : Nat) (t : TGs) : TG := fun v σ H Q => ∃ a xs, v = .ref a ∧ SqT K H a xs ∧ xs.length = n ∧ t xs σ H Q
theorem pg_tup {es : List Expr} {k : Nat} {t : TGs} {n : Nat} (hc : X.calm = true) (h : PGs X es t)
    (hn : (assignEach es X.env).length = n := by rfl) (hst : (assignEach es X.env).findIdx? (·.1) = none := by rfl) : PG X (.Tuple es k pos) (gTup X.K n t) := by
  intro pins s σ H v u Q I r hw
  obtain ⟨a, xs, e1, hq, hl, hw⟩ := hw
  subst e1
  cases r
  obtain ⟨its, rv, ht, hz⟩ := I.tuple hq
  refine assign_Tuple_tuple (I.ok.hd hc) ht (by simp [hn, ← hl, rv.length]) hst fun h' hx => ?_
  have I1 : Inv X pins σ H { s with heap := h' } := I.kept (t' := s.toks) fun b o e => hx b o (Nat.ne_of_lt (Heap.lt_size e)) e
  exact h pins _ σ H xs _ Q I1 (by simpa using rv) hw
/-- o[i] = .. -/
def gSub (to ti : TE) (t : TSet) : TG := fun v σ H Q => to σ H fun o H1 => ti σ H1 fun i H2 => t o i v H2 fun H3 => Q σ H3
theorem pg_sub {o i : Expr} {to ti : TE} {t : TSet} (ho : PE X o to) (hi : PE X i ti) (hs : PSet X t)
    (ha : ∀ v, assign (.Subscript o i pos) X.env v = (do
      let ov ← holding [v] (eval o X.env)
      let iv ← holding [v, ov] (eval i X.env)
      standAt pos
      holding [v, ov, iv] (setItem ov iv v)
      release [v, ov, iv] []) := by intro _; rfl) : PG X (.Subscript o i pos) (gSub to ti t) := by
  intro pins s σ H v u Q I r h
  rw [ha]
  refine wpAny_bind (wpAny_holding (thn (ho pins s σ H _ I h) fun ov s1 ⟨x, H1, I1, r1, q1⟩ => ?_))
  refine wpAny_bind (wpAny_holding (thn (hi pins s1 σ H1 _ I1 q1) fun iv s2 ⟨y, H2, I2, r2, q2⟩ => ?_))
  refine wpAny_bind (wpAny_standAt (wpAny_bind (wpAny_holding (thn (hs pins s2 σ H2 x y v ov iv u _ I2 r1 r2 r q2) fun _ s3 ⟨H3, I3, q3⟩ => ?_))))
  exact wpAny_release ⟨σ, H3, I3, q3⟩
/-- target = value -/
def tAsg (te : TE) (g : TG) : TS := fun D σ H => te σ H fun x H1 => g x σ H1 D.nx
theorem ps_asg {tg e : Expr} {te : TE} {g : TG} (he : PE X e te) (hg : PG X tg g) (hs : swapsWithSole [tg] e pos.line X.env = pure false := by rfl) (hw : swappedStores [tg] e X.env = pure none := by rfl)
    (h1 : (assignEach [tg] X.env).map (·.2) = [assign tg X.env] := by rfl) : PS X (.Assign [tg] e pos) (tAsg te g) := by
  intro pins s σ H D I h
  refine wpAny_Assign_stores (thn (he pins s σ H _ I h) fun v s1 ⟨x, H1, I1, r1, q1⟩ => ?_) hs hw
  rw [h1]
  exact thn (hg pins s1 σ H1 x v _ I1 r1 q1) fun _ s2 q => q
/-- name = value -/
theorem ps_set {i : Nat} {x : Str} {e : Expr} {te : TE} {pos' : Pos} (hN : X.N.Nodup) (hi : X.N[i]? = some x) (hx : Loc X.env.scope x) (he : PE X e te) (hs : swapsWith e (some (.Name x pos')) pos.line X.env = pure false := by rfl) (hf : X.fn x = true ∨ X.env.scope.names.lookup x = some .local := by first | exact .inl rfl | exact .inr rfl | assumption) :
    PS X (.Assign [.Name x pos'] e pos) (tAsg te (gName i)) := by
  intro pins s σ H D I h
  refine wpAny_Assign_Name (thn (he pins s σ H _ I h) fun v s1 ⟨y, H1, I1, r1, q1⟩ => ?_) hs
  exact store_ok I1 hN hi hx r1 (fun s2 I2 => ⟨_, H1, I2, q1⟩) hf
/-- a, b = x, y with plain local names: stored from the right; the pair itself is not tracked (the opening rows as in PyProof/Rows/TupAssign.lean:23) -/
def tPar (i j : Nat) (ta : TA) : TS := fun D σ H => ta σ H fun vs H1 => ∃ v w, vs = [v, w] ∧ D.nx ((σ.set i (some v)).set j (some w)) H1
theorem ps_par {i j : Nat} {x y : Str} {a b : Expr} {ta : TA} {px py pt : Pos} {kt k2 pt2} (hc : X.calm = true) (hN : X.N.Nodup) (hi : X.N[i]? = some x) (hj : X.N[j]? = some y) (hij : i ≠ j)
    (hx : X.env.scope.names.lookup x = some .local) (hy : X.env.scope.names.lookup y = some .local) (ha : PA X [a, b] ta)
    (hw : swappedStores [.Tuple [.Name x px, .Name y py] kt pt] (.Tuple [a, b] k2 pt2) X.env = pure (some [x, y]))
    (hs : swapsWithSole [.Tuple [.Name x px, .Name y py] kt pt] (.Tuple [a, b] k2 pt2) pos.line X.env = pure false := by rfl) :
    PS X (.Assign [.Tuple [.Name x px, .Name y py] kt pt] (.Tuple [a, b] k2 pt2) pos) (tPar i j ta) := by
  intro pins s σ H D I h
  rw [exec_Assign_arm]
  refine wpAny_bind (wpAny_standAt ?_)
  rw [hs]
  refine wpAny_bind (wpAny_pure ?_)
  rw [if_neg (by decide)]
  refine wpAny_bind (Tuple_ (thn (ha _ pins s σ H _ I h) fun us s1 ⟨vs, H1, I1, r1, q1⟩ => ?_))
  obtain ⟨v, w, e1, q1⟩ := q1
  subst e1
  obtain ⟨u1, u2, rfl, rv, rw'⟩ : ∃ u1 u2, us = [u1, u2] ∧ RelV v u1 ∧ RelV w u2 := by
    cases r1 with
    | cons p q =>
      cases q with
      | cons p' q' =>
        cases q'
        exact ⟨_, _, rfl, p, p'⟩
  refine wpAny_newObj_type ?_ (by show 2 ≤ sizeLine; decide)
  have I2 : Inv X pins σ H1 { s1 with heap := s1.heap.push { cls := .type "tuple", data := .seq [u1, u2].toArray } } := I1.kept (t' := s1.toks) fun b o e => Heap.get?_push_of_some _ e
  rw [hw]
  refine wpAny_bind (wpAny_pure ?_)
  show wpAny (model X.prog X.w) X.A (do rule "assign.swapped-stores"; let items ← unpackItems (.ref s1.heap.objs.size) 2 none; assignInOrder [fun v => bindName X.env y v, fun v => bindName X.env x v] items.reverse; pure Flow.next) _ _ _
  refine wpAny_bind (wpAny_rule (wpAny_bind (unpackItems_tuple (items := #[u1, u2]) (I.ok.hd hc) (IsTup.new s1.heap _) fun h' hx' => ?_)))
  have I3 := I2.kept (h' := h') (t' := s1.toks) fun b o e => hx' b o (Nat.ne_of_lt (Heap.lt_size e)) e
  show wpAny _ _ (assignInOrder [fun v => bindName X.env y v, fun v => bindName X.env x v] [u2, u1] >>= fun _ => pure Flow.next) _ _ _
  refine wpAny_bind (assignInOrder_cons (wpAny_bindName (store_ok I3 hN hj (.inl hy) rw' (fun s2 I4 => ?_) (.inr hy))))
  refine assignInOrder_cons (wpAny_bindName (store_ok I4 hN hi (.inl hx) rv (fun s3 I5 => assignInOrder_nil (wpAny_pure ?_)) (.inr hx)))
  rw [List.set_comm _ _ (Ne.symm hij)] at I5
  exact ⟨_, H1, I5, q1⟩
/-- name op= e -/
def tAug (i : Nat) (te : TE) (ti : TIp) : TS := fun D σ H => ∃ x, σ[i]? = some (some x) ∧ te σ H fun y H1 => ti x y H1 fun z H2 => D.nx (σ.set i (some z)) H2
theorem ps_aug {i : Nat} {x : Str} {e : Expr} {te : TE} {op : Operator} {ti : TIp} {pos' : Pos} (hN : X.N.Nodup) (hi : X.N[i]? = some x) (hx : Loc X.env.scope x) (he : PE X e te) (ho : PIp X op ti) (hf : X.fn x = true ∨ X.env.scope.names.lookup x = some .local := by first | exact .inl rfl | exact .inr rfl | assumption) :
    PS X (.AugAssign (.Name x pos') op e pos) (tAug i te ti) := by
  intro pins s σ H D I h
  obtain ⟨v, e1, h⟩ := h
  obtain ⟨m, hn, hl⟩ := I.loc
  have vis : Vis X.env.scope x := by rcases hx with k | k; exact .inl k; exact .inr (.inl k)
  obtain ⟨u, r, l⟩ := hl i x v hi e1 vis
  refine wpAny_AugAssign_Name ?_
  have go : wpAny (model X.prog X.w) X.A (eval e X.env) (fun w s₂ => wpAny (model X.prog X.w) X.A (inplaceOp op u w) (fun r s₃ => wpAny (model X.prog X.w) X.A (storeName X.env x r) (fun _ => SP X pins D .next) X.xe s₃) X.xe s₂) X.xe s := by
    refine thn (he pins s σ H _ I h) fun w s1 ⟨y, H1, I1, r1, q1⟩ => ?_
    refine thn (ho pins s1 σ H1 v y u w _ I1 r r1 q1) fun z s2 ⟨zv, H2, I2, r2, q2⟩ => ?_
    exact store_ok I2 hN hi hx r2 (fun s3 I3 => ⟨_, H2, I3, q2⟩) hf
  rcases l with ⟨hk, hm⟩ | ⟨hk, c, hc, hcell⟩
  · exact wpAny_loadName_local I.ok.kind hk hn hm go
  · rcases hk with hk | hk
    · exact wpAny_loadName_cell I.ok.kind hk hc hcell go
    · rcases hx with k | k
      · have : X.env.scope.names.lookup x = some .free := hk
        rw [k] at this; cases this
      · have : X.env.scope.names.lookup x = some .free := hk
        rw [k] at this; cases this
/-- o[i] op= e -/
def tAugS (to ti te : TE) (tget : V → V → Hp → VK → Prop) (tip : TIp) (tset : TSet) : TS := fun D σ H => to σ H fun o H1 => ti σ H1 fun i H2 => tget o i H2 fun x H3 => te σ H3 fun y H4 => tip x y H4 fun z H5 => tset o i z H5 fun H6 => D.nx σ H6
/-- o[i], by values -/
def PGet (X : Cx) (t : V → V → Hp → VK → Prop) : Prop :=
  ∀ (pins : List (Addr × Obj)) (s : Shared) (σ : St) (H : Hp) (o i : V) (ov iv : Value) (Q : VK), Inv X pins σ H s → RelV o ov → RelV i iv → t o i H Q →
    wpAny (model X.prog X.w) X.A (getItem ov iv) (EP X pins σ Q) X.xe s
theorem ps_augS {o i e : Expr} {to ti te : TE} {tget : V → V → Hp → VK → Prop} {tip : TIp} {tset : TSet} {op : Operator} {tpos : Pos} (ho : PE X o to) (hi : PE X i ti) (hg : PGet X tget) (he : PE X e te) (hp : PIp X op tip) (hs : PSet X tset)
    (ha : ∀ ov iv new, augStore i ov iv new = (do holding [new, ov, iv] (setItem ov iv new); release [new, ov, iv] []; pure .next) := by intros; rfl) : PS X (.AugAssign (.Subscript o i tpos) op e pos) (tAugS to ti te tget tip tset) := by
  intro pins s σ H D I h
  refine wpAny_AugAssign_SubscriptAny (thn (ho pins s σ H _ I h) fun ov s1 ⟨x1, H1, I1, r1, q1⟩ => ?_) ha
  refine thn (hi pins s1 σ H1 _ I1 q1) fun iv s2 ⟨x2, H2, I2, r2, q2⟩ => ?_
  refine thn (hg pins s2 σ H2 x1 x2 ov iv _ I2 r1 r2 q2) fun old s3 ⟨x3, H3, I3, r3, q3⟩ => ?_
  refine thn (he pins s3 σ H3 _ I3 q3) fun v s4 ⟨x4, H4, I4, r4, q4⟩ => ?_
  refine thn (hp pins s4 σ H4 x3 x4 old v _ I4 r3 r4 q4) fun new s5 ⟨x5, H5, I5, r5, q5⟩ => ?_
  exact thn (hs pins s5 σ H5 x1 x2 x5 ov iv new _ I5 r1 r2 r5 q5) fun _ s6 ⟨H6, I6, q6⟩ => ⟨σ, H6, I6, q6⟩
/-- ints -/
def ipI (f : Int → Int → Int) : TIp := fun x y H Q => ∃ i j, x = .int i ∧ y = .int j ∧ Q (.int (f i j)) H
theorem ip_add : PIp X .Add (ipI fun i j => i + j) := by
  intro pins s σ H x y v u Q I r1 r2 h
  obtain ⟨i, j, e1, e2, q⟩ := h
  subst e1; subst e2
  obtain ⟨t, rfl⟩ := r1
  obtain ⟨t', rfl⟩ := r2
  exact iadd_int ⟨.int _, H, I.tok _, ⟨_, rfl⟩, q⟩
theorem ip_sub : PIp X .Sub (ipI fun i j => i - j) := by
  intro pins s σ H x y v u Q I r1 r2 h
  obtain ⟨i, j, e1, e2, q⟩ := h
  subst e1; subst e2
  obtain ⟨t, rfl⟩ := r1
  obtain ⟨t', rfl⟩ := r2
  exact isub_int ⟨.int _, H, I.tok _, ⟨_, rfl⟩, q⟩
end

/-! ### while -/
section
variable {X : Cx} {pos : Pos}
/-- the invariant W with its measure -/
def tWhile (c : TT) (tb : TS) : TS := fun D σ H => ∃ W : Nat → St → Hp → Prop, (∃ m, W m σ H) ∧ ∀ m σ H, W m σ H →
  c σ H fun b H1 => if b = true then ∃ N : St → Hp → Prop, (∀ σ' H', N σ' H' → ∃ m', m' < m ∧ W m' σ' H') ∧ tb { D with nx := N, ct := N, bk := D.nx } σ H1 else D.nx σ H1
theorem ps_while {c : Expr} {body : List Stmt} {tc : TT} {tb : TS} (hp : PassesOwn (model X.prog X.w) X.A X.env X.xe) (hc : PT X c tc) (hb : PSs X body tb) : PS X (.While c body [] pos) (tWhile tc tb) := by
  intro pins s σ H D I h
  obtain ⟨W, ⟨m0, w0⟩, turn⟩ := h
  refine wpAny_While (codeAny_whileLoop (fun n s' => ∃ σ' H', Inv X pins σ' H' s' ∧ W n σ' H') ?_ m0 ⟨σ, H, I, w0⟩)
  rintro n s1 ⟨σ1, H1, I1, w1⟩
  refine wpAny_passesOwn hp (thn (hc pins s1 σ1 H1 _ I1 (turn n σ1 H1 w1)) fun b s2 ⟨H2, I2, q2⟩ => ?_)
  cases b with
  | true =>
    obtain ⟨N, hN, q2⟩ := q2
    rw [if_pos rfl]
    refine wpAny_passesOwn hp (thn (hb pins s2 σ1 H2 _ I2 q2) fun f s3 q3 => ?_)
    cases f with
    | next =>
      obtain ⟨σ3, H3, I3, n3⟩ := q3
      obtain ⟨m', hm, w3⟩ := hN σ3 H3 n3
      exact ⟨m', hm, σ3, H3, I3, w3⟩
    | cont =>
      obtain ⟨σ3, H3, I3, n3⟩ := q3
      obtain ⟨m', hm, w3⟩ := hN σ3 H3 n3
      exact ⟨m', hm, σ3, H3, I3, w3⟩
    | brk => exact q3
    | ret v => exact q3
  | false =>
    rw [if_neg Bool.false_ne_true]
    exact wpAny_execs_nil ⟨σ1, H2, I2, q2⟩
end

/-! ### what a loop or a comprehension walks -/
/-- at turn i: it yields x (the heap may grow), or it stops -/
structure It where
  go : Nat → Hp → Prop
  yld : Nat → Hp → V → Hp → Prop
  stop : Nat → Hp → Prop
/-- the iterator's own objects may turn: they are not the frame's, not pinned, younger than the entry (or a comprehension's own) -/
def FpOk (X : Cx) (pins : List (Addr × Obj)) (H : Hp) (b : Addr) : Prop :=
  H b = none ∧ b ≠ X.env.locals ∧ b ∉ X.fs ∧ (b ∈ X.ex ∨ X.s₀.heap.objs.size ≤ b) ∧ (∀ x c, X.env.cells.lookup x = some c → c ≠ b) ∧ ∀ p ∈ X.pn ++ pins, p.1 ≠ b
theorem Inv.fpOk {X : Cx} {pins : List (Addr × Obj)} {σ : St} {H H' : Hp} {s : Shared} {b : Addr} (I : Inv X pins σ H s) (hb : s.heap.objs.size ≤ b) (hn : H' b = none) : FpOk X pins H' b := by
  refine ⟨hn, Nat.ne_of_gt (Nat.lt_of_lt_of_le I.lt hb), I.nofs hb, .inr (Nat.le_trans I.sz hb), fun x c e z => ?_, fun p hp z => ?_⟩
  · obtain ⟨v, q⟩ := I.cell x c e
    exact absurd (Nat.lt_of_lt_of_le q.lt (by rw [z]; exact hb)) (Nat.lt_irrefl _)
  · exact absurd (Nat.lt_of_lt_of_le (Heap.lt_size (I.pin p hp).1) (by rw [z]; exact hb)) (Nat.lt_irrefl _)
structure Turn (P : Program) (w : World) (K : PySem.W.Frag) (tg : Expr) (J : It) (fp : List Addr) (it : Addr) (tn : Nat → Heap → Prop) : Prop where
  mem : it ∈ fp
  obj : ∀ i h, tn i h → ∀ b ∈ fp, ∃ o, h.get? b = some o ∧ ∀ v, o.data ≠ .cell v
  keep : ∀ i h h', tn i h → (∀ b ∈ fp, ∀ o, h.get? b = some o → h'.get? b = some o) → tn i h'
  item : ∀ (X : Cx), X.prog = P → X.w = w → X.K = K → X.calm = true → ∀ (i : Nat) (pins : List (Addr × Obj)) (s : Shared) (σ : St) (H : Hp) (E : Value → Shared → Prop), Inv X pins σ H s → (∀ b ∈ fp, FpOk X pins H b) → tn i s.heap → J.go i H →
    wpAny (model P w) X.A (pyNext (.ref it)) (fun r s1 => ∃ u, r = some u ∧
      wpAny (model P w) X.A (letOwnedTupleGo tg (.ref it) u) (fun _ s2 => ∃ x H', Inv X pins σ H' s2 ∧ RelV x u ∧ J.yld i H x H' ∧ tn (i + 1) s2.heap ∧ ∀ b ∈ fp, H' b = none) E s1) E s
  done : ∀ (X : Cx), X.prog = P → X.w = w → X.K = K → X.calm = true → ∀ (i : Nat) (pins : List (Addr × Obj)) (s : Shared) (σ : St) (H : Hp) (E : Value → Shared → Prop), Inv X pins σ H s → (∀ b ∈ fp, FpOk X pins H b) → tn i s.heap → J.stop i H →
    wpAny (model P w) X.A (pyNext (.ref it)) (fun r s1 => r = none ∧ Inv X pins σ H s1) E s
  self : ∀ (A : Around) (i : Nat) (s : Shared) (Q : Value → Shared → Prop) (E : Value → Shared → Prop), tn i s.heap → Q (.ref it) s → wpAny (model P w) A (pyIter (.ref it)) Q E s
abbrev TI := St → Hp → (It → Hp → Prop) → Prop
/-- an iterator has come -/
def PIE (X : Cx) (pins : List (Addr × Obj)) (σ : St) (tg : Expr) (R : It → Hp → Prop) (itv : Value) (s2 : Shared) : Prop :=
  ∃ (it : Addr) (fp : List Addr) (tn : Nat → Heap → Prop) (J : It) (H' : Hp), itv = .ref it ∧ Inv X pins σ H' s2 ∧ Turn X.prog X.w X.K tg J fp it tn ∧ tn 0 s2.heap ∧ (∀ b ∈ fp, FpOk X pins H' b) ∧ R J H'
def PI (X : Cx) (tg iter : Expr) (wi : TI) : Prop :=
  ∀ (pins : List (Addr × Obj)) (s : Shared) (σ : St) (H : Hp) (R : It → Hp → Prop), Inv X pins σ H s → wi σ H R →
    wpAny (model X.prog X.w) X.A (eval iter X.env) (fun v s1 => wpAny (model X.prog X.w) X.A (pyIter v) (PIE X pins σ tg R) X.xe s1) X.xe s

/-- the step ahead of the store is nothing for an iterator that keeps no tuple -/
theorem go_of {M : Model} {A : Around} {E : Value → Shared → Prop} {s : Shared} {tg : Expr} {it : Addr} {u : Value} {o : Obj} {n : String} {vs : Array Value} {Q : Unit → Shared → Prop} (ho : s.heap.get? it = some o) (hc : o.cls = .type n) (hd : o.data = .fields vs)
    (hn : ["enumerate", "zip", "dict_itemiterator", "dict_reverseitemiterator", "odict_iterator", "itertools.zip_longest", "itertools.pairwise"].contains n = false) (hQ : Q () s) : wpAny M A (letOwnedTupleGo tg (.ref it) u) Q E s := by
  unfold letOwnedTupleGo
  cases tg <;> first
    | exact wpAny_pure hQ
    | (cases u <;> first
        | exact wpAny_pure hQ
        | (refine wpAny_bind (wpAny_load ho ?_)
           rw [hc, hd]
           show wpAny M A (if (["enumerate", "zip", "dict_itemiterator", "dict_reverseitemiterator", "odict_iterator", "itertools.zip_longest", "itertools.pairwise"].contains n && vs[0]? == some (rawInt _)) = true then _ else _) Q E s
           rw [if_neg (by intro h; rw [hn, Bool.false_and] at h; cases h)]
           exact wpAny_pure hQ))

/-- the list at a, as it stands at each turn (a loop may append to it) -/
def Itl (K : PySem.W.Frag) (a : Addr) : It :=
  ⟨fun i H => ∃ xs x, SqL K H a xs ∧ xs[i]? = some x, fun i H x H' => H' = H ∧ ∀ xs, SqL K H a xs → xs[i]? = some x, fun i H => ∃ xs, SqL K H a xs ∧ xs.length ≤ i⟩
def Itt (K : PySem.W.Frag) (a : Addr) : It :=
  ⟨fun i H => ∃ xs x, SqT K H a xs ∧ xs[i]? = some x, fun i H x H' => H' = H ∧ ∀ xs, SqT K H a xs → xs[i]? = some x, fun i H => ∃ xs, SqT K H a xs ∧ xs.length ≤ i⟩
/-- lo, lo + 1, .. (n of them) -/
def Itr (lo : Int) (n : Nat) : It := ⟨fun i _ => i < n, fun i H x H' => H' = H ∧ x = .int (lo + i), fun i _ => n ≤ i⟩
theorem turn_list {P : Program} {w : World} {K : PySem.W.Frag} {tg : Expr} (a it : Addr) : Turn P w K tg (Itl K a) [it] it (fun i h => h.IsListIter it a i) where
  mem := by simp
  obj := fun i h st b hb => by
    have e : b = it := by simpa using hb
    subst e
    obtain ⟨o, e, c, d⟩ := st
    exact ⟨o, e, fun v z => by rw [d] at z; cases z⟩
  keep := fun i h h' st k => st.at fun o e => k it (by simp) o e
  item := by
    intro X hP hw hK hc i pins s σ H E I hf st hg
    subst hP hw hK
    obtain ⟨xs, x, hq, hx⟩ := hg
    obtain ⟨its, rv, p, hz⟩ := I.list hq
    obtain ⟨u, hu, ru⟩ := rv.get hx
    obtain ⟨f0, f1, f2, f3, f4, f5⟩ := hf it (by simp)
    refine wpAny_pyNext_list_item st p.isList (x := u) (by simpa using hu) fun h' st' sb => ?_
    have I1 : Inv X pins σ H { s with heap := h' } := I.turned (t' := s.toks) (fun b o hb e => (sb.2 b hb).trans e) f0 f1 f3 f4 f5
    obtain ⟨o, e, c, d⟩ := id st'
    exact ⟨u, rfl, go_of (s := { s with heap := h' }) e c d (by decide) ⟨x, H, I1, ru, ⟨rfl, fun ys hy => by rw [I.list_inj hy hq]; exact hx⟩, st', fun b hb => (hf b hb).1⟩⟩
  done := by
    intro X hP hw hK hc i pins s σ H E I hf st hg
    subst hP hw hK
    obtain ⟨xs, hq, hx⟩ := hg
    obtain ⟨its, rv, p, hz⟩ := I.list hq
    obtain ⟨f0, f1, f2, f3, f4, f5⟩ := hf it (by simp)
    have hl := rv.length
    exact wpAny_pyNext_list_end (I.ok.hd hc) st p.isList (by simp; omega) fun h' eb => ⟨rfl, I.turned (t' := s.toks) (fun b o hb e => eb b o hb e) f0 f1 f3 f4 f5⟩
  self := fun _ _ _ _ _ st h => wpAny_pyIter_listiter st h
theorem turn_tuple {P : Program} {w : World} {K : PySem.W.Frag} {tg : Expr} (a it : Addr) : Turn P w K tg (Itt K a) [it] it (fun i h => h.IsTupleIter it a i) where
  mem := by simp
  obj := fun i h st b hb => by
    have e : b = it := by simpa using hb
    subst e
    obtain ⟨o, e, c, d⟩ := st
    exact ⟨o, e, fun v z => by rw [d] at z; cases z⟩
  keep := fun i h h' st k => st.at fun o e => k it (by simp) o e
  item := by
    intro X hP hw hK hc i pins s σ H E I hf st hg
    subst hP hw hK
    obtain ⟨xs, x, hq, hx⟩ := hg
    obtain ⟨its, rv, p, hz⟩ := I.tuple hq
    obtain ⟨u, hu, ru⟩ := rv.get hx
    obtain ⟨f0, f1, f2, f3, f4, f5⟩ := hf it (by simp)
    refine wpAny_pyNext_tuple_item st (show s.heap.IsTuple a its.toArray from p) (x := u) (by simpa using hu) fun h' st' sb => ?_
    have I1 : Inv X pins σ H { s with heap := h' } := I.turned (t' := s.toks) (fun b o hb e => (sb.2 b hb).trans e) f0 f1 f3 f4 f5
    obtain ⟨o, e, c, d⟩ := id st'
    exact ⟨u, rfl, go_of (s := { s with heap := h' }) e c d (by decide) ⟨x, H, I1, ru, ⟨rfl, fun ys hy => by rw [I.tuple_inj hy hq]; exact hx⟩, st', fun b hb => (hf b hb).1⟩⟩
  done := by
    intro X hP hw hK hc i pins s σ H E I hf st hg
    subst hP hw hK
    obtain ⟨xs, hq, hx⟩ := hg
    obtain ⟨its, rv, p, hz⟩ := I.tuple hq
    obtain ⟨f0, f1, f2, f3, f4, f5⟩ := hf it (by simp)
    have hl := rv.length
    exact wpAny_pyNext_tuple_end (I.ok.hd hc) st (show s.heap.IsTuple a its.toArray from p) (by simp; omega) fun h' eb => ⟨rfl, I.turned (t' := s.toks) (fun b o hb e => eb b o hb e) f0 f1 f3 f4 f5⟩
  self := fun _ _ _ _ _ st h => wpAny_pyIter_tupleiter st h
theorem turn_range {P : Program} {w : World} {K : PySem.W.Frag} {tg : Expr} (it : Addr) (lo : Int) (n : Nat) : Turn P w K tg (Itr lo n) [it] it (fun i h => IsRangeIter h it (lo + (i : Nat) * 1) ((n : Int) - (i : Nat)) 1) where
  mem := by simp
  obj := fun i h st b hb => by
    have e : b = it := by simpa using hb
    subst e
    exact ⟨_, st, fun v z => by
      have z' : Data.fields _ = Data.cell v := z
      cases z'⟩
  keep := fun i h h' st k => k it (by simp) _ st
  item := by
    intro X hP hw hK hc i pins s σ H E I hf st hg
    subst hP hw hK
    obtain ⟨f0, f1, f2, f3, f4, f5⟩ := hf it (by simp)
    have W := Walks.range (prog := X.prog) (w := X.w) (I.ok.hd hc) it lo 1 n
    refine W.item i s _ _ hg st fun v h' tk hv st' kk => ?_
    obtain ⟨t, rfl⟩ := hv
    have I1 : Inv X pins σ H { s with heap := h', toks := tk } := I.turned (fun b o hb e => kk b o (by simpa using hb) e) f0 f1 f3 f4 f5
    refine ⟨_, rfl, go_of (s := { s with heap := h', toks := tk }) (n := "range_iterator") st' rfl rfl (by decide) ⟨.int (lo + i), H, I1, ⟨t, ?_⟩, ⟨rfl, rfl⟩, st', fun b hb => (hf b hb).1⟩⟩
    rw [Int.mul_one]
  done := by
    intro X hP hw hK hc i pins s σ H E I hf st hg
    subst hP hw hK
    obtain ⟨f0, f1, f2, f3, f4, f5⟩ := hf it (by simp)
    exact wpAny_pyNext_range_end (I.ok.hd hc) st (by have : n ≤ i := hg; omega) fun h' eb => ⟨rfl, I.turned (t' := s.toks) (fun b o hb e => eb b o hb e) f0 f1 f3 f4 f5⟩
  self := fun _ _ _ _ _ st h => wpAny_pyIter_rangeiter st h
end L2

namespace L2
open PySem PySem.Spec PyProof.Rows
section
variable {X : Cx} {tg : Expr}
def iList (K : PySem.W.Frag) (tl : TE) : TI := fun σ H R => tl σ H fun x H1 => ∃ a, x = .ref a ∧ (∃ xs, SqL K H1 a xs) ∧ R (Itl K a) H1
def iTup (K : PySem.W.Frag) (tl : TE) : TI := fun σ H R => tl σ H fun x H1 => ∃ a, x = .ref a ∧ (∃ xs, SqT K H1 a xs) ∧ R (Itt K a) H1
theorem pi_list {l : Expr} {tl : TE} (hl : PE X l tl) : PI X tg l (iList X.K tl) := by
  intro pins s σ H R I h
  refine thn (hl pins s σ H _ I h) fun v s1 ⟨x, H1, I1, r1, q1⟩ => ?_
  obtain ⟨a, e, ⟨xs, hq⟩, q⟩ := q1
  subst e
  cases r1
  obtain ⟨its, rv, p, hz⟩ := I1.list hq
  refine wpAny_pyIter_list p.isList ?_
  refine ⟨s1.heap.objs.size, [s1.heap.objs.size], _, _, H1, rfl, I1.kept (t' := s1.toks) fun b o e => Heap.get?_push_of_some _ e, turn_list a _, ⟨_, Heap.get?_push_size _ rfl, rfl, rfl⟩, fun b hb => ?_, q⟩
  have e : b = s1.heap.objs.size := by simpa using hb
  subst e
  exact I1.fpOk (Nat.le_refl _) (I1.hok.fresh (Nat.le_refl _))
theorem pi_tup {l : Expr} {tl : TE} (hl : PE X l tl) : PI X tg l (iTup X.K tl) := by
  intro pins s σ H R I h
  refine thn (hl pins s σ H _ I h) fun v s1 ⟨x, H1, I1, r1, q1⟩ => ?_
  obtain ⟨a, e, ⟨xs, hq⟩, q⟩ := q1
  subst e
  cases r1
  obtain ⟨its, rv, p, hz⟩ := I1.tuple hq
  refine wpAny_pyIter_tuple (show s1.heap.IsTuple a its.toArray from p) ?_
  refine ⟨s1.heap.objs.size, [s1.heap.objs.size], _, _, H1, rfl, I1.kept (t' := s1.toks) fun b o e => Heap.get?_push_of_some _ e, turn_tuple a _, ⟨_, Heap.get?_push_size _ rfl, rfl, rfl⟩, fun b hb => ?_, q⟩
  have e : b = s1.heap.objs.size := by simpa using hb
  subst e
  exact I1.fpOk (Nat.le_refl _) (I1.hok.fresh (Nat.le_refl _))
/-- a range object just made, walked -/
theorem range_it {pins : List (Addr × Obj)} {σ : St} {H : Hp} {s : Shared} {R : It → Hp → Prop} {E : Value → Shared → Prop} {lo hi : Int} {t u v : Tok} {tk : Nat} (I : Inv X pins σ H s) (h1 : -(2 ^ 62) ≤ lo) (h2 : lo < 2 ^ 62) (h3 : -(2 ^ 62) ≤ hi) (h4 : hi < 2 ^ 62)
    (q : R (Itr lo (hi - lo).toNat) H) : wpAny (model X.prog X.w) X.A (pyIter (.ref s.heap.objs.size)) (PIE X pins σ tg R) E { s with heap := s.heap.push { cls := .type "range", data := .fields #[.int lo t, .int hi u, .int 1 v] }, toks := tk } := by
  refine wpAny_pyIter_range (IsRange.new ..) (small_one h1 h2 h3 h4) ?_
  have I1 : Inv X pins σ H { s with heap := s.heap.push { cls := .type "range", data := .fields #[.int lo t, .int hi u, .int 1 v] }, toks := tk } := I.kept fun b o e => Heap.get?_push_of_some _ e
  refine ⟨(s.heap.push { cls := .type "range", data := .fields #[.int lo t, .int hi u, .int 1 v] }).objs.size, [(s.heap.push { cls := .type "range", data := .fields #[.int lo t, .int hi u, .int 1 v] }).objs.size], _, _, H, rfl,
    I1.kept (t' := tk) fun b o e => Heap.get?_push_of_some _ e, turn_range _ lo (hi - lo).toNat, ?_, fun b hb => ?_, q⟩
  · have e1 : lo + ((0 : Nat) : Int) * 1 = lo := by simp
    have e2 : (((hi - lo).toNat : Nat) : Int) - ((0 : Nat) : Int) = Builtin.Range.rangeSize lo hi 1 := by rw [rangeSize_one]; split <;> omega
    show IsRangeIter _ _ (lo + ((0 : Nat) : Int) * 1) ((((hi - lo).toNat : Nat) : Int) - ((0 : Nat) : Int)) 1
    rw [e1, e2]
    exact Heap.get?_push_size _ rfl
  · have e : b = (s.heap.push { cls := .type "range", data := .fields #[.int lo t, .int hi u, .int 1 v] }).objs.size := by simpa using hb
    subst e
    exact I1.fpOk (Nat.le_refl _) (I1.hok.fresh (Nat.le_refl _))
def iRng1 (ta : TA) : TI := fun σ H R => ta σ H fun vs H1 => ∃ j : Int, vs = [.int j] ∧ -(2 ^ 62) ≤ j ∧ j < 2 ^ 62 ∧ R (Itr 0 j.toNat) H1
def iRng2 (ta : TA) : TI := fun σ H R => ta σ H fun vs H1 => ∃ i j : Int, vs = [.int i, .int j] ∧ (-(2 ^ 62) ≤ i ∧ i < 2 ^ 62 ∧ -(2 ^ 62) ≤ j ∧ j < 2 ^ 62) ∧ R (Itr i (j - i).toNat) H1
theorem pi_range1 {a : Expr} {ta : TA} {p pos : Pos} (hg : Gl X "range") (hm : X.mg "range" = none) (ha : PA X [a] ta) (hs : starEach [a] X.env = [(false, eval a X.env)] := by rfl) : PI X tg (.Call (.Name "range" p) [a] [] pos) (iRng1 ta) := by
  intro pins s σ H R I h
  refine Call_ (ld_blt I hg hm boot_range (PyProof.Rows.callWith_type1 (thn (ha pos pins s σ H _ I h) fun us s1 ⟨vs, H1, I1, r1, q1⟩ => ?_) hs rfl))
  obtain ⟨j, e, q1, q2, q⟩ := q1
  subst e
  cases r1 with
  | cons r rr =>
    cases rr
    obtain ⟨t, rfl⟩ := r
    exact call_range_1 (range_it I1 (by omega) (by omega) q1 q2 (by simpa using q))
theorem pi_range2 {a b : Expr} {ta : TA} {p pos : Pos} (hg : Gl X "range") (hm : X.mg "range" = none) (ha : PA X [a, b] ta) (hs : starEach [a, b] X.env = [(false, eval a X.env), (false, eval b X.env)] := by rfl) (hs2 : starEach [b] X.env = [(false, eval b X.env)] := by rfl) :
    PI X tg (.Call (.Name "range" p) [a, b] [] pos) (iRng2 ta) := by
  intro pins s σ H R I h
  refine Call_ (ld_blt I hg hm boot_range (PyProof.Rows.callWith_type1 (thn (ha pos pins s σ H _ I h) fun us s1 ⟨vs, H1, I1, r1, q1⟩ => ?_) (by rw [hs, hs2]) (by rw [hs2]; rfl)))
  obtain ⟨i, j, e, ⟨q1, q2, q3, q4⟩, q⟩ := q1
  subst e
  cases r1 with
  | cons r rr =>
    cases rr with
    | cons r' rr =>
      cases rr
      obtain ⟨t, rfl⟩ := r
      obtain ⟨t', rfl⟩ := r'
      exact call_range_2 (range_it I1 q1 q2 q3 q4 q)

/-! ### for -/
/-- W: the invariant by the turn and a measure; N: what the body is to reach -/
def tFor (wi : TI) (g : TG) (tb : TS) : TS := fun D σ H => wi σ H fun J H1 => ∃ W : Nat → Nat → St → Hp → Prop, (∃ m, W 0 m σ H1) ∧ ∀ i m σ H, W i m σ H →
  (J.stop i H ∧ D.nx σ H) ∨ (J.go i H ∧ ∃ N : St → Hp → Prop, (∀ σ' H', N σ' H' → ∃ m', m' < m ∧ W (i + 1) m' σ' H') ∧ ∀ x H', J.yld i H x H' → g x σ H' fun σ2 H2 => tb { D with nx := N, ct := N, bk := D.nx } σ2 H2)
/-- the records at fp as they stand -/
def pinsAt (fp : List Addr) (h : Heap) : List (Addr × Obj) := fp.filterMap fun b => (h.get? b).map fun o => (b, o)
theorem mem_pinsAt {fp : List Addr} {h : Heap} {b : Addr} {o : Obj} (hb : b ∈ fp) (e : h.get? b = some o) : (b, o) ∈ pinsAt fp h := List.mem_filterMap.mpr ⟨b, hb, by rw [e]; rfl⟩
theorem of_pinsAt {fp : List Addr} {h : Heap} {p : Addr × Obj} (hp : p ∈ pinsAt fp h) : p.1 ∈ fp ∧ h.get? p.1 = some p.2 := by
  obtain ⟨b, hb, e⟩ := List.mem_filterMap.mp hp
  cases q : h.get? b with
  | none => rw [q] at e; cases e
  | some o =>
    rw [q] at e
    have e' : (b, o) = p := Option.some.inj e
    subst e'
    exact ⟨hb, q⟩
theorem Inv.pinned {pins : List (Addr × Obj)} {σ : St} {H : Hp} {s : Shared} {fp : List Addr} (I : Inv X pins σ H s) (hf : ∀ b ∈ fp, FpOk X pins H b) (ho : ∀ b ∈ fp, ∃ o, s.heap.get? b = some o ∧ ∀ v, o.data ≠ .cell v) : Inv X (pins ++ pinsAt fp s.heap) σ H s :=
  I.pins_of fun p hp => (List.mem_append.mp hp).elim (fun z => I.pin p (List.mem_append_right _ z)) fun z => by
    obtain ⟨hb, e⟩ := of_pinsAt z
    obtain ⟨f0, f1, f2, _⟩ := hf p.1 hb
    obtain ⟨o, e', d⟩ := ho p.1 hb
    rw [e] at e'; cases e'
    exact ⟨e, f0, f1, f2, d⟩
theorem Inv.unpinned {pins pl : List (Addr × Obj)} {σ : St} {H : Hp} {s : Shared} (I : Inv X (pins ++ pl) σ H s) : Inv X pins σ H s := I.pins_of fun p hp => I.pin p (List.mem_append_right _ (List.mem_append_left _ hp))
theorem ps_for {iter : Expr} {body : List Stmt} {wi : TI} {g : TG} {tb : TS} {pos : Pos} (hp : PassesOwn (model X.prog X.w) X.A X.env X.xe) (hc : X.calm = true) (hi : PI X tg iter wi) (hg : PG X tg g) (hb : PSs X body tb)
    (hs : ∀ x, foldedSetIterable iter X.env x = pure x := by intro _; rfl) : PS X (.For tg iter body [] pos) (tFor wi g tb) := by
  intro pins s σ H D I h
  refine wpAny_For (thn (hi pins s σ H _ I h) fun v s1 h1 => thn h1 fun itv s2 h2 => ?_) hs
  obtain ⟨it, fp, tn, J, H2, e, I2, T, st2, f2, W, ⟨m0, w0⟩, turn⟩ := h2
  subst e
  -- what stays true of the iterator's objects through the loop
  have stat : ∀ {H' : Hp}, (∀ b ∈ fp, H' b = none) → ∀ b ∈ fp, FpOk X pins H' b := fun hn b hb => ⟨hn b hb, (f2 b hb).2⟩
  refine codeAny_forLoop_any (fun n s' => ∃ i σ' H', Inv X pins σ' H' s' ∧ tn i s'.heap ∧ (∀ b ∈ fp, H' b = none) ∧ W i n σ' H') ?_ m0 ⟨0, σ, H2, I2, st2, fun b hb => (f2 b hb).1, w0⟩
  rintro n s3 ⟨i, σ3, H3, I3, st3, fr3, w3⟩
  rcases turn i n σ3 H3 w3 with ⟨stop, qn⟩ | ⟨go, N, hN, step⟩
  · refine wpAny_passesOwn hp (thn (T.done X rfl rfl rfl hc i pins s3 σ3 H3 X.xe I3 (stat fr3) st3 stop) fun r s4 ⟨hr, I4⟩ => ?_)
    subst hr
    exact wpAny_execs_nil ⟨σ3, H3, I4, qn⟩
  · refine wpAny_passesOwn hp (thn (T.item X rfl rfl rfl hc i pins s3 σ3 H3 X.xe I3 (stat fr3) st3 go) fun r s4 ⟨u, hr, h4⟩ => ?_)
    subst hr
    refine wpAny_passesOwn hp (thn h4 fun _ s5 ⟨x, H5, I5, r5, y5, st5, fr5⟩ => ?_)
    have I5' := I5.pinned (stat fr5) (T.obj _ _ st5)
    refine wpAny_passesOwn hp (thn (hg _ s5 σ3 H5 x u _ I5' r5 (step x H5 y5)) fun _ s6 ⟨σ6, H6, I6, q6⟩ => ?_)
    refine wpAny_passesOwn hp (thn (hb _ s6 σ6 H6 _ I6 q6) fun f s7 q7 => ?_)
    have again : ∀ {σ7 : St} {H7 : Hp}, Inv X (pins ++ pinsAt fp s5.heap) σ7 H7 s7 → N σ7 H7 → ∃ m, m < n ∧ ∃ i σ' H', Inv X pins σ' H' s7 ∧ tn i s7.heap ∧ (∀ b ∈ fp, H' b = none) ∧ W i m σ' H' := fun {σ7 H7} I7 n7 => by
      obtain ⟨m', hm, w7⟩ := hN σ7 H7 n7
      refine ⟨m', hm, i + 1, σ7, H7, I7.unpinned, T.keep _ _ _ st5 fun b hb o e => (I7.pin (b, o) (List.mem_append_right _ (List.mem_append_right _ (mem_pinsAt hb e)))).1, fun b hb => ?_, w7⟩
      obtain ⟨o, e, d⟩ := T.obj _ _ st5 b hb
      exact (I7.pin (b, o) (List.mem_append_right _ (List.mem_append_right _ (mem_pinsAt hb e)))).2.1
    cases f with
    | next => obtain ⟨σ7, H7, I7, n7⟩ := q7; exact again I7 n7
    | cont => obtain ⟨σ7, H7, I7, n7⟩ := q7; exact again I7 n7
    | brk => obtain ⟨σ7, H7, I7, q7⟩ := q7; exact ⟨σ7, H7, I7.unpinned, q7⟩
    | ret v => obtain ⟨x7, σ7, H7, I7, r7, q7⟩ := q7; exact ⟨x7, σ7, H7, I7.unpinned, r7, q7⟩
end

/-! ### the forms one uses -/
/-- over a list that the body leaves as it is -/
theorem for_list {K : PySem.W.Frag} {a : Addr} {xs : List V} {g : TG} {tb : TS} {D : Ends} {σ : St} {H : Hp} (Pv : Nat → St → Hp → Prop) (h0 : Pv 0 σ H) (hl : ∀ i σ H, i ≤ xs.length → Pv i σ H → SqL K H a xs)
    (hs : ∀ i x σ H, xs[i]? = some x → Pv i σ H → g x σ H fun σ2 H2 => tb { D with nx := Pv (i + 1), ct := Pv (i + 1), bk := D.nx } σ2 H2) (hd : ∀ σ H, Pv xs.length σ H → D.nx σ H) :
    ∃ W : Nat → Nat → St → Hp → Prop, (∃ m, W 0 m σ H) ∧ ∀ i m σ H, W i m σ H →
      ((Itl K a).stop i H ∧ D.nx σ H) ∨ ((Itl K a).go i H ∧ ∃ N : St → Hp → Prop, (∀ σ' H', N σ' H' → ∃ m', m' < m ∧ W (i + 1) m' σ' H') ∧ ∀ x H', (Itl K a).yld i H x H' → g x σ H' fun σ2 H2 => tb { D with nx := N, ct := N, bk := D.nx } σ2 H2) := by
  refine ⟨fun i m σ H => m = xs.length - i ∧ i ≤ xs.length ∧ Pv i σ H, ⟨xs.length, by simp, Nat.zero_le _, h0⟩, ?_⟩
  rintro i m σ H ⟨rfl, hi, p⟩
  have q := hl i σ H hi p
  by_cases hlt : i < xs.length
  · refine .inr ⟨⟨xs, xs[i], q, by simp [hlt]⟩, Pv (i + 1), fun σ' H' p' => ⟨xs.length - (i + 1), by omega, rfl, hlt, p'⟩, fun x H' y => ?_⟩
    obtain ⟨e, y⟩ := y
    subst e
    exact hs i x σ _ (y xs q) p
  · have e : i = xs.length := by omega
    subst e
    exact .inl ⟨⟨xs, q, Nat.le_refl _⟩, hd σ H p⟩
theorem for_tup {K : PySem.W.Frag} {a : Addr} {xs : List V} {g : TG} {tb : TS} {D : Ends} {σ : St} {H : Hp} (Pv : Nat → St → Hp → Prop) (h0 : Pv 0 σ H) (hl : ∀ i σ H, i ≤ xs.length → Pv i σ H → SqT K H a xs)
    (hs : ∀ i x σ H, xs[i]? = some x → Pv i σ H → g x σ H fun σ2 H2 => tb { D with nx := Pv (i + 1), ct := Pv (i + 1), bk := D.nx } σ2 H2) (hd : ∀ σ H, Pv xs.length σ H → D.nx σ H) :
    ∃ W : Nat → Nat → St → Hp → Prop, (∃ m, W 0 m σ H) ∧ ∀ i m σ H, W i m σ H →
      ((Itt K a).stop i H ∧ D.nx σ H) ∨ ((Itt K a).go i H ∧ ∃ N : St → Hp → Prop, (∀ σ' H', N σ' H' → ∃ m', m' < m ∧ W (i + 1) m' σ' H') ∧ ∀ x H', (Itt K a).yld i H x H' → g x σ H' fun σ2 H2 => tb { D with nx := N, ct := N, bk := D.nx } σ2 H2) := by
  refine ⟨fun i m σ H => m = xs.length - i ∧ i ≤ xs.length ∧ Pv i σ H, ⟨xs.length, by simp, Nat.zero_le _, h0⟩, ?_⟩
  rintro i m σ H ⟨rfl, hi, p⟩
  have q := hl i σ H hi p
  by_cases hlt : i < xs.length
  · refine .inr ⟨⟨xs, xs[i], q, by simp [hlt]⟩, Pv (i + 1), fun σ' H' p' => ⟨xs.length - (i + 1), by omega, rfl, hlt, p'⟩, fun x H' y => ?_⟩
    obtain ⟨e, y⟩ := y
    subst e
    exact hs i x σ _ (y xs q) p
  · have e : i = xs.length := by omega
    subst e
    exact .inl ⟨⟨xs, q, Nat.le_refl _⟩, hd σ H p⟩
theorem for_range {lo : Int} {n : Nat} {g : TG} {tb : TS} {D : Ends} {σ : St} {H : Hp} (Pv : Nat → St → Hp → Prop) (h0 : Pv 0 σ H)
    (hs : ∀ i σ H, i < n → Pv i σ H → g (.int (lo + i)) σ H fun σ2 H2 => tb { D with nx := Pv (i + 1), ct := Pv (i + 1), bk := D.nx } σ2 H2) (hd : ∀ σ H, Pv n σ H → D.nx σ H) :
    ∃ W : Nat → Nat → St → Hp → Prop, (∃ m, W 0 m σ H) ∧ ∀ i m σ H, W i m σ H →
      ((Itr lo n).stop i H ∧ D.nx σ H) ∨ ((Itr lo n).go i H ∧ ∃ N : St → Hp → Prop, (∀ σ' H', N σ' H' → ∃ m', m' < m ∧ W (i + 1) m' σ' H') ∧ ∀ x H', (Itr lo n).yld i H x H' → g x σ H' fun σ2 H2 => tb { D with nx := N, ct := N, bk := D.nx } σ2 H2) := by
  refine ⟨fun i m σ H => m = n - i ∧ i ≤ n ∧ Pv i σ H, ⟨n, by simp, Nat.zero_le _, h0⟩, ?_⟩
  rintro i m σ H ⟨rfl, hi, p⟩
  by_cases hlt : i < n
  · refine .inr ⟨hlt, Pv (i + 1), fun σ' H' p' => ⟨n - (i + 1), by omega, rfl, hlt, p'⟩, fun x H' y => ?_⟩
    obtain ⟨e, y⟩ := y
    subst e y
    exact hs i σ _ hlt p
  · have e : i = n := by omega
    subst e
    exact .inl ⟨Nat.le_refl _, hd σ H p⟩
/-- while, by a word and a measure of the state -/
theorem while_by {c : TT} {tb : TS} {D : Ends} {σ : St} {H : Hp} (Pv : St → Hp → Prop) (μ : St → Hp → Nat) (h0 : Pv σ H)
    (hs : ∀ σ H, Pv σ H → c σ H fun b H1 => if b = true then tb { D with nx := fun σ' H' => Pv σ' H' ∧ μ σ' H' < μ σ H, ct := fun σ' H' => Pv σ' H' ∧ μ σ' H' < μ σ H, bk := D.nx } σ H1 else D.nx σ H1)
    (mono : ∀ σ H Q Q', (∀ b H1, Q b H1 → Q' b H1) → c σ H Q → c σ H Q') : tWhile c tb D σ H := by
  refine ⟨fun m σ H => m = μ σ H ∧ Pv σ H, ⟨_, rfl, h0⟩, ?_⟩
  rintro m σ H ⟨rfl, p⟩
  refine mono σ H _ _ (fun b H1 q => ?_) (hs σ H p)
  cases b with
  | true => exact ⟨_, fun σ' H' ⟨p', l⟩ => ⟨_, l, rfl, p'⟩, q⟩
  | false => exact q
end L2

namespace L2
open PySem PySem.Spec PyProof.Rows

abbrev R2 := V → V → Hp → VK → Prop
/-- a two-place operation on values: f is binaryOp op, inplaceOp op or compareOp op -/
def OpR (X : Cx) (f : Value → Value → Sem Value) (r : R2) : Prop :=
  ∀ (pins : List (Addr × Obj)) (s : Shared) (σ : St) (H : Hp) (x y : V) (v u : Value) (Q : VK), Inv X pins σ H s → RelV x v → RelV y u → r x y H Q →
    wpAny (model X.prog X.w) X.A (f v u) (EP X pins σ Q) X.xe s
/-- a one-place operation -/
def UnR (X : Cx) (f : Value → Sem Value) (r : V → Hp → VK → Prop) : Prop :=
  ∀ (pins : List (Addr × Obj)) (s : Shared) (σ : St) (H : Hp) (x : V) (v : Value) (Q : VK), Inv X pins σ H s → RelV x v → r x H Q →
    wpAny (model X.prog X.w) X.A (f v) (EP X pins σ Q) X.xe s
/-- a call of a value that is known (a builtin, a type) with values -/
def CallR (X : Cx) (f : Value) (r : List V → Hp → VK → Prop) : Prop :=
  ∀ (pins : List (Addr × Obj)) (s : Shared) (σ : St) (H : Hp) (xs : List V) (us : List Value) (Q : VK), Inv X pins σ H s → Vals xs us → r xs H Q →
    wpAny (model X.prog X.w) X.A (call f us) (EP X pins σ Q) X.xe s
/-- a value's truth -/
def TruR (X : Cx) (r : V → Hp → (Bool → Hp → Prop) → Prop) : Prop :=
  ∀ (pins : List (Addr × Obj)) (s : Shared) (σ : St) (H : Hp) (x : V) (v : Value) (Q : Bool → Hp → Prop), Inv X pins σ H s → RelV x v → r x H Q →
    wpAny (model X.prog X.w) X.A (truthy v) (TP X pins σ Q) X.xe s

def tOp (r : R2) (ta tb : TE) : TE := fun σ H Q => ta σ H fun x H1 => tb σ H1 fun y H2 => r x y H2 Q
def tUn (r : V → Hp → VK → Prop) (ta : TE) : TE := fun σ H Q => ta σ H fun x H1 => r x H1 Q
/-- ints in, under C, and a value out -/
def rI (C : Int → Int → Prop) (g : Int → Int → V) : R2 := fun x y H Q => ∃ i j, x = .int i ∧ y = .int j ∧ C i j ∧ Q (g i j) H
def rI0 (g : Int → Int → V) : R2 := fun x y H Q => ∃ i j, x = .int i ∧ y = .int j ∧ Q (g i j) H
def rU (g : Int → V) : V → Hp → VK → Prop := fun x H Q => ∃ i, x = .int i ∧ Q (g i) H

section
variable {X : Cx} {a b c : Expr} {ta tb tc : TE} {pos : Pos}

theorem binT (ha : PE X a ta) (hb : PE X b tb) {pins : List (Addr × Obj)} {s : Shared} {σ : St} {H : Hp} {R : V → V → Hp → Prop} (I : Inv X pins σ H s)
    (h : ta σ H fun x H1 => tb σ H1 fun y H2 => R x y H2) {Q : Value → Shared → Prop} {f : Value → Value → Sem Value}
    (hf : ∀ v u s2 x y H2, Inv X pins σ H2 s2 → RelV x v → RelV y u → R x y H2 → wpAny (model X.prog X.w) X.A (f v u) Q X.xe s2) :
    wpAny (model X.prog X.w) X.A (eval a X.env) (fun v s₁ => wpAny (model X.prog X.w) X.A (eval b X.env) (fun u s₂ => wpAny (model X.prog X.w) X.A (f v u) Q X.xe s₂) X.xe s₁) X.xe s := by
  refine thn (ha pins s σ H _ I h) fun v s1 ⟨x, H1, I1, r1, q1⟩ => ?_
  refine thn (hb pins s1 σ H1 _ I1 q1) fun u s2 ⟨y, H2, I2, r2, q2⟩ => ?_
  exact hf v u s2 x y H2 I2 r1 r2 q2

theorem pe_op {op : Operator} {r : R2} (ho : OpR X (binaryOp op) r) (ha : PE X a ta) (hb : PE X b tb) : PE X (.BinOp a op b pos) (tOp r ta tb) := by
  intro pins s σ H Q I h
  exact wpAny_BinOp (binT ha hb I h fun v u s2 x y H2 I2 rx ry q => ho pins s2 σ H2 x y v u Q I2 rx ry q)
theorem pe_un {op : UnaryOp} {r : V → Hp → VK → Prop} (ho : UnR X (unaryOp op) r) (ha : PE X a ta) : PE X (.UnaryOp op a pos) (tUn r ta) := by
  intro pins s σ H Q I h
  exact UnaryOp_ (thn (ha pins s σ H _ I h) fun v s1 ⟨x, H1, I1, r1, q1⟩ => ho pins s1 σ H1 x v Q I1 r1 q1)
/-- a op= e at a name: the name's slot i -/
theorem augR {op : Operator} {r : R2} (ho : OpR X (inplaceOp op) r) {pins : List (Addr × Obj)} {s : Shared} {σ : St} {H : Hp} {x y : V} {v u : Value} {Q : VK} (I : Inv X pins σ H s)
    (rx : RelV x v) (ry : RelV y u) (q : r x y H Q) : wpAny (model X.prog X.w) X.A (inplaceOp op v u) (EP X pins σ Q) X.xe s := ho pins s σ H x y v u Q I rx ry q

/-! ### ints -/
theorem opI {f : Value → Value → Sem Value} {C : Int → Int → Prop} {g : Int → Int → Int}
    (rule : ∀ (i j : Int) (t u : Tok) (s : Shared) (Q : Value → Shared → Prop) (E : Value → Shared → Prop), C i j → Q (.int (g i j) s.toks) { s with toks := s.toks + 1 } → wpAny (model X.prog X.w) X.A (f (.int i t) (.int j u)) Q E s) :
    OpR X f (rI C fun i j => .int (g i j)) := by
  intro pins s σ H x y v u Q I rx ry h
  obtain ⟨i, j, rfl, rfl, hc, q⟩ := h
  obtain ⟨t, rfl⟩ := rx
  obtain ⟨t', rfl⟩ := ry
  exact rule i j t t' s _ _ hc ⟨.int (g i j), H, I.tok _, ⟨_, rfl⟩, q⟩
theorem opI0 {f : Value → Value → Sem Value} {g : Int → Int → Int}
    (rule : ∀ (i j : Int) (t u : Tok) (s : Shared) (Q : Value → Shared → Prop) (E : Value → Shared → Prop), Q (.int (g i j) s.toks) { s with toks := s.toks + 1 } → wpAny (model X.prog X.w) X.A (f (.int i t) (.int j u)) Q E s) :
    OpR X f (rI0 fun i j => .int (g i j)) := by
  intro pins s σ H x y v u Q I rx ry h
  obtain ⟨i, j, rfl, rfl, q⟩ := h
  obtain ⟨t, rfl⟩ := rx
  obtain ⟨t', rfl⟩ := ry
  exact rule i j t t' s _ _ ⟨.int (g i j), H, I.tok _, ⟨_, rfl⟩, q⟩
theorem opB0 {f : Value → Value → Sem Value} {g : Int → Int → Bool}
    (rule : ∀ (i j : Int) (t u : Tok) (s : Shared) (Q : Value → Shared → Prop) (E : Value → Shared → Prop), Q (.bool (g i j)) s → wpAny (model X.prog X.w) X.A (f (.int i t) (.int j u)) Q E s) :
    OpR X f (rI0 fun i j => .bl (g i j)) := by
  intro pins s σ H x y v u Q I rx ry h
  obtain ⟨i, j, rfl, rfl, q⟩ := h
  obtain ⟨t, rfl⟩ := rx
  obtain ⟨t', rfl⟩ := ry
  exact rule i j t t' s _ _ ⟨.bl (g i j), H, I, rfl, q⟩

def CDiv (i j : Int) : Prop := 0 < j ∧ j < 1073741824
def CDivN (i j : Int) : Prop := j ≠ 0 ∧ j.natAbs < 1073741824
def CPow (i j : Int) : Prop := 0 ≤ j ∧ j ≤ 1000000 ∧ i.natAbs < 2 ^ 64
def CMul (i j : Int) : Prop := (-(2 ^ 64) < i ∧ i < 2 ^ 64) ∨ (-(2 ^ 64) < j ∧ j < 2 ^ 64)
theorem CMul.ok {i j : Int} (h : CMul i j) : IntMulOk i j := by
  rcases h with ⟨h1, h2⟩ | ⟨h1, h2⟩
  · exact .of_left (intBits_le_64 h1 h2)
  · exact .of_right (intBits_le_64 h1 h2)
theorem two_pow_nn (k : Nat) : (0 : Int) ≤ 2 ^ k := by
  rw [two_pow_cast]
  exact Int.natCast_nonneg _

theorem op_add : OpR X (binaryOp .Add) (rI0 fun i j => .int (i + j)) := opI0 fun _ _ _ _ _ _ _ q => add_int q
theorem op_sub : OpR X (binaryOp .Sub) (rI0 fun i j => .int (i - j)) := opI0 fun _ _ _ _ _ _ _ q => sub_int q
theorem op_mul : OpR X (binaryOp .Mult) (rI CMul fun i j => .int (i * j)) := opI fun _ _ _ _ _ _ _ hc q => mul_int q hc.ok
/-- // by a positive divisor -/
theorem op_fdiv : OpR X (binaryOp .FloorDiv) (rI CDiv fun i j => .int (i / j)) := opI fun i j _ _ _ _ _ hc q => by
  have h1 : (0 : Int) < j := hc.1
  have h2 : j < 1073741824 := hc.2
  exact floordiv_int (by omega) (by rw [Int.fdiv_eq_ediv_of_nonneg i (by omega)]; exact q) (.inl (PyProof.noPylong_small (by omega)))
theorem op_fdivN : OpR X (binaryOp .FloorDiv) (rI CDivN fun i j => .int (i.fdiv j)) := opI fun _ _ _ _ _ _ _ hc q => floordiv_int hc.1 q (.inl (PyProof.noPylong_small hc.2))
/-- % by a positive divisor of any size -/
theorem op_mod : OpR X (binaryOp .Mod) (rI (fun _ j => 0 < j) fun i j => .int (i % j)) := opI fun i j _ _ _ _ _ hc q => by
  have h1 : (0 : Int) < j := hc
  exact mod_int' (by omega) (by rw [Int.fmod_eq_emod_of_nonneg i (by omega)]; exact q)
theorem op_modN : OpR X (binaryOp .Mod) (rI (fun _ j => j ≠ 0) fun i j => .int (i.fmod j)) := opI fun _ _ _ _ _ _ _ hc q => mod_int' hc q
theorem op_pow : OpR X (binaryOp .Pow) (rI CPow fun i j => .int (i ^ j.toNat)) := opI fun _ _ _ _ _ _ _ hc q => pow_int_small hc.1 hc.2.1 hc.2.2 q
theorem op_shl : OpR X (binaryOp .LShift) (rI CPow fun i j => .int (i * 2 ^ j.toNat)) := opI fun _ _ _ _ _ _ _ hc q => lshift_int_small hc.1 hc.2.1 hc.2.2 q
theorem op_shr : OpR X (binaryOp .RShift) (rI (fun _ j => 0 ≤ j) fun i j => .int (i / 2 ^ j.toNat)) := opI fun i j _ _ _ _ _ hc q =>
  rshift_int hc (by rw [Int.fdiv_eq_ediv_of_nonneg i (two_pow_nn _)]; exact q)
theorem op_and : OpR X (binaryOp .BitAnd) (rI0 fun i j => .int (Builtin.bitAnd i j)) := opI0 fun _ _ _ _ _ _ _ q => and_int q
theorem op_or : OpR X (binaryOp .BitOr) (rI0 fun i j => .int (Builtin.bitOr i j)) := opI0 fun _ _ _ _ _ _ _ q => or_int q
theorem op_xor : OpR X (binaryOp .BitXor) (rI0 fun i j => .int (Builtin.bitXor i j)) := opI0 fun _ _ _ _ _ _ _ q => xor_int q

theorem iop_add : OpR X (inplaceOp .Add) (rI0 fun i j => .int (i + j)) := opI0 fun _ _ _ _ _ _ _ q => iadd_int q
theorem iop_sub : OpR X (inplaceOp .Sub) (rI0 fun i j => .int (i - j)) := opI0 fun _ _ _ _ _ _ _ q => isub_int q
theorem iop_mul : OpR X (inplaceOp .Mult) (rI CMul fun i j => .int (i * j)) := opI fun _ _ _ _ _ _ _ hc q => imul_int q hc.ok
theorem iop_fdiv : OpR X (inplaceOp .FloorDiv) (rI CDiv fun i j => .int (i / j)) := opI fun i j _ _ _ _ _ hc q => by
  have h1 : (0 : Int) < j := hc.1
  have h2 : j < 1073741824 := hc.2
  exact ifloordiv_int (by omega) (by rw [Int.fdiv_eq_ediv_of_nonneg i (by omega)]; exact q) (.inl (PyProof.noPylong_small (by omega)))
theorem iop_mod : OpR X (inplaceOp .Mod) (rI (fun _ j => 0 < j) fun i j => .int (i % j)) := opI fun i j _ _ _ _ _ hc q => by
  have h1 : (0 : Int) < j := hc
  exact imod_int (by omega) (by rw [Int.fmod_eq_emod_of_nonneg i (by omega)]; exact q)
theorem iop_shl : OpR X (inplaceOp .LShift) (rI CPow fun i j => .int (i * 2 ^ j.toNat)) := opI fun _ _ _ _ _ _ _ hc q => ilshift_int_small hc.1 hc.2.1 hc.2.2 q
theorem iop_shr : OpR X (inplaceOp .RShift) (rI (fun _ j => 0 ≤ j) fun i j => .int (i / 2 ^ j.toNat)) := opI fun i j _ _ _ _ _ hc q =>
  irshift_int hc (by rw [Int.fdiv_eq_ediv_of_nonneg i (two_pow_nn _)]; exact q)
theorem iop_and : OpR X (inplaceOp .BitAnd) (rI0 fun i j => .int (Builtin.bitAnd i j)) := opI0 fun _ _ _ _ _ _ _ q => iand_int q
theorem iop_or : OpR X (inplaceOp .BitOr) (rI0 fun i j => .int (Builtin.bitOr i j)) := opI0 fun _ _ _ _ _ _ _ q => ior_int q
theorem iop_xor : OpR X (inplaceOp .BitXor) (rI0 fun i j => .int (Builtin.bitXor i j)) := opI0 fun _ _ _ _ _ _ _ q => ixor_int q

theorem unI {f : Value → Sem Value} {g : Int → Int}
    (rule : ∀ (i : Int) (t : Tok) (s : Shared) (Q : Value → Shared → Prop) (E : Value → Shared → Prop), Q (.int (g i) s.toks) { s with toks := s.toks + 1 } → wpAny (model X.prog X.w) X.A (f (.int i t)) Q E s) :
    UnR X f (rU fun i => .int (g i)) := by
  intro pins s σ H x v Q I rx h
  obtain ⟨i, rfl, q⟩ := h
  obtain ⟨t, rfl⟩ := rx
  exact rule i t s _ _ ⟨.int (g i), H, I.tok _, ⟨_, rfl⟩, q⟩
theorem un_neg : UnR X (unaryOp .USub) (rU fun i => .int (-i)) := unI fun _ _ _ _ _ q => neg_int q
theorem un_inv : UnR X (unaryOp .Invert) (rU fun i => .int (Builtin.bitNot i)) := unI fun _ _ _ _ _ q => invert_int q

/-! ### bools among ints: n += (a < b) -/
theorem op_add_ib : OpR X (binaryOp .Add) (fun x y H Q => ∃ i k, x = .int i ∧ y = .bl k ∧ Q (.int (i + b2i k)) H) := by
  intro pins s σ H x y v u Q I rx ry h
  obtain ⟨i, k, rfl, rfl, q⟩ := h
  obtain ⟨t, rfl⟩ := rx
  cases ry
  exact add_int_bool ⟨.int (i + b2i k), H, I.tok _, ⟨_, rfl⟩, q⟩
end

/-! ### comparisons -/
/-- the scalars that == tells apart as data does -/
def scal : V → V → Bool
  | .non, .non => true | .non, .int _ => true | .int _, .non => true | .non, .bl _ => true | .bl _, .non => true | .non, .str _ => true | .str _, .non => true
  | .int _, .int _ => true | .bl _, .bl _ => true | .str _, .str _ => true | .byt _, .byt _ => true
  | .int _, .str _ => true | .str _, .int _ => true | .bl _, .str _ => true | .str _, .bl _ => true
  | _, _ => false
def rEq : R2 := fun x y H Q => scal x y = true ∧ Q (.bl (decide (x = y))) H
def rNe : R2 := fun x y H Q => scal x y = true ∧ Q (.bl (!decide (x = y))) H

theorem dec_int {i j : Int} : decide (V.int i = V.int j) = (i == j) := by
  rw [Bool.eq_iff_iff]
  simp
theorem dec_bl {i j : Bool} : decide (V.bl i = V.bl j) = (i == j) := by
  rw [Bool.eq_iff_iff]
  simp
theorem dec_str {i j : Str} : decide (V.str i = V.str j) = (i == j) := by
  rw [Bool.eq_iff_iff]
  simp
theorem dec_byt {i j : Array UInt8} : decide (V.byt i = V.byt j) = (i.toList == j.toList) := by
  rw [Bool.eq_iff_iff]
  cases i
  cases j
  simp

section
variable {X : Cx} {a b c : Expr} {ta tb tc : TE} {pos : Pos}
theorem fin_bl {pins : List (Addr × Obj)} {σ : St} {H : Hp} {s : Shared} {Q : VK} {k k' : Bool} (I : Inv X pins σ H s) (q : Q (.bl k) H) (e : k = k') : EP X pins σ Q (.bool k') s := by
  subst e
  exact ⟨.bl k, H, I, rfl, q⟩
theorem op_eq : OpR X (compareOp .Eq) rEq := by
  intro pins s σ H x y v u Q I rx ry h
  obtain ⟨hs, q⟩ := h
  cases x with
  | non =>
    cases rx
    cases y with
    | non => cases ry; exact PySem.EqNone.eq_none_none (fin_bl I q (by simp))
    | bl j => cases ry; exact PySem.EqNone.eq_none_bool (fin_bl I q (by simp))
    | int j => obtain ⟨t', rfl⟩ := ry; exact PySem.EqNone.eq_none_int (fin_bl I q (by simp))
    | str j => obtain ⟨t', rfl⟩ := ry; exact PySem.EqNone.eq_none_str (fin_bl I q (by simp))
    | _ => exact absurd (show false = true from hs) Bool.false_ne_true
  | bl i =>
    cases rx
    cases y with
    | non => cases ry; exact PySem.EqNone.eq_bool_none (fin_bl I q (by simp))
    | bl j => cases ry; exact eq_bool (fin_bl I q dec_bl)
    | str j => obtain ⟨t', rfl⟩ := ry; exact PySem.EqMixed.eq_bool_str (fin_bl I q (by simp))
    | _ => exact absurd (show false = true from hs) Bool.false_ne_true
  | int i =>
    obtain ⟨t, rfl⟩ := rx
    cases y with
    | non => cases ry; exact PySem.EqNone.eq_int_none (fin_bl I q (by simp))
    | int j => obtain ⟨t', rfl⟩ := ry; exact eq_int (fin_bl I q dec_int)
    | str j => obtain ⟨t', rfl⟩ := ry; exact PySem.EqMixed.eq_int_str (fin_bl I q (by simp))
    | _ => exact absurd (show false = true from hs) Bool.false_ne_true
  | str i =>
    obtain ⟨t, rfl⟩ := rx
    cases y with
    | non => cases ry; exact PySem.EqNone.eq_str_none (fin_bl I q (by simp))
    | bl j => cases ry; exact PySem.EqMixed.eq_str_bool (fin_bl I q (by simp))
    | int j => obtain ⟨t', rfl⟩ := ry; exact PySem.EqMixed.eq_str_int (fin_bl I q (by simp))
    | str j => obtain ⟨t', rfl⟩ := ry; exact eq_str (fin_bl I q dec_str)
    | _ => exact absurd (show false = true from hs) Bool.false_ne_true
  | byt i =>
    obtain ⟨t, rfl⟩ := rx
    cases y with
    | byt j => obtain ⟨t', rfl⟩ := ry; exact PySem.W.eq_bytes (fin_bl I q dec_byt)
    | _ => exact absurd (show false = true from hs) Bool.false_ne_true
  | _ => cases y <;> exact absurd (show false = true from hs) Bool.false_ne_true
theorem op_ne : OpR X (compareOp .NotEq) rNe := by
  intro pins s σ H x y v u Q I rx ry h
  obtain ⟨hs, q⟩ := h
  cases x with
  | non =>
    cases rx
    cases y with
    | non => cases ry; exact PySem.EqNone.ne_none_none (fin_bl I q (by simp))
    | bl j => cases ry; exact PySem.EqNone.ne_none_bool (fin_bl I q (by simp))
    | int j => obtain ⟨t', rfl⟩ := ry; exact PySem.EqNone.ne_none_int (fin_bl I q (by simp))
    | str j => obtain ⟨t', rfl⟩ := ry; exact PySem.EqNone.ne_none_str (fin_bl I q (by simp))
    | _ => exact absurd (show false = true from hs) Bool.false_ne_true
  | bl i =>
    cases rx
    cases y with
    | non => cases ry; exact PySem.EqNone.ne_bool_none (fin_bl I q (by simp))
    | bl j => cases ry; exact ne_bool (fin_bl I q (congrArg not dec_bl))
    | str j => obtain ⟨t', rfl⟩ := ry; exact PySem.EqMixed.ne_bool_str (fin_bl I q (by simp))
    | _ => exact absurd (show false = true from hs) Bool.false_ne_true
  | int i =>
    obtain ⟨t, rfl⟩ := rx
    cases y with
    | non => cases ry; exact PySem.EqNone.ne_int_none (fin_bl I q (by simp))
    | int j => obtain ⟨t', rfl⟩ := ry; exact ne_int (fin_bl I q (congrArg not dec_int))
    | str j => obtain ⟨t', rfl⟩ := ry; exact PySem.EqMixed.ne_int_str (fin_bl I q (by simp))
    | _ => exact absurd (show false = true from hs) Bool.false_ne_true
  | str i =>
    obtain ⟨t, rfl⟩ := rx
    cases y with
    | non => cases ry; exact PySem.EqNone.ne_str_none (fin_bl I q (by simp))
    | bl j => cases ry; exact PySem.EqMixed.ne_str_bool (fin_bl I q (by simp))
    | int j => obtain ⟨t', rfl⟩ := ry; exact PySem.EqMixed.ne_str_int (fin_bl I q (by simp))
    | str j => obtain ⟨t', rfl⟩ := ry; exact ne_str (fin_bl I q (congrArg not dec_str))
    | _ => exact absurd (show false = true from hs) Bool.false_ne_true
  | byt i =>
    obtain ⟨t, rfl⟩ := rx
    cases y with
    | byt j => obtain ⟨t', rfl⟩ := ry; exact PySem.W.ne_bytes (fin_bl I q (congrArg not dec_byt))
    | _ => exact absurd (show false = true from hs) Bool.false_ne_true
  | _ => cases y <;> exact absurd (show false = true from hs) Bool.false_ne_true

theorem op_lt : OpR X (compareOp .Lt) (rI0 fun i j => .bl (decide (i < j))) := opB0 fun _ _ _ _ _ _ _ q => lt_int q
theorem op_le : OpR X (compareOp .LtE) (rI0 fun i j => .bl (decide (i ≤ j))) := opB0 fun _ _ _ _ _ _ _ q => le_int q
theorem op_gt : OpR X (compareOp .Gt) (rI0 fun i j => .bl (decide (j < i))) := opB0 fun _ _ _ _ _ _ _ q => gt_int q
theorem op_ge : OpR X (compareOp .GtE) (rI0 fun i j => .bl (decide (j ≤ i))) := opB0 fun _ _ _ _ _ _ _ q => ge_int q
theorem op_lt_str : OpR X (compareOp .Lt) (fun x y H Q => ∃ i j, x = .str i ∧ y = .str j ∧ Q (.bl (decide (i.cps.toList < j.cps.toList))) H) := by
  intro pins s σ H x y v u Q I rx ry h
  obtain ⟨i, j, rfl, rfl, q⟩ := h
  obtain ⟨t, rfl⟩ := rx
  obtain ⟨t', rfl⟩ := ry
  exact lt_str (fin_bl I q rfl)
/-- the one string within the other -/
theorem op_in_str : OpR X (compareOp .In) (fun x y H Q => ∃ i j, x = .str i ∧ y = .str j ∧ Q (.bl (!(Builtin.Str.occurrences j i 0 j.length 1).isEmpty)) H) := by
  intro pins s σ H x y v u Q I rx ry h
  obtain ⟨i, j, rfl, rfl, q⟩ := h
  obtain ⟨t, rfl⟩ := rx
  obtain ⟨t', rfl⟩ := ry
  exact in_str (fin_bl I q rfl)

/-- is None, is not None: the right side a value none -/
theorem op_isN : OpR X (compareOp .Is) (fun x y H Q => y = .non ∧ Q (.bl (decide (x = .non))) H) := by
  intro pins s σ H x y v u Q I rx ry h
  obtain ⟨rfl, q⟩ := h
  cases ry
  refine is_none_gen (fin_bl I q ?_)
  cases x <;> first
    | (cases rx; rfl)
    | (obtain ⟨t, rfl⟩ := rx; rfl)
theorem op_notN : OpR X (compareOp .IsNot) (fun x y H Q => y = .non ∧ Q (.bl (!decide (x = .non))) H) := by
  intro pins s σ H x y v u Q I rx ry h
  obtain ⟨rfl, q⟩ := h
  cases ry
  refine isnot_none_gen (fin_bl I q ?_)
  cases x <;> first
    | (cases rx; rfl)
    | (obtain ⟨t, rfl⟩ := rx; rfl)

theorem op_notin_str : OpR X (compareOp .NotIn) (fun x y H Q => ∃ i j, x = .str i ∧ y = .str j ∧ Q (.bl (!(!(Builtin.Str.occurrences j i 0 j.length 1).isEmpty))) H) := by
  intro pins s σ H x y v u Q I rx ry h
  obtain ⟨i, j, rfl, rfl, q⟩ := h
  obtain ⟨t, rfl⟩ := rx
  obtain ⟨t', rfl⟩ := ry
  exact notIn_str (fin_bl I q rfl)
/-- is, is not of two objects that are tracked lists or instances -/
def isObj : HO → Bool
  | .lst _ => true
  | .ins _ _ _ => true
  | _ => false
theorem obj_there {pins : List (Addr × Obj)} {s : Shared} {σ : St} {H : Hp} {a : Addr} {o : HO} (I : Inv X pins σ H s) (h : H a = some o) (p : isObj o = true) : ∃ ob, s.heap.get? a = some ob ∧ ob.cls ≠ .type "tuple" := by
  cases o with
  | lst xs =>
    obtain ⟨_, its, n, _, e⟩ : xs.length ≤ sizeLine ∧ ∃ (its : List Value) (n : Nat), Vals xs its ∧ s.heap.get? a = some { cls := .type "list", data := .seq its.toArray n } := I.hok a _ h
    exact ⟨_, e, (by show Value.type "list" ≠ .type "tuple"; decide +kernel)⟩
  | ins C dx fs =>
    have x := I.hok a _ h
    obtain ⟨_, _, _, e, _⟩ := x
    exact ⟨_, e, (by show Value.ref C ≠ .type "tuple"; exact fun z => by cases z)⟩
  | _ => exact absurd (show false = true from p) Bool.false_ne_true
theorem op_is_ref : OpR X (compareOp .Is) (fun x y H Q => ∃ a b oa ob, x = .ref a ∧ y = .ref b ∧ H a = some oa ∧ isObj oa = true ∧ H b = some ob ∧ isObj ob = true ∧ Q (.bl (decide (a = b))) H) := by
  intro pins s σ H x y v u Q I rx ry h
  obtain ⟨a, b, oa, ob, rfl, rfl, ha, pa, hb, pb, q⟩ := h
  cases rx
  cases ry
  obtain ⟨o1, e1, n1⟩ := obj_there I ha pa
  obtain ⟨o2, e2, _⟩ := obj_there I hb pb
  by_cases z : a = b
  · subst z
    exact wpAny_is_ref_self (fin_bl I q (by simp))
  · exact wpAny_is_ref_other z e1 e2 n1 (fin_bl I q (by simp [z]))
theorem op_isnot_ref : OpR X (compareOp .IsNot) (fun x y H Q => ∃ a b oa ob, x = .ref a ∧ y = .ref b ∧ H a = some oa ∧ isObj oa = true ∧ H b = some ob ∧ isObj ob = true ∧ Q (.bl (!decide (a = b))) H) := by
  intro pins s σ H x y v u Q I rx ry h
  obtain ⟨a, b, oa, ob, rfl, rfl, ha, pa, hb, pb, q⟩ := h
  cases rx
  cases ry
  obtain ⟨o1, e1, n1⟩ := obj_there I ha pa
  obtain ⟨o2, e2, _⟩ := obj_there I hb pb
  by_cases z : a = b
  · subst z
    exact wpAny_isNot_ref_self (fin_bl I q (by simp))
  · exact wpAny_isNot_ref_other z e1 e2 n1 (fin_bl I q (by simp [z]))

/-- two rules for one operation: by cases -/
theorem OpR.or {f : Value → Value → Sem Value} {r r' : R2} (h : OpR X f r) (h' : OpR X f r') : OpR X f (fun x y H Q => r x y H Q ∨ r' x y H Q) := by
  intro pins s σ H x y v u Q I rx ry q
  rcases q with q | q
  · exact h pins s σ H x y v u Q I rx ry q
  · exact h' pins s σ H x y v u Q I rx ry q

theorem nomark (b : Expr) {op : CmpOp} (h : op ≠ .In := by decide) (h2 : op ≠ .NotIn := by decide) : behindInMarks op b = false := by
  have e1 : (op == CmpOp.In) = false := by cases op <;> first | rfl | exact absurd rfl h
  have e2 : (op == CmpOp.NotIn) = false := by cases op <;> first | rfl | exact absurd rfl h2
  cases b <;> simp [behindInMarks, e1, e2]
/-- a comparison as a value; hm: nomark b, or (for in, not in) by with_unfolding_all rfl -/
theorem pe_cmpR {op : CmpOp} {r : R2} (ho : OpR X (compareOp op) r) (ha : PE X a ta) (hb : PE X b tb) (hm : behindInMarks op b = false) : PE X (.Compare a [op] [b] pos) (tOp r ta tb) := by
  intro pins s σ H Q I h
  exact wpAny_Compare1 (binT ha hb I h fun v u s2 x y H2 I2 rx ry q => ho pins s2 σ H2 x y v u Q I2 rx ry q) hm
/-- a reading of a value as a test -/
def tTest (t : TE) : TT := fun σ H Q => t σ H fun x H' => ∃ k, x = .bl k ∧ Q k H'
theorem pt_cmpR {op : CmpOp} {r : R2} (ho : OpR X (compareOp op) r) (ha : PE X a ta) (hb : PE X b tb) (hm : behindInMarks op b = false) : PT X (.Compare a [op] [b] pos) (tTest (tOp r ta tb)) := by
  intro pins s σ H Q I h
  refine wpAny_isTrue_Compare1 (thn (ha pins s σ H _ I h) fun v s1 ⟨x, H1, I1, r1, q1⟩ => thn (hb pins s1 σ H1 _ I1 q1) fun u s2 ⟨y, H2, I2, r2, q2⟩ =>
    thn (ho pins s2 σ H2 x y v u _ I2 r1 r2 q2) fun c s3 ⟨z, H3, I3, r3, k, e, q3⟩ => ?_) hm
  subst e
  cases r3
  exact wpAny_truthy_bool ⟨H3, I3, q3⟩
/-- a op1 b op2 c -/
def tChain (r r' : R2) (ta tb tc : TE) : TE := fun σ H Q => ta σ H fun x H1 => tb σ H1 fun y H2 => r x y H2 fun z H3 => ∃ k, z = .bl k ∧
  (if k = true then tc σ H3 fun w' H4 => r' y w' H4 Q else Q (.bl false) H3)
theorem pe_chain {op op' : CmpOp} {r r' : R2} (ho : OpR X (compareOp op) r) (ho' : OpR X (compareOp op') r') (ha : PE X a ta) (hb : PE X b tb) (hc : PE X c tc)
    (hm : lastMarks [op, op'] [b, c] = false := by with_unfolding_all rfl) : PE X (.Compare a [op, op'] [b, c] pos) (tChain r r' ta tb tc) := by
  intro pins s σ H Q I h
  refine Compare_chain (thn (ha pins s σ H _ I h) fun v s1 ⟨x, H1, I1, r1, q1⟩ => chain_link (thn (hb pins s1 σ H1 _ I1 q1) fun u s2 ⟨y, H2, I2, r2, q2⟩ =>
    thn (ho pins s2 σ H2 x y v u _ I2 r1 r2 q2) fun d s3 ⟨z, H3, I3, r3, k, e, q3⟩ => ?_)) hm
  subst e
  cases r3
  refine wpAny_truthy_bool ?_
  cases k with
  | false => exact ite_ff ⟨.bl false, H3, I3, rfl, q3⟩
  | true => exact ite_tt (chain_last (thn (hc pins s3 σ H3 _ I3 q3) fun w' s4 ⟨z', H4, I4, r4, q4⟩ => ho' pins s4 σ H4 y z' u w' Q I4 r2 r4 q4))
theorem pt_chain {op op' : CmpOp} {r r' : R2} (ho : OpR X (compareOp op) r) (ho' : OpR X (compareOp op') r') (ha : PE X a ta) (hb : PE X b tb) (hc : PE X c tc)
    (hm : lastMarks [op, op'] [b, c] = false := by with_unfolding_all rfl) : PT X (.Compare a [op, op'] [b, c] pos) (tTest (tChain r r' ta tb tc)) := by
  intro pins s σ H Q I h
  refine isTrue_chain (thn (ha pins s σ H _ I h) fun v s1 ⟨x, H1, I1, r1, q1⟩ => test_link (thn (hb pins s1 σ H1 _ I1 q1) fun u s2 ⟨y, H2, I2, r2, q2⟩ =>
    thn (ho pins s2 σ H2 x y v u _ I2 r1 r2 q2) fun d s3 ⟨z, H3, I3, r3, k, e, q3⟩ => ?_)) hm
  subst e
  cases r3
  refine wpAny_truthy_bool ?_
  cases k with
  | false =>
    obtain ⟨k', e', q'⟩ := q3
    cases e'
    exact ite_ff ⟨H3, I3, q'⟩
  | true =>
    refine ite_tt (test_last (thn (hc pins s3 σ H3 _ I3 q3) fun w' s4 ⟨z', H4, I4, r4, q4⟩ => thn (ho' pins s4 σ H4 y z' u w' _ I4 r2 r4 q4) fun d' s5 ⟨z2, H5, I5, r5, k2, e2, q5⟩ => ?_))
    subst e2
    cases r5
    exact wpAny_truthy_bool ⟨H5, I5, q5⟩

/-! ### truth -/
/-- a value's truth by the abstract heap -/
def TruV (K : PySem.W.Frag) (x : V) (H : Hp) (k : Bool) : Prop :=
  match x with
  | .non => k = false
  | .bl b => k = b
  | .int i => k = (i != 0)
  | .str y => y.length ≤ sizeLine ∧ k = ((y.length : Int) != 0)
  | .byt y => y.size ≤ sizeLine ∧ k = ((y.size : Int) != 0)
  | .ref p => (∃ xs, SqL K H p xs ∧ k = !xs.isEmpty) ∨ (∃ xs, SqT K H p xs ∧ k = !xs.isEmpty) ∨ ∃ kvs, H p = some (.dK kvs) ∧ k = !kvs.isEmpty
  | _ => False
theorem isEmpty_kv {κ : Type} {kvs : List (κ × V)} {vs : List (κ × Value)} (r : KV kvs vs) : (!vs.isEmpty) = !kvs.isEmpty := by
  cases r <;> rfl
theorem isEmpty_of {xs : List V} {its : List Value} (r : Vals xs its) : (!its.toArray.isEmpty) = !xs.isEmpty := by
  cases r <;> simp
theorem line63 : (sizeLine : Nat) < 2 ^ 63 := by rw [sizeLine_eq]; decide
theorem tru_ok : TruR X (fun x H Q => ∃ k, TruV X.K x H k ∧ Q k H) := by
  intro pins s σ H x v Q I rx h
  obtain ⟨k, e, q⟩ := h
  have hl := line63
  have hs : sizeLine = 16777216 := sizeLine_eq
  cases x with
  | non =>
    cases rx
    have e' : k = false := e
    subst e'
    exact truthy_none ⟨H, I, q⟩
  | bl b =>
    cases rx
    have e' : k = b := e
    subst e'
    exact wpAny_truthy_bool ⟨H, I, q⟩
  | int i =>
    obtain ⟨t, rfl⟩ := rx
    have e' : k = (i != 0) := e
    subst e'
    exact PySem.P.truthy_int ⟨H, I, q⟩
  | str y =>
    obtain ⟨t, rfl⟩ := rx
    obtain ⟨hy, e'⟩ : y.length ≤ sizeLine ∧ k = ((y.length : Int) != 0) := e
    subst e'
    exact PySem.P.truthy_str (by omega) ⟨H, I.tok _, q⟩
  | byt y =>
    obtain ⟨t, rfl⟩ := rx
    obtain ⟨hy, e'⟩ : y.size ≤ sizeLine ∧ k = ((y.size : Int) != 0) := e
    subst e'
    exact PySem.W.truthy_bytes (by omega) ⟨H, I.tok _, q⟩
  | ref p =>
    cases rx
    have e' : (∃ xs, SqL X.K H p xs ∧ k = !xs.isEmpty) ∨ (∃ xs, SqT X.K H p xs ∧ k = !xs.isEmpty) ∨ ∃ kvs, H p = some (.dK kvs) ∧ k = !kvs.isEmpty := e
    rcases e' with ⟨xs, hx, e'⟩ | ⟨xs, hx, e'⟩ | ⟨kvs, hx, e'⟩
    · subst e'
      obtain ⟨its, r, pl, hz⟩ := I.list hx
      have hlen := r.length
      exact wpAny_truthy_list pl.isList (by simp only [List.size_toArray]; omega) ⟨H, I.tok _, by rw [isEmpty_of r]; exact q⟩
    · subst e'
      obtain ⟨its, r, pl, hz⟩ := I.tuple hx
      have hlen := r.length
      exact truthy_tuple pl (by simp only [List.size_toArray]; omega) ⟨H, I.tok _, by rw [isEmpty_of r]; exact q⟩
    · subst e'
      obtain ⟨hz, hS, vs, r, m⟩ : kvs.length ≤ sizeLine ∧ (p == sysModules) = false ∧ ∃ vs, KV kvs vs ∧ s.heap.DictOf (mixKind X.prog X.w) p vs := I.hok p _ hx
      have hlen : kvs.length = vs.length := Paired.length r
      exact wpAny_truthy_dict hS m (by omega) ⟨H, I.tok _, by rw [isEmpty_kv r]; exact q⟩
  | _ => exact (show False from e).elim
/-- any expression whose test is its value's truth (a name, a call, a subscript, a field ..: he by fun _ => rfl) -/
theorem pt_truth (ha : PE X a ta) (he : ∀ whole, isTrue a X.env whole = (do let v ← whole; standAt a.pos; holding [v] (truthy v))) :
    PT X a (fun σ H Q => ta σ H fun x H' => ∃ k, TruV X.K x H' k ∧ Q k H') := by
  intro pins s σ H Q I h
  exact isTrue_plain (thn (ha pins s σ H _ I h) fun v s1 ⟨x, H1, I1, r1, q1⟩ => tru_ok pins s1 σ H1 x v Q I1 r1 q1) (he _)

/-! ### strs and bytes -/
theorem pe_byt {x : List UInt8} {k : Nat} : PE X (.Constant (.bytes x) k pos) (fun _ H Q => Q (.byt x.toArray) H) := fun _ _ _ H _ I h => PySem.W.Constant_bytes ⟨.byt x.toArray, H, I.tok _, ⟨_, rfl⟩, h⟩
theorem op_add_str : OpR X (binaryOp .Add) (fun x y H Q => ∃ i j, x = .str i ∧ y = .str j ∧ i.length + j.length ≤ sizeLine ∧ Q (.str (i ++ j)) H) := by
  intro pins s σ H x y v u Q I rx ry h
  obtain ⟨i, j, rfl, rfl, hz, q⟩ := h
  obtain ⟨t, rfl⟩ := rx
  obtain ⟨t', rfl⟩ := ry
  exact add_str (fun t' tk => ⟨.str (i ++ j), H, I.tok _, ⟨_, rfl⟩, q⟩) hz
theorem iop_add_str : OpR X (inplaceOp .Add) (fun x y H Q => ∃ i j, x = .str i ∧ y = .str j ∧ i.length + j.length ≤ sizeLine ∧ Q (.str (i ++ j)) H) := by
  intro pins s σ H x y v u Q I rx ry h
  obtain ⟨i, j, rfl, rfl, hz, q⟩ := h
  obtain ⟨t, rfl⟩ := rx
  obtain ⟨t', rfl⟩ := ry
  exact iadd_str (fun t' tk => ⟨.str (i ++ j), H, I.tok _, ⟨_, rfl⟩, q⟩) hz
theorem op_add_byt : OpR X (binaryOp .Add) (fun x y H Q => ∃ i j, x = .byt i ∧ y = .byt j ∧ i.size + j.size ≤ 16777216 ∧ Q (.byt (i ++ j)) H) := by
  intro pins s σ H x y v u Q I rx ry h
  obtain ⟨i, j, rfl, rfl, hz, q⟩ := h
  obtain ⟨t, rfl⟩ := rx
  obtain ⟨t', rfl⟩ := ry
  exact PySem.W.KBy.add_bytes hz (fun t' tk => ⟨.byt (i ++ j), H, I.tok _, ⟨_, rfl⟩, q⟩)

def PlainIxT (b : Expr) : Prop := ∀ o i, subscripted b false o i = operate [o, i] (getItem o i)
/-- s[i], 0 ≤ i < len -/
theorem pe_item_str (ha : PE X a ta) (hb : PE X b tb) (hs : PlainIxT b) :
    PE X (.Subscript a b pos) (tOp (fun x y H Q => ∃ z i c, x = .str z ∧ y = .int i ∧ 0 ≤ i ∧ i < 2 ^ 63 ∧ i < z.length ∧ z.cps[i.toNat]? = some c ∧ Q (.str ⟨#[c]⟩) H) ta tb) := by
  intro pins s σ H Q I h
  refine Subscript_ (binT ha hb I h fun v u s2 x y H2 I2 rx ry q => ?_)
  obtain ⟨z, i, c, rfl, rfl, h0, h63, h1, hc, q⟩ := q
  obtain ⟨t, rfl⟩ := rx
  obtain ⟨t', rfl⟩ := ry
  have e : seqIndex? i z.length = some i.toNat := PySem.StrLaws.seqIndex_nonneg h0 h1
  exact tail_any (typeIs_str s2 z t) slot_str_getitem.lookup (getItem_str (c := c) (by
    have e1 : decide (i < -(2 ^ 63 : Int)) = false := decide_eq_false (by omega)
    have e2 : decide (i ≥ 2 ^ 63) = false := decide_eq_false (by omega)
    rw [e1, e2] <;> rfl) (by rw [e]; exact hc) ⟨.str ⟨#[c]⟩, H2, I2.tok _, ⟨_, rfl⟩, q⟩) (hs _ _)
/-- b[i], 0 ≤ i < len -/
theorem pe_item_byt (ha : PE X a ta) (hb : PE X b tb) (hs : PlainIxT b) :
    PE X (.Subscript a b pos) (tOp (fun x y H Q => ∃ (z : List UInt8) (i : Int), x = .byt z.toArray ∧ y = .int i ∧ z.length ≤ sizeLine ∧ 0 ≤ i ∧ i < z.length ∧ Q (.int ((z.getD i.toNat 0).toNat : Nat)) H) ta tb) := by
  intro pins s σ H Q I h
  refine Subscript_ (binT ha hb I h fun v u s2 x y H2 I2 rx ry q => ?_)
  obtain ⟨z, i, rfl, rfl, hz, h0, h1, q⟩ := q
  obtain ⟨t, rfl⟩ := rx
  obtain ⟨t', rfl⟩ := ry
  have hl : sizeLine = 16777216 := sizeLine_eq
  exact tail_any (PySem.W.typeIs_bytes s2 z.toArray t) PySem.W.FB.slot_bytes_getitem.lookup (PySem.W.getItem_bytes (by omega) h0 h1 ⟨.int ((z.getD i.toNat 0).toNat : Nat), H2, I2.tok _, ⟨_, rfl⟩, q⟩) (hs _ _)

/-! ### scalar builtins, by CallR -/
theorem vals1 {x : V} {us : List Value} (r : Vals [x] us) : ∃ u, us = [u] ∧ RelV x u := by
  cases r with
  | cons r1 r2 => cases r2; exact ⟨_, rfl, r1⟩
theorem vals2 {x y : V} {us : List Value} (r : Vals [x, y] us) : ∃ u w', us = [u, w'] ∧ RelV x u ∧ RelV y w' := by
  cases r with
  | cons r1 r2 =>
    cases r2 with
    | cons r3 r4 => cases r4; exact ⟨_, _, rfl, r1, r3⟩
theorem call_abs : CallR X (.builtin "abs") (fun xs H Q => ∃ i, xs = [.int i] ∧ Q (.int (if i < 0 then -i else i)) H) := by
  intro pins s σ H xs us Q I r h
  obtain ⟨i, rfl, q⟩ := h
  obtain ⟨u, rfl, t, rfl⟩ := vals1 r
  exact call_abs_int fun u tk => ⟨.int (if i < 0 then -i else i), H, I.tok _, ⟨_, rfl⟩, q⟩
theorem call_max2 (hc : X.calm = true) : CallR X (.builtin "max") (fun xs H Q => ∃ i j, xs = [.int i, .int j] ∧ Q (.int (if j > i then j else i)) H) := by
  intro pins s σ H xs us Q I r h
  obtain ⟨i, j, rfl, q⟩ := h
  obtain ⟨u, w', rfl, ⟨t, rfl⟩, ⟨t', rfl⟩⟩ := vals2 r
  refine max_two_ints (I.ok.hd hc) fun h' tk k => ⟨_, H, I.kept k, ?_, q⟩
  by_cases hj : j > i
  · rw [if_pos hj, if_pos hj]; exact ⟨_, rfl⟩
  · rw [if_neg hj, if_neg hj]; exact ⟨_, rfl⟩
theorem call_min2 (hc : X.calm = true) : CallR X (.builtin "min") (fun xs H Q => ∃ i j, xs = [.int i, .int j] ∧ Q (.int (if j < i then j else i)) H) := by
  intro pins s σ H xs us Q I r h
  obtain ⟨i, j, rfl, q⟩ := h
  obtain ⟨u, w', rfl, ⟨t, rfl⟩, ⟨t', rfl⟩⟩ := vals2 r
  refine min_two_ints (I.ok.hd hc) fun h' tk k => ⟨_, H, I.kept k, ?_, q⟩
  by_cases hj : j < i
  · rw [if_pos hj, if_pos hj]; exact ⟨_, rfl⟩
  · rw [if_neg hj, if_neg hj]; exact ⟨_, rfl⟩
theorem call_int1 : CallR X (.type "int") (fun xs H Q => (∃ i, xs = [.int i] ∧ Q (.int i) H) ∨ ∃ k, xs = [.bl k] ∧ Q (.int (if k then 1 else 0)) H) := by
  intro pins s σ H xs us Q I r h
  rcases h with ⟨i, rfl, q⟩ | ⟨k, rfl, q⟩
  · obtain ⟨u, rfl, t, rfl⟩ := vals1 r
    exact call_int_int ⟨.int i, H, I, ⟨_, rfl⟩, q⟩
  · obtain ⟨u, rfl, r1⟩ := vals1 r
    cases r1
    exact call_int_bool ⟨.int (if k then 1 else 0), H, I.tok _, ⟨_, rfl⟩, q⟩
theorem call_bool1 : CallR X (.type "bool") (fun xs H Q => (∃ i, xs = [.int i] ∧ Q (.bl (i != 0)) H) ∨ ∃ k, xs = [.bl k] ∧ Q (.bl k) H) := by
  intro pins s σ H xs us Q I r h
  rcases h with ⟨i, rfl, q⟩ | ⟨k, rfl, q⟩
  · obtain ⟨u, rfl, t, rfl⟩ := vals1 r
    exact call_bool_int ⟨.bl (i != 0), H, I, rfl, q⟩
  · obtain ⟨u, rfl, r1⟩ := vals1 r
    cases r1
    exact call_bool_bool ⟨.bl k, H, I, rfl, q⟩
theorem call_str_int : CallR X (.type "str") (fun xs H Q => ∃ i, xs = [.int i] ∧ i.natAbs.log2 < 1920 ∧ Q (.str (toString i)) H) := by
  intro pins s σ H xs us Q I r h
  obtain ⟨i, rfl, hz, q⟩ := h
  obtain ⟨u, rfl, t, rfl⟩ := vals1 r
  exact PySem.P.str_of_int hz ⟨.str _, H, I.tok _, ⟨_, rfl⟩, q⟩
theorem call_ord : CallR X (.builtin "ord") (fun xs H Q => ∃ x, xs = [.str x] ∧ x.length = 1 ∧ Q (.int (x.cps.getD 0 0 : Nat)) H) := by
  intro pins s σ H xs us Q I r h
  obtain ⟨x, rfl, hz, q⟩ := h
  obtain ⟨u, rfl, t, rfl⟩ := vals1 r
  exact ord_of_one hz ⟨.int _, H, I.tok _, ⟨_, rfl⟩, q⟩
theorem call_chr : CallR X (.builtin "chr") (fun xs H Q => ∃ i, xs = [.int i] ∧ 0 ≤ i ∧ i ≤ 1114111 ∧ Q (.str ⟨#[i.toNat]⟩) H) := by
  intro pins s σ H xs us Q I r h
  obtain ⟨i, rfl, h0, h1, q⟩ := h
  obtain ⟨u, rfl, t, rfl⟩ := vals1 r
  exact chr_of_range h0 h1 ⟨.str _, H, I.tok _, ⟨_, rfl⟩, q⟩
/-- len of a str, a bytes, a list, a tuple -/
def LenV (K : PySem.W.Frag) (x : V) (H : Hp) (n : Nat) : Prop :=
  match x with
  | .str y => y.length ≤ sizeLine ∧ n = y.length
  | .byt y => y.size ≤ sizeLine ∧ n = y.size
  | .ref p => (∃ xs, SqL K H p xs ∧ n = xs.length) ∨ ∃ xs, SqT K H p xs ∧ n = xs.length
  | _ => False
theorem call_len : CallR X (.builtin "len") (fun xs H Q => ∃ x n, xs = [x] ∧ LenV X.K x H n ∧ Q (.int n) H) := by
  intro pins s σ H xs us Q I r h
  obtain ⟨x, n, rfl, e, q⟩ := h
  obtain ⟨u, rfl, rx⟩ := vals1 r
  have hl := line63
  have hs : sizeLine = 16777216 := sizeLine_eq
  cases x with
  | str y =>
    obtain ⟨t, rfl⟩ := rx
    obtain ⟨hy, e'⟩ : y.length ≤ sizeLine ∧ n = y.length := e
    subst e'
    exact len_str (by omega) ⟨.int _, H, I.tok _, ⟨_, rfl⟩, q⟩
  | byt y =>
    obtain ⟨t, rfl⟩ := rx
    obtain ⟨hy, e'⟩ : y.size ≤ sizeLine ∧ n = y.size := e
    subst e'
    exact PySem.W.len_bytes (by omega) ⟨.int _, H, I.tok _, ⟨_, rfl⟩, q⟩
  | ref p =>
    cases rx
    have e' : (∃ xs, SqL X.K H p xs ∧ n = xs.length) ∨ ∃ xs, SqT X.K H p xs ∧ n = xs.length := e
    rcases e' with ⟨xs, hx, e'⟩ | ⟨xs, hx, e'⟩
    · subst e'
      obtain ⟨its, r', pl, hz⟩ := I.list hx
      have hlen := r'.length
      exact Calls.call_len_list pl.isList (by simp only [List.size_toArray]; omega) ⟨.int xs.length, H, I.tok _, ⟨_, by simp only [List.size_toArray]; rw [hlen]⟩, q⟩
    · subst e'
      obtain ⟨its, r', pl, hz⟩ := I.tuple hx
      have hlen := r'.length
      exact len_tuple pl (by simp only [List.size_toArray]; omega) ⟨.int xs.length, H, I.tok _, ⟨_, by simp only [List.size_toArray]; rw [hlen]⟩, q⟩
  | _ => exact (show False from e).elim
/-- divmod: a new tuple -/
theorem call_divmod : CallR X (.builtin "divmod") (fun xs H Q => ∃ i j, xs = [.int i, .int j] ∧ CDiv i j ∧ ∀ p, H p = none → Q (.ref p) (upd H p (.tup [.int (i / j), .int (i % j)]))) := by
  intro pins s σ H xs us Q I r h
  obtain ⟨i, j, rfl, ⟨h1, h2⟩, q⟩ := h
  obtain ⟨u, w', rfl, ⟨t, rfl⟩, ⟨t', rfl⟩⟩ := vals2 r
  refine divmod_int (by omega) ?_ (.inl (PyProof.noPylong_small (by omega)))
  rw [Int.fdiv_eq_ediv_of_nonneg i (by omega), Int.fmod_eq_emod_of_nonneg i (by omega)]
  have hn : H s.heap.objs.size = none := I.hok.fresh (Nat.le_refl _)
  refine ⟨.ref s.heap.objs.size, _, ?_, rfl, q _ hn⟩
  refine I.laid (fun b o e => Heap.get?_push_of_some _ e) (Nat.le_refl _) ⟨by simp only [List.length_cons, List.length_nil]; rw [sizeLine_eq]; decide, [.int (i / j) s.toks, .int (i % j) (s.toks + 1)], .cons ⟨_, rfl⟩ (.cons ⟨_, rfl⟩ .nil), ?_⟩
  exact ⟨_, Heap.get?_push_size s.heap rfl, rfl, 0, rfl⟩
end
end L2

namespace L2
open PySem PySem.Spec PyProof.Rows

/-! ### an instance, its attributes a map -/
structure ObjM (h : Heap) (x dx C : Addr) (mA : Str → Option Value) : Prop where
  obj : h.get? x = some (PySem.W.instObj C dx)
  ns : h.Ns1 dx mA
  ne : dx ≠ x

theorem lookIn_ns {h : Heap} {dx : Addr} {mA : Str → Option Value} (n : h.Ns1 dx mA) : ∃ od, h.get? dx = some od ∧ ∀ name, PySem.W.lookIn name od = some (mA name) := by
  obtain ⟨o, es, ep, ho, hd, hk, _, hm⟩ := n
  refine ⟨o, ho, fun name => ?_⟩
  have e := hm name
  unfold nsFind findBy at e
  rw [← Array.find?_toList] at e
  unfold PySem.W.lookIn
  rw [hd]
  dsimp only
  split
  · rename_i y q
    rw [q] at e
    exact congrArg some e
  · rename_i q
    rw [q] at e
    have a : es.toList.any (·.refKey) = false := by
      rw [List.any_eq_false]
      intro y hy
      obtain ⟨z, t, hkey⟩ := hk y (Array.mem_toList_iff.mp hy)
      simp [DictEntry.refKey, hkey]
    have a' : ¬ es.toList.any (·.refKey) = true := by rw [a]; exact Bool.false_ne_true
    rw [if_neg a']
    exact congrArg some e

theorem ObjM.look {h : Heap} {x dx C : Addr} {mA : Str → Option Value} (I : ObjM h x dx C mA) : ∃ od, PySem.W.InstAt h x (PySem.W.instObj C dx) C (some od) ∧ ∀ name, PySem.W.lookIn name od = some (mA name) :=
  let ⟨od, ho, hl⟩ := lookIn_ns I.ns
  ⟨od, ⟨I.obj, rfl, rfl, ho⟩, hl⟩

section
variable {prog : Program} {w : World} {A : Around} {E : Value → Shared → Prop} {s : Shared} {K : PySem.W.Frag} {x dx C f : Addr} {mA : Str → Option Value} {name : Str} {v : Value}

theorem get_map {expr : Bool} {Q : Value → Shared → Prop} (X : K.In s.heap) (I : ObjM s.heap x dx C mA) (hg : PySem.W.plainGet K C name = true) (hh : PySem.W.hasDictIn K C = true)
    (ha : PySem.W.findIn K (.ref C) name = some none) (hv : mA name = some v) (hv' : PySem.W.handedIn v = true) (h : Q v { s with toks := s.toks + 1 }) :
    wpAny (model prog w) A (getAttr (.ref x) name expr) Q E s := by
  obtain ⟨od, J, hl⟩ := I.look
  exact PySem.W.get_value X J (PySem.W.plainGet_of hg).1 (PySem.W.findObj_own hh ha rfl (by rw [hl, hv])) hv' h

theorem get_const {expr : Bool} {a : Value} {Q : Value → Shared → Prop} (X : K.In s.heap) (I : ObjM s.heap x dx C mA) (hg : PySem.W.plainGet K C name = true) (hh : PySem.W.hasDictIn K C = true)
    (ha : PySem.W.findIn K (.ref C) name = some (some a)) (hn : PySem.W.specialIn K a "__get__" = some none) (hc : PySem.W.copiedNames.contains name = false) (hv : mA name = none) (hv' : PySem.W.handedIn a = true)
    (h : Q a { s with toks := s.toks + 1 }) : wpAny (model prog w) A (getAttr (.ref x) name expr) Q E s := by
  obtain ⟨od, J, hl⟩ := I.look
  exact PySem.W.get_value X J (PySem.W.plainGet_of hg).1 (PySem.W.findObj_cls hh ha hn hv' hc (by rw [hl, hv])) hv' h

theorem get_meth {pl : Sem Bool} {Q : Value × List Value → Shared → Prop} (X : K.In s.heap) (I : ObjM s.heap x dx C mA) (hg : PySem.W.plainGet K C name = true)
    (hf : PySem.W.findIn K (.ref C) name = some (some (.ref f))) (ht : PySem.W.isFn K (.ref f) = true) (hv : mA name = none) (h : Q (.ref f, [.ref x]) s) :
    wpAny (model prog w) A (getMethod (.ref x) name pl) Q E s := by
  obtain ⟨od, J, hl⟩ := I.look
  exact PySem.W.method_fn X J (PySem.W.plainGet_of hg).1 (PySem.W.plainGet_of hg).2 hf (beq_iff_eq.mp ht) (by show (PySem.W.lookIn name od).map (·.isSome) = some false; rw [hl, hv]; rfl) h

theorem set_map {ns : List Str} {Q : Unit → Shared → Prop} (X : K.In s.heap) (I : ObjM s.heap x dx C mA)
    (hs : PySem.W.findIn K (.ref C) "__setattr__" = some (some (.builtin "object.__setattr__"))) (hp : PySem.W.plainOver K C = true) (ht : PySem.W.takerIn K C name = some none) (hh : PySem.W.hasDictIn K C = true)
    (hw : PySem.Within mA ns) (hsz : ns.length ≤ sizeLine)
    (h : ∀ h', ObjM h' x dx C (fun y => if y = name then some v else mA y) → Heap.SameBut dx s.heap h' → Q () { s with heap := h', toks := s.toks + 2 }) :
    wpAny (model prog w) A (setAttr (.ref x) name v) Q E s := by
  obtain ⟨od, J, hl⟩ := I.look
  refine PySem.W.set_plain X J hs (PySem.W.osa_open (s := { s with toks := s.toks + 1 }) (r := none) X J hp ht fun b => ?_)
  obtain ⟨cd, hc, hd'⟩ := PySem.W.any_some hh
  have hx : s.heap.get? x = some ⟨.ref C, some dx, .plain, #[]⟩ := I.obj
  refine wpAny_bind (wpAny_pure (wpAny_bind (wpAny_bind (wpAny_loadPart hx (wpAny_bind (PySem.W.Looks.here (s := { s with toks := s.toks + 1 }) (PySem.W.looks_clsIn X hc) ?_))))))
  rw [hd']
  refine wpAny_pure (a := some dx) (wpAny_bind (wpAny_pure (wpAny_bind ?_)))
  refine wpAny_nsSet1 (s := { s with toks := s.toks + 1 }) I.ns fun h' hn2 hs2 => ?_
  obtain ⟨oD, esD, epD, hoD, hdD, hcD⟩ := hn2.count (PySem.Within.cons name v hw)
  refine wpAny_bind (wpAny_lookBehind hoD (by rw [hdD]; exact pastItsLine_dict (Nat.le_trans hcD (by rw [List.length_cons]; omega))) ?_)
  exact wpAny_pure (h _ ⟨(hs2.2 _ (Ne.symm I.ne)).trans I.obj, hn2, I.ne⟩ hs2)

/-- C(..): the dict at the heap's end, the instance behind it; then its __init__ -/
theorem make_map {R : Result → Shared → Prop} {vs : List Value} {kw : List (Str × Value)} (X : K.In s.heap) (hm : PySem.W.makesIn K C = true)
    (hi : PySem.W.findIn K (.ref C) "__init__" = some (some (.ref f))) (hf : PySem.W.typeIn K (.ref f) = some (.type "function"))
    (h : codeAny (model prog w) (A.under (.builtin "type.__call__" ⟨.ref C :: vs, kw⟩)) (.call (.ref f) ⟨.ref (s.heap.objs.size + 1) :: vs, kw⟩) (PySem.W.InitBack (s.heap.objs.size + 1) R)
      { s with heap := (s.heap.push PySem.W.emptyDict).push (PySem.W.instObj C s.heap.objs.size) }) :
    codeAny (model prog w) A (.call (.ref C) ⟨vs, kw⟩) R s := by
  obtain ⟨hh, g, d, t, os⟩ := s
  exact PySem.W.make_core (PySem.W.makes_of X hm) (PySem.W.looks_findIn X hi) (fun self => PySem.W.bind_fn X self hf) (.inl rfl) h
/-- C() where there is no __init__ but object's -/
theorem make_map0 {R : Result → Shared → Prop} (X : K.In s.heap) (hm : PySem.W.makesIn K C = true)
    (hi : PySem.W.findIn K (.ref C) "__init__" = some (some (.builtin "object.__init__")))
    (hb : ∀ self, PySem.W.Looks (model prog w) s.heap (bindSpecial (.builtin "object.__init__") self) (.builtin "object.__init__", [self]))
    (h : codeAny (model prog w) (A.under (.builtin "type.__call__" ⟨[.ref C], []⟩)) (.call (.builtin "object.__init__") ⟨[.ref (s.heap.objs.size + 1)], []⟩) (PySem.W.InitBack (s.heap.objs.size + 1) R)
      { s with heap := (s.heap.push PySem.W.emptyDict).push (PySem.W.instObj C s.heap.objs.size) }) :
    codeAny (model prog w) A (.call (.ref C) ⟨[], []⟩) R s := by
  obtain ⟨hh, g, d, t, os⟩ := s
  exact PySem.W.make_core (PySem.W.makes_of X hm) (PySem.W.looks_findIn X hi) hb (.inr ⟨rfl, rfl⟩) h
end

/-! ### the attributes as a list of pairs -/
def putF (f : Str) (v : V) : List (Str × V) → List (Str × V)
  | [] => [(f, v)]
  | (g, x) :: r => if g = f then (g, v) :: r else (g, x) :: putF f v r
theorem lookup_putF (f g : Str) (v : V) : ∀ fs : List (Str × V), (putF f v fs).lookup g = if g = f then some v else fs.lookup g
  | [] => by
    show List.lookup g [(f, v)] = _
    by_cases h : g = f
    · have hb : (g == f) = true := beq_iff_eq.mpr h
      simp only [List.lookup, hb, if_pos h]
    · have hb : (g == f) = false := beq_eq_false_iff_ne.mpr h
      simp only [List.lookup, hb, if_neg h]
  | (k, x) :: r => by
    have ih := lookup_putF f g v r
    rw [show putF f v ((k, x) :: r) = (if k = f then (k, v) :: r else (k, x) :: putF f v r) from rfl]
    by_cases hk : k = f
    · rw [if_pos hk]
      by_cases h : g = k
      · have hb : (g == k) = true := beq_iff_eq.mpr h
        simp only [List.lookup, hb, if_pos (h.trans hk)]
      · have hb : (g == k) = false := beq_eq_false_iff_ne.mpr h
        simp only [List.lookup, hb, if_neg (fun e : g = f => h (e.trans hk.symm))]
    · rw [if_neg hk]
      by_cases h : g = k
      · have hb : (g == k) = true := beq_iff_eq.mpr h
        simp only [List.lookup, hb, if_neg (fun e : g = f => hk (h.symm.trans e))]
      · have hb : (g == k) = false := beq_eq_false_iff_ne.mpr h
        simp only [List.lookup, hb]
        exact ih
theorem keys_putF (f : Str) (v : V) : ∀ fs : List (Str × V), f ∈ (putF f v fs).map (·.1) ∧ ∀ g, g ∈ fs.map (·.1) → g ∈ (putF f v fs).map (·.1)
  | [] => ⟨by simp [putF], fun g h => by simp at h⟩
  | (k, x) :: r => by
    obtain ⟨i1, i2⟩ := keys_putF f v r
    rw [show putF f v ((k, x) :: r) = (if k = f then (k, v) :: r else (k, x) :: putF f v r) from rfl]
    by_cases hk : k = f
    · rw [if_pos hk]
      subst hk
      exact ⟨by simp, fun g h => by simpa using h⟩
    · rw [if_neg hk]
      refine ⟨?_, fun g h => ?_⟩
      · rw [List.map_cons]
        exact List.mem_cons_of_mem _ i1
      · rw [List.map_cons] at h ⊢
        rcases List.mem_cons.mp h with e | e
        · exact List.mem_cons.mpr (.inl e)
        · exact List.mem_cons_of_mem _ (i2 g e)
theorem length_putF (f : Str) (v : V) : ∀ fs : List (Str × V), (putF f v fs).length ≤ fs.length + 1
  | [] => by simp [putF]
  | (k, x) :: r => by
    have ih := length_putF f v r
    rw [show putF f v ((k, x) :: r) = (if k = f then (k, v) :: r else (k, x) :: putF f v r) from rfl]
    by_cases hk : k = f
    · rw [if_pos hk, List.length_cons, List.length_cons]; omega
    · rw [if_neg hk, List.length_cons, List.length_cons]; omega

theorem RelO.some_of {v : V} {o : Option Value} (r : RelO (some v) o) : ∃ u, o = some u ∧ RelV v u := by
  cases o with
  | none => exact (show False from r).elim
  | some u => exact ⟨u, rfl, r⟩
theorem RelO.none_of {o : Option Value} (r : RelO none o) : o = none := by
  cases o with
  | none => rfl
  | some u => exact (show False from r).elim
theorem handed_of {v : V} {u : Value} (r : RelV v u) : PySem.W.handedIn u = true := by
  cases v with
  | non => cases (show u = Value.none from r); rfl
  | bl b => cases (show u = Value.bool b from r); rfl
  | int i => obtain ⟨t, e⟩ := (show ∃ t, u = Value.int i t from r); cases e; rfl
  | str x => obtain ⟨t, e⟩ := (show ∃ t, u = Value.str x t from r); cases e; rfl
  | byt b => obtain ⟨t, e⟩ := (show ∃ t, u = Value.bytes b t from r); cases e; rfl
  | flt b => obtain ⟨t, e⟩ := (show ∃ t, u = Value.float b t from r); cases e; rfl
  | ref a => cases (show u = Value.ref a from r); rfl
  | ty n => cases (show u = Value.type n from r); rfl

section
variable {P : Program} {w : World} {H H' : Hp} {h h' : Heap} {a C dx : Addr} {fs fs' : List (Str × V)}
theorem ins_get (hok : HOk P w H h) (e : H a = some (.ins C dx fs)) : ∃ mA, ObjM h a dx C mA ∧ (∀ f, RelO (fs.lookup f) (mA f)) ∧ PySem.Within mA (fs.map (·.1)) ∧ fs.length ≤ 1000 ∧ H dx = some (.own a) := by
  obtain ⟨d, z, ne, ob, mA, n, r, q⟩ := (show ObjOk P w H h a (.ins C dx fs) from hok a _ e)
  exact ⟨mA, ⟨ob, n, ne⟩, r, q, z, d⟩
end

/-! ### what of the text a class must have -/
structure Cls (K : PySem.W.Frag) (C : Addr) : Prop where
  pg : PySem.W.plainGet K C Str.empty = true
  hd : PySem.W.hasDictIn K C = true
  po : PySem.W.plainOver K C = true
  sa : PySem.W.findIn K (.ref C) "__setattr__" = some (some (.builtin "object.__setattr__"))
theorem Cls.get {K : PySem.W.Frag} {C : Addr} (c : Cls K C) (f : Str) : PySem.W.plainGet K C f = true := c.pg
/-- no class of it has the name -/
def NoAttr (K : PySem.W.Frag) (C : Addr) (f : Str) : Prop := PySem.W.findIn K (.ref C) f = some none
theorem NoAttr.taker {K : PySem.W.Frag} {C : Addr} {f : Str} (n : NoAttr K C f) : PySem.W.takerIn K C f = some none := by
  unfold PySem.W.takerIn
  rw [show PySem.W.findIn K (.ref C) f = some none from n]
  rfl
/-- a constant of the class -/
structure Con (K : PySem.W.Frag) (C : Addr) (f : Str) (v : V) (u : Value) : Prop where
  at_ : PySem.W.findIn K (.ref C) f = some (some u)
  rel : RelV v u
  get : PySem.W.specialIn K u "__get__" = some none
  cp : PySem.W.copiedNames.contains f = false
/-- a method: a plain def of the class or of one above it -/
structure Meth (K : PySem.W.Frag) (C : Addr) (m : Str) (f : Addr) : Prop where
  at_ : PySem.W.findIn K (.ref C) m = some (some (.ref f))
  fn : PySem.W.isFn K (.ref f) = true
  kp : PySem.W.keepIn K (.ref f) = true

section
variable {X : Cx} {pins : List (Addr × Obj)} {σ : St} {H : Hp} {s : Shared} {a C dx : Addr} {fs : List (Str × V)} {f : Str} {v : V} {A : Around} {E : Value → Shared → Prop}

theorem getattr_ok {b : Bool} {Q : Value → Shared → Prop} (I : Inv X pins σ H s) (e : H a = some (.ins C dx fs)) (c : Cls X.K C) (n : NoAttr X.K C f) (l : fs.lookup f = some v)
    (h : ∀ u s', Inv X pins σ H s' → RelV v u → Q u s') : wpAny (model X.prog X.w) A (getAttr (.ref a) f b) Q E s := by
  obtain ⟨mA, O, r, _, _, _⟩ := ins_get I.hok e
  obtain ⟨u, hu, ru⟩ := RelO.some_of (v := v) (o := mA f) (by rw [← l]; exact r f)
  exact get_map I.kIn O (c.get f) c.hd n hu (handed_of ru) (h u _ (I.tok _) ru)

theorem getcon_ok {b : Bool} {u : Value} {Q : Value → Shared → Prop} (I : Inv X pins σ H s) (e : H a = some (.ins C dx fs)) (c : Cls X.K C) (k : Con X.K C f v u) (l : fs.lookup f = none)
    (h : ∀ s', Inv X pins σ H s' → Q u s') : wpAny (model X.prog X.w) A (getAttr (.ref a) f b) Q E s := by
  obtain ⟨mA, O, r, _, _, _⟩ := ins_get I.hok e
  have hn : mA f = none := RelO.none_of (by rw [← l]; exact r f)
  exact get_const I.kIn O (c.get f) c.hd k.at_ k.get k.cp hn (handed_of k.rel) (h _ (I.tok _))

theorem getmeth_ok {m : Str} {g : Addr} {pl : Sem Bool} {Q : Value × List Value → Shared → Prop} (I : Inv X pins σ H s) (e : H a = some (.ins C dx fs)) (c : Cls X.K C) (k : Meth X.K C m g) (l : fs.lookup m = none)
    (h : Q (.ref g, [.ref a]) s) : wpAny (model X.prog X.w) A (getMethod (.ref a) m pl) Q E s := by
  obtain ⟨mA, O, r, _, _, _⟩ := ins_get I.hok e
  have hn : mA m = none := RelO.none_of (by rw [← l]; exact r m)
  exact get_meth I.kIn O (c.get m) k.at_ k.fn hn h

theorem setattr_ok {y : V} {u : Value} {Q : Unit → Shared → Prop} (I : Inv X pins σ H s) (e : H a = some (.ins C dx fs)) (c : Cls X.K C) (n : NoAttr X.K C f) (hl : fs.length < 1000) (ry : RelV y u)
    (h : ∀ s', Inv X pins σ (upd H a (.ins C dx (putF f y fs))) s' → Q () s') : wpAny (model X.prog X.w) A (setAttr (.ref a) f u) Q E s := by
  obtain ⟨mA, O, r, wi, _, ho⟩ := ins_get I.hok e
  have hz : (fs.map (·.1)).length ≤ sizeLine := by rw [List.length_map, sizeLine_eq]; omega
  refine set_map I.kIn O c.sa c.po n.taker c.hd wi hz fun h' O' sb => h _ ?_
  have hd : ∃ o, h'.get? dx = some o := let ⟨o, _, _, e', _⟩ := O'.ns; ⟨o, e'⟩
  refine I.write (x := a) (e := dx) (by rw [e]; exact True.intro) (.inr ho) (fun b q hb z => (sb.2 b hb).trans z) hd ?_
  refine ⟨by rw [upd_ne O.ne]; exact ho, ?_, O.ne, O'.obj, _, O'.ns, fun g => ?_, fun g hg => ?_⟩
  · have := length_putF f y fs; omega
  · show RelO ((putF f y fs).lookup g) (if g = f then some u else mA g)
    rw [lookup_putF]
    by_cases q : g = f
    · rw [if_pos q, if_pos q]; exact ry
    · rw [if_neg q, if_neg q]; exact r g
  · by_cases q : g = f
    · rw [q]; exact (keys_putF f y fs).1
    · refine (keys_putF f y fs).2 g (wi g fun z => hg ?_)
      show (if g = f then some u else mA g) = none
      rw [if_neg q]; exact z

/-- a new instance, tracked, without attributes -/
theorem Inv.made (I : Inv X pins σ H s) : Inv X pins σ (upd (upd H s.heap.objs.size (.own (s.heap.objs.size + 1))) (s.heap.objs.size + 1) (.ins C s.heap.objs.size []))
    { s with heap := (s.heap.push PySem.W.emptyDict).push (PySem.W.instObj C s.heap.objs.size) } := by
  have e1 : (s.heap.push PySem.W.emptyDict).get? s.heap.objs.size = some PySem.W.emptyDict := Heap.get?_push_size s.heap rfl
  have e2 : ((s.heap.push PySem.W.emptyDict).push (PySem.W.instObj C s.heap.objs.size)).get? (s.heap.objs.size + 1) = some (PySem.W.instObj C s.heap.objs.size) := by
    have := Heap.get?_push_size (s.heap.push PySem.W.emptyDict) (o := PySem.W.instObj C s.heap.objs.size) rfl
    rwa [Heap.size_push] at this
  have e3 : (s.heap.push PySem.W.emptyDict).Ns s.heap.objs.size (fun _ => none) := ⟨PySem.W.emptyDict, #[], _, e1, rfl, (fun e he => absurd he (by simp)), fun _ => rfl⟩
  have I1 := I.laid (a := s.heap.objs.size) (o := .own (s.heap.objs.size + 1)) (h' := s.heap.push PySem.W.emptyDict) (t' := s.toks) (fun b u q => Heap.get?_push_of_some _ q) (Nat.le_refl _) ⟨_, e1⟩
  refine I1.laid (a := s.heap.objs.size + 1) (o := .ins C s.heap.objs.size []) (t' := s.toks) (fun b u q => Heap.get?_push_of_some _ q) (Nat.le_of_eq (Heap.size_push _ _)) ?_
  have ne : s.heap.objs.size ≠ s.heap.objs.size + 1 := Nat.ne_of_lt (Nat.lt_succ_self _)
  refine ⟨by rw [upd_ne ne, upd_same], Nat.zero_le _, ne, e2, fun _ => none, (Heap.Ns1.of_empty e3).at fun o q => Heap.get?_push_of_some _ q, fun _ => True.intro, fun y hy => absurd rfl hy⟩

/-- e.f where nothing but the object is asked: through attributeBase (super) and the last hold -/
theorem attr_of {prog : Program} {w : World} {env : Env} {e : Expr} {f : Str} {pos : Pos} {s : Shared} {Q : Value → Shared → Prop} (hb : attributeBase e f env (eval e env) = eval e env)
    (h : wpAny (model prog w) A (eval e env) (fun o s₁ => wpAny (model prog w) A (getAttr o f true) Q E s₁) E s) : wpAny (model prog w) A (eval (.Attribute e f pos) env) Q E s :=
  Attribute_any_ h (by rw [arm_eval_Attribute, hb])
end

/-! ### readings and rules -/
/-- e.f, an attribute of the instance -/
def tFld (K : PySem.W.Frag) (ta : TE) (f : Str) : TE := fun σ H Q => ta σ H fun x H1 => ∃ a C dx fs v, x = .ref a ∧ H1 a = some (.ins C dx fs) ∧ Cls K C ∧ NoAttr K C f ∧ fs.lookup f = some v ∧ Q v H1
/-- e.f, a constant of the class -/
def tCon (K : PySem.W.Frag) (ta : TE) (f : Str) : TE := fun σ H Q => ta σ H fun x H1 => ∃ a C dx fs v u, x = .ref a ∧ H1 a = some (.ins C dx fs) ∧ Cls K C ∧ Con K C f v u ∧ fs.lookup f = none ∧ Q v H1
/-- e.f = value -/
def sFld (K : PySem.W.Frag) (ta tv : TE) (f : Str) : TS := fun D σ H => tv σ H fun y H1 => ta σ H1 fun x H2 => ∃ a C dx fs, x = .ref a ∧ H2 a = some (.ins C dx fs) ∧ Cls K C ∧ NoAttr K C f ∧ fs.length < 1000 ∧
  D.nx σ (upd H2 a (.ins C dx (putF f y fs)))
/-- an augmented operator on two values -/
def InOp (X : Cx) (op : Operator) (rd : V → V → Hp → VK → Prop) : Prop :=
  ∀ (pins : List (Addr × Obj)) (s : Shared) (σ : St) (H : Hp) (x y : V) (u v : Value) (Q : VK), Inv X pins σ H s → RelV x u → RelV y v → rd x y H Q → wpAny (model X.prog X.w) X.A (inplaceOp op u v) (EP X pins σ Q) X.xe s
/-- e.f op= value -/
def sFldAug (K : PySem.W.Frag) (ta tv : TE) (rd : V → V → Hp → VK → Prop) (f : Str) : TS := fun D σ H => ta σ H fun x H1 => ∃ a C dx fs v, x = .ref a ∧ H1 a = some (.ins C dx fs) ∧ Cls K C ∧ NoAttr K C f ∧ fs.lookup f = some v ∧
  tv σ H1 fun y H2 => rd v y H2 fun z H3 => ∃ dx' fs', H3 a = some (.ins C dx' fs') ∧ fs'.length < 1000 ∧ D.nx σ (upd H3 a (.ins C dx' (putF f z fs')))

section
variable {X : Cx} {o e value : Expr} {f : Str} {pos pos' tpos : Pos} {ta tv : TE}
theorem pe_fld (he : PE X e ta) (hb : attributeBase e f X.env (eval e X.env) = eval e X.env) : PE X (.Attribute e f pos) (tFld X.K ta f) := by
  intro pins s σ H Q I h
  refine attr_of hb (thn (he pins s σ H _ I h) fun u s1 ⟨x, H1, I1, rx, a, C, dx, fs, v, ex, ea, c, n, l, q⟩ => ?_)
  subst ex
  obtain rfl : u = Value.ref a := rx
  exact getattr_ok I1 ea c n l fun u' s2 I2 ru => ⟨v, H1, I2, ru, q⟩
theorem pe_con (he : PE X e ta) (hb : attributeBase e f X.env (eval e X.env) = eval e X.env) : PE X (.Attribute e f pos) (tCon X.K ta f) := by
  intro pins s σ H Q I h
  refine attr_of hb (thn (he pins s σ H _ I h) fun u s1 ⟨x, H1, I1, rx, a, C, dx, fs, v, u0, ex, ea, c, k, l, q⟩ => ?_)
  subst ex
  obtain rfl : u = Value.ref a := rx
  exact getcon_ok I1 ea c k l fun s2 I2 => ⟨v, H1, I2, k.rel, q⟩
theorem ps_fld (ha : PE X o ta) (hv : PE X value tv) (hs : swapsWith value (some (.Attribute o f pos')) pos.line X.env = pure false) : PS X (.Assign [.Attribute o f pos'] value pos) (sFld X.K ta tv f) := by
  intro pins s σ H D I h
  refine plainObj_wpAny_Assign_Attribute (thn (hv pins s σ H _ I h) fun u s1 ⟨y, H1, I1, ry, q⟩ => thn (ha pins s1 σ H1 _ I1 q) fun ov s2 ⟨x, H2, I2, rx, a, C, dx, fs, ex, ea, c, n, l, q2⟩ => ?_) hs
  subst ex
  obtain rfl : ov = Value.ref a := rx
  exact setattr_ok I2 ea c n l ry fun s3 I3 => ⟨σ, _, I3, q2⟩
theorem ps_fldaug {op : Operator} {rd : V → V → Hp → VK → Prop} (ha : PE X o ta) (hv : PE X value tv) (hop : InOp X op rd) : PS X (.AugAssign (.Attribute o f tpos) op value pos) (sFldAug X.K ta tv rd f) := by
  intro pins s σ H D I h
  refine wpAny_AugAssign_AttributeAny (thn (ha pins s σ H _ I h) fun ov s1 ⟨x, H1, I1, rx, a, C, dx, fs, v, ex, ea, c, n, l, q⟩ => ?_)
  subst ex
  obtain rfl : ov = Value.ref a := rx
  refine getattr_ok I1 ea c n l fun u s2 I2 ru => thn (hv pins s2 σ H1 _ I2 q) fun w3 s3 ⟨y, H2, I3, ry, q3⟩ => thn (hop pins s3 σ H2 v y u w3 _ I3 ru ry q3) fun w4 s4 ⟨z, H3, I4, rz, dx', fs', ea', l', q4⟩ => ?_
  exact setattr_ok I4 ea' c n l' rz fun s5 I5 => ⟨σ, _, I5, q4⟩
def rAdd : V → V → Hp → VK → Prop := fun x y H Q => ∃ i j, x = .int i ∧ y = .int j ∧ Q (.int (i + j)) H
def rSub : V → V → Hp → VK → Prop := fun x y H Q => ∃ i j, x = .int i ∧ y = .int j ∧ Q (.int (i - j)) H
theorem in_add : InOp X .Add rAdd := by
  rintro pins s σ H x y u v Q I rx ry ⟨i, j, rfl, rfl, q⟩
  obtain ⟨t, rfl⟩ := (show ∃ t, u = Value.int i t from rx)
  obtain ⟨t', rfl⟩ := (show ∃ t', v = Value.int j t' from ry)
  exact PyProof.Rows.iadd_int ⟨.int (i + j), H, I.tok _, ⟨_, rfl⟩, q⟩
theorem in_sub : InOp X .Sub rSub := by
  rintro pins s σ H x y u v Q I rx ry ⟨i, j, rfl, rfl, q⟩
  obtain ⟨t, rfl⟩ := (show ∃ t, u = Value.int i t from rx)
  obtain ⟨t', rfl⟩ := (show ∃ t', v = Value.int j t' from ry)
  exact PyProof.Rows.isub_int ⟨.int (i - j), H, I.tok _, ⟨_, rfl⟩, q⟩

/-- what is between an instance and its method: the tree of a method call -/
theorem methcall_of {pl : Sem Bool} {m : Str} {apos : Pos} {args : List Expr} {pins : List (Addr × Obj)} {s : Shared} {σ : St} {H : Hp} {Q : Value → Shared → Prop} {te : TE} (he : PE X e te) (I : Inv X pins σ H s)
    (h : te σ H fun x H1 => ∃ a C dx fs g, x = .ref a ∧ H1 a = some (.ins C dx fs) ∧ Cls X.K C ∧ Meth X.K C m g ∧ fs.lookup m = none ∧
      ∀ s1, Inv X pins σ H1 s1 → wpAny (model X.prog X.w) X.A (callWith pos (.ref g) [.ref a] (backTo pos (starEach args X.env)) (backToKw pos (keywordEach [] X.env))) Q X.xe s1)
    (ht : eval (.Call (.Attribute e m apos) args [] pos) X.env = (do
      let ov ← eval e X.env
      standAt apos.atName
      let (f, first) ← holding [ov] (getMethod ov m pl)
      callWith pos f first (backTo pos (starEach args X.env)) (backToKw pos (keywordEach [] X.env)))) :
    wpAny (model X.prog X.w) X.A (eval (.Call (.Attribute e m apos) args [] pos) X.env) Q X.xe s := by
  refine PySem.W.methodCall_KW (pl := pl) (thn (he pins s σ H _ I h) fun u s1 ⟨x, H1, I1, rx, a, C, dx, fs, g, ex, ea, c, k, l, q⟩ => ?_) ht
  subst ex
  obtain rfl : u = Value.ref a := rx
  exact getmeth_ok I1 ea c k l (q s1 I1)
end

/-! ### isinstance -/
section
variable {X : Cx} {pins : List (Addr × Obj)} {σ : St} {H : Hp} {s : Shared} {A : Around} {E : Value → Shared → Prop} {Q : Value → Shared → Prop} {c : Value} {b : Bool}
/-- the type of a value, as the fragment's deciders take it; for an instance its class -/
inductive TyOf (K : PySem.W.Frag) (H : Hp) : V → Value → Prop where
  | non : TyOf K H .non (.type "NoneType")
  | bl (x : Bool) : TyOf K H (.bl x) (.type "bool")
  | int (i : Int) : TyOf K H (.int i) (.type "int")
  | str (x : Str) : TyOf K H (.str x) (.type "str")
  | flt (x : UInt64) : TyOf K H (.flt x) (.type "float")
  | lst {a : Addr} {xs : List V} (e : H a = some (.lst xs)) : TyOf K H (.ref a) (.type "list")
  | frz {a : Addr} {o : Obj} {xs : List V} (e : H a = some (.frz o (.lst xs))) : TyOf K H (.ref a) (.type "list")
  | tup {a : Addr} {xs : List V} (e : H a = some (.tup xs)) : TyOf K H (.ref a) (.type "tuple")
  | dK {a : Addr} {kvs : List (Key × V)} (e : H a = some (.dK kvs)) : TyOf K H (.ref a) (.type "dict")
  | dT {a : Addr} {kvs : List (List Key × V)} (e : H a = some (.dT kvs)) : TyOf K H (.ref a) (.type "dict")
  | ins {a C dx : Addr} {fs : List (Str × V)} (e : H a = some (.ins C dx fs)) (cl : Cls K C) (ha : PySem.W.findIn K (.ref C) "__class__" = some (some (.builtin "object.__class__")))
      (hn : PySem.W.specialIn K (.builtin "object.__class__") "__get__" = some (some (.builtin "getset_descriptor.__get__"))) (htk : PySem.W.takesIn K (.builtin "object.__class__") = some true)
      (hm : PySem.W.mroIn K C (.type "object") = some true) : TyOf K H (.ref a) (.ref C)
/-- isinstance(x, c) for one class c, a built-in or an own one: kitOne's answer -/
theorem isinst_ok {x : V} {u t : Value} (I : Inv X pins σ H s) (rx : RelV x u) (ty : TyOf X.K H x t) (e : PySem.W.kitOne X.K t c = some b) (h : ∀ tk, Q (.bool b) { s with toks := tk }) :
    wpAny (model X.prog X.w) A (call (.builtin "isinstance") [u, c]) Q E s := by
  cases ty with
  | non => cases (show u = Value.none from rx); exact PySem.W.kia_one PySem.W.kitx_none I.kIn True.intro e (fun z => nomatch z) h
  | bl y => cases (show u = Value.bool y from rx); exact PySem.W.kia_one PySem.W.kitx_bool I.kIn True.intro e (fun z => nomatch z) h
  | int i => obtain ⟨t, q⟩ := (show ∃ t, u = Value.int i t from rx); cases q; exact PySem.W.kia_one PySem.W.kitx_int I.kIn True.intro e (fun z => nomatch z) h
  | str y => obtain ⟨t, q⟩ := (show ∃ t, u = Value.str y t from rx); cases q; exact PySem.W.kia_one PySem.W.kitx_str I.kIn True.intro e (fun z => nomatch z) h
  | flt y => obtain ⟨t, q⟩ := (show ∃ t, u = Value.float y t from rx); cases q; exact PySem.W.kia_one PySem.W.kitx_float I.kIn True.intro e (fun z => nomatch z) h
  | @lst a xs ea =>
    cases (show u = Value.ref a from rx)
    obtain ⟨_, _, n, _, h1⟩ := (show ObjOk X.prog X.w H s.heap a (.lst xs) from I.hok a _ ea)
    exact PySem.W.kia_one PySem.W.kitx_list I.kIn ⟨_, h1, rfl⟩ e (fun z => nomatch z) h
  | @frz a ob xs ea =>
    cases (show u = Value.ref a from rx)
    obtain ⟨_, _, _, n, _, h1⟩ := (show ObjOk X.prog X.w H s.heap a (.frz ob (.lst xs)) from I.hok a _ ea)
    exact PySem.W.kia_one PySem.W.kitx_list I.kIn ⟨_, h1, rfl⟩ e (fun z => nomatch z) h
  | @tup a xs ea =>
    cases (show u = Value.ref a from rx)
    obtain ⟨_, _, _, p⟩ := (show ObjOk X.prog X.w H s.heap a (.tup xs) from I.hok a _ ea)
    obtain ⟨o, h1, h2, _⟩ := p
    exact PySem.W.kia_one PySem.W.kitx_tuple I.kIn ⟨o, h1, h2⟩ e (fun z => nomatch z) h
  | @dK a kvs ea =>
    cases (show u = Value.ref a from rx)
    obtain ⟨_, _, vs, _, p⟩ := (show ObjOk X.prog X.w H s.heap a (.dK kvs) from I.hok a _ ea)
    obtain ⟨o, es, ep, h1, h2, _⟩ := p
    exact PySem.W.kia_one PySem.W.kitx_dict I.kIn ⟨o, h1, h2.1⟩ e (fun z => nomatch z) h
  | @dT a kvs ea =>
    cases (show u = Value.ref a from rx)
    obtain ⟨_, _, xs, _, o, es, ep, h1, h2, _⟩ := (show ObjOk X.prog X.w H s.heap a (.dT kvs) from I.hok a _ ea)
    exact PySem.W.kia_one PySem.W.kitx_dict I.kIn ⟨o, h1, h2.1⟩ e (fun z => nomatch z) h
  | @ins a C dx fs ea cl ha hn htk hm =>
    cases (show u = Value.ref a from rx)
    obtain ⟨mA, O, _⟩ := ins_get I.hok ea
    obtain ⟨od, J, _⟩ := O.look
    exact PySem.W.kia_one (PySem.W.kitx_own (cl.get _) cl.hd ha hn htk hm) I.kIn J e (fun z => nomatch z) h
end
end L2

namespace L2
open PySem PySem.Spec PyProof.Rows

/-! ### room -/
structure Room (k : Nat) (A : Around) : Prop where
  hd : A.handled = none
  dp : A.depth + 3 * k + 5 < recursionLimit
  un : A.units + 16 * k + 200 < cLine
theorem Room.mono {j k : Nat} {A : Around} (r : Room k A) (h : j ≤ k) : Room j A := ⟨r.hd, by have := r.dp; omega, by have := r.un; omega⟩
theorem Room.deeper {k : Nat} {A : Around} (r : Room (k + 1) A) (env : Env) : Room k (A.deeper env) :=
  ⟨r.hd, by have := r.dp; show A.depth + 1 + 3 * k + 5 < _; omega, by have := r.un; show A.units + 3 + 16 * k + 200 < _; omega⟩
theorem Room.in1 {k : Nat} {A : Around} (r : Room (k + 1) A) : Room k A.in1 :=
  ⟨r.hd, by have := r.dp; show A.depth + 3 * k + 5 < _; omega, by have := r.un; show A.units + 1 + 16 * k + 200 < _; omega⟩
theorem make_depth {A : Around} {C : Addr} {us : List Value} {kw : List (Str × Value)} : (A.under (.builtin "type.__call__" ⟨.ref C :: us, kw⟩)).depth = A.depth + 1 := by
  first | rfl | simp [Around.under, Code.weight, Code.isCreation, Code.isGuard, Code.isCaller, Code.frames, Code.isFrame, guardIds]
theorem make_units {A : Around} {C : Addr} {us : List Value} {kw : List (Str × Value)} : (A.under (.builtin "type.__call__" ⟨.ref C :: us, kw⟩)).units = A.units + 1 := by
  first | rfl | simp [Around.under, Code.cUnits, Code.frames, Code.isFrame]
theorem Room.make {k : Nat} {A : Around} (r : Room (k + 1) A) (C : Addr) (us : List Value) (kw : List (Str × Value)) : Room k (A.under (.builtin "type.__call__" ⟨.ref C :: us, kw⟩)) :=
  ⟨r.hd, by have := r.dp; rw [make_depth]; omega, by have := r.un; rw [make_units]; omega⟩
theorem Room.depth {k : Nat} {A : Around} (r : Room k A) : A.depth < recursionLimit := by have := r.dp; omega
theorem Room.units {k : Nat} {A : Around} (r : Room k A) : A.units + 64 < cLine := by have := r.un; omega
theorem Room.units0 {k : Nat} {A : Around} (r : Room k A) : A.units < cLine := by have := r.un; omega

/-! ### argument lists and displays -/
def tNil : TA := fun _ H Q => Q [] H
def tCons (ta : TE) (tr : TA) : TA := fun σ H Q => ta σ H fun x H1 => tr σ H1 fun xs H2 => Q (x :: xs) H2
section
variable {X : Cx} {e : Expr} {es : List Expr} {te : TE} {t : TA} {pos : Pos}
theorem pa_nil : PA X [] tNil := fun _ _ _ _ H Q I h => Calls.spliced_nil ⟨[], H, I, .nil, h⟩
theorem pa_cons (ha : PE X e te) (hr : PA X es t) (hs : starEach (e :: es) X.env = (false, eval e X.env) :: starEach es X.env := by rfl) : PA X (e :: es) (tCons te t) := by
  intro pos pins s σ H Q I h
  rw [hs]
  show wpAny _ _ (spliced ((false, eval e X.env) :: backTo pos (starEach es X.env))) _ _ s
  refine Calls.spliced_cons (thn (ha pins s σ H _ I h) fun u s1 ⟨x, H1, I1, r1, q1⟩ => ?_)
  exact thn (hr pos pins s1 σ H1 _ I1 q1) fun us s2 ⟨xs, H2, I2, r2, q2⟩ => ⟨x :: xs, H2, I2, .cons r1 r2, q2⟩

/-- a tuple, a list of written items -/
def tTup (t : TA) : TE := fun σ H Q => t σ H fun xs H1 => xs.length ≤ sizeLine ∧ ∀ p, H1 p = none → Q (.ref p) (upd H1 p (.tup xs))
def tLst (t : TA) : TE := fun σ H Q => t σ H fun xs H1 => xs.length ≤ sizeLine ∧ ∀ p, H1 p = none → Q (.ref p) (upd H1 p (.lst xs))
theorem pe_tup {x1} (h : PA X es t) : PE X (.Tuple es x1 pos) (tTup t) := by
  intro pins s σ H Q I hq
  refine wpAny_Tuple_spliced (thn (h pos pins s σ H _ I hq) fun us s1 ⟨xs, H1, I1, r, z, q⟩ => ⟨by rw [← r.length]; exact z, ?_⟩)
  have hf : H1 s1.heap.objs.size = none := I1.hok.fresh (Nat.le_refl _)
  refine ⟨.ref s1.heap.objs.size, upd H1 s1.heap.objs.size (.tup xs), I1.laid (t' := s1.toks) (fun b u e => Heap.get?_push_of_some _ e) (Nat.le_refl _) ?_, rfl, q _ hf⟩
  exact ⟨z, us, r, ⟨_, Heap.get?_push_size _ rfl, rfl, _, rfl⟩⟩
theorem pe_lst (h : PA X es t) : PE X (.List es pos) (tLst t) := by
  intro pins s σ H Q I hq
  refine wpAny_List_spliced (thn (h pos pins s σ H _ I hq) fun us s1 ⟨xs, H1, I1, r, z, q⟩ => ⟨by rw [← r.length]; exact z, ?_⟩)
  have hf : H1 s1.heap.objs.size = none := I1.hok.fresh (Nat.le_refl _)
  refine ⟨.ref s1.heap.objs.size, upd H1 s1.heap.objs.size (.lst xs), I1.laid (t' := s1.toks) (fun b u e => Heap.get?_push_of_some _ e) (Nat.le_refl _) ?_, rfl, q _ hf⟩
  exact ⟨z, us, 0, r, Heap.get?_push_size _ rfl⟩
end

/-! ### what a def promises -/
/-- a def's promise: the bound arguments in the parameters' order, the heap, the wanted end, the wanted exception -/
abbrev Sp := List V → Hp → VK → XK → Prop
/-- how an exception lies behind a call (file 08 gives it): the callers' frames, abstract heap and state ahead of the call, the wish, the exception, the state -/
abbrev CXT := List Env → Hp → Shared → XK → Value → Shared → Prop

/-- the state at a call -/
structure Env0 (P : Program) (w : World) (K : PySem.W.Frag) (mg : Str → Option Value) (base : Heap) (A : Around) (outer : List Env) (s : Shared) (H : Hp) : Prop where
  frames : A.frames = some outer
  mod : Mod K mg base
  bs : ∀ b o, base.get? b = some o → s.heap.get? b = some o ∧ H b = none
  bsz : base.objs.size ≤ s.heap.objs.size
  funs : s.heap.FunFrames base outer
  frf : ∀ b ∈ frs outer, H b = none
  hok : HOk P w H s.heap
  bare : AllBare s.gens
/-- a call's end -/
def CE (outer : List Env) (P : Program) (w : World) (H : Hp) (s : Shared) (Q : VK) (u : Value) (s' : Shared) : Prop :=
  ∃ v H', s'.os = s.os ∧ AllBare s'.gens ∧ Un (frs outer) [] H H' s.heap s'.heap ∧ HOk P w H' s'.heap ∧ RelV v u ∧ Q v H'
def CR (CX : CXT) (outer : List Env) (P : Program) (w : World) (H : Hp) (s : Shared) (Q : VK) (E : XK) (r : Result) (s' : Shared) : Prop :=
  match r with
  | .ok (.ret u) => CE outer P w H s Q u s'
  | .ok _ => False
  | .error e => CX outer H s E e s'
structure FnOk (P : Program) (w : World) (K : PySem.W.Frag) (mg : Str → Option Value) (base : Heap) (CX : CXT) (k : Nat) (f : Addr) (fd : FuncData) (ps : List Str) (sp : Sp) : Prop where
  len : ∀ vs H Q E, sp vs H Q E → vs.length = ps.length
  run : ∀ (A : Around) (outer : List Env) (s : Shared) (H : Hp) (args : Args) (us : List Value) (vs : List V) (Q : VK) (E : XK), Room k A → Env0 P w K mg base A outer s H → BindsTo s fd args (ps.zip us) → Vals vs us → sp vs H Q E →
    codeAny (model P w) A (.call (.ref f) args) (CR CX outer P w H s Q E) s
theorem FnOk.mono {P : Program} {w : World} {K : PySem.W.Frag} {mg : Str → Option Value} {base : Heap} {CX : CXT} {j k : Nat} {f : Addr} {fd : FuncData} {ps : List Str} {sp : Sp} (F : FnOk P w K mg base CX j f fd ps sp) (h : j ≤ k) :
    FnOk P w K mg base CX k f fd ps sp := ⟨F.len, fun A outer s H args us vs Q E hr => F.run A outer s H args us vs Q E (hr.mono h)⟩
/-- a weaker promise -/
theorem FnOk.imp {P : Program} {w : World} {K : PySem.W.Frag} {mg : Str → Option Value} {base : Heap} {CX : CXT} {k : Nat} {f : Addr} {fd : FuncData} {ps : List Str} {sp sp' : Sp} (F : FnOk P w K mg base CX k f fd ps sp)
    (h : ∀ vs H Q E, sp' vs H Q E → sp vs H Q E) : FnOk P w K mg base CX k f fd ps sp' :=
  ⟨fun vs H Q E q => F.len vs H Q E (h _ _ _ _ q), fun A outer s H args us vs Q E hr he hb hv hs => F.run A outer s H args us vs Q E hr he hb hv (h _ _ _ _ hs)⟩

theorem Env0.make {P : Program} {w : World} {K : PySem.W.Frag} {mg : Str → Option Value} {base : Heap} {A : Around} {outer : List Env} {s : Shared} {H : Hp} (e : Env0 P w K mg base A outer s H) (C : Addr) (us : List Value) (kw : List (Str × Value)) :
    Env0 P w K mg base (A.under (.builtin "type.__call__" ⟨.ref C :: us, kw⟩)) outer s H := ⟨by first | exact e.frames | (simpa [Around.under, Code.envs, Code.isFrame, pushEnvs] using e.frames), e.mod, e.bs, e.bsz, e.funs, e.frf, e.hok, e.bare⟩
theorem Env0.in1 {P : Program} {w : World} {K : PySem.W.Frag} {mg : Str → Option Value} {base : Heap} {A : Around} {outer : List Env} {s : Shared} {H : Hp} (e : Env0 P w K mg base A outer s H) :
    Env0 P w K mg base A.in1 outer s H := ⟨e.frames, e.mod, e.bs, e.bsz, e.funs, e.frf, e.hok, e.bare⟩

section
variable {X : Cx} {pins : List (Addr × Obj)} {σ : St} {H : Hp} {s s' : Shared}
/-- from a body: what a callee wants -/
theorem Inv.env0 (I : Inv X pins σ H s) : Env0 X.prog X.w X.K X.mg X.base X.A X.stack s H :=
  ⟨I.ok.frames, I.ok.mod, I.bs, Nat.le_trans I.ok.bsz I.sz, I.stack, I.stkFree, I.hok, I.bare⟩
/-- behind a call -/
theorem Inv.after {Q : VK} {u : Value} (I : Inv X pins σ H s) (h : CE X.stack X.prog X.w H s Q u s') : EP X pins σ Q u s' := by
  obtain ⟨v, H', os, bare, un, hok, r, q⟩ := h
  obtain ⟨hh, g, d, t, os'⟩ := s'
  obtain rfl : os' = s.os := os
  exact ⟨v, H', I.call (h' := hh) (g' := g) (d' := d) (t' := t) (ch := []) un hok bare (fun b z => absurd z (by simp)), r, q⟩
end

/-! ### calls -/
/-- f(..): the written arguments, then the defaults dvs; E: what is wanted of an exception -/
def tCall (sp : Sp) (dvs : List V) (E : XK) (t : TA) : TE := fun σ H Q => t σ H fun vs H1 => sp (vs ++ dvs) H1 Q E
/-- o.m(..) of an instance of the class at C -/
def tMeth (C : Addr) (m : Str) (sp : Sp) (dvs : List V) (E : XK) (ta : TE) (t : TA) : TE := fun σ H Q => ta σ H fun x H1 => ∃ a dx fs, x = .ref a ∧ H1 a = some (.ins C dx fs) ∧ fs.lookup m = none ∧
  t σ H1 fun vs H2 => sp (x :: (vs ++ dvs)) H2 Q E
/-- C(..): a new instance and its dict, then __init__ -/
def tMake (C : Addr) (sp : Sp) (dvs : List V) (E : XK) (t : TA) : TE := fun σ H Q => t σ H fun vs H1 => ∀ x dx, H1 x = none → H1 dx = none → dx ≠ x →
  sp (.ref x :: (vs ++ dvs)) (upd (upd H1 dx (.own x)) x (.ins C dx [])) (fun v H2 => v = .non ∧ Q (.ref x) H2) E

/-- how the parameters are bound: us the positional arguments, kw the keywords' values by name, ds the defaults that fill up -/
def Binds (K : PySem.W.Frag) (fd : FuncData) (ps : List Str) (ds : List Value) : Prop :=
  ∀ (s : Shared) (us : List Value), K.In s.heap → (us ++ ds).length = ps.length → BindsTo s fd ⟨us, []⟩ (ps.zip (us ++ ds))
/-- every parameter is given -/
theorem Binds.all {K : PySem.W.Frag} {fd : FuncData} {ps : List Str} (h : ∀ us : List Value, us.length = ps.length → bindArgs fd ⟨us, []⟩ = pure (ps.zip us)) : Binds K fd ps [] := fun s us _ hl => by
  rw [List.append_nil] at hl ⊢
  exact .of_eq (h us hl)

/-- an exception of a callee reaches what this body wants of exceptions -/
def Passes (CX : CXT) (X : Cx) (E : XK) : Prop := ∀ (pins : List (Addr × Obj)) (σ : St) (H : Hp) (s : Shared) (e : Value) (s' : Shared), Inv X pins σ H s → CX X.stack H s E e s' → X.xe e s'

section
variable {X : Cx} {CX : CXT} {k : Nat} {f C : Addr} {fd : FuncData} {ps : List Str} {sp : Sp} {dvs : List V} {ds : List Value} {E : XK} {x m : Str} {p pos apos : Pos} {e o : Expr} {es : List Expr} {ta : TE} {t : TA}

/-- the callee runs -/
theorem run_fn {pins : List (Addr × Obj)} {σ : St} {H : Hp} {s : Shared} {Q : VK} {us : List Value} {vs : List V} (F : FnOk X.prog X.w X.K X.mg X.base CX k f fd ps sp) (hr : Room k X.A) (hb : Binds X.K fd ps ds) (hd : Vals dvs ds) (hx : Passes CX X E)
    (I : Inv X pins σ H s) (r : Vals vs us) (h : sp (vs ++ dvs) H Q E) : wpAny (model X.prog X.w) X.A (call (.ref f) us) (EP X pins σ Q) X.xe s := by
  have r2 : Vals (vs ++ dvs) (us ++ ds) := r.append hd
  have hl : (us ++ ds).length = ps.length := by rw [← r2.length]; exact F.len _ _ _ _ h
  refine wpAny_call (codeAny_mono (F.run X.A X.stack s H ⟨us, []⟩ (us ++ ds) (vs ++ dvs) Q E hr I.env0 (hb s us I.kIn hl) r2 h) fun r s' hq => ?_)
  cases r with
  | error e => exact hx pins σ H s e s' I hq
  | ok fl =>
    cases fl with
    | ret u => exact I.after hq
    | next => exact False.elim hq
    | brk => exact False.elim hq
    | cont => exact False.elim hq

theorem pe_call (F : FnOk X.prog X.w X.K X.mg X.base CX k f fd ps sp) (hr : Room k X.A) (hg : Gl X x) (hm : X.mg x = some (.ref f)) (hk : PySem.W.keepIn X.K (.ref f) = true) (hb : Binds X.K fd ps ds) (hd : Vals dvs ds) (hx : Passes CX X E)
    (ha : PA X (e :: es) t) (hdb : (x == ("__debug__" : Str)) = false := by decide) (he : starEach (e :: es) X.env = (false, eval e X.env) :: starEach es X.env := by rfl) (hpl : (backTo pos (starEach es X.env)).any (·.1) = false := by rfl) :
    PE X (.Call (.Name x p) (e :: es) [] pos) (tCall sp dvs E t) := by
  intro pins s σ H Q I h
  refine wpAny_Call_Name_kw (ld_glob I hg hm ?_ hdb)
  refine PySem.W.callWith_K (h₀ := X.base) I.ok.mod.kin hk (thn (ha pos pins s σ H _ I h) fun us s1 ⟨vs, H1, I1, r, q⟩ => ⟨I1.kIn, ?_⟩) he hpl
  exact run_fn F hr hb hd hx I1 r q
theorem pe_call0 (F : FnOk X.prog X.w X.K X.mg X.base CX k f fd ps sp) (hr : Room k X.A) (hg : Gl X x) (hm : X.mg x = some (.ref f)) (hk : PySem.W.keepIn X.K (.ref f) = true) (hb : Binds X.K fd ps ds) (hd : Vals dvs ds) (hx : Passes CX X E)
    (hdb : (x == ("__debug__" : Str)) = false := by decide) : PE X (.Call (.Name x p) [] [] pos) (tCall sp dvs E tNil) := by
  intro pins s σ H Q I h
  refine wpAny_Call_Name_kw (ld_glob I hg hm ?_ hdb)
  exact PySem.W.callWith_K0 I.kIn hk (run_fn (us := []) F hr hb hd hx I .nil h)

/-- o.m(e, ..) -/
theorem pe_meth {pl : Sem Bool} (he : PE X o ta) (c : Cls X.K C) (hm : Meth X.K C m f) (F : FnOk X.prog X.w X.K X.mg X.base CX k f fd ps sp) (hr : Room k X.A) (hb : Binds X.K fd ps ds) (hd : Vals dvs ds) (hx : Passes CX X E) (ha : PA X (e :: es) t)
    (hst : starEach (e :: es) X.env = (false, eval e X.env) :: starEach es X.env := by rfl) (hpl : (backTo pos (starEach es X.env)).any (·.1) = false := by rfl)
    (ht : eval (.Call (.Attribute o m apos) (e :: es) [] pos) X.env = (do
      let ov ← eval o X.env
      standAt apos.atName
      let (f, first) ← holding [ov] (getMethod ov m pl)
      callWith pos f first (backTo pos (starEach (e :: es) X.env)) (backToKw pos (keywordEach [] X.env))) := by rfl) :
    PE X (.Call (.Attribute o m apos) (e :: es) [] pos) (tMeth C m sp dvs E ta t) := by
  intro pins s σ H Q I h
  refine PySem.W.methodCall_KW (pl := pl) (thn (he pins s σ H _ I h) fun u s1 ⟨x, H1, I1, rx, a, dx, fs, ex, ea, l, q⟩ => ?_) ht
  subst ex
  obtain rfl : u = Value.ref a := rx
  refine getmeth_ok I1 ea c hm l ?_
  refine PySem.W.callWith_K (first := [.ref a]) (h₀ := X.base) I.ok.mod.kin hm.kp (thn (ha pos pins s1 σ H1 _ I1 q) fun us s2 ⟨vs, H2, I2, r, q2⟩ => ⟨I2.kIn, ?_⟩) hst hpl
  exact run_fn (us := .ref a :: us) (vs := .ref a :: vs) F hr hb hd hx I2 (.cons rfl r) q2
/-- o.m() -/
theorem pe_meth0 {pl : Sem Bool} (he : PE X o ta) (c : Cls X.K C) (hm : Meth X.K C m f) (F : FnOk X.prog X.w X.K X.mg X.base CX k f fd ps sp) (hr : Room k X.A) (hb : Binds X.K fd ps ds) (hd : Vals dvs ds) (hx : Passes CX X E)
    (ht : eval (.Call (.Attribute o m apos) [] [] pos) X.env = (do
      let ov ← eval o X.env
      standAt apos.atName
      let (f, first) ← holding [ov] (getMethod ov m pl)
      callWith pos f first (backTo pos (starEach [] X.env)) (backToKw pos (keywordEach [] X.env))) := by rfl) :
    PE X (.Call (.Attribute o m apos) [] [] pos) (tMeth C m sp dvs E ta tNil) := by
  intro pins s σ H Q I h
  refine PySem.W.methodCall_KW (pl := pl) (thn (he pins s σ H _ I h) fun u s1 ⟨x, H1, I1, rx, a, dx, fs, ex, ea, l, q⟩ => ?_) ht
  subst ex
  obtain rfl : u = Value.ref a := rx
  refine getmeth_ok I1 ea c hm l ?_
  exact PySem.W.callWith_K0 (first := [.ref a]) I1.kIn hm.kp (run_fn (us := [.ref a]) (vs := [.ref a]) F hr hb hd hx I1 (.cons rfl .nil) q)

/-- what a class must have to be made -/
structure Mk (K : PySem.W.Frag) (C f : Addr) : Prop where
  makes : PySem.W.makesIn K C = true
  init : PySem.W.findIn K (.ref C) "__init__" = some (some (.ref f))
  fn : PySem.W.isFn K (.ref f) = true
  kp : PySem.W.keepIn K (.ref C) = true

theorem run_make {pins : List (Addr × Obj)} {σ : St} {H : Hp} {s : Shared} {Q : VK} {us : List Value} {vs : List V} (M : Mk X.K C f) (F : FnOk X.prog X.w X.K X.mg X.base CX k f fd ps sp) (hr : Room (k + 1) X.A) (hb : Binds X.K fd ps ds) (hd : Vals dvs ds)
    (hx : Passes CX X E) (I : Inv X pins σ H s) (r : Vals vs us)
    (h : ∀ x dx, H x = none → H dx = none → dx ≠ x → sp (.ref x :: (vs ++ dvs)) (upd (upd H dx (.own x)) x (.ins C dx [])) (fun v H2 => v = .non ∧ Q (.ref x) H2) E) :
    wpAny (model X.prog X.w) X.A (call (.ref C) us) (EP X pins σ Q) X.xe s := by
  have hq := h (s.heap.objs.size + 1) s.heap.objs.size (I.hok.fresh (Nat.le_succ _)) (I.hok.fresh (Nat.le_refl _)) (Nat.ne_of_lt (Nat.lt_succ_self _))
  have I2 := Inv.made (C := C) I
  have r2 : Vals (V.ref (s.heap.objs.size + 1) :: (vs ++ dvs)) (Value.ref (s.heap.objs.size + 1) :: (us ++ ds)) := .cons rfl (r.append hd)
  have hl : (Value.ref (s.heap.objs.size + 1) :: us ++ ds).length = ps.length := by
    have e := r2.length
    rw [F.len _ _ _ _ hq] at e
    exact e.symm
  refine wpAny_call (make_map (f := f) I.kIn M.makes M.init (beq_iff_eq.mp M.fn) (codeAny_mono (F.run _ X.stack _ _ ⟨Value.ref (s.heap.objs.size + 1) :: us, []⟩ (Value.ref (s.heap.objs.size + 1) :: (us ++ ds)) _ _ E (hr.make C us [])
    (I2.env0.make C us []) (hb _ (Value.ref (s.heap.objs.size + 1) :: us) I2.kIn hl) r2 hq) fun r s' hq' => ?_))
  cases r with
  | error e => exact hx pins σ _ _ e s' I2 hq'
  | ok fl =>
    cases fl with
    | ret u =>
      obtain ⟨v, H', I3, rv, ev, q3⟩ := I2.after hq'
      subst ev
      exact ⟨rv, ⟨V.ref (s.heap.objs.size + 1), H', I3, rfl, q3⟩⟩
    | next => exact False.elim hq'
    | brk => exact False.elim hq'
    | cont => exact False.elim hq'
theorem pe_make (M : Mk X.K C f) (F : FnOk X.prog X.w X.K X.mg X.base CX k f fd ps sp) (hr : Room (k + 1) X.A) (hg : Gl X x) (hm : X.mg x = some (.ref C)) (hb : Binds X.K fd ps ds) (hd : Vals dvs ds) (hx : Passes CX X E)
    (ha : PA X (e :: es) t) (hdb : (x == ("__debug__" : Str)) = false := by decide) (he : starEach (e :: es) X.env = (false, eval e X.env) :: starEach es X.env := by rfl) (hpl : (backTo pos (starEach es X.env)).any (·.1) = false := by rfl) :
    PE X (.Call (.Name x p) (e :: es) [] pos) (tMake C sp dvs E t) := by
  intro pins s σ H Q I h
  refine wpAny_Call_Name_kw (ld_glob I hg hm ?_ hdb)
  refine PySem.W.callWith_K (h₀ := X.base) I.ok.mod.kin M.kp (thn (ha pos pins s σ H _ I h) fun us s1 ⟨vs, H1, I1, r, q⟩ => ⟨I1.kIn, ?_⟩) he hpl
  exact run_make M F hr hb hd hx I1 r q
theorem pe_make0 (M : Mk X.K C f) (F : FnOk X.prog X.w X.K X.mg X.base CX k f fd ps sp) (hr : Room (k + 1) X.A) (hg : Gl X x) (hm : X.mg x = some (.ref C)) (hb : Binds X.K fd ps ds) (hd : Vals dvs ds) (hx : Passes CX X E)
    (hdb : (x == ("__debug__" : Str)) = false := by decide) : PE X (.Call (.Name x p) [] [] pos) (tMake C sp dvs E tNil) := by
  intro pins s σ H Q I h
  refine wpAny_Call_Name_kw (ld_glob I hg hm ?_ hdb)
  exact PySem.W.callWith_K0 I.kIn M.kp (run_make (us := []) M F hr hb hd hx I .nil h)
end

/-! ### keywords -/
/-- the values of the keywords, from the left -/
def PK (X : Cx) (kws : List Keyword) (t : TA) : Prop :=
  ∀ (pos : Pos) (pins : List (Addr × Obj)) (s : Shared) (σ : St) (H : Hp) (Q : List V → Hp → Prop), Inv X pins σ H s → t σ H Q → wpAny (model X.prog X.w) X.A (evalAll ((backToKw pos (keywordEach kws X.env)).map (·.2))) (AP X pins σ Q) X.xe s
section
variable {X : Cx} {CX : CXT} {k : Nat} {f C : Addr} {fd : FuncData} {ps ks : List Str} {sp : Sp} {E : XK} {x m : Str} {p pos apos kpos : Pos} {e o : Expr} {es : List Expr} {kws : List Keyword} {te ta : TE} {t tk : TA} {nm : Option Str}
theorem pk_nil : PK X [] tNil := fun _ _ _ _ H Q I h => wpAny_evalAll_nil ⟨[], H, I, .nil, h⟩
theorem pk_cons (ha : PE X e te) (hr : PK X kws t) : PK X (⟨nm, e, kpos⟩ :: kws) (tCons te t) := by
  intro pos pins s σ H Q I h
  show wpAny _ _ (evalAll ((do let v ← eval e X.env; standAt pos; pure v) :: (backToKw pos (keywordEach kws X.env)).map (·.2))) _ _ s
  refine wpAny_evalAll_cons (wpAny_bind (thn (ha pins s σ H _ I h) fun u s1 ⟨x, H1, I1, r1, q1⟩ => wpAny_bind (wpAny_standAt (wpAny_pure ?_))))
  exact thn (hr pos pins s1 σ H1 _ I1 q1) fun us s2 ⟨xs, H2, I2, r2, q2⟩ => ⟨x :: xs, H2, I2, .cons r1 r2, q2⟩

/-- how a call with keywords binds: g puts the positional values us and the keywords' values ws (names ks) in the parameters' order, defaults among them -/
structure KBinds (K : PySem.W.Frag) (fd : FuncData) (ps ks : List Str) (g : List Value → List Value → List Value) (gV : List V → List V → List V) : Prop where
  to : ∀ (s : Shared) (us ws : List Value), K.In s.heap → (g us ws).length = ps.length → BindsTo s fd ⟨us, ks.zip ws⟩ (ps.zip (g us ws))
  rel : ∀ {vs : List V} {us : List Value} {zs : List V} {ws : List Value}, Vals vs us → Vals zs ws → Vals (gV vs zs) (g us ws)
def tCallK (sp : Sp) (gV : List V → List V → List V) (E : XK) (t tk : TA) : TE := fun σ H Q => t σ H fun vs H1 => tk σ H1 fun zs H2 => sp (gV vs zs) H2 Q E
variable {g : List Value → List Value → List Value} {gV : List V → List V → List V}
theorem run_fnk {pins : List (Addr × Obj)} {σ : St} {H : Hp} {s : Shared} {Q : VK} {us ws : List Value} {vs zs : List V} (F : FnOk X.prog X.w X.K X.mg X.base CX k f fd ps sp) (hr : Room k X.A) (hb : KBinds X.K fd ps ks g gV) (hx : Passes CX X E)
    (I : Inv X pins σ H s) (r : Vals vs us) (rz : Vals zs ws) (h : sp (gV vs zs) H Q E) : wpAny (model X.prog X.w) X.A (call (.ref f) us (ks.zip ws)) (EP X pins σ Q) X.xe s := by
  have r2 := hb.rel r rz
  have hl : (g us ws).length = ps.length := by rw [← r2.length]; exact F.len _ _ _ _ h
  refine wpAny_call (codeAny_mono (F.run X.A X.stack s H ⟨us, ks.zip ws⟩ (g us ws) (gV vs zs) Q E hr I.env0 (hb.to s us ws I.kIn hl) r2 h) fun r s' hq => ?_)
  cases r with
  | error e => exact hx pins σ H s e s' I hq
  | ok fl =>
    cases fl with
    | ret u => exact I.after hq
    | next => exact False.elim hq
    | brk => exact False.elim hq
    | cont => exact False.elim hq
/-- f(e, .., k = v, ..) -/
theorem pe_callK (F : FnOk X.prog X.w X.K X.mg X.base CX k f fd ps sp) (hr : Room k X.A) (hg : Gl X x) (hm : X.mg x = some (.ref f)) (hk : PySem.W.keepIn X.K (.ref f) = true) (hb : KBinds X.K fd ps ks g gV) (hx : Passes CX X E)
    (ha : PA X (e :: es) t) (hkw : PK X kws tk) (hall : (backToKw pos (keywordEach kws X.env)).all (·.1.isSome) = true := by rfl) (hks : (backToKw pos (keywordEach kws X.env)).filterMap (·.1) = ks := by rfl)
    (hdb : (x == ("__debug__" : Str)) = false := by decide) (he : starEach (e :: es) X.env = (false, eval e X.env) :: starEach es X.env := by rfl)
    (hpl : ((backTo pos (starEach (e :: es) X.env)).any (·.1) || (backToKw pos (keywordEach kws X.env)).any (·.1.isNone)) = false := by rfl) :
    PE X (.Call (.Name x p) (e :: es) kws pos) (tCallK sp gV E t tk) := by
  intro pins s σ H Q I h
  refine wpAny_Call_Name_kw (ld_glob I hg hm ?_ hdb)
  refine PySem.W.callWith_KW (h₀ := X.base) I.ok.mod.kin hk hall (thn (ha pos pins s σ H _ I h) fun us s1 ⟨vs, H1, I1, r, q⟩ => ?_) hpl he
  refine thn (hkw pos pins s1 σ H1 _ I1 q) fun ws s2 ⟨zs, H2, I2, rz, q2⟩ => ⟨I2.kIn, ?_⟩
  rw [hks]
  exact run_fnk F hr hb hx I2 r rz q2
end

/-! ### a def's body keeps its promise -/
/-- names: the parameters first -/
structure FnScope (N P : List Str) (sc : Scope) : Prop where
  kind : sc.kind = .function
  co : sc.isCoroutine = false
  gen : sc.isGenerator = false
  nd : N.Nodup
  pre : N.take P.length = P
  par : ∀ x ∈ P, sc.names.lookup x = some .local ∨ sc.names.lookup x = some .cell
  nofree : ∀ y ∈ sc.names, y.2 ≠ .free

theorem bindL_out {kindOf : Str → Option NameKind} {x : Str} : ∀ {binds : List (Str × Value)} {m : Str → Option Value}, (∀ v, (x, v) ∉ binds) → bindL kindOf binds m x = m x
  | [], _, _ => rfl
  | (n, v) :: r, m, h => by
    unfold bindL
    rw [bindL_out fun w hw => h w (List.mem_cons_of_mem _ hw)]
    split
    · have : x ≠ n := by rintro rfl; exact h v List.mem_cons_self
      simp [this]
    · rfl
theorem bindC_out {kindOf : Str → Option NameKind} {x : Str} : ∀ {binds : List (Str × Value)} {m : Str → Option Value}, (∀ v, (x, v) ∉ binds) → bindC kindOf binds m x = m x
  | [], _, _ => rfl
  | (n, v) :: r, m, h => by
    unfold bindC
    rw [bindC_out fun w hw => h w (List.mem_cons_of_mem _ hw)]
    split
    · rfl
    · have : x ≠ n := by rintro rfl; exact h v List.mem_cons_self
      simp [this]
theorem bindL_get {kindOf : Str → Option NameKind} {x : Str} {v : Value} : ∀ {P : List Str} {vs : List Value} {i : Nat} {m : Str → Option Value}, P.Nodup → P[i]? = some x → vs[i]? = some v → kindOf x = some .local →
    bindL kindOf (P.zip vs) m x = some v
  | [], _, _, _, _, h, _, _ => by simp at h
  | _ :: _, [], _, _, _, _, h, _ => by simp at h
  | p :: P, w :: vs, 0, m, nd, h1, h2, hk => by
    simp at h1 h2; subst h1; subst h2
    show bindL kindOf ((p, w) :: P.zip vs) m p = _
    unfold bindL
    rw [bindL_out fun v hv => (List.nodup_cons.mp nd).1 (List.of_mem_zip hv).1, if_pos hk]
    simp
  | p :: P, w :: vs, i + 1, m, nd, h1, h2, hk => by
    show bindL kindOf ((p, w) :: P.zip vs) m x = _
    unfold bindL
    exact bindL_get (i := i) (List.nodup_cons.mp nd).2 (by simpa using h1) (by simpa using h2) hk
theorem bindC_get {kindOf : Str → Option NameKind} {x : Str} {v : Value} : ∀ {P : List Str} {vs : List Value} {i : Nat} {m : Str → Option Value}, P.Nodup → P[i]? = some x → vs[i]? = some v → kindOf x ≠ some .local →
    bindC kindOf (P.zip vs) m x = some v
  | [], _, _, _, _, h, _, _ => by simp at h
  | _ :: _, [], _, _, _, _, h, _ => by simp at h
  | p :: P, w :: vs, 0, m, nd, h1, h2, hk => by
    simp at h1 h2; subst h1; subst h2
    show bindC kindOf ((p, w) :: P.zip vs) m p = _
    unfold bindC
    rw [bindC_out fun v hv => (List.nodup_cons.mp nd).1 (List.of_mem_zip hv).1, if_neg hk]
    simp
  | p :: P, w :: vs, i + 1, m, nd, h1, h2, hk => by
    show bindC kindOf ((p, w) :: P.zip vs) m x = _
    unfold bindC
    exact bindC_get (i := i) (List.nodup_cons.mp nd).2 (by simpa using h1) (by simpa using h2) hk

/-- the names' values at the entry -/
def start (N : List Str) (vs : List V) : St := vs.map some ++ List.replicate (N.length - vs.length) none

/-- the context of a def's body, at its entry; an exception leaves the frame, then lies as CX says -/
def cxOf (CX : CXT) (P : Program) (w : World) (K : PySem.W.Frag) (mg : Str → Option Value) (base : Heap) (N : List Str) (qual : Str) (scope : Scope) (f : Addr) (cd : Value) (A : Around) (outer : List Env) (s : Shared) (H : Hp) (E : XK) : Cx where
  prog := P
  w := w
  K := K
  mg := mg
  base := base
  A := A.deeper (envOfC qual scope s.heap.objs.size f cd)
  N := N
  s₀ := s
  H₀ := H
  env := envOfC qual scope s.heap.objs.size f cd
  outer := outer
  stack := envOfC qual scope s.heap.objs.size f cd :: outer
  ex := []
  calm := true
  fn := fun _ => true
  pn := []
  xe := fun e s' => wpAny (model P w) (A.deeper (envOfC qual scope s.heap.objs.size f cd)) (leaving (envOfC qual scope s.heap.objs.size f cd) e) (fun _ s'' => CX outer H s E e s'') (fun e' s'' => CX outer H s E e' s'') s'

theorem cell_has {sc : Scope} {n : Nat} {x : Str} (h : sc.names.lookup x = some .cell) : ∃ c, (cellsFrom n sc.names []).lookup x = some c := by
  have q := PySem.W.cellsFrom_some sc.names n [] (.inl h)
  exact Option.isSome_iff_exists.mp q

theorem inv_start {CX : CXT} {P : Program} {w : World} {K : PySem.W.Frag} {mg : Str → Option Value} {base : Heap} {N ps : List Str} {qual : Str} {scope : Scope} {f : Addr} {cd : Value} {A : Around} {outer : List Env} {s s1 : Shared} {H : Hp} {E : XK} {us : List Value} {vs : List V}
    (S : FnScope N ps scope) (hd : A.handled = none) (e0 : Env0 P w K mg base A outer s H) (hl : vs.length = ps.length) (r : Vals vs us)
    (x : InCallC s s.heap.objs.size (bindL (envOfC qual scope s.heap.objs.size f cd).kindOf (ps.zip us) fun _ => none) (cellsFrom (s.heap.objs.size + 1) scope.names []) (bindC (envOfC qual scope s.heap.objs.size f cd).kindOf (ps.zip us) fun _ => none) s1) :
    Inv (cxOf CX P w K mg base N qual scope f cd A outer s H E) [] (start N vs) H s1 := by
  have hpl : ps.length ≤ N.length := by have := congrArg List.length S.pre; rw [List.length_take] at this; omega
  obtain ⟨h1, tk, rfl, hk⟩ := x.done
  have noA : ∀ b : Addr, b ∉ (cxOf CX P w K mg base N qual scope f cd A outer s H E).ex := fun b z => absurd (show b ∈ ([] : List Addr) from z) (by simp)
  refine ⟨⟨e0.mod, S.kind, rfl, rfl, Nat.le_refl _, fun y z c h1 h2 => ?_, fun y hy => ?_, fun y c _ h => ?_, fun _ => hd, Around.frames_deeper e0.frames, .inr ⟨rfl, rfl⟩, fun b z => absurd z (noA b), e0.bs, e0.bsz, fun b _ _ => noA b, fun b z => absurd z (noA b), e0.funs, e0.frf⟩,
    rfl, e0.bare, Un.kept hk, ⟨_, x.toInCall.ns, fun i y v h1 h2 h3 => ?_⟩, fun y c h => ⟨_, x.cell y c h⟩, e0.hok.fresh (Nat.le_refl _), fun y c h => ?_, fun p hp => absurd (show p ∈ ([] : List (Addr × Obj)) from hp) (by simp), e0.hok.kept hk, ?_⟩
  · exact name_of_addr x.apart (PySem.mem_of_lookup h1) (PySem.mem_of_lookup h2)
  · have hy : scope.names.lookup y = some .cell ∨ scope.names.lookup y = some .free := hy
    rcases hy with hy | hy
    · exact cell_has hy
    · exact absurd rfl (S.nofree _ (PySem.mem_of_lookup hy))
  · exact Nat.le_of_lt (x.above y c (PySem.mem_of_lookup h))
  · have hi : i < vs.length := by
      unfold start at h2
      by_cases hi : i < vs.length
      · exact hi
      · rw [List.getElem?_append_right (by simpa using hi)] at h2
        rw [List.getElem?_replicate] at h2
        split at h2 <;> cases h2
    have ha : vs[i]? = some v := by
      unfold start at h2
      rw [List.getElem?_append_left (by simpa using hi), List.getElem?_map] at h2
      cases e : vs[i]? with
      | none => rw [e] at h2; cases h2
      | some a => rw [e] at h2; cases h2; rfl
    obtain ⟨u, hu, rv⟩ := r.get ha
    have hp : ps[i]? = some y := by
      rw [← S.pre, List.getElem?_take_of_lt (by omega)]; exact h1
    have ndP : ps.Nodup := by rw [← S.pre]; exact S.nd.sublist (List.take_sublist _ _)
    refine ⟨u, rv, ?_⟩
    rcases S.par y (List.mem_of_getElem? hp) with k | k
    · exact .inl ⟨k, bindL_get ndP hp hu k⟩
    · obtain ⟨c, e⟩ := cell_has (n := s.heap.objs.size + 1) k
      refine .inr ⟨.inl k, c, e, ?_⟩
      have q := x.cell y c e
      rw [bindC_get ndP hp hu (by show scope.names.lookup y ≠ _; rw [k]; decide)] at q
      exact q
  · exact e0.hok.fresh (Nat.le_of_lt (x.above y c (PySem.mem_of_lookup h)))
  · unfold start
    show _ = N.length
    rw [List.length_append, List.length_map, List.length_replicate]
    omega

/-- THE RULE: a def (or a method) of the text, by its body. The body's reading t is chosen for each entry; it is run at the parameters' values -/
theorem fn_of {CX : CXT} {P : Program} {w : World} {K : PySem.W.Frag} {mg : Str → Option Value} {base : Heap} {k : Nat} {f : Addr} {name qual : Str} {params : Arguments} {body : List Stmt} {scope : Scope} {dV kV doc pm cdv ct oc : Value} {an od : Option Addr}
    {osl : Array (Option Value)} {N ps : List Str} {sp : Sp} (lk : K.lookup f = some ⟨oc, od, .func (PySem.W.fnOf name qual params body scope dV kV doc pm an cdv ct), osl⟩) (hcd : PySem.W.codeIn K cdv qual = true) (S : FnScope N ps scope)
    (len : ∀ vs H Q E, sp vs H Q E → vs.length = ps.length)
    (hbody : ∀ (A : Around) (outer : List Env) (s : Shared) (H : Hp) (vs : List V) (Q : VK) (E : XK), Room k (A.deeper (envOfC qual scope s.heap.objs.size f cdv)) → sp vs H Q E →
      ∃ t, PSs (cxOf CX P w K mg base N qual scope f cdv A outer s H E) body t ∧ t { nx := fun _ H' => Q .non H', rt := Q } (start N vs) H) :
    FnOk P w K mg base CX (k + 1) f (PySem.W.fnOf name qual params body scope dV kV doc pm an cdv ct) ps sp := by
  refine ⟨len, fun A outer s H args us vs Q E hr e0 hb r hsp => ?_⟩
  have hl := len _ _ _ _ hsp
  have KX : K.In s.heap := e0.mod.kin.keeps fun b o e => (e0.bs b o e).1
  have lim : s.heap.NoLimit := e0.mod.nolimit.keeps fun b o e => (e0.bs b o e).1
  have hkind : ∀ y ∈ ps.zip us, scope.names.lookup y.1 = some .local ∨ (scope.names.lookup y.1 = some .cell ∧ ((cellsFrom (s.heap.objs.size + 1) scope.names []).lookup y.1).isSome = true) := fun ⟨n, v⟩ hy => by
    rcases S.par n (List.of_mem_zip hy).1 with q | q
    · exact .inl q
    · exact .inr ⟨q, PySem.W.cellsFrom_some _ _ _ (.inl q)⟩
  refine codeAny_call_function hr.depth (KX _ _ lk) rfl S.co S.gen rfl (PySem.W.codeRec_of KX hcd) (hb _ _ _ _ ?_)
  refine wpAny_newFunctionEnv_cells S.kind hkind fun env he s1 x => ?_
  subst he
  refine ⟨lim.keeps x.toInCall.keep, codeAny_func ?_⟩
  obtain ⟨t, ht, hq⟩ := hbody A outer s H vs Q E (hr.deeper _) hsp
  have I : Inv (cxOf CX P w K mg base N qual scope f cdv A outer s H E) [] (start N vs) H s1 := inv_start S hr.hd e0 hl r x
  refine wpAny_mono (ht [] s1 (start N vs) H _ I hq) (fun fl s' hs => ?_) fun e s' hs => hs
  have fin : ∀ {σ' : St} {H' : Hp} {v : V} {u : Value}, Inv (cxOf CX P w K mg base N qual scope f cdv A outer s H E) [] σ' H' s' → RelV v u → Q v H' → CE outer P w H s Q u s' :=
    fun {σ' H' v u} J rv q => ⟨v, H', J.os, J.bare, J.base, J.hok, rv, q⟩
  cases fl with
  | ret u =>
    obtain ⟨v, σ', H', J, rv, q⟩ := hs
    exact fin J rv q
  | next =>
    obtain ⟨σ', H', J, q⟩ := hs
    exact fin (v := V.non) (u := Value.none) J rfl q
  | brk =>
    obtain ⟨_, _, _, q⟩ := hs
    exact False.elim q
  | cont =>
    obtain ⟨_, _, _, q⟩ := hs
    exact False.elim q
end L2

namespace L2
open PySem PySem.Spec PyProof.Rows
section
variable {X : Cx} {x : Str} {p pos : Pos} {e : Expr} {es : List Expr} {t : TA} {id T : String} {r : List V → Hp → VK → Prop}

def tCB (r : List V → Hp → VK → Prop) (t : TA) : TE := fun σ H Q => t σ H fun vs H1 => r vs H1 Q
/-- f(e, ..), f a built-in function -/
theorem pe_callB (hc : CallR X (.builtin id) r) (hg : Gl X x) (hm : X.mg x = none) (hv : bootBuiltins x = some (.builtin id)) (ha : PA X (e :: es) t) (hn : x ≠ "__name__" := by decide) (hdb : (x == ("__debug__" : Str)) = false := by decide)
    (he : starEach (e :: es) X.env = (false, eval e X.env) :: starEach es X.env := by rfl) (hpl : (backTo pos (starEach es X.env)).any (·.1) = false := by rfl) : PE X (.Call (.Name x p) (e :: es) [] pos) (tCB r t) := by
  intro pins s σ H Q I h
  refine wpAny_Call_Name_kw (ld_blt I hg hm hv ?_ hn hdb)
  exact PyProof.Rows.callWith_builtin1 (thn (ha pos pins s σ H _ I h) fun us s1 ⟨vs, H1, I1, r1, q1⟩ => hc pins s1 σ H1 vs us Q I1 r1 q1) he hpl
/-- T(e, ..), T a built-in type -/
theorem pe_callTy (hc : CallR X (.type T) r) (hg : Gl X x) (hm : X.mg x = none) (hv : bootBuiltins x = some (.type T)) (ha : PA X (e :: es) t) (hn : x ≠ "__name__" := by decide) (hdb : (x == ("__debug__" : Str)) = false := by decide)
    (he : starEach (e :: es) X.env = (false, eval e X.env) :: starEach es X.env := by rfl) (hpl : (backTo pos (starEach es X.env)).any (·.1) = false := by rfl) : PE X (.Call (.Name x p) (e :: es) [] pos) (tCB r t) := by
  intro pins s σ H Q I h
  refine wpAny_Call_Name_kw (ld_blt I hg hm hv ?_ hn hdb)
  exact PyProof.Rows.callWith_type1 (thn (ha pos pins s σ H _ I h) fun us s1 ⟨vs, H1, I1, r1, q1⟩ => hc pins s1 σ H1 vs us Q I1 r1 q1) he hpl
/-- T() -/
theorem pe_callTy0 (hc : CallR X (.type T) r) (hg : Gl X x) (hm : X.mg x = none) (hv : bootBuiltins x = some (.type T)) (hn : x ≠ "__name__" := by decide) (hdb : (x == ("__debug__" : Str)) = false := by decide) :
    PE X (.Call (.Name x p) [] [] pos) (tCB r tNil) := by
  intro pins s σ H Q I h
  refine wpAny_Call_Name_kw (ld_blt I hg hm hv ?_ hn hdb)
  exact PyProof.Rows.callWith_type0 (hc pins s σ H [] [] Q I .nil h)
end
end L2

namespace HT
open PySem PyProof.Rows

/-- t < u of tuples of ints -/
def lexLt : List Int → List Int → Bool
  | [], [] => false
  | [], _ :: _ => true
  | _ :: _, [] => false
  | x :: xs, y :: ys => if x = y then lexLt xs ys else decide (x < y)
theorem lexLt_cons (x y : Int) (xs ys : List Int) : lexLt (x :: xs) (y :: ys) = if x = y then lexLt xs ys else decide (x < y) := rfl
theorem lexLt_nil_nil : lexLt [] [] = false := rfl
theorem lexLt_nil_cons (y : Int) (ys : List Int) : lexLt [] (y :: ys) = true := rfl
theorem lexLt_cons_nil (x : Int) (xs : List Int) : lexLt (x :: xs) [] = false := rfl

theorem eqAt_int (A : Around) (s : Shared) (a : Int) (t : Tok) (c : Int) (u : Tok) : ∃ e, SeqAt.EqAt A s (.int a t) (.int c u) e ∧ (e = true ↔ a = c) :=
  ⟨(a == c), SeqAt.EqAt.int_int a t c u, by simp⟩
theorem rcLt_int (A : Around) (s : Shared) (a : Int) (t : Tok) (c : Int) (u : Tok) (prog : Program) (w : World) (E : Value → Shared → Prop) (Q : Value → Shared → Prop) (h : Q (.bool (decide (a < c))) s) :
    wpAny (model prog w) A (richCompare .Lt (.int a t) (.int c u)) Q E s :=
  (PyProof.Rows.lt_int h : wpAny (model prog w) A (compareOp .Lt (.int a t) (.int c u)) Q E s)

section
open PySem.SeqAt
open PySem.AutoSeq1 (wpAny_loadPart')
open PySem.MeetsSeq PySem.MeetsSeq2 PySem.MeetsSeq3

theorem tuple_lt_ints (l b : Addr) (items items2 : Array Value) (n n2 : Nat) (dd dd2 : Option Addr) (sl sl2 : Array (Option Value)) (ns ms : List Int) (hi : IntsAre items.toList ns) (hj : IntsAre items2.toList ms) :
    Meets (Builtin.«tuple.__lt__» ⟨[.ref l, .ref b], []⟩)
      (fun _ R s => s.heap.get? l = some { cls := .type "tuple", dict := dd, data := .seq items n, slots := sl } ∧ s.heap.get? b = some { cls := .type "tuple", dict := dd2, data := .seq items2 n2, slots := sl2 } ∧
        R (.ok (.ret (.bool (lexLt ns ms)))) s) :=
  .of_wp fun prog w A R s h => by
    obtain ⟨hp, g, d, tk, os⟩ := s; obtain ⟨hl, hb, h⟩ := h
    have f2 := AutoSeq1.sub_tuple_tuple
    have z1 : items.size = ns.length := by rw [← hi.length]; simp
    have z2 : items2.size = ms.length := by rw [← hj.length]; simp
    wp_walk using wpAny_loadPart' hl, wpAny_loadPart' hb, wpAny_forIn_list _ (fun rest b s' => b.1 = none ∧ s' = ⟨hp, g, d, tk, os⟩ ∧ ∃ (vs ws : List Value) (ns' ms' : List Int), rest = vs.zip ws ∧
      IntsAre vs ns' ∧ IntsAre ws ms' ∧ ns'.length + items2.size = ms'.length + items.size ∧ R (.ok (.ret (.bool (lexLt ns' ms')))) ⟨hp, g, d, tk, os⟩) _
    case turn =>
      rintro ⟨y, x⟩ rest b s' ⟨hb', rfl, vs, ws, ns', ms', hz, hvi, hwi, hlen, hR⟩
      cases hvi with
      | nil => rw [List.zip_nil_left] at hz; cases hz
      | cons a t hvi' =>
        cases hwi with
        | nil => rw [List.zip_nil_right] at hz; cases hz
        | cons c u hwi' =>
          rw [List.zip_cons_cons] at hz
          injection hz with hyx hrest
          injection hyx with hy hx
          subst hy hx
          rw [lexLt_cons] at hR
          simp only [List.length_cons] at hlen
          obtain ⟨e, he, hiff⟩ := eqAt_int A.in1 ⟨hp, g, d, tk, os⟩ a t c u
          refine wpAny_bind (he prog w _ _ ?_)
          cases e with
          | true =>
            rw [if_pos (hiff.mp rfl)] at hR
            wp_walk
            exact ⟨rfl, rfl, _, _, _, _, hrest, hvi', hwi', by omega, hR⟩
          | false =>
            rw [if_neg (fun q => absurd (hiff.mpr q) Bool.false_ne_true)] at hR
            have hri := rcLt_int A.in1 ⟨hp, g, d, tk, os⟩ a t c u prog w
            wp_walk using hri
            exact ⟨_, rfl, by simpa using hR⟩
    case fin =>
      rintro ⟨b1, b2⟩ s' ⟨hb', rfl, vs, ws, ns', ms', hz, hvi, hwi, hlen, hR⟩
      simp only at hb'
      subst hb'
      have hv : lexLt ns' ms' = decide (items.size < items2.size) := by
        cases hvi with
        | nil =>
          cases hwi with
          | nil =>
            simp only [List.length_nil] at hlen
            rw [lexLt_nil_nil]
            exact (decide_eq_false (by omega)).symm
          | cons c u hw =>
            simp only [List.length_nil, List.length_cons] at hlen
            rw [lexLt_nil_cons]
            exact (decide_eq_true (by omega)).symm
        | cons a t hv =>
          cases hwi with
          | nil =>
            simp only [List.length_nil, List.length_cons] at hlen
            rw [lexLt_cons_nil]
            exact (decide_eq_false (by omega)).symm
          | cons c u hw =>
            rw [List.zip_cons_cons] at hz
            cases hz
      rw [hv] at hR
      wp_walk
      exact ⟨_, rfl, by simpa [Builtin.Tuple.tupleCompareSizes] using hR⟩
    case h =>
      exact ⟨rfl, rfl, items.toList, items2.toList, ns, ms, rfl, hi, hj, by omega, h⟩
end

section
variable {prog : Program} {w : World} {A : Around} {E : Value → Shared → Prop} {s : Shared}

theorem lt_tupInts {l b : Addr} {items items2 : Array Value} {ns ms : List Int} {Q : Value → Shared → Prop} (hl : IsTup s.heap l items) (hb : IsTup s.heap b items2) (hi : IntsAre items.toList ns) (hj : IntsAre items2.toList ms)
    (hu : A.units < cLine) (h : Q (.bool (lexLt ns ms)) s) : wpAny (model prog w) A (compareOp .Lt (.ref l) (.ref b)) Q E s := by
  obtain ⟨⟨cls, dd, data, sl⟩, ho, hc, n, hd⟩ := id hl
  obtain ⟨⟨cls2, dd2, data2, sl2⟩, ho2, hc2, n2, hd2⟩ := id hb
  simp only at hc hd hc2 hd2
  subst hc hd hc2 hd2
  exact richCompare_meets_room (op := .Lt) ⟨_, ho, rfl⟩ ⟨_, ho2, rfl⟩ PySem.F.slot_tuple_lt PySem.F.entry_tuple_lt (PySem.F.args_tuple_lt_2 _ _) (tuple_lt_ints l b items items2 n n2 dd dd2 sl sl2 ns ms hi hj)
    ⟨ho, ho2, show Value.bool (lexLt ns ms) ≠ Value.notImplemented ∧ Q (.bool (lexLt ns ms)) s from ⟨(fun x => nomatch x), h⟩⟩ hu

/-- t + u, t not empty -/
theorem cat_tup {t b : Addr} {vs ws : List Value} {Q : Value → Shared → Prop} (ht : IsTup s.heap t vs.toArray) (hb : IsTup s.heap b ws.toArray) (hv : vs ≠ [])
    (h1 : ws = [] → Q (.ref t) s) (h2 : ws ≠ [] → Q (.ref s.heap.objs.size) { s with heap := s.heap.push { cls := .type "tuple", data := .seq (vs ++ ws).toArray } })
    (hsz : vs.length + ws.length ≤ sizeLine) : wpAny (model prog w) A (binaryOp .Add (.ref t) (.ref b)) Q E s := by
  obtain ⟨⟨cls, dd, data, sl⟩, ho, hc, n, hd⟩ := id ht
  obtain ⟨⟨cls2, dd2, data2, sl2⟩, ho2, hc2, n2, hd2⟩ := id hb
  simp only at hc hd hc2 hd2
  subst hc hd hc2 hd2
  have e : vs.toArray ++ ws.toArray = (vs ++ ws).toArray := by simp
  by_cases hw : ws = []
  · exact concat_meets ⟨_, ho, rfl⟩ ⟨_, ho2, rfl⟩ noFill_tuple_add seq_tuple_add PySem.F.slot_tuple_add PySem.F.entry_tuple_add (PySem.F.args_tuple_add_2 _ _)
      (tuple_addW1 t b vs.toArray ws.toArray n n2 dd dd2 sl sl2 (by simpa using hv) (by simp [hw])) ⟨ho, ho2, h1 hw⟩
  · refine concat_meets ⟨_, ho, rfl⟩ ⟨_, ho2, rfl⟩ noFill_tuple_add seq_tuple_add PySem.F.slot_tuple_add PySem.F.entry_tuple_add (PySem.F.args_tuple_add_2 _ _)
      (tuple_addW2 t b vs.toArray ws.toArray n n2 dd dd2 sl sl2 (by simpa using hv) (by simpa using hw) (by rw [List.size_toArray, List.size_toArray]; exact hsz)) ⟨ho, ho2, ?_⟩
    rw [e]
    exact h2 hw

/-! ### t[a:b], not the whole -/
/-- a slice's bound as a place among n (d where it is left out) -/
def sIx (n d : Nat) : Option Int → Nat
  | none => d
  | some v => if v < 0 then (v + (n : Int)).toNat else min v.toNat n
theorem sIx_none (n d : Nat) : sIx n d none = d := rfl
theorem sIx_nat (n d k : Nat) : sIx n d (some (k : Int)) = min k n := by
  show (if (k : Int) < 0 then ((k : Int) + (n : Int)).toNat else min (k : Int).toNat n) = min k n
  rw [if_neg (by omega), Int.toNat_natCast]
theorem sIx_le (n d : Nat) (hd : d ≤ n) (o : Option Int) : sIx n d o ≤ n := by
  cases o with
  | none => exact hd
  | some v =>
    show (if v < 0 then (v + (n : Int)).toNat else min v.toNat n) ≤ n
    by_cases hv : v < 0
    · rw [if_pos hv]; omega
    · rw [if_neg hv]; exact Nat.min_le_right _ _
theorem clip_eq (v : Int) (n d : Nat) : (if v < 0 then max (v + (n : Int)) 0 else min v (n : Int)) = ((sIx n d (some v) : Nat) : Int) := by
  show (if v < 0 then max (v + (n : Int)) 0 else min v (n : Int)) = (((if v < 0 then (v + (n : Int)).toNat else min v.toNat n) : Nat) : Int)
  by_cases hv : v < 0
  · simp only [if_pos hv]; omega
  · simp only [if_neg hv]; omega
theorem adjust_gen (lo hi : Option Int) (n : Nat) : Builtin.Slice.sliceAdjust lo hi 1 (n : Int) = (((sIx n 0 lo : Nat) : Int), ((sIx n n hi : Nat) : Int)) := by
  have h1 : ¬ ((1 : Int) < 0) := by omega
  unfold Builtin.Slice.sliceAdjust
  simp only [h1, if_false]
  refine Prod.ext ?_ ?_
  · cases lo with
    | none => rfl
    | some v => exact clip_eq v n 0
  · cases hi with
    | none => rfl
    | some v => exact clip_eq v n n
theorem places_gen (i j : Nat) : Builtin.Slice.slicePlaces (i : Int) (j : Int) 1 = j - i := by
  unfold Builtin.Slice.slicePlaces
  have h1 : (1 : Int) > 0 := by omega
  simp only [h1, if_true, Int.ediv_one]
  split <;> omega
theorem slicePart_ {v : Value} {o : Option Int} {Q : Option Int → Shared → Prop} (p : IsPart v o) (h : Q o s) : wpAny (model prog w) A (Builtin.Slice.slicePartIndex v) Q E s := by
  cases p with
  | none => exact slicePart_none h
  | int i t => exact slicePart_int h
theorem sliceApplied_gen {sl : Addr} {vl vu : Value} {lo hi : Option Int} {n : Nat} {Q : Int × Int × Nat → Shared → Prop} (hs : s.heap.IsSliceOf sl vl vu .none) (pl : IsPart vl lo) (pu : IsPart vu hi)
    (h : Q (((sIx n 0 lo : Nat) : Int), 1, sIx n n hi - sIx n 0 lo) s) : wpAny (model prog w) A (Builtin.Slice.sliceApplied (.ref sl) (pure (n : Int))) Q E s := by
  obtain ⟨os, hos, hcs, hds⟩ := id hs
  unfold Builtin.Slice.sliceApplied Builtin.Slice.sliceFields
  refine wpAny_bind (wpAny_bind (wpAny_field hos hds (x := vl) rfl (wpAny_bind (wpAny_field hos hds (x := vu) rfl (wpAny_bind (wpAny_field hos hds (x := .none) rfl (wpAny_pure ?_)))))))
  refine wpAny_bind (slicePart_none ?_)
  show wpAny _ _ (if ((1 : Int) == 0) = true then _ else _) _ _ s
  rw [if_neg (by decide)]
  refine wpAny_bind (slicePart_ pl (wpAny_bind (slicePart_ pu (wpAny_bind (wpAny_pure ?_)))))
  show wpAny _ _ (match Builtin.Slice.sliceAdjust lo hi 1 (n : Int) with | (lo, hi) => pure (lo, (1 : Int), Builtin.Slice.slicePlaces lo hi 1)) _ _ s
  rw [adjust_gen lo hi n]
  show wpAny _ _ (pure (((sIx n 0 lo : Nat) : Int), (1 : Int), Builtin.Slice.slicePlaces ((sIx n 0 lo : Nat) : Int) ((sIx n n hi : Nat) : Int) 1)) _ _ s
  rw [places_gen]
  exact wpAny_pure h
theorem pick_gen (xs : Array Value) (i k : Nat) : ((List.range k).filterMap fun (m : Nat) => xs[((i : Int) + (m : Int) * 1).toNat]?).toArray = ((xs.toList.drop i).take k).toArray := by
  have e : (fun (m : Nat) => xs[((i : Int) + (m : Int) * 1).toNat]?) = fun m => xs[i + m]? := by
    funext m
    have : ((i : Int) + (m : Int) * 1).toNat = i + m := by omega
    rw [this]
  rw [e]
  have := pick_run xs i k
  rw [List.filterMap_map] at this
  have e2 : ((fun x => xs[x]?) ∘ fun x => i + x) = fun m => xs[i + m]? := rfl
  rw [e2] at this
  rw [this]

theorem getItem_tuple_cut {t sl : Addr} {items : Array Value} {vl vu : Value} {lo hi : Option Int} {Q : Value → Shared → Prop} (ht : IsTup s.heap t items) (hs : s.heap.IsSliceOf sl vl vu .none) (pl : IsPart vl lo) (pu : IsPart vu hi)
    (hw : ¬ (sIx items.size 0 lo = 0 ∧ sIx items.size items.size hi = items.size))
    (h : Q (.ref s.heap.objs.size) { s with heap := s.heap.push { cls := .type "tuple", data := .seq ((items.toList.drop (sIx items.size 0 lo)).take (sIx items.size items.size hi - sIx items.size 0 lo)).toArray } })
    (hsz : items.size ≤ sizeLine) : wpAny (model prog w) A (getItem (.ref t) (.ref sl)) Q E s := by
  have htake : sizeOk (.seq ((items.toList.drop (sIx items.size 0 lo)).take (sIx items.size items.size hi - sIx items.size 0 lo)).toArray) := by
    show ((items.toList.drop (sIx items.size 0 lo)).take (sIx items.size items.size hi - sIx items.size 0 lo)).toArray.size ≤ sizeLine
    rw [List.size_toArray, List.length_take, List.length_drop, Array.length_toList]
    omega
  have hj : sIx items.size items.size hi ≤ items.size := sIx_le _ _ (Nat.le_refl _) hi
  obtain ⟨os, hos, hcs, hds⟩ := id hs
  have hTs : s.TypeIs (.ref sl) "slice" := ⟨os, hos, hcs⟩
  unfold getItem
  try with_reducible refine wpAny_holding ?_
  first | refine wpAny_bind (wpAny_pure ?_) | skip
  refine wpAny_bind (wpAny_sequenceKey ht.typeIs (by decide) ?_)
  refine wpAny_bind (wpAny_callSpecial?_slot (name := Str.ofString "__getitem__") ht.typeIs PyProof.Rows.slot_tuple_getitem
    (wpAny_call_entry PyProof.Rows.slot_tuple_getitem ht.typeIs entry_tuple_getitem ?_ (args_tuple_getitem _ _)))
  show wpAny _ _ (Builtin.Tuple.tupleItemsOf (.ref t) >>= _) _ _ s
  refine wpAny_bind (tupleItemsOf_ ht ?_)
  refine wpAny_bind (wpAny_typeOf hTs ?_)
  rw [if_pos (by decide)]
  refine wpAny_bind (sliceApplied_gen hs pl pu ?_)
  have hno : ¬ ((((sIx items.size 0 lo : Nat) : Int) == 0 && (1 : Int) == 1 && (sIx items.size items.size hi - sIx items.size 0 lo) == items.size) = true) := by
    intro q
    rw [Bool.and_eq_true, Bool.and_eq_true] at q
    have q1 : ((sIx items.size 0 lo : Nat) : Int) = 0 := eq_of_beq q.1.1
    have q2 : sIx items.size items.size hi - sIx items.size 0 lo = items.size := eq_of_beq q.2
    exact hw ⟨by omega, by omega⟩
  show wpAny _ _ (if (((sIx items.size 0 lo : Nat) : Int) == 0 && (1 : Int) == 1 && (sIx items.size items.size hi - sIx items.size 0 lo) == items.size) = true then _ else _) _ _ s
  rw [if_neg hno, pick_gen]
  first
    | exact wpAny_bind (m := Builtin.Tuple.tupleExact _) (wpAny_newObj_type (wpAny_pure ⟨_, rfl, wpAny_pure h⟩) htake)
    | exact wpAny_bind (m := Builtin.Tuple.tupleExact _) (wpAny_newObj_type (wpAny_bind (wpAny_pure (wpAny_pure ⟨_, rfl, wpAny_pure h⟩))) htake)
    | exact wpAny_bind (wpAny_bind (m := Builtin.Tuple.tupleExact _) (wpAny_newObj_type (wpAny_pure (wpAny_pure ⟨_, rfl, wpAny_pure h⟩)) htake))
    | exact wpAny_bind (wpAny_bind (m := Builtin.Tuple.tupleExact _) (wpAny_newObj_type (wpAny_pure ⟨_, rfl, wpAny_pure h⟩) htake))
end
end HT

namespace L2
open PySem PySem.Spec PyProof.Rows

/-! ### the parts of a slice -/
abbrev TO := St → Hp → (Option Int → Hp → Prop) → Prop
/-- a slice's part (left out, or an int) -/
def PO (X : Cx) (e : Option Expr) (t : TO) : Prop :=
  ∀ (pins : List (Addr × Obj)) (s : Shared) (σ : St) (H : Hp) (Q : Option Int → Hp → Prop), Inv X pins σ H s → t σ H Q →
    wpAny (model X.prog X.w) X.A (evalPart e X.env) (fun u s' => ∃ o H', Inv X pins σ H' s' ∧ IsPart u o ∧ Q o H') X.xe s
def tNoPart : TO := fun _ H Q => Q none H
def tPart (t : TE) : TO := fun σ H Q => t σ H fun x H1 => ∃ i, x = .int i ∧ Q (some i) H1

theorem intsAre_of {ns : List Int} : ∀ {us : List Value}, Vals (ns.map V.int) us → IntsAre us ns := by
  induction ns with
  | nil => intro us r; rw [List.map_nil] at r; cases r; exact .nil
  | cons n ns ih =>
    intro us r
    rw [List.map_cons] at r
    cases r with
    | cons r1 r2 =>
      obtain ⟨t, e⟩ := r1
      subst e
      exact .cons n t (ih r2)

section
variable {X : Cx} {e : Expr} {te : TE} {lo hi : Option Expr} {tl th : TO} {pos p2 : Pos}

theorem po_none : PO X none tNoPart := by
  intro pins s σ H Q I h
  rw [evalPart_none]
  exact wpAny_pure ⟨none, H, I, .none, h⟩
theorem po_some (h : PE X e te) : PO X (some e) (tPart te) := by
  intro pins s σ H Q I hw
  rw [evalPart_some]
  refine thn (h pins s σ H _ I hw) fun u s1 ⟨x, H1, I1, r1, q1⟩ => ?_
  obtain ⟨i, rfl, q⟩ := q1
  obtain ⟨t, rfl⟩ := r1
  exact ⟨some i, H1, I1, .int i t, q⟩

/-- what a slice of a value is, by values: the slice object stands at sl -/
def SlR (X : Cx) (r : V → Option Int → Option Int → Hp → VK → Prop) : Prop :=
  ∀ (pins : List (Addr × Obj)) (s : Shared) (σ : St) (H : Hp) (x : V) (v vl vu : Value) (lo hi : Option Int) (sl : Addr) (Q : VK), Inv X pins σ H s → RelV x v → s.heap.IsSliceOf sl vl vu .none → IsPart vl lo → IsPart vu hi → r x lo hi H Q →
    ∃ T id, typeLookup (.type T) "__getitem__" = pure (some (.builtin id)) ∧ s.TypeIs v T ∧ wpAny (model X.prog X.w) X.A (getItem v (.ref sl)) (EP X pins σ Q) X.xe s
theorem SlR.or {r r' : V → Option Int → Option Int → Hp → VK → Prop} (h : SlR X r) (h' : SlR X r') : SlR X (fun x lo hi H Q => r x lo hi H Q ∨ r' x lo hi H Q) := by
  intro pins s σ H x v vl vu lo hi sl Q I rx hs pl pu q
  rcases q with q | q
  · exact h pins s σ H x v vl vu lo hi sl Q I rx hs pl pu q
  · exact h' pins s σ H x v vl vu lo hi sl Q I rx hs pl pu q
def tSl (r : V → Option Int → Option Int → Hp → VK → Prop) (te : TE) (tl th : TO) : TE := fun σ H Q => te σ H fun x H1 => tl σ H1 fun l H2 => th σ H2 fun u H3 => r x l u H3 Q
/-- a[lo:hi], any a -/
theorem pe_slice {r : V → Option Int → Option Int → Hp → VK → Prop} (hr : SlR X r) (he : PE X e te) (hl : PO X lo tl) (hu : PO X hi th) : PE X (.Subscript e (.Slice lo hi none p2) pos) (tSl r te tl th) := by
  intro pins s σ H Q I h
  refine Subscript_ (thn (he pins s σ H _ I h) fun v s1 ⟨x, H1, I1, r1, q1⟩ => ?_)
  refine wpAny_Slice (thn (hl pins s1 σ H1 _ I1 q1) fun vl s2 ⟨l, H2, I2, pl, q2⟩ => thn (hu pins s2 σ H2 _ I2 q2) fun vu s3 ⟨u, H3, I3, pu, q3⟩ => ?_)
  rw [evalPart_none]
  refine wpAny_pure ?_
  have I4 : Inv X pins σ H3 { s3 with heap := s3.heap.push { cls := .type "slice", data := .fields #[vl, vu, .none] } } := I3.kept (t' := s3.toks) fun b ob q => Heap.get?_push_of_some _ q
  obtain ⟨T, id, hT, ht, hg⟩ := hr pins { s3 with heap := s3.heap.push { cls := .type "slice", data := .fields #[vl, vu, .none] } } σ H3 x v vl vu l u s3.heap.objs.size Q I4 r1 (Heap.IsSliceOf.new ..) pl pu q3
  show wpAny (model X.prog X.w) X.A (subscriptTail e (.Slice lo hi none p2) v (.ref s3.heap.objs.size)) (EP X pins σ Q) X.xe { s3 with heap := s3.heap.push { cls := .type "slice", data := .fields #[vl, vu, .none] } }
  exact tail_any (ops := [.ref s3.heap.objs.size, v]) ht hT hg (by with_unfolding_all rfl)

/-- the items of xs[lo:hi] -/
def cutV (xs : List V) (lo hi : Option Int) : List V := (xs.drop (HT.sIx xs.length 0 lo)).take (HT.sIx xs.length xs.length hi - HT.sIx xs.length 0 lo)
theorem cutV_length (xs : List V) (lo hi : Option Int) : (cutV xs lo hi).length ≤ xs.length := by
  unfold cutV
  rw [List.length_take, List.length_drop]
  omega
/-- t[lo:hi], not the whole of it (the whole would be t itself) -/
def rSlT (K : PySem.W.Frag) : V → Option Int → Option Int → Hp → VK → Prop := fun x lo hi H Q => ∃ a xs, x = .ref a ∧ SqT K H a xs ∧
  ¬ (HT.sIx xs.length 0 lo = 0 ∧ HT.sIx xs.length xs.length hi = xs.length) ∧ ∀ p, H p = none → Q (.ref p) (upd H p (.tup (cutV xs lo hi)))
theorem sl_tup : SlR X (rSlT X.K) := by
  intro pins s σ H x v vl vu lo hi sl Q I rx hs pl pu h
  obtain ⟨a, xs, rfl, hx, hw, q⟩ := h
  cases rx
  obtain ⟨its, r, ht, hz⟩ := I.tuple hx
  have hlen : its.toArray.size = xs.length := by rw [List.size_toArray]; exact r.length.symm
  refine ⟨"tuple", _, PyProof.Rows.slot_tuple_getitem.lookup, ht.typeIs, ?_⟩
  refine HT.getItem_tuple_cut ht hs pl pu (by rw [hlen]; exact hw) ?_ (by rw [hlen]; exact hz)
  rw [hlen]
  refine ⟨.ref s.heap.objs.size, _, I.laid (t' := s.toks) (o := .tup (cutV xs lo hi)) (fun b ob q => Heap.get?_push_of_some _ q) (Nat.le_refl _) ?_, rfl, q _ (I.hok.fresh (Nat.le_refl _))⟩
  exact ⟨Nat.le_trans (cutV_length xs lo hi) hz, _, (r.drop (HT.sIx xs.length 0 lo)).take (HT.sIx xs.length xs.length hi - HT.sIx xs.length 0 lo), IsTup.new _ _⟩

/-! ### t < u, t + u -/
def rLtT (K : PySem.W.Frag) : R2 := fun x y H Q => ∃ a b ns ms, x = .ref a ∧ y = .ref b ∧ SqT K H a (ns.map V.int) ∧ SqT K H b (ms.map V.int) ∧ Q (.bl (HT.lexLt ns ms)) H
theorem op_ltT (hu : X.A.units < cLine) : OpR X (compareOp .Lt) (rLtT X.K) := by
  intro pins s σ H x y v u Q I rx ry h
  obtain ⟨a, b, ns, ms, rfl, rfl, ha, hb, q⟩ := h
  cases rx
  cases ry
  obtain ⟨its, r1, p1, _⟩ := I.tuple ha
  obtain ⟨its2, r2, p2, _⟩ := I.tuple hb
  have i1 : IntsAre its.toArray.toList ns := intsAre_of r1
  have i2 : IntsAre its2.toArray.toList ms := intsAre_of r2
  exact HT.lt_tupInts p1 p2 i1 i2 hu ⟨.bl (HT.lexLt ns ms), H, I, rfl, q⟩
/-- t + u, t not empty: u empty gives t itself -/
def rCatT (K : PySem.W.Frag) : R2 := fun x y H Q => ∃ a b xs ys, x = .ref a ∧ y = .ref b ∧ SqT K H a xs ∧ SqT K H b ys ∧ xs ≠ [] ∧ xs.length + ys.length ≤ sizeLine ∧
  (ys = [] → Q (.ref a) H) ∧ (ys ≠ [] → ∀ p, H p = none → Q (.ref p) (upd H p (.tup (xs ++ ys))))
theorem Vals.nil_iff {xs : List V} {us : List Value} (r : Vals xs us) : us = [] ↔ xs = [] := by
  cases r with
  | nil => simp
  | cons _ _ => simp
theorem op_catT : OpR X (binaryOp .Add) (rCatT X.K) := by
  intro pins s σ H x y v u Q I rx ry h
  obtain ⟨a, b, xs, ys, rfl, rfl, ha, hb, hx, hz, q1, q2⟩ := h
  cases rx
  cases ry
  obtain ⟨its, r1, p1, _⟩ := I.tuple ha
  obtain ⟨its2, r2, p2, _⟩ := I.tuple hb
  refine HT.cat_tup p1 p2 (fun z => hx (r1.nil_iff.mp z)) (fun z => ⟨.ref a, H, I, rfl, q1 (r2.nil_iff.mp z)⟩) (fun z => ?_) (by rw [← r1.length, ← r2.length]; exact hz)
  refine ⟨.ref s.heap.objs.size, _, I.laid (t' := s.toks) (o := .tup (xs ++ ys)) (fun b ob q => Heap.get?_push_of_some _ q) (Nat.le_refl _) ?_, rfl, q2 (fun w => z (r2.nil_iff.mpr w)) _ (I.hok.fresh (Nat.le_refl _))⟩
  exact ⟨by rw [List.length_append]; exact hz, _, r1.append r2, IsTup.new _ _⟩
/-- tuple(t) -/
theorem call_tupleT : CallR X (.type "tuple") (fun xs H Q => ∃ a ys, xs = [.ref a] ∧ SqT X.K H a ys ∧ Q (.ref a) H) := by
  intro pins s σ H xs us Q I r h
  obtain ⟨a, ys, rfl, ha, q⟩ := h
  obtain ⟨u, rfl, ru⟩ := vals1 r
  cases ru
  obtain ⟨its, _, p1, _⟩ := I.tuple ha
  exact call_tuple_same (items := its.toArray) p1 ⟨.ref a, H, I, rfl, q⟩
end
end L2

namespace L2
open PySem PySem.Spec PyProof.Rows

/-! ### places -/
/-- the place that an index of any sign means -/
def ixN (n : Nat) (i : Int) : Option Nat := if 0 ≤ i then (if i < n then some i.toNat else none) else if -(n : Int) ≤ i then some (i + n).toNat else none
def atI {α : Type} (xs : List α) (i : Int) : Option α := (ixN xs.length i).bind fun j => xs[j]?
theorem ixN_seq {n : Nat} {i : Int} {j : Nat} (h : ixN n i = some j) : seqIndex? i n = some j ∧ j < n ∧ -(n : Int) ≤ i ∧ i < n := by
  unfold ixN at h
  by_cases h0 : 0 ≤ i
  · rw [if_pos h0] at h
    by_cases h1 : i < n
    · rw [if_pos h1] at h
      have e : i.toNat = j := Option.some.inj h
      exact ⟨by rw [seqIndex_of h0 h1, e], by omega, by omega, h1⟩
    · rw [if_neg h1] at h; cases h
  · rw [if_neg h0] at h
    by_cases h1 : -(n : Int) ≤ i
    · rw [if_pos h1] at h
      have e : (i + n).toNat = j := Option.some.inj h
      exact ⟨by rw [seqIndex_neg (by omega) h1, e], by omega, h1, by omega⟩
    · rw [if_neg h1] at h; cases h
theorem atI_get {α : Type} {xs : List α} {i : Int} {v : α} (h : atI xs i = some v) : ∃ j, seqIndex? i xs.length = some j ∧ xs[j]? = some v ∧ j < xs.length ∧ -(xs.length : Int) ≤ i ∧ i < xs.length := by
  unfold atI at h
  cases e : ixN xs.length i with
  | none => rw [e] at h; cases h
  | some j =>
    rw [e] at h
    obtain ⟨h1, h2, h3, h4⟩ := ixN_seq e
    exact ⟨j, h1, h, h2, h3, h4⟩
theorem atI_nat {α : Type} {xs : List α} {j : Nat} {v : α} (h : xs[j]? = some v) : atI xs (j : Int) = some v := by
  have hj : j < xs.length := (List.getElem?_eq_some_iff.mp h).1
  have e : ixN xs.length (j : Int) = some j := by
    unfold ixN
    rw [if_pos (by omega), if_pos (by omega)]; simp
  unfold atI; rw [e]; exact h
theorem atI_last {α : Type} (xs : List α) (v : α) : atI (xs ++ [v]) (-1) = some v := by
  have hl : (xs ++ [v]).length = xs.length + 1 := by simp
  have e : ixN (xs ++ [v]).length (-1) = some xs.length := by
    unfold ixN
    rw [hl, if_neg (by decide), if_pos (by omega)]
    congr 1
    omega
  unfold atI
  rw [e]
  show (xs ++ [v])[xs.length]? = some v
  simp

/-! ### what may be subscripted -/
/-- what stands as an index of a plain subscript -/
def PlainIx (b : Expr) : Prop := ∀ o i, subscripted b false o i = operate [o, i] (getItem o i)
/-- a subscript by values -/
def IxR (X : Cx) (r : R2) : Prop :=
  ∀ (value slice : Expr) (pins : List (Addr × Obj)) (s : Shared) (σ : St) (H : Hp) (x y : V) (v u : Value) (Q : VK), Inv X pins σ H s → RelV x v → RelV y u → r x y H Q →
    subscripted slice false v u = operate [v, u] (getItem v u) → wpAny (model X.prog X.w) X.A (subscriptTail value slice v u) (EP X pins σ Q) X.xe s
/-- a call of a builtin's method by values: the receiver, the arguments -/
def MtR (X : Cx) (id : String) (r : V → List V → Hp → VK → Prop) : Prop :=
  ∀ (pins : List (Addr × Obj)) (s : Shared) (σ : St) (H : Hp) (x : V) (xs : List V) (v : Value) (us : List Value) (Q : VK), Inv X pins σ H s → RelV x v → Vals xs us → r x xs H Q →
    wpAny (model X.prog X.w) X.A (call (.builtin id) (v :: us)) (EP X pins σ Q) X.xe s
section
variable {X : Cx} {a b : Expr} {ta tb : TE} {pos : Pos}
theorem IxR.or {r r' : R2} (h : IxR X r) (h' : IxR X r') : IxR X (fun x y H Q => r x y H Q ∨ r' x y H Q) := by
  intro value slice pins s σ H x y v u Q I rx ry q hs
  rcases q with q | q
  · exact h value slice pins s σ H x y v u Q I rx ry q hs
  · exact h' value slice pins s σ H x y v u Q I rx ry q hs
theorem MtR.or {id : String} {r r' : V → List V → Hp → VK → Prop} (h : MtR X id r) (h' : MtR X id r') : MtR X id (fun x xs H Q => r x xs H Q ∨ r' x xs H Q) := by
  intro pins s σ H x xs v us Q I rx rs q
  rcases q with q | q
  · exact h pins s σ H x xs v us Q I rx rs q
  · exact h' pins s σ H x xs v us Q I rx rs q
/-- a[b] -/
theorem pe_ix {r : R2} (hr : IxR X r) (ha : PE X a ta) (hb : PE X b tb) (hs : PlainIx b) : PE X (.Subscript a b pos) (tOp r ta tb) := by
  intro pins s σ H Q I h
  exact Subscript_ (binT ha hb I h fun v u s2 x y H2 I2 rx ry q => hr a b pins s2 σ H2 x y v u Q I2 rx ry q (hs _ _))

def rIxL (K : PySem.W.Frag) : R2 := fun x y H Q => ∃ p xs i v, x = .ref p ∧ y = .int i ∧ SqL K H p xs ∧ atI xs i = some v ∧ Q v H
def rIxT (K : PySem.W.Frag) : R2 := fun x y H Q => ∃ p xs i v, x = .ref p ∧ y = .int i ∧ SqT K H p xs ∧ atI xs i = some v ∧ Q v H
def rIxS : R2 := fun x y H Q => ∃ z i c, x = .str z ∧ y = .int i ∧ z.length ≤ sizeLine ∧ atI z.cps.toList i = some c ∧ Q (.str ⟨#[c]⟩) H
theorem ix_list : IxR X (rIxL X.K) := by
  intro value slice pins s σ H x y v u Q I rx ry h hs
  obtain ⟨p, xs, i, z, rfl, rfl, hq, he, q⟩ := h
  cases rx
  obtain ⟨t, rfl⟩ := ry
  obtain ⟨its, r, pl, hz⟩ := I.list hq
  obtain ⟨j, h1, h2, h3, h4, h5⟩ := atI_get he
  obtain ⟨w, ew, rw'⟩ := r.get h2
  have hl := r.length
  have hn := line63
  have fin : EP X pins σ Q w s := ⟨z, H, I, rw', q⟩
  by_cases h0 : 0 ≤ i
  · have hj : i.toNat = j := by
      rw [seqIndex_of h0 h5] at h1
      exact Option.some.inj h1
    exact item_listR pl.isList h0 (by omega) (by rw [hj]; simpa using ew) fin hs
  · have hj : (i + (its.toArray.size : Int)).toNat = j := by
      rw [seqIndex_neg (by omega) h4] at h1
      rw [List.size_toArray, ← hl]
      exact Option.some.inj h1
    exact subscriptTail_builtinR (x := w) pl.isList.typeIs slot_list_getitem.lookup
      (wpAny_getItem_list_neg (Q := fun r s' => r = w ∧ EP X pins σ Q r s') pl.isList (by omega) (by rw [List.size_toArray] <;> omega) (by omega) (by rw [hj]; simpa using ew) ⟨rfl, fin⟩) hs
theorem ix_tup : IxR X (rIxT X.K) := by
  intro value slice pins s σ H x y v u Q I rx ry h hs
  obtain ⟨p, xs, i, z, rfl, rfl, hq, he, q⟩ := h
  cases rx
  obtain ⟨t, rfl⟩ := ry
  obtain ⟨its, r, pl, hz⟩ := I.tuple hq
  obtain ⟨j, h1, h2, h3, h4, h5⟩ := atI_get he
  obtain ⟨w, ew, rw'⟩ := r.get h2
  have hl := r.length
  have hn := line63
  have fin : EP X pins σ Q w s := ⟨z, H, I, rw', q⟩
  exact subscriptTail_builtinR (x := w) pl.typeIs slot_tuple_getitem.lookup
    (getItem_tuple (j := j) (Q := fun r s' => r = w ∧ EP X pins σ Q r s') pl (by omega) (by omega) (by rw [List.size_toArray, ← hl]; exact h1) (by simpa using ew) ⟨rfl, fin⟩) hs
theorem ix_str : IxR X rIxS := by
  intro value slice pins s σ H x y v u Q I rx ry h hs
  obtain ⟨z, i, c, rfl, rfl, hz, he, q⟩ := h
  obtain ⟨t, rfl⟩ := rx
  obtain ⟨t', rfl⟩ := ry
  obtain ⟨j, h1, h2, h3, h4, h5⟩ := atI_get he
  have hl : z.cps.toList.length = z.length := by simp [Str.length]
  rw [hl] at h1 h4 h5
  have hn := line63
  exact tail_any (typeIs_str s z t) slot_str_getitem.lookup (getItem_str (c := c) (by
    have e1 : decide (i < -(2 ^ 63 : Int)) = false := decide_eq_false (by omega)
    have e2 : decide (i ≥ 2 ^ 63) = false := decide_eq_false (by omega)
    rw [e1, e2, Bool.or_false]) (by rw [h1]; simpa using h2) ⟨.str ⟨#[c]⟩, H, I.tok _, ⟨_, rfl⟩, q⟩) hs
/-- list, tuple or str -/
def rIx (K : PySem.W.Frag) : R2 := fun x y H Q => rIxL K x y H Q ∨ rIxT K x y H Q ∨ rIxS x y H Q
theorem ix_seq : IxR X (rIx X.K) := ix_list.or (ix_tup.or ix_str)

/-! ### xs[i] = v, any sign -/
/-- the list's object behind a store -/
theorem mapSeq_set (its : List Value) (n j : Nat) (u : Value) : Obj.mapSeq (·.setIfInBounds j u) { cls := .type "list", data := .seq its.toArray n } = { cls := .type "list", data := .seq (its.set j u).toArray n } := by
  simp [Obj.mapSeq]
theorem Inv.lst {pins : List (Addr × Obj)} {σ : St} {H : Hp} {s : Shared} {p : Addr} {xs : List V} (I : Inv X pins σ H s) (h : H p = some (.lst xs)) :
    ∃ (its : List Value) (n : Nat), Vals xs its ∧ s.heap.get? p = some { cls := .type "list", data := .seq its.toArray n } ∧ xs.length ≤ sizeLine := by
  obtain ⟨z, its, n, r, e⟩ := I.hok p _ h
  exact ⟨its, n, r, e, z⟩
/-- the list at p is written by an update of its object -/
theorem Inv.lstUpd {pins : List (Addr × Obj)} {σ : St} {H : Hp} {s : Shared} {p : Addr} {xs ys : List V} {its its' : List Value} {n n' : Nat} {f : Obj → Obj} (I : Inv X pins σ H s) (h : H p = some (.lst xs))
    (ho : s.heap.get? p = some { cls := .type "list", data := .seq its.toArray n }) (hf : f { cls := .type "list", data := .seq its.toArray n } = { cls := .type "list", data := .seq its'.toArray n' }) (r : Vals ys its') (hz : ys.length ≤ sizeLine) (t : Nat) :
    Inv X pins σ (upd H p (.lst ys)) { s with heap := s.heap.update p f, toks := t } := by
  have e : (s.heap.update p f).get? p = some { cls := .type "list", data := .seq its'.toArray n' } := by
    rw [Heap.get?_update_self f ho (by rw [hf] <;> rfl), hf]
  refine I.write (x := p) (e := p) (by rw [h]; trivial) (.inl rfl) (fun b u hb q => (Heap.get?_update_other _ _ (Ne.symm hb)).trans q) ⟨_, e⟩ ?_
  exact ⟨hz, its', n', r, e⟩
def rSetL : V → V → V → Hp → (Hp → Prop) → Prop := fun o i v H Q => ∃ p xs k j, o = .ref p ∧ i = .int k ∧ H p = some (.lst xs) ∧ ixN xs.length k = some j ∧ Q (upd H p (.lst (xs.set j v)))
theorem set_list : PSet X rSetL := by
  intro pins s σ H o i v ov iv u Q I ro ri rv h
  obtain ⟨p, xs, k, j, rfl, rfl, hp, hj, q⟩ := h
  cases ro
  obtain ⟨t, rfl⟩ := ri
  obtain ⟨its, n, r, ho, hz⟩ := I.lst hp
  obtain ⟨h1, h2, h3, h4⟩ := ixN_seq hj
  have hl := r.length
  have hn := line63
  have I' : Inv X pins σ (upd H p (.lst (xs.set j v))) { s with heap := s.heap.update p (Obj.mapSeq (·.setIfInBounds j u)) } :=
    I.lstUpd hp ho (mapSeq_set its n j u) (r.set rv j) (by rw [List.length_set]; exact hz) s.toks
  by_cases h0 : 0 ≤ k
  · have hk : k.toNat = j := by
      rw [seqIndex_of h0 h4] at h1
      exact Option.some.inj h1
    exact PySem.W.ki_setAt ho h0 (by omega) (by rw [List.size_toArray, ← hl]; exact h4) (by rw [hk]; exact ⟨_, I', q⟩)
  · have hk : (k + (its.toArray.size : Int)).toNat = j := by
      rw [seqIndex_neg (by omega) h3] at h1
      rw [List.size_toArray, ← hl]
      exact Option.some.inj h1
    exact PySem.W.ki_setBack ho (by omega) (by rw [List.size_toArray, ← hl]; exact h3) (by omega) (by rw [hk]; exact ⟨_, I', q⟩)

/-! ### slices -/
theorem slice_bounds (lo hi : Option Int) (n : Nat) : (sliceBounds lo hi none n).1 = ((HT.sIx n 0 lo : Nat) : Int) ∧ (sliceBounds lo hi none n).2.1 = ((HT.sIx n n hi : Nat) : Int) ∧ (sliceBounds lo hi none n).2.2 = 1 := by
  refine ⟨?_, ?_, rfl⟩
  · cases lo with
    | none => simp [sliceBounds, HT.sIx]
    | some i =>
      simp only [sliceBounds, HT.sIx, Option.getD_none, show (1 : Int) > 0 by decide, if_true]
      by_cases h : i < 0
      · simp only [h, if_true] <;> omega
      · simp only [h, if_false] <;> omega
  · cases hi with
    | none => simp [sliceBounds, HT.sIx]
    | some i =>
      simp only [sliceBounds, HT.sIx, Option.getD_none, show (1 : Int) > 0 by decide, if_true]
      by_cases h : i < 0
      · simp only [h, if_true] <;> omega
      · simp only [h, if_false] <;> omega
theorem slicePick_cut (its : List Value) (lo hi : Option Int) : slicePick its.toArray lo hi none = ((its.drop (HT.sIx its.length 0 lo)).take (HT.sIx its.length its.length hi - HT.sIx its.length 0 lo)).toArray := by
  obtain ⟨h1, h2, h3⟩ := slice_bounds lo hi its.toArray.size
  unfold slicePick
  rw [h1, h2, h3]
  simp only [sliceRange_one, pick_run, List.size_toArray] <;> rfl
/-- xs[lo:hi] of a list: a new list -/
def rSlL (K : PySem.W.Frag) : V → Option Int → Option Int → Hp → VK → Prop := fun x lo hi H Q => ∃ a xs, x = .ref a ∧ SqL K H a xs ∧ ∀ p, H p = none → Q (.ref p) (upd H p (.lst (cutV xs lo hi)))
theorem sl_list : SlR X (rSlL X.K) := by
  intro pins s σ H x v vl vu lo hi sl Q I rx hs pl pu h
  obtain ⟨a, xs, rfl, hx, q⟩ := h
  cases rx
  obtain ⟨its, r, ht, hz⟩ := I.list hx
  have hlen := r.length
  refine ⟨"list", _, slot_list_getitem.lookup, ht.isList.typeIs, ?_⟩
  refine wpAny_getItem_list_slice ht.isList hs pl pu .none (by simp) ?_ (by rw [List.size_toArray] <;> omega)
  rw [slicePick_cut, ← hlen]
  refine ⟨.ref s.heap.objs.size, _, I.laid (t' := s.toks) (o := .lst (cutV xs lo hi)) (fun b ob q => Heap.get?_push_of_some _ q) (Nat.le_refl _) ?_, rfl, q _ (I.hok.fresh (Nat.le_refl _))⟩
  exact ⟨Nat.le_trans (cutV_length xs lo hi) hz, _, 0, (r.drop (HT.sIx xs.length 0 lo)).take (HT.sIx xs.length xs.length hi - HT.sIx xs.length 0 lo), Heap.get?_push_size _ rfl⟩

/-! ### in, not in: flat items -/
def flatV : V → Bool
  | .non => true
  | .bl _ => true
  | .int _ => true
  | .str _ => true
  | _ => false
/-- == of flat values -/
def eqV : V → V → Bool
  | .non, .non => true
  | .bl a, .bl b => a == b
  | .bl a, .int b => (if a then 1 else 0) == b
  | .int a, .bl b => a == (if b then 1 else 0)
  | .int a, .int b => a == b
  | .str a, .str b => a == b
  | _, _ => false
theorem eqAt_V {A : Around} {s : Shared} {y x : V} {u v : Value} (ry : RelV y u) (rx : RelV x v) (fy : flatV y = true) (fx : flatV x = true) : SeqAt.EqAt A s u v (eqV y x) := by
  cases y with
  | non =>
    cases ry
    cases x with
    | non => cases rx; exact SeqAt.EqAt.same _
    | bl b => cases rx; exact SeqAt.EqAt.none_bool b
    | int b => obtain ⟨t, rfl⟩ := rx; exact SeqAt.EqAt.none_int b t
    | str b => obtain ⟨t, rfl⟩ := rx; exact SeqAt.EqAt.none_str b t
    | _ => exact absurd (show false = true from fx) Bool.false_ne_true
  | bl a =>
    cases ry
    cases x with
    | non => cases rx; exact SeqAt.EqAt.bool_none a
    | bl b => cases rx; exact SeqAt.EqAt.bool_bool a b
    | int b => obtain ⟨t, rfl⟩ := rx; exact SeqAt.EqAt.bool_int a b t
    | str b => obtain ⟨t, rfl⟩ := rx; exact SeqAt.EqAt.bool_str a b t
    | _ => exact absurd (show false = true from fx) Bool.false_ne_true
  | int a =>
    obtain ⟨t', rfl⟩ := ry
    cases x with
    | non => cases rx; exact SeqAt.EqAt.int_none a t'
    | bl b => cases rx; exact SeqAt.EqAt.int_bool a t' b
    | int b => obtain ⟨t, rfl⟩ := rx; exact SeqAt.EqAt.int_int a t' b t
    | str b => obtain ⟨t, rfl⟩ := rx; exact SeqAt.EqAt.int_str a t' b t
    | _ => exact absurd (show false = true from fx) Bool.false_ne_true
  | str a =>
    obtain ⟨t', rfl⟩ := ry
    cases x with
    | non => cases rx; exact SeqAt.EqAt.str_none a t'
    | bl b => cases rx; exact SeqAt.EqAt.str_bool a t' b
    | int b => obtain ⟨t, rfl⟩ := rx; exact SeqAt.EqAt.str_int a t' b t
    | str b => obtain ⟨t, rfl⟩ := rx; exact SeqAt.EqAt.str_str a t' b t
    | _ => exact absurd (show false = true from fx) Bool.false_ne_true
  | _ => exact absurd (show false = true from fy) Bool.false_ne_true
/-- the items' answers, read off the values (a value's own answer does not lean on its token) -/
def eqU (x : V) (u : Value) : Bool := match u with
  | .none => eqV .non x
  | .bool b => eqV (.bl b) x
  | .int i _ => eqV (.int i) x
  | .str z _ => eqV (.str z) x
  | _ => false
theorem eqU_of {x y : V} {u : Value} (r : RelV y u) (f : flatV y = true) : eqU x u = eqV y x := by
  cases y with
  | non => cases r; rfl
  | bl b => cases r; rfl
  | int i => obtain ⟨t, rfl⟩ := r; rfl
  | str z => obtain ⟨t, rfl⟩ := r; rfl
  | _ => exact absurd (show false = true from f) Bool.false_ne_true
theorem any_eqU {x : V} : ∀ {xs : List V} {us : List Value}, Vals xs us → xs.all flatV = true → us.any (eqU x) = xs.any fun y => eqV y x
  | _, _, .nil, _ => rfl
  | y :: xs, u :: us, .cons r t, f => by
    rw [List.all_cons, Bool.and_eq_true] at f
    rw [List.any_cons, List.any_cons, eqU_of r f.1, any_eqU t f.2]
theorem mem_eqAt {A : Around} {s : Shared} {x : V} {v : Value} (rx : RelV x v) (fx : flatV x = true) : ∀ {xs : List V} {us : List Value}, Vals xs us → xs.all flatV = true → ∀ u ∈ us, SeqAt.EqAt A s u v (eqU x u)
  | _, _, .nil, _ => fun u hu => by cases hu
  | y :: xs, u :: us, .cons r t, f => fun u' hu => by
    rw [List.all_cons, Bool.and_eq_true] at f
    rcases List.mem_cons.mp hu with rfl | hu
    · rw [eqU_of r f.1]; exact eqAt_V r rx f.1 fx
    · exact mem_eqAt rx fx t f.2 u' hu
def inV (x : V) (xs : List V) : Bool := xs.any fun y => eqV y x
/-- x in a list or tuple of flat items -/
def rIn (K : PySem.W.Frag) (neg : Bool) : R2 := fun x y H Q => ∃ p xs, y = .ref p ∧ (SqL K H p xs ∨ SqT K H p xs) ∧ flatV x = true ∧ xs.all flatV = true ∧ Q (.bl (if neg then !inV x xs else inV x xs)) H
theorem op_in_seq : OpR X (compareOp .In) (rIn X.K false) := by
  intro pins s σ H x y v u Q I rx ry h
  obtain ⟨p, xs, rfl, hq, fx, fs, q⟩ := h
  cases ry
  rcases hq with hq | hq
  · obtain ⟨its, r, pl, hz⟩ := I.list hq
    refine SeqAt.in_listAt (eqU x) pl.isList (fun w hw => mem_eqAt rx fx r fs w (by simpa using hw)) ⟨.bl _, H, I, rfl, ?_⟩
    rw [show its.toArray.any (eqU x) = its.any (eqU x) by simp, any_eqU r fs]
    exact q
  · obtain ⟨its, r, pl, hz⟩ := I.tuple hq
    refine SeqAt.in_tupleAt (eqU x) pl (fun w hw => mem_eqAt rx fx r fs w (by simpa using hw)) ⟨.bl _, H, I, rfl, ?_⟩
    rw [show its.toArray.any (eqU x) = its.any (eqU x) by simp, any_eqU r fs]
    exact q
theorem op_notIn_seq : OpR X (compareOp .NotIn) (rIn X.K true) := by
  intro pins s σ H x y v u Q I rx ry h
  obtain ⟨p, xs, rfl, hq, fx, fs, q⟩ := h
  cases ry
  rcases hq with hq | hq
  · obtain ⟨its, r, pl, hz⟩ := I.list hq
    refine SeqAt.notIn_listAt (eqU x) pl.isList (fun w hw => mem_eqAt rx fx r fs w (by simpa using hw)) ⟨.bl _, H, I, rfl, ?_⟩
    rw [show its.toArray.any (eqU x) = its.any (eqU x) by simp, any_eqU r fs]
    exact q
  · obtain ⟨its, r, pl, hz⟩ := I.tuple hq
    refine SeqAt.notIn_tupleAt (eqU x) pl (fun w hw => mem_eqAt rx fx r fs w (by simpa using hw)) ⟨.bl _, H, I, rfl, ?_⟩
    rw [show its.toArray.any (eqU x) = its.any (eqU x) by simp, any_eqU r fs]
    exact q
theorem op_notIn_str : OpR X (compareOp .NotIn) (fun x y H Q => ∃ i j, x = .str i ∧ y = .str j ∧ Q (.bl (!(!(Builtin.Str.occurrences j i 0 j.length 1).isEmpty))) H) := by
  intro pins s σ H x y v u Q I rx ry h
  obtain ⟨i, j, rfl, rfl, q⟩ := h
  obtain ⟨t, rfl⟩ := rx
  obtain ⟨t', rfl⟩ := ry
  exact notIn_str ⟨.bl _, H, I, rfl, q⟩

/-! ### len, list(x), tuple(x) of any list or tuple that is read -/
theorem call_len_seq : CallR X (.builtin "len") (fun xs H Q => ∃ p ys, xs = [.ref p] ∧ (SqL X.K H p ys ∨ SqT X.K H p ys) ∧ Q (.int ys.length) H) := by
  intro pins s σ H xs us Q I r h
  obtain ⟨p, ys, rfl, hq, q⟩ := h
  obtain ⟨u, rfl, rx⟩ := vals1 r
  cases rx
  have hn := line63
  rcases hq with hq | hq
  · obtain ⟨its, r', pl, hz⟩ := I.list hq
    have hlen := r'.length
    exact Calls.call_len_list pl.isList (by simp only [List.size_toArray] <;> omega) ⟨.int ys.length, H, I.tok _, ⟨s.toks + 1, by rw [List.size_toArray, hlen]⟩, q⟩
  · obtain ⟨its, r', pl, hz⟩ := I.tuple hq
    have hlen := r'.length
    exact len_tuple pl (by simp only [List.size_toArray] <;> omega) ⟨.int ys.length, H, I.tok _, ⟨s.toks + 1, by rw [List.size_toArray, hlen]⟩, q⟩
theorem call_len_str : CallR X (.builtin "len") (fun xs H Q => ∃ z, xs = [.str z] ∧ z.length ≤ sizeLine ∧ Q (.int z.length) H) := by
  intro pins s σ H xs us Q I r h
  obtain ⟨z, rfl, hz, q⟩ := h
  obtain ⟨u, rfl, t, rfl⟩ := vals1 r
  have hn := line63
  exact len_str (by omega) ⟨.int z.length, H, I.tok _, ⟨_, rfl⟩, q⟩
theorem CallR.or {f : Value} {r r' : List V → Hp → VK → Prop} (h : CallR X f r) (h' : CallR X f r') : CallR X f (fun xs H Q => r xs H Q ∨ r' xs H Q) := by
  intro pins s σ H xs us Q I rs q
  rcases q with q | q
  · exact h pins s σ H xs us Q I rs q
  · exact h' pins s σ H xs us Q I rs q
theorem call_list_of : CallR X (.type "list") (fun xs H Q => ∃ p ys, xs = [.ref p] ∧ (SqL X.K H p ys ∨ SqT X.K H p ys) ∧ ∀ l, H l = none → Q (.ref l) (upd H l (.lst ys))) := by
  intro pins s σ H xs us Q I r h
  obtain ⟨p, ys, rfl, hq, q⟩ := h
  obtain ⟨u, rfl, rx⟩ := vals1 r
  cases rx
  have fin : ∀ (its : List Value), Vals ys its → ys.length ≤ sizeLine → ∀ (h' : Heap) (c' : Nat), (∀ b o', s.heap.get? b = some o' → h'.get? b = some o') →
      h'.get? s.heap.objs.size = some { cls := .type "list", dict := none, data := .seq its.toArray c', slots := #[] } → EP X pins σ Q (.ref s.heap.objs.size) { s with heap := h' } := fun its r' hz h' c' kp e =>
    ⟨.ref s.heap.objs.size, _, I.laid (t' := s.toks) kp (Nat.le_refl _) (show ObjOk X.prog X.w _ h' _ (.lst ys) from ⟨hz, its, c', r', e⟩), rfl, q _ (I.hok.fresh (Nat.le_refl _))⟩
  rcases hq with hq | hq
  · obtain ⟨its, r', pl, hz⟩ := I.list hq
    have hlen := r'.length
    obtain ⟨o, ho, hc, n, hd⟩ := pl.isList
    exact call_list_seq p (.inl rfl) ho hc hd (fun h' c' kp e => fin its r' hz h' c' kp e) (by simp only [List.size_toArray] <;> omega)
  · obtain ⟨its, r', pl, hz⟩ := I.tuple hq
    have hlen := r'.length
    obtain ⟨o, ho, hc, n, hd⟩ := pl
    exact call_list_seq p (.inr rfl) ho hc hd (fun h' c' kp e => fin its r' hz h' c' kp e) (by simp only [List.size_toArray] <;> omega)
theorem call_tuple_of : CallR X (.type "tuple") (fun xs H Q => ∃ p ys, xs = [.ref p] ∧ ((SqL X.K H p ys ∧ ∀ l, H l = none → Q (.ref l) (upd H l (.tup ys))) ∨ (SqT X.K H p ys ∧ Q (.ref p) H))) := by
  intro pins s σ H xs us Q I r h
  obtain ⟨p, ys, rfl, h⟩ := h
  obtain ⟨u, rfl, rx⟩ := vals1 r
  cases rx
  rcases h with ⟨hq, q⟩ | ⟨hq, q⟩
  · obtain ⟨its, r', pl, hz⟩ := I.list hq
    have hlen := r'.length
    refine call_tuple_list pl.isList (fun h' kp => ?_) (by simp only [List.size_toArray] <;> omega)
    have I1 : Inv X pins σ H { s with heap := h' } := I.kept (t' := s.toks) kp
    have I2 : Inv X pins σ (upd H h'.objs.size (.tup ys)) { s with heap := h'.push { cls := .type "tuple", data := .seq its.toArray } } :=
      I1.laid (t' := s.toks) (fun b o e => Heap.get?_push_of_some _ e) (Nat.le_refl _) (show ObjOk X.prog X.w _ _ _ (.tup ys) from ⟨hz, its, r', IsTup.new _ _⟩)
    exact ⟨.ref h'.objs.size, _, I2, rfl, q _ (I1.hok.fresh (Nat.le_refl _))⟩
  · obtain ⟨its, r', pl, hz⟩ := I.tuple hq
    exact call_tuple_same pl ⟨.ref p, H, I, rfl, q⟩

/-! ### the call of a builtin's method: o.m(..) -/
/-- the value is of that builtin type -/
def tyV (K : PySem.W.Frag) (T : String) (x : V) (H : Hp) : Prop := match x with
  | .str _ => T = "str"
  | .int _ => T = "int"
  | .ref p => (T = "list" ∧ ∃ xs, SqL K H p xs) ∨ (T = "tuple" ∧ ∃ o, K.lookup p = some o ∧ o.cls = .type "tuple" ∧ o.dict = none) ∨
      (T = "dict" ∧ ((∃ kvs, H p = some (.dK kvs)) ∨ ∃ kvs, H p = some (.dT kvs))) ∨ (T = "set" ∧ ∃ S n, H p = some (.set S n))
  | _ => False
theorem tyV_is {pins : List (Addr × Obj)} {σ : St} {H : Hp} {s : Shared} {T : String} {x : V} {v : Value} (I : Inv X pins σ H s) (r : RelV x v) (ty : tyV X.K T x H) :
    s.TypeIs v T ∧ ∀ a, v = .ref a → ∃ ob, s.heap.get? a = some ob ∧ ob.dict = none := by
  cases x with
  | str z =>
    obtain ⟨t, rfl⟩ := r
    cases (show T = "str" from ty)
    exact ⟨typeIs_str s z t, fun _ e => nomatch e⟩
  | int i =>
    obtain ⟨t, rfl⟩ := r
    cases (show T = "int" from ty)
    exact ⟨typeIs_int s i t, fun _ e => nomatch e⟩
  | ref p =>
    cases r
    rcases ty with ⟨rfl, xs, hq⟩ | ⟨rfl, o, hk, hc, hd⟩ | ⟨rfl, hk⟩ | ⟨rfl, S, n, hk⟩
    · obtain ⟨its, _, pl, _⟩ := I.list hq
      refine ⟨pl.isList.typeIs, fun a e => ?_⟩
      cases e
      obtain ⟨o, n, e, c, hd, _⟩ := pl
      exact ⟨o, e, hd⟩
    · refine ⟨⟨o, I.kIn p o hk, hc⟩, fun a e => ?_⟩
      cases e
      exact ⟨o, I.kIn _ o hk, hd⟩
    · have z : ∃ o, s.heap.get? p = some o ∧ o.ExactDict := by
        rcases hk with ⟨kvs, hk⟩ | ⟨kvs, hk⟩
        · obtain ⟨_, _, _, _, o, _, _, e, ex, _⟩ := I.hok p _ hk
          exact ⟨o, e, ex⟩
        · obtain ⟨_, _, _, _, o, _, _, e, ex, _⟩ := I.hok p _ hk
          exact ⟨o, e, ex⟩
      obtain ⟨o, e, ex⟩ := z
      refine ⟨⟨o, e, ex.1⟩, fun a e2 => ?_⟩
      cases e2
      exact ⟨o, e, ex.2.1⟩
    · obtain ⟨o, _, _, _, e, ex, _⟩ := I.hok p _ hk
      refine ⟨⟨o, e, ex.1⟩, fun a e2 => ?_⟩
      cases e2
      exact ⟨o, e, ex.2.1⟩
  | _ => exact False.elim ty
def tBM0 (K : PySem.W.Frag) (T : String) (r : V → List V → Hp → VK → Prop) (to : TE) : TE := fun σ H Q => to σ H fun x H1 => tyV K T x H1 ∧ r x [] H1 Q
def tBM (K : PySem.W.Frag) (T : String) (r : V → List V → Hp → VK → Prop) (to : TE) (t : TA) : TE := fun σ H Q => to σ H fun x H1 => tyV K T x H1 ∧ t σ H1 fun xs H2 => r x xs H2 Q
variable {o e : Expr} {es : List Expr} {to : TE} {t : TA} {name : Str} {apos cpos : Pos} {T id : String} {r : V → List V → Hp → VK → Prop}
theorem pe_bm0 (pa : PlainAttrs T) (slot : Slot T name id) (hty : typeOf (.builtin id) = pure (.type "method_descriptor")) (hm : MtR X id r) (ho : PE X o to)
    (hbase : attributeBase o name X.env (eval o X.env) = eval o X.env := by rfl) (hline : (apos.endLine == cpos.line) = true := by rfl) : PE X (.Call (.Attribute o name apos) [] [] cpos) (tBM0 X.K T r to) := by
  intro pins s σ H Q I h
  refine wpAny_Call_method0_late hbase hline (thn (ho pins s σ H _ I h) fun v s1 ⟨x, H1, I1, r1, ty, q1⟩ => ?_)
  obtain ⟨h1, h2⟩ := tyV_is I1 r1 ty
  exact ⟨T, id, pa, slot, hty, h1, h2, Calls.callWith_builtin rfl (PySem.evalArgs_none (hm pins s1 σ H1 x [] v [] Q I1 r1 .nil q1))⟩
theorem pe_bm (pa : PlainAttrs T) (slot : Slot T name id) (hty : typeOf (.builtin id) = pure (.type "method_descriptor")) (hm : MtR X id r) (ho : PE X o to) (ha : PA X (e :: es) t)
    (hbase : attributeBase o name X.env (eval o X.env) = eval o X.env := by rfl)
    (hfew : ((backTo cpos (starEach (e :: es) X.env)).all (fun x => !x.1) && (backToKw cpos (keywordEach [] X.env)).all (fun x => x.1.isSome)
      && decide ((e :: es).length + ([] : List Keyword).length + (if ([] : List Keyword).isEmpty then 0 else 1) < 30)) = true := by rfl)
    (hline : (apos.endLine == cpos.line) = true := by rfl) (hs : starEach (e :: es) X.env = (false, eval e X.env) :: starEach es X.env := by rfl) (hplain : (backTo cpos (starEach es X.env)).any (·.1) = false := by rfl) :
    PE X (.Call (.Attribute o name apos) (e :: es) [] cpos) (tBM X.K T r to t) := by
  intro pins s σ H Q I h
  refine wpAny_Call_method_late hbase hfew hline rfl (thn (ho pins s σ H _ I h) fun v s1 ⟨x, H1, I1, r1, ty, q1⟩ => ?_)
  obtain ⟨h1, h2⟩ := tyV_is I1 r1 ty
  refine ⟨T, id, pa, slot, hty, h1, h2, ?_⟩
  have hA := ha cpos pins s1 σ H1 _ I1 q1
  rw [hs] at hA ⊢
  refine Calls.callWith_builtin (by show (false || (backTo cpos (starEach es X.env)).any (·.1)) = false; rw [hplain] <;> rfl) (Calls.evalArgs_plain ?_)
  exact thn hA fun us s2 ⟨vs, H2, I2, r2, q2⟩ => hm pins s2 σ H2 x vs v us Q I2 r1 r2 q2
/- xs.append(e), list.index on a module's tuple .. are MtR facts of 06m -/
end
end L2

namespace L2
open PySem PySem.Spec PyProof.Rows

def MtM (X : Cx) (id : String) (r : V → List V → Hp → VK → Prop) : Prop :=
  ∀ (pins : List (Addr × Obj)) (s : Shared) (σ : St) (H : Hp) (x : V) (xs : List V) (v : Value) (us : List Value) (Q : VK), Inv X pins σ H s → RelV x v → Vals xs us → r x xs H Q →
    wpAny (model X.prog X.w) X.A (call (.builtin id) (v :: us)) (EP X pins σ Q) X.xe s

/-! ### lists of values -/
theorem Vals.one : ∀ {x : V} {us : List Value}, Vals [x] us → ∃ u, us = [u] ∧ RelV x u
  | _, _, .cons r .nil => ⟨_, rfl, r⟩
theorem Vals.two : ∀ {x y : V} {us : List Value}, Vals [x, y] us → ∃ u v, us = [u, v] ∧ RelV x u ∧ RelV y v
  | _, _, _, .cons r (.cons q .nil) => ⟨_, _, rfl, r, q⟩
theorem Vals.zero : ∀ {us : List Value}, Vals [] us → us = []
  | _, .nil => rfl
theorem Vals.dropLast {xs : List V} {us : List Value} (h : Vals xs us) : Vals xs.dropLast us.dropLast := by
  induction h with
  | nil => exact .nil
  | cons r t ih =>
    cases t with
    | nil => exact .nil
    | cons q t' => exact .cons r ih
theorem Vals.eraseIdx : ∀ {xs : List V} {us : List Value} (i : Nat), Vals xs us → Vals (xs.eraseIdx i) (us.eraseIdx i)
  | _, _, _, .nil => .nil
  | _, _, 0, .cons _ t => t
  | _, _, i + 1, .cons r t => .cons r (Vals.eraseIdx i t)
theorem Vals.reverse {xs : List V} {us : List Value} (h : Vals xs us) : Vals xs.reverse us.reverse := by
  induction h with
  | nil => exact .nil
  | cons r t ih => rw [List.reverse_cons, List.reverse_cons]; exact Vals.append ih (.cons r .nil)
theorem Vals.rep {xs : List V} {us : List Value} (h : Vals xs us) : ∀ k : Nat, Vals (List.replicate k xs).flatten (List.replicate k us).flatten
  | 0 => .nil
  | k + 1 => by
    rw [List.replicate_succ, List.replicate_succ, List.flatten_cons, List.flatten_cons]
    exact Vals.append h (Vals.rep h k)
theorem erase_last {α : Type} (l : List α) : l.eraseIdx (l.length - 1) = l.dropLast := by
  induction l with
  | nil => rfl
  | cons a r ih =>
    cases r with
    | nil => rfl
    | cons b r =>
      have e : (a :: b :: r).length - 1 = ((b :: r).length - 1) + 1 := by
        have h1 : (a :: b :: r).length = r.length + 2 := rfl
        have h2 : (b :: r).length = r.length + 1 := rfl
        omega
      rw [e, List.eraseIdx_cons_succ, ih]
      all_goals rfl
theorem len_erase {α : Type} : ∀ (l : List α) (i : Nat), (l.eraseIdx i).length ≤ l.length
  | [], _ => Nat.le_refl _
  | _ :: _, 0 => Nat.le_succ _
  | _ :: r, i + 1 => Nat.succ_le_succ (len_erase r i)
theorem foldl_rep (its : List Value) : ∀ (k : Nat) (acc : List Value),
    List.foldl (fun x1 x2 => x1 ++ x2) acc.toArray (List.replicate k its.toArray) = (acc ++ (List.replicate k its).flatten).toArray
  | 0, acc => by simp
  | k + 1, acc => by
    have e : acc.toArray ++ its.toArray = (acc ++ its).toArray := by simp
    have e2 : (acc ++ its) ++ (List.replicate k its).flatten = acc ++ (List.replicate (k + 1) its).flatten := by
      rw [List.replicate_succ, List.flatten_cons, List.append_assoc]
    rw [← e2, ← foldl_rep its k (acc ++ its), ← e, List.replicate_succ, List.foldl_cons]

section
variable {X : Cx} {pins : List (Addr × Obj)} {σ : St} {H : Hp} {s : Shared} {l b : Addr} {xs ys zs : List V}

/-! ### the two steps: a tracked list is rewritten, a new list is laid -/
theorem Inv.lset {its its' : List Value} {n : Nat} {f : Array Value → Array Value} {t' : Nat} (I : Inv X pins σ H s) (hH : H l = some (.lst xs))
    (e : s.heap.get? l = some { cls := .type "list", data := .seq its.toArray n }) (hf : f its.toArray = its'.toArray) (hv : Vals ys its') (hz : ys.length ≤ sizeLine) :
    Inv X pins σ (upd H l (.lst ys)) { s with heap := s.heap.update l (Obj.mapSeq f), toks := t' } := by
  have q := PySem.IsL.update e f
  rw [hf] at q
  refine I.write (x := l) (e := l) (by rw [hH]; exact trivial) (.inl rfl) (fun b' u hb hu => (Heap.get?_update_other s.heap (Obj.mapSeq f) (Ne.symm hb)).trans hu) ⟨_, q⟩ ?_
  exact ⟨hz, its', _, hv, q⟩
theorem Inv.lnew {its : List Value} {t' : Nat} (I : Inv X pins σ H s) (hv : Vals ys its) (hz : ys.length ≤ sizeLine) :
    Inv X pins σ (upd H s.heap.objs.size (.lst ys)) { s with heap := s.heap.push { cls := .type "list", data := .seq its.toArray }, toks := t' } :=
  I.laid (fun _ _ q => Heap.get?_push_of_some _ q) (Nat.le_refl _) ⟨hz, its, 0, hv, Heap.get?_push_size _ rfl⟩
theorem Inv.fresh (I : Inv X pins σ H s) : H s.heap.objs.size = none := I.hok.fresh (Nat.le_refl _)
theorem Inv.lstM (I : Inv X pins σ H s) (hH : H l = some (.lst xs)) : xs.length ≤ sizeLine ∧ ∃ (its : List Value) (n : Nat), Vals xs its ∧ xs.length = its.length ∧ s.heap.get? l = some { cls := .type "list", data := .seq its.toArray n } := by
  obtain ⟨z, its, n, r, e⟩ := I.hok l _ hH
  exact ⟨z, its, n, r, r.length, e⟩

theorem notLongL {n : Nat} (h : n ≤ sizeLine) : Builtin.List.listTooLong n = false := by
  unfold Builtin.List.listTooLong
  exact decide_eq_false (by omega)
end

section
variable {X : Cx}

/-! ### methods -/
def rAppend : V → List V → Hp → VK → Prop := fun x vs H Q => ∃ l xs y, x = .ref l ∧ vs = [y] ∧ H l = some (.lst xs) ∧ xs.length < sizeLine ∧ Q .non (upd H l (.lst (xs ++ [y])))
theorem mt_append : MtM X "list.append" rAppend := by
  intro pins s σ H x vs v us Q I rx rv h
  obtain ⟨l, xs, y, rfl, rfl, hH, hz, q⟩ := h
  cases rx
  obtain ⟨u, rfl, ru⟩ := rv.one
  obtain ⟨z, its, n, r, hl, e⟩ := I.lstM hH
  refine call_meets F.slot_list_append ⟨_, e, rfl⟩ F.entry_list_append (F.args_list_append_2 _ _) (PySem.list_append l its.toArray n u (by rw [List.size_toArray]; omega)) ⟨e, ?_⟩
  refine ⟨.non, _, I.lset (its' := its ++ [u]) hH e (by simp) (r.append (.cons ru .nil)) ?_, rfl, q⟩
  rw [List.length_append, List.length_singleton]
  omega

def rExtend : V → List V → Hp → VK → Prop := fun x vs H Q => ∃ l b xs zs, x = .ref l ∧ vs = [.ref b] ∧ H l = some (.lst xs) ∧ H b = some (.lst zs) ∧ xs.length + zs.length ≤ sizeLine ∧ Q .non (upd H l (.lst (xs ++ zs)))
theorem mt_extend : MtM X "list.extend" rExtend := by
  intro pins s σ H x vs v us Q I rx rv h
  obtain ⟨l, b, xs, zs, rfl, rfl, hH, hB, hz, q⟩ := h
  cases rx
  obtain ⟨u, rfl, ru⟩ := rv.one
  cases ru
  obtain ⟨z, its, n, r, hl, e⟩ := I.lstM hH
  obtain ⟨z2, its2, n2, r2, hl2, e2⟩ := I.lstM hB
  have hsz : its.toArray.size + its2.toArray.size ≤ sizeLine := by rw [List.size_toArray, List.size_toArray]; omega
  have hlong : ¬ (!its.toArray.isEmpty && Builtin.List.listTooLong (its.toArray.size + its2.toArray.size)) = true := by
    rw [notLongL hsz, Bool.and_false]
    exact Bool.false_ne_true
  refine call_meets F.slot_list_extend ⟨_, e, rfl⟩ F.entry_list_extend (F.args_list_extend_2 _ _)
    (AutoSeq1.list_extend_list_list_0 l its.toArray n b its2.toArray n2 hlong (by rw [List.size_toArray]; omega) (by omega)) ⟨e, e2, ?_⟩
  refine ⟨.non, _, I.lset (its' := its ++ its2) hH e (by simp) (r.append r2) ?_, rfl, q⟩
  rw [List.length_append]
  omega

def rPop : V → List V → Hp → VK → Prop := fun x vs H Q => ∃ l xs y, x = .ref l ∧ vs = [] ∧ H l = some (.lst xs) ∧ xs[xs.length - 1]? = some y ∧ Q y (upd H l (.lst xs.dropLast))
theorem mt_pop : MtM X "list.pop" rPop := by
  intro pins s σ H x vs v us Q I rx rv h
  obtain ⟨l, xs, y, rfl, rfl, hH, hy, q⟩ := h
  cases rx
  have hus := rv.zero
  subst hus
  obtain ⟨z, its, n, r, hl, e⟩ := I.lstM hH
  obtain ⟨u, hu, ru⟩ := r.get hy
  have hy' : its.toArray[its.toArray.size - 1]? = some u := by
    show its.toArray[its.length - 1]? = some u
    rw [← Array.getElem?_toList, ← hl]
    exact hu
  refine call_meets F.slot_list_pop ⟨_, e, rfl⟩ F.entry_list_pop (F.args_list_pop_1 _) (MeetsSeq.list_pop_last l its.toArray n u hy' (by rw [List.size_toArray]; omega)) ⟨e, ?_⟩
  refine ⟨y, _, I.lset (its' := its.dropLast) hH e ?_ r.dropLast ?_, ru, q⟩
  · show its.toArray.eraseIdxIfInBounds (its.toArray.size - 1) = its.dropLast.toArray
    rw [List.size_toArray, List.eraseIdxIfInBounds_toArray, erase_last]
  · rw [List.length_dropLast]
    omega

def rPopAt : V → List V → Hp → VK → Prop := fun x vs H Q => ∃ l xs i k y, x = .ref l ∧ vs = [.int i] ∧ H l = some (.lst xs) ∧ -(2 ^ 63) ≤ i ∧ i < 2 ^ 63 ∧ seqIndex? i xs.length = some k ∧ xs[k]? = some y ∧ Q y (upd H l (.lst (xs.eraseIdx k)))
theorem mt_popAt : MtM X "list.pop" rPopAt := by
  intro pins s σ H x vs v us Q I rx rv h
  obtain ⟨l, xs, i, k, y, rfl, rfl, hH, h1, h2, hk, hy, q⟩ := h
  cases rx
  obtain ⟨u, rfl, ru⟩ := rv.one
  obtain ⟨t, rfl⟩ := ru
  obtain ⟨z, its, n, r, hl, e⟩ := I.lstM hH
  obtain ⟨w, hw, rw'⟩ := r.get hy
  refine call_meets F.slot_list_pop ⟨_, e, rfl⟩ F.entry_list_pop (F.args_list_pop_2 _ _)
    (MeetsSeq.list_pop_at l its.toArray n i t k w (fitsIndex_both h1 h2) (by rw [List.size_toArray, ← hl]; exact hk) (by rw [← Array.getElem?_toList]; exact hw) (by rw [List.size_toArray]; omega)) ⟨e, ?_⟩
  refine ⟨y, _, I.lset (its' := its.eraseIdx k) hH e ?_ (r.eraseIdx k) ?_, rw', q⟩
  · show its.toArray.eraseIdxIfInBounds k = (its.eraseIdx k).toArray
    rw [List.eraseIdxIfInBounds_toArray]
  · have := len_erase xs k
    omega

def rReverse : V → List V → Hp → VK → Prop := fun x vs H Q => ∃ l xs, x = .ref l ∧ vs = [] ∧ H l = some (.lst xs) ∧ Q .non (upd H l (.lst xs.reverse))
theorem mt_reverse : MtM X "list.reverse" rReverse := by
  intro pins s σ H x vs v us Q I rx rv h
  obtain ⟨l, xs, rfl, rfl, hH, q⟩ := h
  cases rx
  have hus := rv.zero
  subst hus
  obtain ⟨z, its, n, r, hl, e⟩ := I.lstM hH
  refine call_meets F.slot_list_reverse ⟨_, e, rfl⟩ F.entry_list_reverse (F.args_list_reverse_1 _) (AutoSeq1.list_reverse_list_0 l its.toArray n (by rw [List.size_toArray]; omega)) ⟨e, ?_⟩
  refine ⟨.non, _, I.lset (its' := its.reverse) hH e (by simp) r.reverse ?_, rfl, q⟩
  rw [List.length_reverse]
  omega

def rClear : V → List V → Hp → VK → Prop := fun x vs H Q => ∃ l xs, x = .ref l ∧ vs = [] ∧ H l = some (.lst xs) ∧ Q .non (upd H l (.lst []))
theorem mt_clear : MtM X "list.clear" rClear := by
  intro pins s σ H x vs v us Q I rx rv h
  obtain ⟨l, xs, rfl, rfl, hH, q⟩ := h
  cases rx
  have hus := rv.zero
  subst hus
  obtain ⟨z, its, n, r, hl, e⟩ := I.lstM hH
  refine call_meets F.slot_list_clear ⟨_, e, rfl⟩ F.entry_list_clear (F.args_list_clear_1 _) (AutoSeq1.list_clear_list_0 l its.toArray n (by rw [List.size_toArray]; omega)) ⟨e, ?_⟩
  exact ⟨.non, _, I.lset (its' := []) (ys := []) hH e rfl .nil (Nat.zero_le _), rfl, q⟩

/-! ### list + list, list += list, list * int -/
def rCat : R2 := fun x y H Q => ∃ l b xs zs, x = .ref l ∧ y = .ref b ∧ H l = some (.lst xs) ∧ H b = some (.lst zs) ∧ xs.length + zs.length ≤ sizeLine ∧ ∀ p, H p = none → Q (.ref p) (upd H p (.lst (xs ++ zs)))
theorem op_cat : OpR X (binaryOp .Add) rCat := by
  intro pins s σ H x y v u Q I rx ry h
  obtain ⟨l, b, xs, zs, rfl, rfl, hH, hB, hz, q⟩ := h
  cases rx
  cases ry
  obtain ⟨z, its, n, r, hl, e⟩ := I.lstM hH
  obtain ⟨z2, its2, n2, r2, hl2, e2⟩ := I.lstM hB
  refine PySem.P.add_list e e2 ?_ (by rw [List.size_toArray, List.size_toArray]; omega)
  have ea : its.toArray ++ its2.toArray = (its ++ its2).toArray := by simp
  rw [ea]
  exact ⟨.ref _, _, I.lnew (t' := s.toks) (r.append r2) (by rw [List.length_append]; omega), rfl, q _ I.fresh⟩
/-- a list times an int (a negative one is nothing) -/
def rRep : R2 := fun x y H Q => ∃ l k xs, x = .ref l ∧ y = .int k ∧ H l = some (.lst xs) ∧ -(2 ^ 63) ≤ k ∧ k < 2 ^ 63 ∧ xs.length * k.toNat ≤ sizeLine ∧
  ∀ p, H p = none → Q (.ref p) (upd H p (.lst (List.replicate k.toNat xs).flatten))
theorem len_rep {α : Type} (xs : List α) (k : Nat) : (List.replicate k xs).flatten.length = k * xs.length := by
  induction k with
  | zero => simp
  | succ k ih => rw [List.replicate_succ, List.flatten_cons, List.length_append, ih, Nat.succ_mul, Nat.add_comm]
theorem op_rep : OpR X (binaryOp .Mult) rRep := by
  intro pins s σ H x y v u Q I rx ry h
  obtain ⟨l, k, xs, rfl, rfl, hH, h1, h2, hz, q⟩ := h
  cases rx
  obtain ⟨t, rfl⟩ := ry
  obtain ⟨z, its, n, r, hl, e⟩ := I.lstM hH
  have hlen : its.toArray.size * k.toNat ≤ sizeLine := by rw [List.size_toArray, ← hl]; exact hz
  have hcap : ¬ its.toArray.size * k.toNat > (2 ^ 63 - 1) / 8 := by
    have : (sizeLine : Nat) ≤ (2 ^ 63 - 1) / 8 := by decide
    omega
  have hfit : ¬ (!Builtin.List.listFitsIndex k) = true := by
    rw [fitsIndex_both h1 h2]
    exact Bool.false_ne_true
  have hlong : ¬ Builtin.List.listTooLong (its.toArray.size * k.toNat) = true := by
    rw [notLongL hlen]
    exact Bool.false_ne_true
  have hnew : List.foldl (fun x1 x2 => x1 ++ x2) #[] (List.replicate (if its.toArray.isEmpty = true then 0 else k.toNat) its.toArray) = (List.replicate k.toNat its).flatten.toArray := by
    have f0 : ∀ m : Nat, List.foldl (fun x1 x2 => x1 ++ x2) #[] (List.replicate m its.toArray) = (List.replicate m its).flatten.toArray := fun m => by
      have := foldl_rep its m []
      rw [List.nil_append] at this
      exact this
    rw [f0]
    cases its with
    | nil => simp
    | cons a r' => rw [if_neg (by simp)]
  refine wpAny_binaryOp_repeat_ref (T := "list") (U := "int") (by decide) ⟨_, e, rfl⟩ (fun s' => typeIs_int s' k t) noFill_list_mul F.fills_int_mul F.slot_int_rmul repeat_list F.slot_int_index.lookup
    (call_meets F.slot_int_rmul (typeIs_int s k t) F.entry_int_rmul (F.args_int_rmul_2 _ _) (int___rmul___int_list k t l its.toArray n)
      ⟨e, rfl, ⟨_, e, rfl⟩, call_meets F.slot_list_mul ⟨_, e, rfl⟩ F.entry_list_mul (F.args_list_mul_2 _ _) (AutoListH.list___mul___list_int_3 l its.toArray n k t hfit hcap hlong) ⟨e, ?_⟩⟩)
  rw [hnew]
  exact ⟨.ref _, _, I.lnew (t' := s.toks) (r.rep k.toNat) (by rw [len_rep, Nat.mul_comm]; exact hz), rfl, q _ I.fresh⟩

/-! ### del xs[i] -/
theorem del_list {pins : List (Addr × Obj)} {s : Shared} {σ : St} {H : Hp} {l : Addr} {xs : List V} {i : Int} {t : Tok} {k : Nat} {Q : Unit → Shared → Prop} (I : Inv X pins σ H s) (hH : H l = some (.lst xs))
    (h1 : -(2 ^ 63) ≤ i) (h2 : i < 2 ^ 63) (hk : seqIndex? i xs.length = some k) (h : ∀ s', Inv X pins σ (upd H l (.lst (xs.eraseIdx k))) s' → Q () s') :
    wpAny (model X.prog X.w) X.A (delItem (.ref l) (.int i t)) Q X.xe s := by
  obtain ⟨z, its, n, r, hl, e⟩ := I.lstM hH
  refine PySem.P.delItem_list (k := k) e (fitsIndex_both h1 h2) (by rw [List.size_toArray, ← hl]; exact hk) (h _ ?_) (by rw [List.size_toArray]; omega)
  refine I.lset (its' := its.eraseIdx k) (t' := s.toks) hH e ?_ (r.eraseIdx k) ?_
  · show its.toArray.eraseIdxIfInBounds k = (its.eraseIdx k).toArray
    rw [List.eraseIdxIfInBounds_toArray]
  · have := len_erase xs k
    omega
end

/-! ### xs[a:b] = ys -/
section
variable {prog : Program} {w : World} {A : Around} {E : Value → Shared → Prop} {s : Shared}
theorem splice_eq (its its2 : List Value) (a c : Nat) : its.toArray.extract 0 a ++ its2.toArray ++ its.toArray.extract c its.toArray.size = (its.take a ++ its2 ++ its.drop c).toArray := by
  apply Array.toList_inj.mp
  first
    | (simp
       exact List.take_of_length_le (by simp))
    | simp [List.take_of_length_le]
    | simp
theorem bounds_run {a c n : Nat} (hac : a ≤ c) (hc : c ≤ n) : sliceBounds (some (a : Int)) (some (c : Int)) none n = ((a : Int), (c : Int), 1) := by
  simp only [sliceBounds, Option.getD_none]
  have h1 : ¬ ((a : Int) < 0) := by omega
  have h2 : ¬ ((c : Int) < 0) := by omega
  simp only [h1, h2, if_false, show (1 : Int) > 0 by decide, if_true]
  congr 1
  · omega
  · congr 1; omega
set_option maxRecDepth 100000 in
/-- list.__setitem__ with a slice of step one and another list -/
theorem setItem_slice {l b sl : Addr} {items new : Array Value} {n n2 : Nat} {vl vu : Value} {a c : Nat} {Q : Unit → Shared → Prop}
    (e : s.heap.get? l = some { cls := .type "list", data := .seq items n }) (e2 : s.heap.get? b = some { cls := .type "list", data := .seq new n2 }) (hne : l ≠ b)
    (hs : s.heap.IsSliceOf sl vl vu .none) (pl : IsPart vl (some (a : Int))) (pu : IsPart vu (some (c : Int))) (hac : a ≤ c) (hc : c ≤ items.size)
    (hsz : items.size + new.size ≤ sizeLine) (h : Q () { s with heap := s.heap.update l (Obj.mapSeq fun xs => xs.extract 0 a ++ new ++ xs.extract c xs.size) }) :
    wpAny (model prog w) A (setItem (.ref l) (.ref sl) (.ref b)) Q E s := by
  have hl : s.heap.IsList l items := PySem.IsL.isList e
  have hb : s.heap.IsList b new := PySem.IsL.isList e2
  obtain ⟨os, hos, hcs, hds⟩ := id hs
  have hTs : s.TypeIs (.ref sl) "slice" := ⟨os, hos, hcs⟩
  have hstep : ¬ ((rawPart none == rawInt 0) = true) := Bool.false_ne_true
  have hsame : Builtin.List.listSameRef (.ref l) (.ref b) = false := by
    unfold Builtin.List.listSameRef
    exact beq_eq_false_iff_ne.mpr hne
  have hmax : (max (a : Int) (c : Int)).toNat = c := by omega
  have hz' : ((fun xs : Array Value => xs.extract 0 a ++ new ++ xs.extract c xs.size) items).size ≤ sizeLine + 1 := by
    simp only [Array.size_append, Array.size_extract]
    omega
  unfold setItem
  try with_reducible refine wpAny_holding ?_
  first | refine wpAny_bind (wpAny_pure ?_) | skip
  refine wpAny_bind (wpAny_sequenceKey hl.typeIs (by decide) ?_)
  refine wpAny_bind (wpAny_callSpecial?_slot (name := Str.ofString "__setitem__") hl.typeIs slot_list_setitem
    (wpAny_call_entry slot_list_setitem hl.typeIs entry_list_setitem ?_ (args_list_setitem _ _ _)))
  show wpAny _ _ (Builtin.List.listSubscript? (.ref sl) >>= _) _ _ s
  refine wpAny_bind ?_
  unfold Builtin.List.listSubscript?
  refine wpAny_bind (wpAny_specialOf hTs slice_no_index ?_)
  simp only [Option.isNone_none, if_true]
  refine wpAny_pure ?_
  show wpAny _ _ (typeOf (.ref sl) >>= _) _ _ s
  refine wpAny_bind (wpAny_typeOf hTs ?_)
  first
    | rw [if_neg (by decide)]
    | refine PySem.W.KFB.if_not (by decide) ?_
  rw [listSliceParts_eq]
  refine wpAny_bind (wpAny_bind (wpAny_field hos hds (x := .none) rfl (wpAny_bind (wpAny_listPart .none ?_))))
  rw [if_neg hstep]
  refine wpAny_bind (wpAny_field hos hds (x := vl) rfl (wpAny_bind (wpAny_listPart pl ?_)))
  refine wpAny_bind (wpAny_field hos hds (x := vu) rfl (wpAny_bind (wpAny_listPart pu (wpAny_pure ?_))))
  first
    | simp only [hsame, Bool.false_eq_true, if_false]
    | refine PySem.W.KFB.if_not hsame ?_
    | (dsimp only
       rw [if_neg (by rw [hsame]; exact Bool.false_ne_true)])
  refine wpAny_bind (m := Builtin.List.listAllItems (.ref b) "must assign iterable to extended slice") ?_
  unfold Builtin.List.listAllItems
  refine wpAny_bind (wpAny_typeOf hb.typeIs ?_)
  first
    | refine PySem.W.KFB.if_so (by decide) ?_
    | rw [if_pos (by decide)]
    | simp only [beq_self_eq_true, Bool.true_or, if_true]
  unfold Builtin.List.listItems
  refine wpAny_bind (wpAny_seqItems e2 rfl (wpAny_pure ?_))
  refine wpAny_bind (wpAny_bind (wpAny_seqItems e rfl (wpAny_pure ?_)))
  refine wpAny_bind (wpAny_of_eq ((sliceIndices_raw (some (a : Int)) (some (c : Int)) none items.size (by simp)).trans (congrArg (pure : Int × Int × Int → Sem (Int × Int × Int)) (bounds_run hac hc))) ?_)
  show wpAny _ _ (if ((1 : Int) == 1) = true then _ else _) _ _ s
  rw [if_pos (by decide)]
  refine wpAny_bind (wpAny_rule ?_)
  first
    | simp only [notLongL hsz, Bool.false_eq_true, if_false]
    | refine PySem.W.KFB.if_not (notLongL hsz) ?_
  first | refine wpAny_bind (wpAny_pure ?_) | skip
  show wpAny _ _ (updateSeq l (fun xs => xs.extract 0 ((a : Int)).toNat ++ new ++ xs.extract (max (a : Int) (c : Int)).toNat xs.size) >>= _) _ _ s
  rw [hmax, Int.toNat_natCast]
  refine wpAny_bind (wpAny_updateSeq (hz := Nat.le_trans (Nat.le_add_right _ _) hsz) (_hz' := hz') e rfl ?_)
  refine wpAny_bind (wpAny_letGo ?_)
  first
    | exact wpAny_bind (wpAny_pure (wpAny_pure ⟨.none, rfl, wpAny_pure h⟩))
    | exact wpAny_pure ⟨.none, rfl, wpAny_pure h⟩
end

section
variable {X : Cx}
/-- xs[a:c] = ys of another list, at the value level: sl is the slice object that was just made -/
theorem set_slice {pins : List (Addr × Obj)} {s : Shared} {σ : St} {H : Hp} {l b sl : Addr} {xs ys : List V} {a c : Int} {vl vu : Value} {Q : Unit → Shared → Prop} (I : Inv X pins σ H s)
    (hH : H l = some (.lst xs)) (hB : H b = some (.lst ys)) (hne : l ≠ b) (hs : s.heap.IsSliceOf sl vl vu .none) (ra : RelV (.int a) vl) (rc : RelV (.int c) vu) (h0 : 0 ≤ a) (hac : a ≤ c) (hc : c ≤ xs.length)
    (hz : xs.length + ys.length ≤ sizeLine) (h : ∀ s', Inv X pins σ (upd H l (.lst (xs.take a.toNat ++ ys ++ xs.drop c.toNat))) s' → Q () s') :
    wpAny (model X.prog X.w) X.A (setItem (.ref l) (.ref sl) (.ref b)) Q X.xe s := by
  obtain ⟨ta, rfl⟩ := ra
  obtain ⟨tc, rfl⟩ := rc
  obtain ⟨z, its, n, r, hl, e⟩ := I.lstM hH
  obtain ⟨z2, its2, n2, r2, hl2, e2⟩ := I.lstM hB
  obtain ⟨a', rfl⟩ := Int.eq_ofNat_of_zero_le h0
  obtain ⟨c', rfl⟩ := Int.eq_ofNat_of_zero_le (Int.le_trans h0 hac)
  simp only [Int.toNat_natCast] at h
  refine setItem_slice (a := a') (c := c') e e2 hne hs (.int _ _) (.int _ _) (by omega) (by rw [List.size_toArray]; omega) (by rw [List.size_toArray, List.size_toArray]; omega) (h _ ?_)
  refine I.lset (its' := its.take a' ++ its2 ++ its.drop c') (t' := s.toks) hH e ?_ (Vals.append (Vals.append (r.take _) r2) (r.drop _)) ?_
  · exact splice_eq its its2 a' c'
  · rw [List.length_append, List.length_append, List.length_take, List.length_drop]
    omega
end
end L2

namespace Att
open PySem PySem.W PySem.Calls PyProof.Rows

/-! ### the script -/
theorem ints_of_wellAll {P : Params} {h : Heap} : ∀ (ns : List Int) (vs : List Value), WellAll P h vs (ns.map WData.int) → IntsAre vs ns := by
  intro ns
  induction ns with
  | nil =>
    intro vs w
    rw [List.map_nil] at w
    cases w
    exact .nil
  | cons n ns ih =>
    intro vs w
    rw [List.map_cons] at w
    cases w with
    | cons a b =>
      cases a
      exact .cons _ _ (ih _ b)

theorem script_of {l : OpenLaw} {n : Nat} (hn : l.most = some n) {P : Params} {h : Heap} {args : List WData} {vals : List Value}
    (hpre : l.row.toRowW.claim.pre args = true) (hwl : WellAll P h vals args) :
    ∃ a vs ns, vals = [Value.ref a] ∧ args = [WData.list (ns.map WData.int)] ∧ h.get? a = some { cls := .type "list", data := .seq vs.toArray } ∧ IntsAre vs ns ∧ ns.length ≤ n := by
  have hsh : WShape.hasAll [] args [.list .int] = true := (pre_splitW hpre).1
  have hc : l.pre.holds [] { args := args } = true := (pre_splitW hpre).2
  obtain ⟨d, r, rfl, h1, h2⟩ := hasAllW_cons hsh
  obtain rfl := hasAllW_nil h2
  obtain ⟨xs, rfl, h3⟩ := hasW_list h1
  obtain ⟨ns, rfl⟩ := items_int h3
  have hlen : ns.length ≤ n := by
    unfold OpenLaw.pre at hc
    have h4 : (WTm.not (.lt (.lit (.int (n : Int))) (.len (.arg 0)))).holds [] { args := [.list (ns.map .int)] } = true := by
      have h4 := (holds_andW hc).1
      rw [hn] at h4
      exact h4
    have h5 := condW_of h4 (w_not (w_lt w_lit (w_len_list (w_arg rfl))))
    rw [List.length_map] at h5
    refine Nat.le_of_not_lt fun q => ?_
    have q' : (n : Int) < ((ns.length : Nat) : Int) := by omega
    first
      | (rw [decide_eq_true q'] at h5; exact absurd h5 (by decide))
      | (simp at h5; omega)
  cases hwl with
  | cons w1 w2 =>
    cases w2
    cases w1 with
    | list ho hall => exact ⟨_, _, ns, rfl, rfl, ho, ints_of_wellAll ns _ hall, hlen⟩

theorem post_true (l : OpenLaw) (args : List WData) : l.row.toRowW.claim.post args (.bool true) args = true :=
  postW_of (r := l.row.toRowW) (X := (true == true))
    (show WShape.has [] (.bool true) .bool = true by first | rfl | decide | simp [WShape.has, WShape.arms, WShape.armsAll])
    (show (WTm.eq .res (.lit (.bool true))).value [] { args := args, res := some (.bool true), after := args } = some (.bool (true == true)) from w_eq_bool (w_res rfl) w_lit) rfl

/-! ### the attachment: holds_open's last premise (the goal 'hc' behind k_head) from a wpAny of the law's body -/
theorem attach {l : OpenLaw} {n : Nat} {q : Program} {loose : List Str} {XP : (Str → Option Value) → Heap → Prop} {YP : World → Heap → Prop} {d : DefRec} {x : Str}
    (hn : l.most = some n) (hdf : d.params.defaults = [])
    (hbind : ∀ pm cd doc v : Value, bindArgs (docDef d.name d.params d.body d.scope pm cd doc) ⟨[v], []⟩ = pure [(x, v)])
    (hx : d.scope.names.lookup x = some .local ∨ d.scope.names.lookup x = some .cell)
    (hk : d.scope.kind = .function) (hco : d.scope.isCoroutine = false) (hgen : d.scope.isGenerator = false)
    (body : ∀ (w : World) (s₀ s₁ s : Shared) (mg mb : Str → Option Value) (fa : Addr) (o : Obj) (pm cd doc : Value) (a : Addr) (vs : List Value) (ns : List Int),
      Ground q loose [] XP w s₀ mg mb s₁.heap → YP w s₁.heap →
      s₁.heap.get? fa = some o → o.data = .func (docDef d.name d.params d.body d.scope pm cd doc) → s₁.heap.CodeRec cd d.name → mg d.name = some (.ref fa) →
      s₁.heap.get? a = some { cls := .type "list", data := .seq vs.toArray } → IntsAre vs ns → ns.length ≤ n →
      s.gens = #[] → s.os = s₁.os →
      Fr s₁.heap s₁.heap.objs.size s.heap (bindL (envOfC d.name d.scope s₁.heap.objs.size fa cd).kindOf [(x, .ref a)] fun _ => none) →
      Cl s₁.heap.objs.size (cellsFrom (s₁.heap.objs.size + 1) d.scope.names []) s.heap (bindC (envOfC d.name d.scope s₁.heap.objs.size fa cd).kindOf [(x, .ref a)] fun _ => none) →
      wpAny (model l.prog w) (callerA.deeper (envOfC d.name d.scope s₁.heap.objs.size fa cd)) (execs d.body (envOfC d.name d.scope s₁.heap.objs.size fa cd))
        (fun f s' => f = .ret (.bool true) ∧ OldK s₁.heap s'.heap ∧ s'.os = s₁.os ∧ AllBare s'.gens) (fun _ _ => False) s) :
    WalkO q loose XP YP l.row.toRowW d [] (fun f vs => PySem.call f vs) := by
  intro w s₀ s₁ mg mb G Y fa o pm cd doc dV kV ho hd hcd hD hmg hg args vals as hpre hlay hrd hwl hlo
  obtain rfl : dV = .none := Dflts.none hD hdf
  obtain rfl : kV = .none := Dflts.noKw hD
  obtain ⟨a, vs, ns, rfl, rfl, hobj, hints, hlen⟩ := script_of hn hpre hwl
  refine enter_call ?_
  refine call_cells_ret (o := o) (by rw [depth_caller]; decide) ho (fd_plain hd) G.T.nolimit hcd (hbind pm cd doc (.ref a)) (fun y hy => ?_) (fun h₁ tk F X => ?_) hco hgen hk
  · obtain rfl : y = (x, Value.ref a) := List.mem_singleton.mp hy
    rcases hx with e | e
    · exact .inl e
    · exact .inr ⟨e, cellsFrom_some _ _ _ (.inl e)⟩
  · refine wpAny_mono (body w s₀ s₁ { s₁ with heap := h₁, toks := tk } mg mb fa o pm cd doc a vs ns G Y ho (fd_plain hd) hcd hmg hobj hints hlen hg rfl F X) (fun f s' hq => ?_) (fun _ _ hq => hq)
    obtain ⟨rfl, h2, h3, h4⟩ := hq
    exact ⟨.inl ⟨.bool true, .bool true, [], rfl, fun _ => rfl, .bool true, post_true l _, fun _ => ⟨List.Pairwise.nil, fun _ hm => (nomatch hm)⟩⟩, h2, h3, h4⟩

/-- the same from a codeAny of the CALL (for a layer whose function contracts speak of calls) -/
theorem attach_call {l : OpenLaw} {n : Nat} {q : Program} {loose : List Str} {XP : (Str → Option Value) → Heap → Prop} {YP : World → Heap → Prop} {d : DefRec}
    (hn : l.most = some n) (hdf : d.params.defaults = [])
    (call : ∀ (w : World) (s₀ s₁ : Shared) (mg mb : Str → Option Value) (fa : Addr) (o : Obj) (pm cd doc : Value) (a : Addr) (vs : List Value) (ns : List Int),
      Ground q loose [] XP w s₀ mg mb s₁.heap → YP w s₁.heap →
      s₁.heap.get? fa = some o → o.data = .func (docDef d.name d.params d.body d.scope pm cd doc) → s₁.heap.CodeRec cd d.name → mg d.name = some (.ref fa) →
      s₁.heap.get? a = some { cls := .type "list", data := .seq vs.toArray } → IntsAre vs ns → ns.length ≤ n → s₁.gens = #[] →
      codeAny (model l.prog w) callerA (.call (.ref fa) ⟨[.ref a], []⟩) (fun r s' => r = .ok (.ret (.bool true)) ∧ OldK s₁.heap s'.heap ∧ s'.os = s₁.os ∧ AllBare s'.gens) s₁) :
    WalkO q loose XP YP l.row.toRowW d [] (fun f vs => PySem.call f vs) := by
  intro w s₀ s₁ mg mb G Y fa o pm cd doc dV kV ho hd hcd hD hmg hg args vals as hpre hlay hrd hwl hlo
  obtain rfl : dV = .none := Dflts.none hD hdf
  obtain rfl : kV = .none := Dflts.noKw hD
  obtain ⟨a, vs, ns, rfl, rfl, hobj, hints, hlen⟩ := script_of hn hpre hwl
  refine enter_call (codeAny_mono (call w s₀ s₁ mg mb fa o pm cd doc a vs ns G Y ho (fd_plain hd) hcd hmg hobj hints hlen hg) fun r s' hq => ?_)
  obtain ⟨rfl, h2, h3, h4⟩ := hq
  exact ⟨.inl ⟨.bool true, .bool true, [], rfl, fun _ => rfl, .bool true, post_true l _, fun _ => ⟨List.Pairwise.nil, fun _ hm => (nomatch hm)⟩⟩, h2, h3, h4⟩

/-- the same where the top left finished generators (o_head chose holds_openN): nothing may have changed at all and no generator may be left -/
theorem attachN {l : OpenLaw} {n : Nat} {q : Program} {loose : List Str} {XP : (Str → Option Value) → Heap → Prop} {YP : World → Heap → Prop} {d : DefRec} {x : Str}
    (hn : l.most = some n) (hdf : d.params.defaults = [])
    (hbind : ∀ pm cd doc v : Value, bindArgs (docDef d.name d.params d.body d.scope pm cd doc) ⟨[v], []⟩ = pure [(x, v)])
    (hx : d.scope.names.lookup x = some .local ∨ d.scope.names.lookup x = some .cell)
    (hk : d.scope.kind = .function) (hco : d.scope.isCoroutine = false) (hgen : d.scope.isGenerator = false)
    (body : ∀ (w : World) (s₀ s₁ s : Shared) (mg mb : Str → Option Value) (fa : Addr) (o : Obj) (pm cd doc : Value) (a : Addr) (vs : List Value) (ns : List Int),
      Ground q loose [] XP w s₀ mg mb s₁.heap → YP w s₁.heap →
      s₁.heap.get? fa = some o → o.data = .func (docDef d.name d.params d.body d.scope pm cd doc) → s₁.heap.CodeRec cd d.name → mg d.name = some (.ref fa) →
      s₁.heap.get? a = some { cls := .type "list", data := .seq vs.toArray } → IntsAre vs ns → ns.length ≤ n →
      s.gens = #[] → s.os = s₁.os →
      Fr s₁.heap s₁.heap.objs.size s.heap (bindL (envOfC d.name d.scope s₁.heap.objs.size fa cd).kindOf [(x, .ref a)] fun _ => none) →
      Cl s₁.heap.objs.size (cellsFrom (s₁.heap.objs.size + 1) d.scope.names []) s.heap (bindC (envOfC d.name d.scope s₁.heap.objs.size fa cd).kindOf [(x, .ref a)] fun _ => none) →
      wpAny (model l.prog w) (callerA.deeper (envOfC d.name d.scope s₁.heap.objs.size fa cd)) (execs d.body (envOfC d.name d.scope s₁.heap.objs.size fa cd))
        (fun f s' => f = .ret (.bool true) ∧ (∀ b o, s₁.heap.get? b = some o → s'.heap.get? b = some o) ∧ s'.os = s₁.os ∧ s'.gens = #[]) (fun _ _ => False) s) :
    WalkN q loose XP YP l.row.toRowW d [] (fun f vs => PySem.call f vs) := by
  intro w s₀ s₁ mg mb G Y fa o pm cd doc dV kV ho hd hcd hD hmg hg args vals as hpre hlay hrd hwl hlo
  obtain rfl : dV = .none := Dflts.none hD hdf
  obtain rfl : kV = .none := Dflts.noKw hD
  obtain ⟨a, vs, ns, rfl, rfl, hobj, hints, hlen⟩ := script_of hn hpre hwl
  refine enter_callW ?_
  refine call_cells_ret (o := o) (by rw [depth_caller]; decide) ho (fd_plain hd) G.T.nolimit hcd (hbind pm cd doc (.ref a)) (fun y hy => ?_) (fun h₁ tk F X => ?_) hco hgen hk
  · obtain rfl : y = (x, Value.ref a) := List.mem_singleton.mp hy
    rcases hx with e | e
    · exact .inl e
    · exact .inr ⟨e, cellsFrom_some _ _ _ (.inl e)⟩
  · refine wpAny_mono (body w s₀ s₁ { s₁ with heap := h₁, toks := tk } mg mb fa o pm cd doc a vs ns G Y ho (fd_plain hd) hcd hmg hobj hints hlen hg rfl F X) (fun f s' hq => ?_) (fun _ _ hq => hq)
    obtain ⟨rfl, h2, h3, h4⟩ := hq
    exact ⟨.inl ⟨.bool true, .bool true, [], rfl, fun _ => rfl, .bool true, post_true l _, fun _ => ⟨List.Pairwise.nil, fun _ hm => (nomatch hm)⟩⟩, h2, h3, h4⟩

/-! ### rules over ANY heap (no ledger) from facts about the written part K: the library's own take a ledger (News) for what they write -/
section
variable {prog : Program} {w : World} {A : Around} {E : Value → Shared → Prop} {s : Shared} {K : Frag}

/-- a def of the module, or a method (qual 'C.m'), entered: the frame is the next address; cells behind it -/
theorem call_fn {R : Result → Shared → Prop} {name qual : Str} {params : Arguments} {body : List Stmt} {scope : Scope} {dV kV doc pm cdv ct oc : Value} {an od : Option Addr} {osl : Array (Option Value)} {f : Addr} {args : Args} {binds : List (Str × Value)}
    (X : K.In s.heap) (hlim : s.heap.NoLimit) (ho : K.lookup f = some ⟨oc, od, .func (fnOf name qual params body scope dV kV doc pm an cdv ct), osl⟩) (hcd : codeIn K cdv qual = true) (hroom : A.depth < recursionLimit)
    (hbind : BindsTo s (fnOf name qual params body scope dV kV doc pm an cdv ct) args binds)
    (hkind : (binds.all fun y => scope.names.lookup y.1 == some .local || scope.names.lookup y.1 == some .cell) = true)
    (h : ∀ s₁, InCallC s s.heap.objs.size (bindL (envOfC qual scope s.heap.objs.size f cdv).kindOf binds fun _ => none) (cellsFrom (s.heap.objs.size + 1) scope.names [])
        (bindC (envOfC qual scope s.heap.objs.size f cdv).kindOf binds fun _ => none) s₁ →
      wpAny (model prog w) (A.deeper (envOfC qual scope s.heap.objs.size f cdv)) (execs body (envOfC qual scope s.heap.objs.size f cdv))
        (fun fl s' => R (.ok (.ret (match fl with | .ret v => v | _ => .none))) s')
        (fun e s' => wpAny (model prog w) (A.deeper (envOfC qual scope s.heap.objs.size f cdv)) (leaving (envOfC qual scope s.heap.objs.size f cdv) e) (fun _ s'' => R (.error e) s'') (fun e' s'' => R (.error e') s'') s') s₁)
    (hco : scope.isCoroutine = false) (hgen : scope.isGenerator = false) (hk : scope.kind = .function) : codeAny (model prog w) A (.call (.ref f) args) R s := by
  refine codeAny_call_function hroom (X _ _ ho) rfl hco hgen rfl (codeRec_of X hcd) (hbind _ _ _ _ ?_)
  refine wpAny_newFunctionEnv_cells hk (kindsX hkind _) fun env he s₁ x => ?_
  subst he
  exact ⟨hlim.keeps x.toInCall.keep, codeAny_func (h s₁ x)⟩

/-- C(..): dict at size, instance at size + 1, then __init__ -/
theorem make_obj {R : Result → Shared → Prop} {C fI : Addr} {rest : List Value} {kw : List (Str × Value)}
    (X : K.In s.heap) (hm : makesIn K C = true) (hi : findIn K (.ref C) "__init__" = some (some (.ref fI))) (hf : isFn K (.ref fI) = true)
    (h : codeAny (model prog w) (A.under (.builtin "type.__call__" ⟨.ref C :: rest, kw⟩)) (.call (.ref fI) ⟨.ref (s.heap.objs.size + 1) :: rest, kw⟩) (InitBack (s.heap.objs.size + 1) R)
      { s with heap := (s.heap.push emptyDict).push (instObj C s.heap.objs.size) }) : codeAny (model prog w) A (.call (.ref C) ⟨rest, kw⟩) R s := by
  obtain ⟨hh, g, d, t, os⟩ := s
  exact make_core (makes_of X hm) (looks_findIn X hi) (fun self => bind_fn X self (beq_iff_eq.mp hf)) (.inl rfl) h

/-- x.name where the instance's dict holds the name and the class does not -/
theorem get_field {x C : Addr} {ox : Obj} {es : List DictEntry} {n : Nat} {name : Str} {expr : Bool} {v : Value} {Q : Value → Shared → Prop}
    (X : K.In s.heap) (I : PySem.W.InstAt s.heap x ox C (some (dictOf es n))) (hg : plainGet K C name = true) (hh : hasDictIn K C = true) (ha : findIn K (.ref C) name = some none)
    (hl : getL name es = some (some v)) (hv : handedIn v = true) (h : Q v { s with toks := s.toks + 1 }) : wpAny (model prog w) A (getAttr (.ref x) name expr) Q E s :=
  get_value X I (plainGet_of hg).1 (findObj_own hh ha rfl hl) hv h

/-- x.m(..): the method found in the class -/
theorem get_method {x C f : Addr} {ox : Obj} {es : List DictEntry} {n : Nat} {name : Str} {pl : Sem Bool} {Q : Value × List Value → Shared → Prop}
    (X : K.In s.heap) (I : PySem.W.InstAt s.heap x ox C (some (dictOf es n))) (hg : plainGet K C name = true) (hf : findIn K (.ref C) name = some (some (.ref f))) (ht : isFn K (.ref f) = true)
    (hl : getL name es = some none) (h : Q (.ref f, [.ref x]) s) : wpAny (model prog w) A (getMethod (.ref x) name pl) Q E s :=
  method_fn X I (plainGet_of hg).1 (plainGet_of hg).2 hf (beq_iff_eq.mp ht) (by show (lookIn name (dictOf es n)).map _ = _; rw [lookIn_dict, hl]; rfl) h

/-! the whole heap as the ledger: makes every rule that writes through a ledger a rule over any heap -/
def noObjs (h : Heap) : Heap := { h with objs := #[] }
theorem noObjs_get (h : Heap) (b : Addr) : (noObjs h).get? b = none := by
  cases e : (noObjs h).get? b with
  | none => rfl
  | some o => exact absurd (Heap.lt_size e) (Nat.not_lt_zero _)
def ledger (h : Heap) (L d : Addr) : List (Addr × Obj) := (List.range h.objs.size).filterMap fun a => if a = L ∨ a = d then none else (h.get? a).map fun o => (a, o)
theorem mem_ledger {h : Heap} {L d a : Addr} {o : Obj} : (a, o) ∈ ledger h L d ↔ a ≠ L ∧ a ≠ d ∧ h.get? a = some o := by
  unfold ledger
  rw [List.mem_filterMap]
  constructor
  · rintro ⟨b, _, e⟩
    split at e
    · cases e
    · rename_i hb
      obtain ⟨o', ho, e'⟩ := Option.map_eq_some_iff.mp e
      cases e'
      exact ⟨fun q => hb (.inl q), fun q => hb (.inr q), ho⟩
  · rintro ⟨n1, n2, ho⟩
    refine ⟨a, List.mem_range.mpr (Heap.lt_size ho), ?_⟩
    rw [if_neg (show ¬ (a = L ∨ a = d) from fun q => q.elim n1 n2), ho] <;> rfl
theorem news_ledger {h : Heap} {L d : Addr} {od : Obj} (hne : d ≠ L) (ho : h.get? d = some od) : News (noObjs h) L h ([] ++ (d, od) :: ledger h L d) := by
  rintro ⟨a, o⟩ hp
  rcases List.mem_cons.mp hp with e | hp
  · cases e
    exact ⟨ho, hne, noObjs_get _ _⟩
  · obtain ⟨n1, n2, e⟩ := mem_ledger.mp hp
    exact ⟨e, n1, noObjs_get _ _⟩
theorem fr_all {h : Heap} {L : Addr} {m : Str → Option Value} (n : h.Ns L m) : Fr (noObjs h) L h m :=
  ⟨n, fun b o e => (by rw [noObjs_get] at e; cases e), Nat.zero_le _⟩
/-- Upd of the head entry (for append_K, setItem_K ..) -/
theorem upd_ledger {h : Heap} {L d : Addr} {o o' : Obj} : Upd d o o' ((d, o) :: ledger h L d) ((d, o') :: ledger h L d) :=
  .head fun ⟨_, _⟩ hp => (mem_ledger.mp hp).2.1

/-- x.name = v over any heap: L is any namespace of the heap (the frame's, say): its map stays, its object is not told; all else but the dict stays -/
theorem set_field {x C dx L : Addr} {ox : Obj} {m : Str → Option Value} {es es' : List DictEntry} {n n' : Nat} {name : Str} {v : Value} {Q : Unit → Shared → Prop}
    (X : K.In s.heap) (I : PySem.W.InstAt s.heap x ox C (some (dictOf es n))) (hd : ox.dict = some dx) (hL : s.heap.Ns L m) (hne : dx ≠ L)
    (hs : findIn K (.ref C) "__setattr__" = some (some (.builtin "object.__setattr__"))) (hp : plainOver K C = true) (ht : takerIn K C name = some none) (hh : hasDictIn K C = true) (hl : (getL name es).isSome = true)
    (e : (putL name (PyData.keyHash w.params name) (.str name (s.toks + 1)) v es, putN name es n) = (es', n')) (hz : es'.length ≤ 1000)
    (h : ∀ h' : Heap, h'.Ns L m → h'.get? dx = some (dictOf es' n') → (∀ b o, b ≠ dx → b ≠ L → s.heap.get? b = some o → h'.get? b = some o) → Q () { s with heap := h', toks := s.toks + 2 }) :
    wpAny (model prog w) A (setAttr (.ref x) name v) Q E s := by
  obtain ⟨e1, e2⟩ := Prod.mk.inj e
  have hdx : s.heap.get? dx = some (dictOf es n) := by
    have := I.dict
    rw [hd] at this
    exact this
  refine set_plain X I hs (osa_dict (s := { s with toks := s.toks + 1 }) (h₀ := noObjs s.heap) (L := L) (m := m) (od := dictOf es n) (od' := dictOf es' n') (es := es') (n := n') (pre := []) (post := ledger s.heap L dx)
    (fr_all hL) (news_ledger hne hdx) X I hd hp ht hh hl (fun _ q => nomatch q) (fun ⟨_, _⟩ q => (mem_ledger.mp q).2.1) (by rw [putName_dict, e1, e2]) rfl hz fun h' F' N' => ?_)
  exact h h' F'.ns (N'.get (List.Mem.head _)) fun b o n1 n2 ho => N'.get (List.Mem.tail _ (mem_ledger.mpr ⟨n2, n1, ho⟩))
end
end Att

namespace L2
open PySem PySem.Spec PyProof.Rows

theorem vals_ints : ∀ {vs : List Value} {ns : List Int}, IntsAre vs ns → Vals (ns.map V.int) vs
  | _, _, .nil => .nil
  | _, _, .cons n t h => .cons ⟨t, rfl⟩ (vals_ints h)

/-- nothing is tracked but the script, known to the object (or it is an object of the module) -/
def Only (H : Hp) : Prop := ∀ b, H b = none ∨ ∃ o xs, H b = some (.frz o (.lst xs))

/-- THE HEAD: the law's promise, at the heap behind the top. F, the promise of the law's def, may use that base is part of the heap (so K.In base, base.Ns mainGlobals mg stand in Mod) -/
theorem law_call {P : Program} {w : World} {K : PySem.W.Frag} {mg mb : Str → Option Value} {CX : CXT} {k : Nat} {fa a : Addr} {fd : FuncData} {x : Str} {sp : Sp} {s₁ : Shared} {vs : List Value} {ns : List Int}
    (KX : K.In s₁.heap) (hns : s₁.heap.Ns mainGlobals mg) (hb : s₁.heap.Ns builtinsNs mb) (hbb : ∀ x : Str, x ≠ "__name__" → mb x = bootBuiltins x) (hlim : s₁.heap.NoLimit) (hg : s₁.gens = #[])
    (ha : s₁.heap.get? a = some { cls := .type "list", data := .seq vs.toArray }) (hi : IntsAre vs ns) (hl : ns.length ≤ sizeLine) (hr : Room k callerA)
    (F : ∀ base : Heap, K.In base → base.Ns mainGlobals mg → FnOk P w K mg base CX k fa fd [x] sp) (hbind : ∀ (s : Shared) (u : Value), BindsTo s fd ⟨[u], []⟩ [(x, u)])
    (hsp : ∀ H : Hp, Only H → SqL K H a (ns.map V.int) → sp [.ref a] H (fun v _ => v = .bl true) fun _ _ _ => False)
    (hCX : ∀ H e s', CX [] H s₁ (fun _ _ _ => False) e s' → False) :
    codeAny (model P w) callerA (.call (.ref fa) ⟨[.ref a], []⟩) (fun r s' => r = .ok (.ret (.bool true)) ∧ OldK s₁.heap s'.heap ∧ s'.os = s₁.os ∧ AllBare s'.gens) s₁ := by
  have rv := vals_ints hi
  have lenV := hi.length
  -- from an abstract heap in which nothing but the script may be tracked
  have core : ∀ H : Hp, Only H → SqL K H a (ns.map V.int) → HOk P w H s₁.heap → (∀ b, H b ≠ none → b = a) → (H a ≠ none → K.lookup a = none) →
      codeAny (model P w) callerA (.call (.ref fa) ⟨[.ref a], []⟩) (fun r s' => r = .ok (.ret (.bool true)) ∧ OldK s₁.heap s'.heap ∧ s'.os = s₁.os ∧ AllBare s'.gens) s₁ := by
    intro H hO hS hok hA hK
    have base_of : ∀ {b : Addr} {o : Obj}, s₁.heap.get? b = some o → H b = none → (hidT s₁.heap H).get? b = some o := fun e n => hidT_get e n
    have noA : ∀ {b : Addr} {o : Obj} {es : Array DictEntry} {ep : Nat}, s₁.heap.get? b = some o → o.data = .dict es ep → H b = none := fun {b o es ep} e d => by
      cases q : H b with
      | none => rfl
      | some u =>
        have e' : b = a := hA b (by rw [q]; simp)
        subst e'
        rw [ha] at e; cases e
        have d' : Data.seq vs.toArray _ = Data.dict es ep := d
        cases d'
    have nsK : ∀ {b : Addr} {m : Str → Option Value}, s₁.heap.Ns b m → (hidT s₁.heap H).Ns b m := fun {b m} ⟨o, es, ep, e, d, r⟩ => ⟨o, es, ep, base_of e (noA e d), d, r⟩
    have hKb : K.In (hidT s₁.heap H) := fun b o e => base_of (KX b o e) (by
      cases q : H b with
      | none => rfl
      | some u =>
        have e' : b = a := hA b (by rw [q]; simp)
        subst e'
        rw [hK (by rw [q]; simp)] at e; cases e)
    have hM : Mod K mg (hidT s₁.heap H) := ⟨hKb, nsK hns, ⟨mb, nsK hb, hbb⟩, let ⟨mc, h1, h2⟩ := hlim; ⟨mc, nsK h1, h2⟩⟩
    have e0 : Env0 P w K mg (hidT s₁.heap H) callerA [] s₁ H := ⟨rfl, hM, fun b o e => of_hidT e, Nat.le_of_eq (hidT_size _ _), trivial, fun b hb => absurd (show b ∈ ([] : List Addr) from hb) (by simp), hok, .of_eq hg⟩
    refine codeAny_mono ((F _ hKb (nsK hns)).run callerA [] s₁ H ⟨[.ref a], []⟩ [.ref a] [.ref a] _ _ hr e0 (hbind s₁ (.ref a)) (.cons rfl .nil) (hsp H hO hS)) fun r s' h => ?_
    cases r with
    | error e => exact (hCX H e s' h).elim
    | ok fl =>
      cases fl with
      | next => exact False.elim h
      | brk => exact False.elim h
      | cont => exact False.elim h
      | ret u =>
        obtain ⟨v, H', os, bare, un, hok', r', q⟩ := h
        have q' : v = .bl true := q
        subst q'
        obtain rfl : u = Value.bool true := r'
        refine ⟨rfl, OldK.of_keep fun b o e => ?_, os, bare⟩
        cases q : H b with
        | none => exact un.keep b o e q (by intro z; exact absurd (show b ∈ ([] : List Addr) from z) (by simp)) (by simp)
        | some u =>
          rcases hO b with z | ⟨ob, xs, z⟩
          · rw [q] at z; cases z
          · have z2 := un.frzs b ob _ z
            obtain ⟨e1, _⟩ := hok b _ z
            obtain ⟨e2, _⟩ := hok' b _ z2
            rw [e] at e1; cases e1
            exact e2
  cases hk : K.lookup a with
  | some o =>
    -- the script is one of the module's own objects
    have e := KX a o hk
    rw [ha] at e
    cases e
    refine core (fun _ => none) (fun _ => .inl rfl) (.inr ⟨_, vs.toArray, _, hk, rfl, rfl, rfl, by rw [List.size_toArray, lenV]; exact hl, by simpa using rv⟩) (fun b u z => by have z' : (none : Option HO) = some u := z; cases z') (fun b z => absurd rfl z) fun z => absurd rfl z
  | none =>
    refine core (fun b => if b = a then some (.frz { cls := .type "list", data := .seq vs.toArray } (.lst (ns.map V.int))) else none) (fun b => ?_) (.inl (.inr ⟨{ cls := .type "list", data := .seq vs.toArray }, if_pos rfl⟩)) (fun b u z => ?_) (fun b z => ?_) fun _ => hk
    · by_cases hb : b = a
      · exact .inr ⟨_, _, if_pos hb⟩
      · exact .inl (if_neg hb)
    · by_cases hb : b = a
      · have z' := (if_pos hb).symm.trans z
        cases z'
        subst hb
        exact ⟨ha, by rw [List.length_map]; exact hl, vs, _, rv, ha⟩
      · have z' := (if_neg hb).symm.trans z
        cases z'
    · by_cases hb : b = a
      · exact hb
      · exact absurd (if_neg hb) z
end L2

namespace L2
open PySem PySem.Spec PyProof.Rows

abbrev KOf {K : PySem.W.Frag} {h : Heap} (_ : K.In h) : PySem.W.Frag := K

/-- the goal that k_head leaves (case hc), from the law's promise. F gives the function object fd (K's own) once, then the promise over every base -/
theorem walk_of {l : PySem.W.OpenLaw} {n k : Nat} {q : Program} {loose : List Str} {XP : (Str → Option Value) → Heap → Prop} {YP : World → Heap → Prop} {d : DefRec} {K : Params → PySem.W.Frag} {CX : World → CXT} {sp : World → Sp} {x : Str}
    (hn : l.most = some n) (hn2 : n ≤ sizeLine) (hdf : d.params.defaults = []) (hr : Room k callerA)
    (hY : ∀ (w : World) (h : Heap), YP w h → (K w.params).In h)
    (F : ∀ (w : World) (mg : Str → Option Value) (fa : Addr) (h : Heap), (K w.params).In h → h.Ns mainGlobals mg → mg d.name = some (.ref fa) →
      ∃ fd : FuncData, (∀ (s : Shared) (u : Value), BindsTo s fd ⟨[u], []⟩ [(x, u)]) ∧
        ∀ base : Heap, (K w.params).In base → base.Ns mainGlobals mg → FnOk l.prog w (K w.params) mg base (CX w) k fa fd [x] (sp w))
    (hsp : ∀ (w : World) (H : Hp) (a : Addr) (ns : List Int), ns.length ≤ n → Only H → SqL (K w.params) H a (ns.map V.int) → sp w [.ref a] H (fun v _ => v = .bl true) fun _ _ _ => False)
    (hCX : ∀ (w : World) (H : Hp) (s : Shared) (e : Value) (s' : Shared), CX w [] H s (fun _ _ _ => False) e s' → False) :
    PySem.W.WalkO q loose XP YP l.row.toRowW d [] (fun f vs => PySem.call f vs) := by
  refine Att.attach_call hn hdf fun w s₀ s₁ mg mb fa o pm cd doc a vs ns G Y ho hd hcd hmg hobj hints hlen hg => ?_
  have KX := hY w _ Y
  obtain ⟨fd, hb, hF⟩ := F w mg fa _ KX G.T.g hmg
  exact law_call KX G.T.g G.T.b G.T.builtins G.T.nolimit hg hobj hints (Nat.le_trans hlen hn2) hr hF hb (fun H hO hS => hsp w H a ns hlen hO hS) fun H e s' => hCX w H s₁ e s'
/-- the same where the promise hangs on the written part alone: (sp := My.sp_law), no hole under a binder -/
theorem walk_ofK {l : PySem.W.OpenLaw} {n k : Nat} {q : Program} {loose : List Str} {XP : (Str → Option Value) → Heap → Prop} {YP : World → Heap → Prop} {d : DefRec} {K : Params → PySem.W.Frag} {CX : CXT} {sp : PySem.W.Frag → Sp} {x : Str}
    (hn : l.most = some n) (hn2 : n ≤ sizeLine) (hdf : d.params.defaults = []) (hr : Room k callerA)
    (hY : ∀ (w : World) (h : Heap), YP w h → (K w.params).In h)
    (F : ∀ (w : World) (mg : Str → Option Value) (fa : Addr) (h : Heap), (K w.params).In h → h.Ns mainGlobals mg → mg d.name = some (.ref fa) →
      ∃ fd : FuncData, (∀ (s : Shared) (u : Value), BindsTo s fd ⟨[u], []⟩ [(x, u)]) ∧
        ∀ base : Heap, (K w.params).In base → base.Ns mainGlobals mg → FnOk l.prog w (K w.params) mg base CX k fa fd [x] (sp (K w.params)))
    (hsp : ∀ (K : PySem.W.Frag) (H : Hp) (a : Addr) (ns : List Int), ns.length ≤ n → Only H → SqL K H a (ns.map V.int) → sp K [.ref a] H (fun v _ => v = .bl true) fun _ _ _ => False)
    (hCX : ∀ (H : Hp) (s : Shared) (e : Value) (s' : Shared), CX [] H s (fun _ _ _ => False) e s' → False) :
    PySem.W.WalkO q loose XP YP l.row.toRowW d [] (fun f vs => PySem.call f vs) :=
  walk_of (K := K) (CX := fun _ => CX) (sp := fun w => sp (K w.params)) hn hn2 hdf hr hY F (fun w H a ns h1 h2 h3 => hsp (K w.params) H a ns h1 h2 h3) fun _ H s e s' => hCX H s e s'
end L2

/- THE LAST THEOREM (shape; LID, My.* are yours):
   My.Adr: a structure of the addresses that your layer names (classes, functions); My.Txt K t: a structure (Prop) of the equations over K;
   My.txt_mk : {K} {implicit addresses ..} (e1 : nsIn K mainGlobals "law" = some (some (.ref f))) (e2 : K.lookup f = some ⟨oc, od, .func (fnOf "law" "law" params body scope dV kV doc pm an cdv ct), sl⟩) (e3 : codeIn K cdv "law" = true) .. : ∃ t, My.Txt K t

set_option maxRecDepth 100000 in
set_option maxHeartbeats 0 in
theorem PySem.Challenge.cw_LID_holds : PySem.Challenge.rw_LID.Holds := by
  w_on; o_law; k_head; (case hw => w_witness2)
  k_fill
  refine L2.walk_of (l := PySem.Challenge.rw_LID) (n := 63) (k := 40) (x := "script") (CX := fun w => ..) (sp := fun _ => My.sp_law) rfl (by decide) rfl ⟨rfl, by decide, by decide⟩ (fun w h Y => PySem.W.kIn_of Y) ?F ?S ?C
  case F =>
    intro w mg fa h KX G hmg
    have T : ∃ t, My.Txt (L2.KOf KX) t := by
      dsimp only [L2.KOf]                          -- K must stand as «<heap const> w.params» for k_is
      refine' My.txt_mk ?e1 ?e2 ?e3 ..
      (case e1 => PySem.W.k_is)                    -- in the order: a name -> its address -> its object -> its parts
      (case e2 => PySem.W.k_is)
      ..
    obtain ⟨t, T⟩ := T
    have e0 := hmg.symm.trans (PySem.W.mg_of KX G T.law)
    cases e0                                       -- fa is the law's own address
    exact ⟨_, fun s u => .of_eq rfl, fun base kb nb => My.law_fn T kb nb⟩     -- if «.of_eq rfl» comes too early: refine' ⟨_, ?b, fun base kb nb => My.law_fn T kb nb⟩; exact fun s u => .of_eq rfl
  case S => exact fun w H a ns hl hO hS => ..
  case C => exact ..
(the tactic k_is has no namespace: write k_is) -/

/-! SHORT WORDS over the layer: a def of the text, its body, what a loop and a test want. -/
namespace L2
open PySem PySem.Spec PyProof.Rows

/-! ### the text by places -/
/-- the j-th statement of a class's body -/
def inClass (s : Stmt) (j : Nat) : Stmt := match s with
  | .ClassDef _ _ _ body _ _ _ _ _ _ _ => body.getD j (.Pass ⟨0, 0, 0, 0⟩)
  | _ => .Pass ⟨0, 0, 0, 0⟩
def defArgs (s : Stmt) : Arguments := match s with
  | .FunctionDef _ a _ _ _ _ _ _ _ _ => a
  | _ => { posonlyargs := [], args := [], vararg := none, kwonlyargs := [], kw_defaults := [], kwarg := none, defaults := [] }
def defBody (s : Stmt) : List Stmt := match s with
  | .FunctionDef _ _ b _ _ _ _ _ _ _ => b
  | _ => []
def defScope (s : Stmt) : Scope := match s with
  | .FunctionDef _ _ _ _ _ _ sc _ _ _ => sc
  | _ => { kind := .function, names := [], isGenerator := false, isCoroutine := false }

/-! ### no exception leaves a def -/
abbrev CX0 : CXT := fun _ _ _ _ _ _ => False
abbrev E0 : XK := fun _ _ _ => False
theorem pass0 {X : Cx} : Passes CX0 X E0 := fun _ _ _ _ _ _ _ h => h.elim

/-! ### a def (or method) of the text as it stands behind the top -/
structure Fun (K : PySem.W.Frag) (x qual : Str) (st : Stmt) (f : Addr) (fd : FuncData) : Prop where
  ex : ∃ (oc : Value) (od : Option Addr) (kV doc pm : Value) (an : Option Addr) (cdv ct : Value) (osl : Array (Option Value)),
    fd = PySem.W.fnOf x qual (defArgs st) (defBody st) (defScope st) .none kV doc pm an cdv ct ∧ K.lookup f = some ⟨oc, od, .func fd, osl⟩ ∧ PySem.W.codeIn K cdv qual = true
  kp : PySem.W.keepIn K (.ref f) = true
section
variable {P : Program} {w : World} {K : PySem.W.Frag} {mg : Str → Option Value} {base : Heap}
/-- THE RULE for a def: its body as a term of rules, and the reading of that term -/
theorem Fun.ok {x qual : Str} {st : Stmt} {f : Addr} {fd : FuncData} {N ps : List Str} {k : Nat} {sp : Sp} (F : Fun K x qual st f fd) (S : FnScope N ps (defScope st)) (len : ∀ vs H Q E, sp vs H Q E → vs.length = ps.length)
    (hbody : ∀ (cdv : Value) (A : Around) (outer : List Env) (s : Shared) (H : Hp) (vs : List V) (Q : VK) (E : XK), Room k (A.deeper (envOfC qual (defScope st) s.heap.objs.size f cdv)) → sp vs H Q E →
      ∃ t, PSs (cxOf CX0 P w K mg base N qual (defScope st) f cdv A outer s H E).nox (defBody st) t ∧ t { nx := fun _ H' => Q .non H', rt := Q } (start N vs) H) : FnOk P w K mg base CX0 (k + 1) f fd ps sp := by
  obtain ⟨oc, od, kV, doc, pm, an, cdv, ct, osl, rfl, lk, hcd⟩ := F.ex
  refine fn_of lk hcd S len fun A outer s H vs Q E hr hsp => ?_
  obtain ⟨t, h, q⟩ := hbody cdv A outer s H vs Q E hr hsp
  exact ⟨t, h.nox, q⟩
/-- how its arguments bind (no defaults): h is «fun _ _ _ _ _ _ us hl => match us, hl with | [_, _], _ => rfl», one _ a parameter -/
theorem Fun.binds {x qual : Str} {st : Stmt} {f : Addr} {fd : FuncData} {ps : List Str} (F : Fun K x qual st f fd)
    (h : ∀ (kV doc pm : Value) (an : Option Addr) (cdv ct : Value) (us : List Value), us.length = ps.length → bindArgs (PySem.W.fnOf x qual (defArgs st) (defBody st) (defScope st) .none kV doc pm an cdv ct) ⟨us, []⟩ = pure (ps.zip us)) : Binds K fd ps [] := by
  obtain ⟨oc, od, kV, doc, pm, an, cdv, ct, osl, rfl, lk, hcd⟩ := F.ex
  exact .all (h kV doc pm an cdv ct)
theorem fun_mk {x qual : Str} {st : Stmt} {f : Addr} {oc : Value} {od an : Option Addr} {osl : Array (Option Value)} {kV doc pm cdv ct : Value} (l : K.lookup f = some ⟨oc, od, .func (PySem.W.fnOf x qual (defArgs st) (defBody st) (defScope st) .none kV doc pm an cdv ct), osl⟩)
    (c : PySem.W.codeIn K cdv qual = true) (k : PySem.W.keepIn K (.ref f) = true) : Fun K x qual st f (PySem.W.fnOf x qual (defArgs st) (defBody st) (defScope st) .none kV doc pm an cdv ct) := ⟨⟨oc, od, kV, doc, pm, an, cdv, ct, osl, rfl, l, c⟩, k⟩
end
theorem hu_of {A : Around} {k : Nat} (hr : Room k A) : A.units + 1 < cLine := Nat.lt_of_le_of_lt (Nat.add_le_add_left (by decide : 1 ≤ 64) _) hr.units
theorem small1000 {n : Nat} (h : n ≤ 1000) : n < sizeLine := Nat.lt_of_le_of_lt h (by decide)

/-! ### expressions in short: the name that stands in the i-th slot -/
section
variable {X : Cx}
theorem pv (i : Nat) {x : Str} {pos : Pos} (hN : X.N[i]? = some x := by rfl) (hv : Vis X.env.scope x := by first | exact Or.inl rfl | exact Or.inr (Or.inl rfl) | exact Or.inr (Or.inr rfl)) (hd : (x == ("__debug__" : Str)) = false := by decide)
    (hcd : (x == ("__classdict__" : Str)) = false := by decide) : PE X (.Name x pos) (tVar i) := pe_var hN hv hd hcd
end

/-! ### tests -/
theorem iteF {A B : Prop} (h : B) : if false = true then A else B := by
  rw [if_neg Bool.false_ne_true]
  exact h
theorem iteT {A B : Prop} (h : A) : if true = true then A else B := by
  rw [if_pos rfl]
  exact h
theorem ite2 {c A B : Prop} [Decidable c] (h1 : c → A) (h2 : ¬ c → B) : if c then A else B := by
  by_cases h : c
  · rw [if_pos h]
    exact h1 h
  · rw [if_neg h]
    exact h2 h
theorem iteNS {c A B : Prop} [Decidable c] (hc : c) (h : B) : if (!decide c) = true then A else B := by
  rw [decide_eq_true hc]
  exact iteF h

/-! ### heaps -/
/-- all that was tracked is as it was -/
def Same (H H' : Hp) : Prop := ∀ b o, H b = some o → H' b = some o
theorem Same.refl (H : Hp) : Same H H := fun _ _ h => h
theorem Same.trans {H H1 H2 : Hp} (a : Same H H1) (b : Same H1 H2) : Same H H2 := fun c o h => b c o (a c o h)
theorem Same.free {H H' : Hp} (e : Same H H') {l : Addr} (h : H' l = Option.none) : H l = Option.none := by
  cases q : H l with
  | none => rfl
  | some o =>
    rw [e l o q] at h
    cases h
theorem Same.seq {K : PySem.W.Frag} {H H' : Hp} {a : Addr} {xs : List V} (e : Same H H') (h : SqL K H a xs) : SqL K H' a xs := by
  rcases h with (h | ⟨o, h⟩) | h
  · exact .inl (.inl (e _ _ h))
  · exact .inl (.inr ⟨o, e _ _ h⟩)
  · exact .inr h

end L2

set_option maxRecDepth 100000
namespace L2
open PySem PySem.Spec PyProof.Rows

/-! ### a list comprehension of one clause, over a name -/
/-- its block: x the loop's own name; ys the names that it takes from the frame around (their slots there: js), cl their cells -/
structure CompSc (X : Cx) (scope : Scope) (x : Str) (cl : List (Str × Addr)) (ys : List Str) (js : List Nat) : Prop where
  kind : scope.kind = .function
  clos : closureFor scope X.env = pure cl
  nocell : ∀ y ∈ scope.names, y.2 ≠ .cell
  names : ∀ y ∈ scope.names, y.2 = .local → scope.names.lookup y.1 = some .local
  hx : scope.names.lookup x = some .local
  inj : ∀ y z c, cl.lookup y = some c → cl.lookup z = some c → y = z
  sub : ∀ y c, cl.lookup y = some c → X.env.cells.lookup y = some c
  has : ∀ y, ((relabel scope X.env).names.lookup y = some .cell ∨ (relabel scope X.env).names.lookup y = some .free) → ∃ c, cl.lookup y = some c
  nd : (x :: ys).Nodup
  len : ys.length = js.length
  at_ : ∀ (k : Nat) (y : Str) (j : Nat), ys[k]? = some y → js[k]? = some j → X.N[j]? = some y ∧ X.env.scope.names.lookup y = some .cell ∧ (relabel scope X.env).names.lookup y = some .cell ∧ ∃ c, cl.lookup y = some c
def fvs (js : List Nat) (σ : St) : St := js.map fun j => (σ[j]?).join
/-- the context of the block -/
abbrev Cx.comp (X : Cx) (scope : Scope) (x : Str) (cl : List (Str × Addr)) (ys : List Str) (s3 : Shared) (H3 : Hp) (fp : List Addr) : Cx :=
  { X with N := x :: ys, s₀ := s3, H₀ := H3, env := compEnvC scope cl s3.heap.objs.size X.env, outer := X.stack, ex := fp, fn := fun _ => false, pn := [], xe := fun _ _ => False }
theorem inv_comp {X : Cx} {scope : Scope} {x : Str} {cl : List (Str × Addr)} {ys : List Str} {js : List Nat} {pins : List (Addr × Obj)} {σ : St} {H3 : Hp} {s3 : Shared} {fp : List Addr} {h1 : Heap} {mm : Str → Option Value} {tk : Nat}
    (S : CompSc X scope x cl ys js) (I3 : Inv X pins σ H3 s3) (hfp : ∀ b ∈ fp, FpOk X pins H3 b) (hob : ∀ b ∈ fp, b < s3.heap.objs.size) (hns : h1.Ns s3.heap.objs.size mm) (keep : ∀ b o, s3.heap.get? b = some o → h1.get? b = some o) :
    Inv (X.comp scope x cl ys s3 H3 fp) [] (none :: fvs js σ) H3 { s3 with heap := h1, toks := tk } := by
  refine ⟨⟨I3.ok.mod, S.kind, I3.ok.glob, I3.ok.blt, Nat.le_refl _, S.inj, S.has, fun y c h => ?_, I3.ok.hd, I3.ok.frames, .inl rfl, fun b hb => ⟨?_, fun y c e => ?_⟩, I3.bs, Nat.le_trans I3.ok.bsz I3.sz, fun b o e hb => ?_, fun b hb hf => ?_, I3.stack, I3.stkFree⟩,
    rfl, I3.bare, Un.kept keep, ⟨mm, hns, fun i y v e1 e2 e3 => ?_⟩, fun y c e => ?_, I3.hok.fresh (Nat.le_refl _), fun y c e => I3.freeC y c (S.sub y c e), fun p hp => absurd (show p ∈ ([] : List (Addr × Obj)) from hp) (by simp), I3.hok.kept keep, ?_⟩
  · exact absurd (show false = true from h) Bool.false_ne_true
  · exact Nat.ne_of_lt (hob b hb)
  · exact (hfp b hb).2.2.2.2.1 y c (S.sub y c e)
  · rcases (hfp b hb).2.2.2.1 with z | z
    · exact I3.ok.noex b o e z
    · exact absurd (Nat.lt_of_lt_of_le (Heap.lt_size e) (Nat.le_trans I3.ok.bsz z)) (Nat.lt_irrefl _)
  · rcases List.mem_cons.mp (I3.stkSub b hf) with z | z
    · exact (hfp b hb).2.1 z
    · exact (hfp b hb).2.2.1 z
  · cases i with
    | zero =>
      have e2 : (some (none : Option V)) = some (some v) := e2
      cases e2
    | succ k =>
      have e1 : ys[k]? = some y := e1
      have e2 : (fvs js σ)[k]? = some (some v) := e2
      have hk : k < js.length := by rw [← S.len]; exact (List.getElem?_eq_some_iff.mp e1).1
      obtain ⟨h1', h2', h3', c, h4'⟩ := S.at_ k y js[k] e1 (by simp [hk])
      have e3 : σ[js[k]]? = some (some v) := by
        unfold fvs at e2
        rw [List.getElem?_map] at e2
        have : js[k]? = some js[k] := by simp [hk]
        rw [this] at e2
        have e2 : (σ[js[k]]?).join = some v := Option.some.inj e2
        cases q : σ[js[k]]? with
        | none => rw [q] at e2; cases e2
        | some z => rw [q] at e2; cases z with
          | none => cases e2
          | some z => cases e2; rfl
      obtain ⟨m, hn, hl⟩ := I3.loc
      obtain ⟨u, r, l⟩ := hl js[k] y v h1' e3 (.inr (.inl h2'))
      refine ⟨u, r, .inr ⟨.inl h3', c, h4', ?_⟩⟩
      rcases l with ⟨q, _⟩ | ⟨_, c', q, z⟩
      · have q : X.env.scope.names.lookup y = some .local := q
        rw [h2'] at q; cases q
      · rw [S.sub y c h4'] at q; cases q
        exact z.keeps keep
  · obtain ⟨v, z⟩ := I3.cell y c (S.sub y c e)
    exact ⟨v, z.keeps keep⟩
  · show (none :: fvs js σ).length = (x :: ys).length
    unfold fvs
    rw [List.length_cons, List.length_cons, List.length_map, S.len]

/-- the tests of a clause -/
def PIf (X : Cx) (ifs : List Expr) (t : TT) : Prop :=
  ∀ (pins : List (Addr × Obj)) (s : Shared) (σ : St) (H : Hp) (Q : Bool → Hp → Prop), Inv X pins σ H s → t σ H Q →
    wpAny (model X.prog X.w) X.A (forIn ifs true fun c r => if r = true then do let ok ← isTrue c X.env (eval c X.env); pure (ForInStep.yield ok) else pure (ForInStep.yield r)) (TP X pins σ Q) X.xe s
theorem pif_nil {X : Cx} : PIf X [] (fun _ H Q => Q true H) := fun pins s σ H Q I h => wpAny_tests_nil ⟨H, I, h⟩
theorem pif_one {X : Cx} {c : Expr} {t : TT} (h : PT X c t) : PIf X [c] t := fun pins s σ H Q I q => wpAny_tests_one (h pins s σ H Q I q)

/-- a turn of the loop, the step ahead of the store kept -/
theorem compLoop_go {P : Program} {w : World} {A : Around} {R : Result → Shared → Prop} {s : Shared} {elt tg iter : Expr} {ifs : List Expr} {scope : Scope} {pos : Pos} {it acc : Value} {env : Env} (Iv : Nat → Shared → Prop)
    (turn : ∀ n s, Iv n s → wpAny (model P w) A (pyNext it) (fun r s1 => match r with
      | none => R (.ok .next) s1
      | some v => wpAny (model P w) A (letOwnedTupleGo tg it v) (fun _ s1' => wpAny (model P w) A (assign tg env v) (fun _ s2 =>
          wpAny (model P w) A (forIn ifs true fun c r => if r = true then do let ok ← isTrue c env (eval c env); pure (ForInStep.yield ok) else pure (ForInStep.yield r)) (fun ok s3 =>
            if ok = true then wpAny (model P w) A (eval elt env) (fun y s4 => wpAny (model P w) A (call (.builtin "list.append") [acc, y]) (fun _ s5 => ∃ m, m < n ∧ Iv m s5) (fun _ _ => False) s4) (fun _ _ => False) s3
            else ∃ m, m < n ∧ Iv m s3) (fun _ _ => False) s2) (fun _ _ => False) s1') (fun _ _ => False) s1) (fun _ _ => False) s)
    (n : Nat) (h0 : Iv n s) : codeAny (model P w) A (.compLoop (.ListComp elt [⟨tg, iter, ifs, 0⟩] scope pos) 0 it acc env) R s := by
  refine codeAny_loop rfl Iv (fun n' s' hIv => ?_) n h0
  show wpAny _ A ((compTurn (.ListComp elt [⟨tg, iter, ifs, 0⟩] scope pos) 0 it acc env).onRaise (fun e => do noteFrame e env; theTreesLotGoes e)) _ _ s'
  refine wpAny_noted ?_
  rw [compTurn_list]
  refine wpAny_bind (wpAny_standAt (wpAny_bind (wpAny_mono (turn n' s' hIv) (fun r s1 q1 => ?_) fun _ _ z => z.elim)))
  cases r with
  | none => exact wpAny_pure q1
  | some v =>
    refine wpAny_bind (wpAny_mono q1 (fun _ s1' q1' => ?_) fun _ _ z => z.elim)
    refine wpAny_bind (wpAny_mono q1' (fun _ s2 q2 => wpAny_bind (wpAny_mono q2 (fun ok s3 q3 => ?_) fun _ _ z => z.elim)) fun _ _ z => z.elim)
    cases ok with
    | false => exact wpAny_pure ⟨rfl, q3⟩
    | true =>
      exact wpAny_bind (wpAny_bind (wpAny_mono q3 (fun y s4 q4 => wpAny_bind (wpAny_mono q4 (fun _ s5 q5 => wpAny_pure (wpAny_pure ⟨rfl, q5⟩)) fun _ _ z => z.elim)) fun _ _ z => z.elim))

/-- W: the invariant by the turn and a measure; D: the new list -/
def CompW (tc : TT) (te : TE) (js : List Nat) (σ : St) (Q : VK) (J : It) (H1 : Hp) : Prop := ∀ D, H1 D = none → ∃ W : Nat → Nat → Hp → Prop, (∃ m, W 0 m (upd H1 D (.lst []))) ∧ ∀ i m H, W i m H →
  (J.stop i H ∧ Q (.ref D) H) ∨ (J.go i H ∧ ∀ v H', J.yld i H v H' → tc (some v :: fvs js σ) H' fun b H2 =>
    if b = true then te (some v :: fvs js σ) H2 fun y H3 => ∃ zs, H3 D = some (.lst zs) ∧ zs.length < sizeLine ∧ ∃ m', m' < m ∧ W (i + 1) m' (upd H3 D (.lst (zs ++ [y])))
    else ∃ m', m' < m ∧ W (i + 1) m' H2)
def tComp (wi : TI) (tc : TT) (te : TE) (js : List Nat) : TE := fun σ H Q => wi σ H (CompW tc te js σ Q)

/-- an untracked object of the block's turns -/
theorem Inv.foreign {X : Cx} {pins : List (Addr × Obj)} {σ : St} {H : Hp} {s : Shared} {C : Addr} {h' : Heap} (I : Inv X pins σ H s) (f : FpOk X pins H C) (sb : Heap.SameBut C s.heap h') : Inv X pins σ H { s with heap := h' } :=
  I.turned (t' := s.toks) (fun b o hb e => (sb.2 b hb).trans e) f.1 f.2.1 f.2.2.2.1 f.2.2.2.2.1 f.2.2.2.2.2

section
variable {X : Cx} {elt iter : Expr} {x : Str} {px pos : Pos} {ifs : List Expr} {scope : Scope} {cl : List (Str × Addr)} {ys : List Str} {js : List Nat} {wi : TI} {tc : TT} {te : TE}
/-- the block, from its iterator on -/
theorem comp_block (S : CompSc X scope x cl ys js) (hc : X.calm = true) (ht : ∀ s3 H3 fp, PIf (X.comp scope x cl ys s3 H3 fp) ifs tc) (hel : ∀ s3 H3 fp, PE (X.comp scope x cl ys s3 H3 fp) elt te)
    {pins : List (Addr × Obj)} {σ : St} {Q : VK} {itv : Value} {s2 : Shared} {RR : Value → Addr → Result → Shared → Prop} {E : Value → Shared → Prop}
    (h2 : PIE X pins σ (.Name x px) (CompW tc te js σ Q) itv s2)
    (hRR : ∀ D C H' s' m, Inv X pins σ H' s' → FpOk X pins H' C → s'.heap.Ns C m → Q (.ref D) H' → RR (.ref D) C (.ok .next) s') :
    wpAny (model X.prog X.w) X.A (newList []) (fun acc s3 => wpAny (model X.prog X.w) X.A (newFunctionEnv scope X.env.globals cl [] X.env.qual none .none (some X.env)) (fun cenv s4 =>
      codeAny (model X.prog X.w) X.A (.compStart (.ListComp elt [⟨.Name x px, iter, ifs, 0⟩] scope pos) 0 itv acc { cenv with scope := relabel scope X.env }) (RR acc cenv.locals) s4) E s3) E s2 := by
  obtain ⟨it, fp, tn, J, H2, e, I2, T, st2, f2, hW⟩ := h2
  subst e
  have hD : H2 s2.heap.objs.size = none := I2.hok.fresh (Nat.le_refl _)
  obtain ⟨W, ⟨m0, w0⟩, turn⟩ := hW s2.heap.objs.size hD
  refine wpAny_newObj_type ?_
  have I3 : Inv X pins σ (upd H2 s2.heap.objs.size (.lst [])) { s2 with heap := s2.heap.push { cls := .type "list", dict := none, data := .seq ([] : List Value).toArray } } := I2.lnew (t' := s2.toks) (ys := []) (its := []) .nil (Nat.zero_le _)
  generalize hs3 : ({ s2 with heap := s2.heap.push { cls := .type "list", dict := none, data := .seq ([] : List Value).toArray } } : Shared) = s3 at I3 ⊢
  generalize hDD : s2.heap.objs.size = D at *
  have k23 : ∀ b o, s2.heap.get? b = some o → s3.heap.get? b = some o := fun b o e => by rw [← hs3]; exact Heap.get?_push_of_some _ e
  have st3 : tn 0 s3.heap := T.keep _ _ _ st2 fun b hb o e => k23 b o e
  have ob3 : ∀ b ∈ fp, b < s3.heap.objs.size := fun b hb => by
    obtain ⟨o, e, _⟩ := T.obj _ _ st3 b hb
    exact Heap.lt_size e
  have nD : ∀ b ∈ fp, b ≠ D := fun b hb z => by
    obtain ⟨o, e, _⟩ := T.obj _ _ st2 b hb
    have := Heap.lt_size e
    rw [hDD, z] at this
    exact Nat.lt_irrefl _ this
  have f3 : ∀ b ∈ fp, FpOk X pins (upd H2 D (.lst [])) b := fun b hb => ⟨by rw [upd_ne (nD b hb)]; exact (f2 b hb).1, (f2 b hb).2⟩
  refine wpAny_newFunctionEnv S.nocell (by intro y hy; simp at hy) (fun h1 hns1 hsb1 => ?_) S.kind
  have keep1 : ∀ b o, s3.heap.get? b = some o → h1.get? b = some o := fun b o e => hsb1.extBut b o (Nat.ne_of_lt (Heap.lt_size e)) (Heap.get?_push_of_some _ e)
  have I4 : Inv (X.comp scope x cl ys s3 (upd H2 D (.lst [])) fp) [] (none :: fvs js σ) (upd H2 D (.lst [])) { s3 with heap := h1, toks := s3.toks + ([] : List (Str × Value)).length } := inv_comp S I3 f3 ob3 hns1 keep1
  have st4 : tn 0 h1 := T.keep _ _ _ st3 fun b hb o e => keep1 b o e
  -- of the iterator's objects, in the block
  have fX : ∀ {H' : Hp} {pl : List (Addr × Obj)}, (∀ b ∈ fp, H' b = none) → (∀ b ∈ fp, ∀ p ∈ pl, p.1 ≠ b) → ∀ b ∈ fp, FpOk (X.comp scope x cl ys s3 (upd H2 D (.lst [])) fp) pl H' b := fun hn hp b hb =>
    ⟨hn b hb, Nat.ne_of_lt (ob3 b hb), fun z => (I4.ok.exfs b hb) z, .inl hb, fun y c e => (I4.ok.exf b hb).2 y c e, fun p hp' => hp b hb p (by simpa using hp')⟩
  have loop : ∀ s4 : Shared, s4 = { s3 with heap := h1, toks := s3.toks + ([] : List (Str × Value)).length } →
      codeAny (model X.prog X.w) X.A (.compLoop (.ListComp elt [⟨.Name x px, iter, ifs, 0⟩] scope pos) 0 (.ref it) (.ref D) (compEnvC scope cl s3.heap.objs.size X.env)) (RR (.ref D) s3.heap.objs.size) s4 := by
    rintro s4 rfl
    refine compLoop_go (fun n s' => ∃ i v0 H', Inv (X.comp scope x cl ys s3 (upd H2 D (.lst [])) fp) [] (v0 :: fvs js σ) H' s' ∧ tn i s'.heap ∧ (∀ b ∈ fp, H' b = none) ∧ W i n H') ?_ m0 ⟨0, none, _, I4, st4, fun b hb => (f3 b hb).1, w0⟩
    rintro n s5 ⟨i, v0, H5, I5, st5, fr5, w5⟩
    rcases turn i n H5 w5 with ⟨stop, qn⟩ | ⟨go, step⟩
    · refine wpAny_mono (T.done (X.comp scope x cl ys s3 (upd H2 D (.lst [])) fp) rfl rfl rfl hc i [] s5 _ H5 (fun _ _ => False) I5 (fX fr5 (fun _ _ _ z => absurd z (by simp))) st5 stop) (fun r s6 hr => ?_) fun _ _ z => z
      obtain ⟨hr, I6⟩ := hr
      subst hr
      obtain ⟨m6, hn6, _⟩ := id I6.loc
      have os6 := I6.os
      obtain ⟨hh, g, d, t, os'⟩ := s6
      obtain rfl : os' = s3.os := os6
      have I7 : Inv X pins σ H5 ⟨hh, g, d, t, s3.os⟩ := I3.call (h' := hh) (g' := g) (d' := d) (t' := t) (ch := fp) I6.base I6.hok I6.bare (fun b hb => ⟨(f3 b hb).2.2.2.1, (f3 b hb).2.1, (f3 b hb).2.2.2.2.1, (f3 b hb).2.2.2.2.2⟩)
      exact hRR D _ H5 _ m6 I7 (I3.fpOk (Nat.le_refl _) I6.free) hn6 qn
    · refine wpAny_mono (T.item (X.comp scope x cl ys s3 (upd H2 D (.lst [])) fp) rfl rfl rfl hc i [] s5 _ H5 (fun _ _ => False) I5 (fX fr5 (fun _ _ _ z => absurd z (by simp))) st5 go) (fun r s6 hr => ?_) fun _ _ z => z
      obtain ⟨u, hr, h6⟩ := hr
      subst hr
      refine wpAny_mono h6 (fun _ s7 h7 => ?_) fun _ _ z => z
      obtain ⟨y, H7, I7, r7, y7, st7, fr7⟩ := h7
      have I7' := I7.pinned (fX fr7 (fun _ _ _ z => absurd z (by simp))) (T.obj _ _ st7)
      have stay : ∀ {σ8 : St} {H8 : Hp} {s8 : Shared}, Inv (X.comp scope x cl ys s3 (upd H2 D (.lst [])) fp) ([] ++ pinsAt fp s7.heap) σ8 H8 s8 → tn (i + 1) s8.heap ∧ ∀ b ∈ fp, H8 b = none := fun {σ8 H8 s8} I8 => by
        refine ⟨T.keep _ _ _ st7 fun b hb o e => (I8.pin (b, o) (List.mem_append_right _ (List.mem_append_right _ (mem_pinsAt hb e)))).1, fun b hb => ?_⟩
        obtain ⟨o, e, _⟩ := T.obj _ _ st7 b hb
        exact (I8.pin (b, o) (List.mem_append_right _ (List.mem_append_right _ (mem_pinsAt hb e)))).2.1
      have hgx : PG (X.comp scope x cl ys s3 (upd H2 D (.lst [])) fp) (.Name x px) (gName 0) := pg_name (i := 0) (x := x) S.nd rfl (.inl (lookup_relabel_local S.hx)) (.inr (lookup_relabel_local S.hx))
      refine wpAny_mono (hgx _ s7 _ H7 y u (fun σ8 H8 => σ8 = some y :: fvs js σ ∧ H8 = H7) I7' r7 ⟨rfl, rfl⟩) (fun _ s8 h8 => ?_) fun _ _ z => z
      obtain ⟨σ8, H8, I8, rfl, rfl⟩ := h8
      refine wpAny_mono (ht s3 (upd H2 D (.lst [])) fp _ s8 _ H8 _ I8 (step y H8 y7)) (fun ok s9 h9 => ?_) fun _ _ z => z
      obtain ⟨H9, I9, q9⟩ := h9
      cases ok with
      | false =>
        obtain ⟨m', hm, w9⟩ := (if_neg Bool.false_ne_true).mp q9
        obtain ⟨tn9, fr9⟩ := stay I9
        exact ⟨m', hm, i + 1, some y, H9, I9.unpinned, tn9, fr9, w9⟩
      | true =>
        have q9 := (if_pos rfl).mp q9
        refine wpAny_mono (hel s3 (upd H2 D (.lst [])) fp _ s9 _ H9 _ I9 q9) (fun z s10 h10 => ?_) fun _ _ z => z
        obtain ⟨zv, H10, I10, r10, zs, hz, hl, m', hm, w10⟩ := h10
        refine wpAny_mono (mt_append (X := X.comp scope x cl ys s3 (upd H2 D (.lst [])) fp) _ s10 _ H10 (.ref D) [zv] (.ref D) [z] (fun _ H11 => H11 = upd H10 D (.lst (zs ++ [zv]))) I10 rfl (.cons r10 .nil) ⟨D, zs, zv, rfl, rfl, hz, hl, rfl⟩) (fun _ s11 h11 => ?_) fun _ _ z => z
        obtain ⟨_, H11, I11, _, rfl⟩ := h11
        obtain ⟨tn11, fr11⟩ := stay I11
        exact ⟨m', hm, i + 1, some y, _, I11.unpinned, tn11, fr11, w10⟩
  exact codeAny_compStart_list (loop _ rfl) (T.self _ 0 _ _ _ st4 (loop _ rfl))
theorem pe_comp (S : CompSc X scope x cl ys js) (hc : X.calm = true) (hi : PI X (.Name x px) iter wi) (ht : ∀ s3 H3 fp, PIf (X.comp scope x cl ys s3 H3 fp) ifs tc) (hel : ∀ s3 H3 fp, PE (X.comp scope x cl ys s3 H3 fp) elt te)
    (hs : ∀ v, foldedSetIterable iter X.env v = pure v := by intro _; rfl) : PE X (.ListComp elt [⟨.Name x px, iter, ifs, 0⟩] scope pos) (tComp wi tc te js) := by
  intro pins s σ H Q I h
  rw [eval_ListComp]
  refine wpAny_comprehension_free (use := none) rfl hs S.clos S.kind S.names (wpAny_mono (hi pins s σ H _ I h) (fun xv s1 h1 => wpAny_mono h1 (fun itv s2 h2 => ?_) fun _ _ e => e) fun _ _ e => e)
  refine comp_block (RR := fun acc C => compPost (model X.prog X.w) X.A X.xe none (EP X pins σ Q) acc C) S hc ht hel h2 ?_
  intro D C H' s' m I' f hn q
  exact ⟨m, hn, fun h' sb => ⟨.ref D, H', I'.foreign f sb, rfl, q⟩⟩
/-- name = [..], where the list is stored ahead of the block's end -/
theorem ps_setComp {i : Nat} {y : Str} {py spos : Pos} (S : CompSc X scope x cl ys js) (hc : X.calm = true) (hN : X.N.Nodup) (hj : X.N[i]? = some y) (hy : Loc X.env.scope y) (hi : PI X (.Name x px) iter wi) (ht : ∀ s3 H3 fp, PIf (X.comp scope x cl ys s3 H3 fp) ifs tc)
    (hel : ∀ s3 H3 fp, PE (X.comp scope x cl ys s3 H3 fp) elt te) (hsw : swapsWith (.ListComp elt [⟨.Name x px, iter, ifs, 0⟩] scope pos) (some (.Name y py)) spos.line X.env = pure true) (hs : ∀ v, foldedSetIterable iter X.env v = pure v := by intro _; rfl)
    (hf : X.fn y = true ∨ X.env.scope.names.lookup y = some .local := by first | exact .inl rfl | exact .inr rfl | assumption) :
    PS X (.Assign [.Name y py] (.ListComp elt [⟨.Name x px, iter, ifs, 0⟩] scope pos) spos) (tAsg (tComp wi tc te js) (gName i)) := by
  intro pins s σ H D0 I h
  rw [exec_Assign_Name_used _ _ _ _ hsw]
  refine wpAny_bind (wpAny_standAt (wpAny_bind ?_))
  show wpAny _ X.A (do let _ ← comprehension (.ListComp elt [⟨.Name x px, iter, ifs, 0⟩] scope pos) scope X.env _ (newList []) false (eval iter X.env) (some (assign (.Name y py) X.env))) _ _ s
  refine wpAny_bind (wpAny_mono (wpAny_comprehension_free (use := some (assign (.Name y py) X.env)) (Q := fun _ s' => SP X pins D0 .next s') rfl hs S.clos S.kind S.names
    (wpAny_mono (hi pins s σ H _ I h) (fun xv s1 h1 => wpAny_mono h1 (fun itv s2 h2 => ?_) fun _ _ e => e) fun _ _ e => e)) (fun _ s' hq => wpAny_pure (wpAny_pure hq)) fun _ _ e => e)
  refine comp_block (Q := fun v H' => gName i v σ H' D0.nx) (RR := fun acc C => compPost (model X.prog X.w) X.A X.xe (some (assign (.Name y py) X.env)) (fun _ s' => SP X pins D0 .next s') acc C) S hc ht hel h2 ?_
  intro D C H' s' m I' f hn q
  obtain ⟨o, es, ep, ho, hd, hr⟩ := id hn
  have Ip : Inv X (pins ++ [(C, o)]) σ H' s' := I'.pins_of fun p hp => (List.mem_append.mp hp).elim (fun z => I'.pin p (List.mem_append_right _ z)) fun z => by
    have z : p = (C, o) := by simpa using z
    subst z
    exact ⟨ho, f.1, f.2.1, f.2.2.1, fun v z => by rw [hd] at z; cases z⟩
  have hg : PG X (.Name y py) (gName i) := pg_name hN hj hy hf
  refine wpAny_mono (hg _ s' σ H' (.ref D) (.ref D) (fun σ8 H8 => D0.nx σ8 H8) Ip rfl q) (fun _ s8 h8 => ?_) fun _ _ z => z
  obtain ⟨σ8, H8, I8, q8⟩ := h8
  obtain ⟨e8, n8, _, _, _⟩ := I8.pin (C, o) (List.mem_append_right _ (List.mem_append_right _ (by simp)))
  refine ⟨m, ⟨o, es, ep, e8, hd, hr⟩, fun h' sb => ?_⟩
  have f8 : FpOk X pins H8 C := ⟨n8, f.2⟩
  exact ⟨σ8, H8, I8.unpinned.foreign f8 sb, q8⟩
end

/-- over a list that stays, with a pure test and a pure element -/
theorem comp_list {K : PySem.W.Frag} {a : Addr} {xs : List V} {tc : TT} {te : TE} {js : List Nat} {σ : St} {H1 : Hp} {Q : VK} (p : V → Bool) (f : V → V) (hq : SqL K H1 a xs) (hz : xs.length ≤ sizeLine)
    (h1 : ∀ v ∈ xs, ∀ H', Same H1 H' → ∀ R : Bool → Hp → Prop, R (p v) H' → tc (some v :: fvs js σ) H' R)
    (h2 : ∀ v ∈ xs, p v = true → ∀ H', Same H1 H' → ∀ R : VK, R (f v) H' → te (some v :: fvs js σ) H' R)
    (hQ : ∀ D, H1 D = none → Q (.ref D) (upd H1 D (.lst ((xs.filter p).map f)))) :
    CompW tc te js σ Q (Itl K a) H1 := by
  intro D hD
  refine ⟨fun i m H => m = xs.length - i ∧ i ≤ xs.length ∧ H = upd H1 D (.lst (((xs.take i).filter p).map f)), ⟨xs.length, by simp, Nat.zero_le _, by simp⟩, ?_⟩
  rintro i m H ⟨rfl, hi, rfl⟩
  have sm : ∀ o, Same H1 (upd H1 D o) := fun o b u e => by rw [upd_ne (ne_of_none e hD)]; exact e
  have q := (sm (.lst (((xs.take i).filter p).map f))).seq hq
  by_cases hlt : i < xs.length
  · refine .inr ⟨⟨xs, xs[i], q, by simp [hlt]⟩, fun v H' y => ?_⟩
    obtain ⟨e, y⟩ := y
    subst e
    have hv := y xs q
    have hm : v ∈ xs := List.mem_of_getElem? hv
    refine h1 v hm _ (sm _) _ ?_
    have tk := PySem.take_succ_filter p xs i v hv
    cases hp : p v with
    | false =>
      refine iteF ⟨xs.length - (i + 1), by omega, rfl, hlt, ?_⟩
      rw [tk, hp]; simp
    | true =>
      refine iteT (h2 v hm hp _ (sm _) _ ⟨_, upd_same, ?_, xs.length - (i + 1), by omega, rfl, hlt, ?_⟩)
      · rw [List.length_map]
        have := List.length_filter_le p (xs.take i)
        rw [List.length_take] at this
        omega
      · rw [upd_upd, tk, hp, List.map_append]; rfl
  · have e : i = xs.length := by omega
    subst e
    refine .inl ⟨⟨xs, q, Nat.le_refl _⟩, ?_⟩
    have := hQ D hD
    rw [List.take_length]; exact this

/-! ### the two scopes that are met -/
theorem compSc0 {X : Cx} {scope : Scope} {x : Str} (hk : scope.kind = .function) (hn : scope.names = [((".0" : Str), NameKind.local), (x, NameKind.local)]) (h0 : (x == (".0" : Str)) = false) : CompSc X scope x [] [] [] := by
  refine ⟨hk, closureFor_none ?_, ?_, ?_, ?_, ?_, ?_, ?_, by simp, rfl, ?_⟩
  · intro y hy; rw [hn] at hy; simp at hy; rcases hy with rfl | rfl <;> (intro h; cases h)
  · intro y hy; rw [hn] at hy; simp at hy; rcases hy with rfl | rfl <;> (intro h; cases h)
  · intro y hy _; rw [hn] at hy ⊢; simp at hy; rcases hy with rfl | rfl
    · simp [List.lookup]
    · simp [List.lookup, h0]
  · rw [hn]; simp [List.lookup, h0]
  · intro y z c h; simp at h
  · intro y c h; simp at h
  · intro y h
    exfalso
    unfold relabel at h
    simp only [hn, List.map_cons, List.map_nil] at h
    have e1 : ∀ n : Str, (if (NameKind.local == NameKind.free && X.env.scope.kind == .function && X.env.kindOf n == some .cell) = true then (n, NameKind.cell) else (n, NameKind.local)) = (n, NameKind.local) := fun n => by
      rw [if_neg]; intro z; simp at z
    rw [e1, e1] at h
    cases a : (y == (".0" : Str)) <;> cases b : (y == x) <;> simp [List.lookup, a, b] at h
  · intro k y j h; simp at h
theorem compSc1 {X : Cx} {scope : Scope} {x y : Str} {j : Nat} {c : Addr} (hk : scope.kind = .function) (hn : scope.names = [((".0" : Str), NameKind.local), (x, NameKind.local), (y, NameKind.free)]) (h0 : (x == (".0" : Str)) = false) (h1 : (y == (".0" : Str)) = false) (h2 : (y == x) = false)
    (hc : X.env.cells.lookup y = some c) (hX : X.env.scope.kind = .function) (hy : X.env.scope.names.lookup y = some .cell) (hj : X.N[j]? = some y) : CompSc X scope x [(y, c)] [y] [j] := by
  have hrel : (relabel scope X.env).names = [((".0" : Str), NameKind.local), (x, NameKind.local), (y, NameKind.cell)] := by
    unfold relabel
    simp only [hn, List.map_cons, List.map_nil]
    have e1 : ∀ n : Str, (if (NameKind.local == NameKind.free && X.env.scope.kind == .function && X.env.kindOf n == some .cell) = true then (n, NameKind.cell) else (n, NameKind.local)) = (n, NameKind.local) := fun n => by
      rw [if_neg]; intro z; simp at z
    have e2 : (if (NameKind.free == NameKind.free && X.env.scope.kind == .function && X.env.kindOf y == some .cell) = true then (y, NameKind.cell) else (y, NameKind.free)) = (y, NameKind.cell) := by
      rw [if_pos]
      have : X.env.kindOf y = some .cell := hy
      rw [hX, this]; rfl
    rw [e1, e1, e2]
  refine ⟨hk, ?_, ?_, ?_, ?_, ?_, ?_, ?_, ?_, rfl, ?_⟩
  · unfold closureFor
    rw [hn]
    simp only [List.forIn_cons, List.forIn_nil]
    unfold cellOf
    rw [hc]
    rfl
  · intro z hz; rw [hn] at hz; simp at hz; rcases hz with rfl | rfl | rfl <;> (intro h; cases h)
  · intro z hz hl; rw [hn] at hz ⊢; simp at hz; rcases hz with rfl | rfl | rfl
    · simp [List.lookup]
    · simp [List.lookup, h0]
    · cases hl
  · rw [hn]; simp [List.lookup, h0]
  · intro a b d ha hb
    cases e1 : (a == y) with
    | false => simp [List.lookup, e1] at ha
    | true => cases e2 : (b == y) with
      | false => simp [List.lookup, e2] at hb
      | true => rw [eq_of_beq e1, eq_of_beq e2]
  · intro a d ha
    cases e1 : (a == y) with
    | false => simp [List.lookup, e1] at ha
    | true =>
      simp [List.lookup, e1] at ha
      rw [eq_of_beq e1, ← ha]; exact hc
  · intro a h
    rw [hrel] at h
    cases e1 : (a == y) with
    | true => exact ⟨c, by simp [List.lookup, e1]⟩
    | false =>
      exfalso
      cases e2 : (a == (".0" : Str)) <;> cases e3 : (a == x) <;> simp [List.lookup, e1, e2, e3] at h
  · have : x ≠ y := fun z => by rw [z] at h2; simp at h2
    simp [this]
  · intro k z i hz hi
    cases k with
    | zero =>
      have hz : some y = some z := hz
      have hi : some j = some i := hi
      cases hz; cases hi
      exact ⟨hj, hy, by rw [hrel]; simp [List.lookup, h1, h2], c, by simp [List.lookup]⟩
    | succ k => simp at hz
end L2

set_option maxRecDepth 100000
namespace L2
open PySem PySem.Spec PyProof.Rows
def rEqNil (K : PySem.W.Frag) : R2 := fun x y H Q => ∃ l b xs, x = .ref l ∧ y = .ref b ∧ SqL K H l xs ∧ SqL K H b [] ∧ Q (.bl xs.isEmpty) H
def rNeNil (K : PySem.W.Frag) : R2 := fun x y H Q => ∃ l b xs, x = .ref l ∧ y = .ref b ∧ SqL K H l xs ∧ SqL K H b [] ∧ Q (.bl (!xs.isEmpty)) H
section
variable {X : Cx}
/-! ### a list against the empty list -/
theorem op_eqNil (hu : X.A.units < cLine) : OpR X (compareOp .Eq) (rEqNil X.K) := by
  intro pins s σ H x y v u Q I rx ry h
  obtain ⟨l, b, xs, rfl, rfl, hl, hb, q⟩ := h
  cases rx
  cases ry
  obtain ⟨its, r, pl, _⟩ := I.list hl
  obtain ⟨its2, r2, pl2, _⟩ := I.list hb
  cases r2
  cases r with
  | nil => exact SeqAt.eq_listAt (e := fun _ => true) pl.isList pl2.isList rfl hu (fun j h1 _ => absurd h1 (by simp)) ⟨.bl true, H, I, rfl, q⟩
  | cons r1 rr => exact SeqAt.eq_list_lengthsAt pl.isList pl2.isList (by simp) hu ⟨.bl false, H, I, rfl, q⟩
theorem op_neNil (hu : X.A.units < cLine) : OpR X (compareOp .NotEq) (rNeNil X.K) := by
  intro pins s σ H x y v u Q I rx ry h
  obtain ⟨l, b, xs, rfl, rfl, hl, hb, q⟩ := h
  cases rx
  cases ry
  obtain ⟨its, r, pl, _⟩ := I.list hl
  obtain ⟨its2, r2, pl2, _⟩ := I.list hb
  cases r2
  cases r with
  | nil => exact SeqAt.RcNeAt.lists (e := fun _ => true) pl.isList pl2.isList rfl hu (fun j h1 _ => absurd h1 (by simp)) _ _ _ _ ⟨.bl false, H, I, rfl, q⟩
  | cons r1 rr => exact SeqAt.RcNeAt.lists_lengths pl.isList pl2.isList (by simp) hu _ _ _ _ ⟨.bl true, H, I, rfl, q⟩
/-! ### isinstance -/
theorem call_isi : CallR X (.builtin "isinstance") (fun xs H Q => ∃ x T t b, xs = [x, .ty T] ∧ TyOf X.K H x t ∧ PySem.W.kitOne X.K t (.type T) = some b ∧ Q (.bl b) H) := by
  intro pins s σ H xs us Q I r h
  obtain ⟨x, T, t, b, rfl, ty, e, q⟩ := h
  obtain ⟨u, v, rfl, r1, r2⟩ := r.two
  cases r2
  exact isinst_ok I r1 ty e fun tk => ⟨.bl b, H, I.tok tk, rfl, q⟩
/-- .. against a tuple of types -/
theorem isinstT_ok {pins : List (Addr × Obj)} {σ : St} {H : Hp} {s : Shared} {A : Around} {E : Value → Shared → Prop} {Q : Value → Shared → Prop} {p : Addr} {Ts : List String} {x : V} {u t : Value} {b : Bool} (I : Inv X pins σ H s) (rx : RelV x u) (ty : TyOf X.K H x t)
    (hp : H p = some (.tup (Ts.map V.ty))) (e : PySem.W.kitAny X.K t (Ts.map Value.type) = some b) (h : ∀ tk, Q (.bool b) { s with toks := tk }) :
    wpAny (model X.prog X.w) A (call (.builtin "isinstance") [u, .ref p]) Q E s := by
  obtain ⟨_, its, r, o, h1, h2, n, h3⟩ := (show ObjOk X.prog X.w H s.heap p (.tup (Ts.map V.ty)) from I.hok p _ hp)
  have eit : ∀ {Ts : List String} {its : List Value}, Vals (Ts.map V.ty) its → its = Ts.map Value.type := by
    intro Ts
    induction Ts with
    | nil => intro its r; cases r; rfl
    | cons T Ts ih => intro its r; cases r with | cons r1 rr => cases r1; rw [ih rr]; rfl
  have eit := eit r
  subst eit
  obtain ⟨oc, od, odt, osl⟩ := o
  simp only at h2 h3
  subst h2 h3
  cases ty with
  | non => cases (show u = Value.none from rx); exact PySem.W.kia_tup PySem.W.kitx_none I.kIn True.intro h1 e (fun z => nomatch z) h
  | bl y => cases (show u = Value.bool y from rx); exact PySem.W.kia_tup PySem.W.kitx_bool I.kIn True.intro h1 e (fun z => nomatch z) h
  | int i => obtain ⟨tk, q⟩ := (show ∃ tk, u = Value.int i tk from rx); cases q; exact PySem.W.kia_tup PySem.W.kitx_int I.kIn True.intro h1 e (fun z => nomatch z) h
  | str y => obtain ⟨tk, q⟩ := (show ∃ tk, u = Value.str y tk from rx); cases q; exact PySem.W.kia_tup PySem.W.kitx_str I.kIn True.intro h1 e (fun z => nomatch z) h
  | flt y => obtain ⟨tk, q⟩ := (show ∃ tk, u = Value.float y tk from rx); cases q; exact PySem.W.kia_tup PySem.W.kitx_float I.kIn True.intro h1 e (fun z => nomatch z) h
  | @lst a xs ea =>
    cases (show u = Value.ref a from rx)
    obtain ⟨_, _, m, _, g1⟩ := (show ObjOk X.prog X.w H s.heap a (.lst xs) from I.hok a _ ea)
    exact PySem.W.kia_tup PySem.W.kitx_list I.kIn ⟨_, g1, rfl⟩ h1 e (fun z => nomatch z) h
  | @frz a ob xs ea =>
    cases (show u = Value.ref a from rx)
    obtain ⟨_, _, _, m, _, g1⟩ := (show ObjOk X.prog X.w H s.heap a (.frz ob (.lst xs)) from I.hok a _ ea)
    exact PySem.W.kia_tup PySem.W.kitx_list I.kIn ⟨_, g1, rfl⟩ h1 e (fun z => nomatch z) h
  | @tup a xs ea =>
    cases (show u = Value.ref a from rx)
    obtain ⟨_, _, _, pp⟩ := (show ObjOk X.prog X.w H s.heap a (.tup xs) from I.hok a _ ea)
    obtain ⟨oo, g1, g2, _⟩ := pp
    exact PySem.W.kia_tup PySem.W.kitx_tuple I.kIn ⟨oo, g1, g2⟩ h1 e (fun z => nomatch z) h
  | @dK a kvs ea =>
    cases (show u = Value.ref a from rx)
    obtain ⟨_, _, vs, _, pp⟩ := (show ObjOk X.prog X.w H s.heap a (.dK kvs) from I.hok a _ ea)
    obtain ⟨oo, es, ep, g1, g2, _⟩ := pp
    exact PySem.W.kia_tup PySem.W.kitx_dict I.kIn ⟨oo, g1, g2.1⟩ h1 e (fun z => nomatch z) h
  | @dT a kvs ea =>
    cases (show u = Value.ref a from rx)
    obtain ⟨_, _, xs, _, oo, es, ep, g1, g2, _⟩ := (show ObjOk X.prog X.w H s.heap a (.dT kvs) from I.hok a _ ea)
    exact PySem.W.kia_tup PySem.W.kitx_dict I.kIn ⟨oo, g1, g2.1⟩ h1 e (fun z => nomatch z) h
  | @ins a C dx fs ea cl ha hn htk hm =>
    cases (show u = Value.ref a from rx)
    obtain ⟨mA, O, _⟩ := ins_get I.hok ea
    obtain ⟨od', J, _⟩ := O.look
    exact PySem.W.kia_tup (PySem.W.kitx_own (cl.get _) cl.hd ha hn htk hm) I.kIn J h1 e (fun z => nomatch z) h
theorem call_isiT : CallR X (.builtin "isinstance") (fun xs H Q => ∃ (x : V) (p : Addr) (Ts : List String) (t : Value) (b : Bool), xs = [x, .ref p] ∧ TyOf X.K H x t ∧ H p = some (.tup (Ts.map V.ty)) ∧ PySem.W.kitAny X.K t (Ts.map Value.type) = some b ∧ Q (.bl b) H) := by
  intro pins s σ H xs us Q I r h
  obtain ⟨x, p, Ts, t, b, rfl, ty, hp, e, q⟩ := h
  obtain ⟨u, v, rfl, r1, r2⟩ := r.two
  cases r2
  exact isinstT_ok I r1 ty hp e fun tk => ⟨.bl b, H, I.tok tk, rfl, q⟩
end
/-! ### list.append, list.pop -/
section
variable {X : Cx} {o e : Expr} {to te : TE} {apos cpos : Pos}
theorem pe_append (ho : PE X o to) (he : PE X e te) (hbase : attributeBase o "append" X.env (eval o X.env) = eval o X.env := by rfl) (hs : starEach [e] X.env = [(false, eval e X.env)] := by rfl) (hline : (apos.endLine == cpos.line) = true := by rfl) :
    PE X (.Call (.Attribute o "append" apos) [e] [] cpos) (tBM X.K "list" rAppend to (tCons te tNil)) := by
  have hm : MtR X "list.append" rAppend := mt_append
  exact pe_bm F.plainAttrs_list F.slot_list_append rfl hm ho (pa_cons he pa_nil hs) hbase (by rw [hs]; rfl) hline hs rfl
theorem pe_pop (ho : PE X o to) (hbase : attributeBase o "pop" X.env (eval o X.env) = eval o X.env := by rfl) (hline : (apos.endLine == cpos.line) = true := by rfl) :
    PE X (.Call (.Attribute o "pop" apos) [] [] cpos) (tBM0 X.K "list" rPop to) := by
  have hm : MtR X "list.pop" rPop := mt_pop
  exact pe_bm0 F.plainAttrs_list F.slot_list_pop rfl hm ho hbase hline
end
theorem Same.new' {H : Hp} {p : Addr} {o : HO} (h : H p = none) : Same H (upd H p o) := fun b u e => by rw [upd_ne (ne_of_none e h)]; exact e
/-- a comprehension over a list whose items bear data zs; pure test, pure element -/
theorem comp_pair {α : Type} {K : PySem.W.Frag} {a : Addr} {xs : List V} {zs : List α} {tc : TT} {te : TE} {js : List Nat} {σ : St} {H1 : Hp} {Q : VK} (R : V → α → Prop) (p : α → Bool) (f : α → V) (hq : SqL K H1 a xs) (hr : Paired R xs zs) (hz : xs.length ≤ sizeLine)
    (h1 : ∀ v z, R v z → ∀ H', Same H1 H' → ∀ S : Bool → Hp → Prop, S (p z) H' → tc (some v :: fvs js σ) H' S)
    (h2 : ∀ v z, R v z → p z = true → ∀ H', Same H1 H' → ∀ S : VK, S (f z) H' → te (some v :: fvs js σ) H' S)
    (hQ : ∀ D, H1 D = none → Q (.ref D) (upd H1 D (.lst ((zs.filter p).map f)))) : CompW tc te js σ Q (Itl K a) H1 := by
  intro D hD
  have hlen : xs.length = zs.length := Paired.length hr
  have get : ∀ {xs : List V} {zs : List α} {i : Nat} {x : V}, Paired R xs zs → xs[i]? = some x → ∃ z, zs[i]? = some z ∧ R x z := by
    intro xs
    induction xs with
    | nil => intro zs i x _ e; simp at e
    | cons y ys ih =>
      intro zs i x q e
      cases q with
      | cons q1 qq => cases i with
        | zero => simp at e; subst e; exact ⟨_, rfl, q1⟩
        | succ i =>
          obtain ⟨z, e1, e2⟩ := ih (i := i) (x := x) qq (by simpa using e)
          exact ⟨z, by simpa using e1, e2⟩
  refine ⟨fun i m H => m = xs.length - i ∧ i ≤ xs.length ∧ H = upd H1 D (.lst (((zs.take i).filter p).map f)), ⟨xs.length, by simp, Nat.zero_le _, by simp⟩, ?_⟩
  rintro i m H ⟨rfl, hi, rfl⟩
  have sm : ∀ o, Same H1 (upd H1 D o) := fun o b u e => by rw [upd_ne (ne_of_none e hD)]; exact e
  have q := (sm (.lst (((zs.take i).filter p).map f))).seq hq
  by_cases hlt : i < xs.length
  · refine .inr ⟨⟨xs, xs[i], q, by simp [hlt]⟩, fun v H' y => ?_⟩
    obtain ⟨e, y⟩ := y
    subst e
    obtain ⟨z, hv, hR⟩ := get hr (y xs q)
    refine h1 v z hR _ (sm _) _ ?_
    have tk := PySem.take_succ_filter p zs i z hv
    cases hp : p z with
    | false =>
      refine iteF ⟨xs.length - (i + 1), by omega, rfl, hlt, ?_⟩
      rw [tk, hp]; simp
    | true =>
      refine iteT (h2 v z hR hp _ (sm _) _ ⟨_, upd_same, ?_, xs.length - (i + 1), by omega, rfl, hlt, ?_⟩)
      · rw [List.length_map]
        have := List.length_filter_le p (zs.take i)
        rw [List.length_take] at this
        omega
      · rw [upd_upd, tk, hp, List.map_append]; rfl
  · have e : i = xs.length := by omega
    subst e
    refine .inl ⟨⟨xs, q, Nat.le_refl _⟩, ?_⟩
    have := hQ D hD
    rw [hlen, List.take_length]; exact this
/-- .. the same where the test and the element may make new objects -/
theorem comp_pairG {α : Type} {K : PySem.W.Frag} {a : Addr} {xs : List V} {zs : List α} {tc : TT} {te : TE} {js : List Nat} {σ : St} {H1 : Hp} {Q : VK} (R : V → α → Prop) (p : α → Bool) (f : α → V) (hq : SqL K H1 a xs) (hr : Paired R xs zs) (hz : xs.length ≤ sizeLine)
    (h1 : ∀ v z, R v z → ∀ H', Same H1 H' → ∀ S : Bool → Hp → Prop, (∀ H'', Same H' H'' → S (p z) H'') → tc (some v :: fvs js σ) H' S)
    (h2 : ∀ v z, R v z → p z = true → ∀ H', Same H1 H' → ∀ S : VK, (∀ H'', Same H' H'' → S (f z) H'') → te (some v :: fvs js σ) H' S)
    (hQ : ∀ D H', Same H1 H' → H' D = some (.lst ((zs.filter p).map f)) → Q (.ref D) H') : CompW tc te js σ Q (Itl K a) H1 := by
  intro D hD
  have hlen : xs.length = zs.length := Paired.length hr
  have get : ∀ {xs : List V} {zs : List α} {i : Nat} {x : V}, Paired R xs zs → xs[i]? = some x → ∃ z, zs[i]? = some z ∧ R x z := by
    intro xs
    induction xs with
    | nil => intro zs i x _ e; simp at e
    | cons y ys ih =>
      intro zs i x q e
      cases q with
      | cons q1 qq => cases i with
        | zero => simp at e; subst e; exact ⟨_, rfl, q1⟩
        | succ i =>
          obtain ⟨z, e1, e2⟩ := ih (i := i) (x := x) qq (by simpa using e)
          exact ⟨z, by simpa using e1, e2⟩
  refine ⟨fun i m H => m = xs.length - i ∧ i ≤ xs.length ∧ Same H1 H ∧ H D = some (.lst (((zs.take i).filter p).map f)), ⟨xs.length, by simp, Nat.zero_le _, Same.new' hD, by rw [upd_same]; simp⟩, ?_⟩
  rintro i m H ⟨rfl, hi, sm, eD⟩
  have q := sm.seq hq
  by_cases hlt : i < xs.length
  · refine .inr ⟨⟨xs, xs[i], q, by simp [hlt]⟩, fun v H' y => ?_⟩
    obtain ⟨e, y⟩ := y
    have e := e.symm
    subst e
    obtain ⟨z, hv, hR⟩ := get hr (y xs q)
    refine h1 v z hR _ sm _ fun H2 s2 => ?_
    have tk := PySem.take_succ_filter p zs i z hv
    cases hp : p z with
    | false =>
      refine iteF ⟨xs.length - (i + 1), by omega, rfl, hlt, sm.trans s2, ?_⟩
      rw [tk, hp, s2 _ _ eD]; simp
    | true =>
      refine iteT (h2 v z hR hp _ (sm.trans s2) _ fun H3 s3 => ⟨_, s3 _ _ (s2 _ _ eD), ?_, xs.length - (i + 1), by omega, rfl, hlt, fun b o e => ?_, ?_⟩)
      · rw [List.length_map]
        have := List.length_filter_le p (zs.take i)
        rw [List.length_take] at this
        omega
      · rw [upd_ne (ne_of_none e hD)]; exact s3 _ _ (s2 _ _ (sm _ _ e))
      · rw [upd_same, tk, hp, List.map_append]; rfl
  · have e : i = xs.length := by omega
    subst e
    refine .inl ⟨⟨xs, q, Nat.le_refl _⟩, hQ D H sm ?_⟩
    rw [eD, hlen, List.take_length]
/-! ### rules that name the written part alone (in a comprehension's block) -/
theorem ix_listK {X : Cx} (K : PySem.W.Frag) (h : X.K = K := by rfl) : IxR X (rIxL K) := by subst h; exact ix_list
theorem ix_tupK {X : Cx} (K : PySem.W.Frag) (h : X.K = K := by rfl) : IxR X (rIxT K) := by subst h; exact ix_tup
theorem op_in_seqK {X : Cx} (K : PySem.W.Frag) (h : X.K = K := by rfl) : OpR X (compareOp .In) (rIn K false) := by subst h; exact op_in_seq
/-! ### small words -/
theorem sz2000 {n : Nat} (h : n ≤ 2000) : n ≤ sizeLine := Nat.le_trans h (by decide)
theorem sz (n : Nat) (h : n ≤ 1000) : n ≤ sizeLine := Nat.le_of_lt (small1000 h)
theorem iteY {c A B : Prop} [Decidable c] (hc : c) (h : A) : if decide c = true then A else B := by
  rw [decide_eq_true hc]; exact iteT h
theorem iteN {c A B : Prop} [Decidable c] (hc : ¬ c) (h : B) : if decide c = true then A else B := by
  rw [decide_eq_false hc]; exact iteF h
theorem iteB {b : Bool} {A B : Prop} (h1 : b = true → A) (h2 : b = false → B) : if b = true then A else B := by
  cases b with
  | true => exact iteT (h1 rfl)
  | false => exact iteF (h2 rfl)
theorem Same.new {H : Hp} {p : Addr} {o : HO} (h : H p = none) : Same H (upd H p o) := fun b u e => by rw [upd_ne (ne_of_none e h)]; exact e
theorem Same.tup {K : PySem.W.Frag} {H H' : Hp} {a : Addr} {xs : List V} (e : Same H H') (h : SqT K H a xs) : SqT K H' a xs := by
  rcases h with (h | ⟨o, h⟩) | h
  · exact .inl (.inl (e _ _ h))
  · exact .inl (.inr ⟨o, e _ _ h⟩)
  · exact .inr h
theorem cutV_mem {xs : List V} {lo hi : Option Int} {y : V} (h : y ∈ cutV xs lo hi) : y ∈ xs := List.mem_of_mem_drop (List.mem_of_mem_take h)
theorem atI_lt {α : Type} {xs : List α} {i : Int} (h0 : 0 ≤ i) (h1 : i < xs.length) : ∃ v, atI xs i = some v ∧ v ∈ xs := by
  have hj : i.toNat < xs.length := by omega
  refine ⟨xs[i.toNat], ?_, List.getElem_mem hj⟩
  have e : ((i.toNat : Nat) : Int) = i := by omega
  have := atI_nat (xs := xs) (j := i.toNat) (v := xs[i.toNat]) (by simp [hj])
  rw [e] at this; exact this
theorem at_ints {ns : List Int} {i : Int} (h0 : 0 ≤ i) (h1 : i < ns.length) : ∃ b, atI (ns.map V.int) i = some (.int b) ∧ b ∈ ns := by
  obtain ⟨v, e, hm⟩ := atI_lt (xs := ns.map V.int) h0 (by rw [List.length_map]; exact h1)
  obtain ⟨b, hb, rfl⟩ := List.mem_map.mp hm
  exact ⟨b, e, hb⟩
end L2

set_option autoImplicit false
namespace LW
/-- one who has pressed -/
structure Pp where
  start : Int
  goal : Int
  pressed : Int
  entered : Option Int
  left : Option Int
/-- the floor that is wanted for them -/
def Pp.want (p : Pp) : Option Int :=
  match p.entered with
  | none => some p.start
  | some _ => match p.left with
    | none => some p.goal
    | some _ => none
def wants (ps : List Pp) : List Int := ps.filterMap Pp.want
/-- the lift -/
structure Lf where
  floor : Int
  apart : Bool
  up : Bool
  new : Bool
inductive Wd where
  | shut | part | go (up : Bool) | rest
  deriving DecidableEq
def ahead (up : Bool) (here f : Int) : Bool := if up = true then decide (here < f) else decide (f < here)
def anyAhead (here : Int) (up : Bool) (ws : List Int) : Bool := ws.any (ahead up here)
def nextWay (here : Int) (up : Bool) (ws : List Int) : Option Bool :=
  if anyAhead here up ws = true then some up else if anyAhead here (!up) ws = true then some (!up) else none
def beside (here : Int) (up : Bool) : Int := if up = true then here + 1 else here - 1
def hasF (f : Int) (ws : List Int) : Bool := ws.any fun x => x == f
def parts (l : Lf) (ws : List Int) : Bool := hasF l.floor ws && (l.new || (nextWay l.floor l.up ws).isNone)
/-- what the lift does, and the lift behind it -/
def actW (l : Lf) (ws : List Int) : Wd :=
  if l.apart = true then .shut else if parts l ws = true then .part else match nextWay l.floor l.up ws with
    | none => .rest
    | some d => .go d
def moved (l : Lf) : Wd → Lf
  | .shut => { l with apart := false }
  | .part => { l with apart := true, new := false }
  | .go d => { floor := beside l.floor d, apart := l.apart, up := d, new := true }
  | .rest => l
structure Dy where
  lift : Lf
  people : List Pp
  ticks : Int
def dy0 : Dy := ⟨⟨0, false, true, true⟩, [], 0⟩
def okPress (F s g : Int) : Bool := decide (0 ≤ s) && decide (s < F) && (decide (0 ≤ g) && decide (g < F)) && !decide (s = g)
def Pp.pass (p : Pp) (t : Int) : Pp :=
  match p.entered with
  | none => { p with entered := some t }
  | some _ => { p with left := some t }
def swap1 (f t : Int) (p : Pp) : Pp := if p.want = some f then p.pass t else p
def swap (f t : Int) (ps : List Pp) : List Pp := ps.map (swap1 f t)
inductive Dd where
  | press (s g : Int) | tick
/-- an answer -/
inductive An where
  | no | num (n : Nat) | wd (w : Wd)
def tickW (d : Dy) : Wd := actW d.lift (wants d.people)
def tickD (d : Dy) : Dy :=
  { lift := moved d.lift (tickW d), people := if tickW d = .part then swap d.lift.floor (d.ticks + 1) d.people else d.people, ticks := d.ticks + 1 }
def stepA (F : Int) (d : Dy) : Dd → An
  | .press s g => if okPress F s g = true then .num d.people.length else .no
  | .tick => .wd (tickW d)
def stepD (F : Int) (d : Dy) : Dd → Dy
  | .press s g => if okPress F s g = true then { d with people := d.people ++ [⟨s, g, d.ticks, none, none⟩] } else d
  | .tick => tickD d
def runD (F : Int) : Dy → List Dd → Dy
  | d, [] => d
  | d, x :: r => runD F (stepD F d x) r
def runA (F : Int) : Dy → List Dd → List An
  | _, [] => []
  | d, x :: r => stepA F d x :: runA F (stepD F d x) r
theorem runD_append (F : Int) : ∀ (a b : List Dd) (d : Dy), runD F d (a ++ b) = runD F (runD F d a) b
  | [], _, _ => rfl
  | x :: a, b, d => by
    show runD F (stepD F d x) (a ++ b) = runD F (runD F (stepD F d x) a) b
    exact runD_append F a b _
theorem runA_append (F : Int) : ∀ (a b : List Dd) (d : Dy), runA F d (a ++ b) = runA F d a ++ runA F (runD F d a) b
  | [], _, _ => rfl
  | x :: a, b, d => by
    show stepA F d x :: runA F (stepD F d x) (a ++ b) = stepA F d x :: (runA F (stepD F d x) a ++ runA F (runD F (stepD F d x) a) b)
    rw [runA_append F a b _]
theorem runA_length (F : Int) : ∀ (a : List Dd) (d : Dy), (runA F d a).length = a.length
  | [], _ => rfl
  | x :: a, d => by
    show (runA F (stepD F d x) a).length + 1 = a.length + 1
    rw [runA_length F a _]

/-! ### the law's own reading of a tick -/
def ruleW (l : Lf) (ws : List Int) : Wd :=
  let above := ws.filter fun x => decide (l.floor < x)
  let below := ws.filter fun x => decide (x < l.floor)
  if l.apart = true then .shut else if (hasF l.floor ws && (l.new || (above ++ below).isEmpty)) = true then .part
  else if (!above.isEmpty && (l.up || below.isEmpty)) = true then .go true else if (!below.isEmpty) = true then .go false else .rest

theorem filter_empty {α : Type} (p : α → Bool) : ∀ xs : List α, (xs.filter p).isEmpty = !xs.any p
  | [] => rfl
  | x :: xs => by
    rw [List.filter_cons, List.any_cons]
    cases h : p x with
    | true => simp
    | false => simp [filter_empty p xs]
theorem append_empty {α : Type} (xs ys : List α) : (xs ++ ys).isEmpty = (xs.isEmpty && ys.isEmpty) := by
  cases xs <;> simp
theorem any_congr {α : Type} {xs ys : List α} (h : ∀ x, x ∈ xs ↔ x ∈ ys) (p : α → Bool) : xs.any p = ys.any p := by
  rw [Bool.eq_iff_iff, List.any_eq_true, List.any_eq_true]
  constructor
  · rintro ⟨x, hx, e⟩; exact ⟨x, (h x).mp hx, e⟩
  · rintro ⟨x, hx, e⟩; exact ⟨x, (h x).mpr hx, e⟩
/-- the word depends on which floors are wanted alone -/
theorem actW_congr {l : Lf} {ws ws' : List Int} (h : ∀ x, x ∈ ws ↔ x ∈ ws') : actW l ws = actW l ws' := by
  unfold actW parts nextWay anyAhead hasF
  rw [any_congr h, any_congr h, any_congr h]
theorem ruleW_act (l : Lf) (ws : List Int) : ruleW l ws = actW l ws := by
  unfold ruleW actW parts nextWay anyAhead
  simp only [append_empty, filter_empty]
  have e1 : (ws.any fun x => decide (l.floor < x)) = ws.any (ahead true l.floor) := by
    congr 1
  have e2 : (ws.any fun x => decide (x < l.floor)) = ws.any (ahead false l.floor) := by
    congr 1
  rw [e1, e2]
  cases hu : l.up <;> cases ha : ws.any (ahead true l.floor) <;> cases hb : ws.any (ahead false l.floor) <;> cases l.apart <;> cases l.new <;> cases hasF l.floor ws <;> simp [ha, hb]

theorem nextWay_eq (h : Int) (up : Bool) (ws : List Int) : nextWay h up ws = (if (anyAhead h true ws && (up || !anyAhead h false ws)) = true then some true else if anyAhead h false ws = true then some false else none) := by
  unfold nextWay
  cases up <;> cases e1 : anyAhead h true ws <;> cases e2 : anyAhead h false ws <;> simp [e1, e2]

/-! ### people -/
inductive Ph where
  | waits | rides | left
  deriving DecidableEq
def Pp.ph (p : Pp) : Ph :=
  match p.entered with
  | none => .waits
  | some _ => match p.left with
    | none => .rides
    | some _ => .left
def asked (ps : List Pp) : List Int := (ps.filter fun p => decide (p.ph = .waits)).map (·.start) ++ (ps.filter fun p => decide (p.ph = .rides)).map (·.goal)
theorem asked_mem (ps : List Pp) (x : Int) : x ∈ asked ps ↔ x ∈ wants ps := by
  unfold asked wants
  rw [List.mem_append, List.mem_map, List.mem_map, List.mem_filterMap]
  constructor
  · rintro (⟨p, hp, rfl⟩ | ⟨p, hp, rfl⟩)
    · obtain ⟨h1, h2⟩ := List.mem_filter.mp hp
      refine ⟨p, h1, ?_⟩
      have h2 := of_decide_eq_true h2
      unfold Pp.ph at h2
      unfold Pp.want
      cases e : p.entered with
      | none => rfl
      | some a => rw [e] at h2; cases f : p.left <;> rw [f] at h2 <;> cases h2
    · obtain ⟨h1, h2⟩ := List.mem_filter.mp hp
      refine ⟨p, h1, ?_⟩
      have h2 := of_decide_eq_true h2
      unfold Pp.ph at h2
      unfold Pp.want
      cases e : p.entered with
      | none => rw [e] at h2; cases h2
      | some a =>
        rw [e] at h2
        cases f : p.left with
        | none => rfl
        | some b => rw [f] at h2; cases h2
  · rintro ⟨p, hp, e⟩
    unfold Pp.want at e
    cases h : p.entered with
    | none =>
      rw [h] at e
      refine .inl ⟨p, List.mem_filter.mpr ⟨hp, decide_eq_true ?_⟩, Option.some.inj e⟩
      unfold Pp.ph; rw [h]
    | some a =>
      rw [h] at e
      cases f : p.left with
      | none =>
        rw [f] at e
        refine .inr ⟨p, List.mem_filter.mpr ⟨hp, decide_eq_true ?_⟩, Option.some.inj e⟩
        unfold Pp.ph; rw [h]; dsimp only; rw [f]
      | some b => rw [f] at e; cases e
theorem rule_asked (l : Lf) (ps : List Pp) : ruleW l (asked ps) = actW l (wants ps) := by
  rw [ruleW_act]; exact actW_congr (asked_mem ps)

/-! ### the lift stays in the house -/
structure Good (F : Int) (d : Dy) : Prop where
  lo : 0 ≤ d.lift.floor
  hi : d.lift.floor < F
  pp : ∀ p ∈ d.people, 0 ≤ p.start ∧ p.start < F ∧ 0 ≤ p.goal ∧ p.goal < F ∧ p.start ≠ p.goal
theorem want_in {F : Int} {d : Dy} (g : Good F d) {x : Int} (h : x ∈ wants d.people) : 0 ≤ x ∧ x < F := by
  unfold wants at h
  obtain ⟨p, hp, e⟩ := List.mem_filterMap.mp h
  obtain ⟨h1, h2, h3, h4, _⟩ := g.pp p hp
  unfold Pp.want at e
  split at e
  · cases e; exact ⟨h1, h2⟩
  · split at e
    · cases e; exact ⟨h3, h4⟩
    · cases e
theorem anyAhead_mem {here : Int} {up : Bool} {ws : List Int} (h : anyAhead here up ws = true) : ∃ x ∈ ws, ahead up here x = true := List.any_eq_true.mp h
theorem beside_in {F here : Int} {up : Bool} {ws : List Int} (h0 : 0 ≤ here) (h1 : here < F) (hw : ∀ x ∈ ws, 0 ≤ x ∧ x < F) (h : anyAhead here up ws = true) : 0 ≤ beside here up ∧ beside here up < F := by
  obtain ⟨x, hx, e⟩ := anyAhead_mem h
  obtain ⟨a, b⟩ := hw x hx
  unfold ahead at e
  unfold beside
  cases up with
  | true => have e := of_decide_eq_true e; constructor <;> simp <;> omega
  | false => have e := of_decide_eq_true e; constructor <;> simp <;> omega
theorem nextWay_ahead {here : Int} {up d : Bool} {ws : List Int} (h : nextWay here up ws = some d) : anyAhead here d ws = true := by
  unfold nextWay at h
  split at h
  · rename_i e; cases h; exact e
  · split at h
    · rename_i e; cases h; exact e
    · cases h
theorem actW_go {l : Lf} {ws : List Int} {d : Bool} (h : actW l ws = .go d) : l.apart = false ∧ nextWay l.floor l.up ws = some d := by
  unfold actW at h
  split at h
  · cases h
  · rename_i ha
    split at h
    · cases h
    · split at h
      · cases h
      · rename_i e; cases h; exact ⟨by simpa using ha, e⟩
theorem pass_same (p : Pp) (t : Int) : (p.pass t).start = p.start ∧ (p.pass t).goal = p.goal ∧ (p.pass t).pressed = p.pressed := by
  unfold Pp.pass; split <;> exact ⟨rfl, rfl, rfl⟩
theorem swap1_same (f t : Int) (p : Pp) : (swap1 f t p).start = p.start ∧ (swap1 f t p).goal = p.goal ∧ (swap1 f t p).pressed = p.pressed := by
  unfold swap1; split
  · exact pass_same p t
  · exact ⟨rfl, rfl, rfl⟩
theorem good_moved {F : Int} {d : Dy} (g : Good F d) : 0 ≤ (moved d.lift (tickW d)).floor ∧ (moved d.lift (tickW d)).floor < F := by
  cases e : tickW d with
  | shut => exact ⟨g.lo, g.hi⟩
  | part => exact ⟨g.lo, g.hi⟩
  | rest => exact ⟨g.lo, g.hi⟩
  | go u => exact beside_in g.lo g.hi (fun x hx => want_in g hx) (nextWay_ahead (actW_go e).2)
theorem good_tick {F : Int} {d : Dy} (g : Good F d) : Good F (tickD d) := by
  obtain ⟨a, b⟩ := good_moved g
  refine ⟨a, b, fun p hp => ?_⟩
  have hp : p ∈ (if tickW d = .part then swap d.lift.floor (d.ticks + 1) d.people else d.people) := hp
  split at hp
  · obtain ⟨q, hq, rfl⟩ := List.mem_map.mp hp
    obtain ⟨e1, e2, _⟩ := swap1_same d.lift.floor (d.ticks + 1) q
    rw [e1, e2]; exact g.pp q hq
  · exact g.pp p hp
theorem okPress_iff {F s g : Int} : okPress F s g = true ↔ 0 ≤ s ∧ s < F ∧ 0 ≤ g ∧ g < F ∧ s ≠ g := by
  unfold okPress
  simp only [Bool.and_eq_true, decide_eq_true_eq, Bool.not_eq_true', decide_eq_false_iff_not]
  constructor
  · rintro ⟨⟨⟨a, b⟩, c, d⟩, e⟩; exact ⟨a, b, c, d, e⟩
  · rintro ⟨a, b, c, d, e⟩; exact ⟨⟨⟨a, b⟩, c, d⟩, e⟩
theorem good_step {F : Int} {d : Dy} (g : Good F d) (x : Dd) : Good F (stepD F d x) := by
  cases x with
  | tick => exact good_tick g
  | press s t =>
    unfold stepD
    dsimp only
    split
    · rename_i e
      have e := okPress_iff.mp e
      refine ⟨g.lo, g.hi, fun p hp => ?_⟩
      rcases List.mem_append.mp hp with h | h
      · exact g.pp p h
      · have : p = ⟨s, t, d.ticks, none, none⟩ := by simpa using h
        subst this
        exact e
    · exact g
theorem good_run {F : Int} : ∀ (xs : List Dd) {d : Dy}, Good F d → Good F (runD F d xs)
  | [], _, g => g
  | x :: xs, _, g => good_run xs (good_step g x)
theorem good0 {F : Int} (h : 0 < F) : Good F dy0 := ⟨Int.le_refl 0, h, fun p hp => by cases hp⟩

/-! ### nobody has left who has not entered -/
def Sane (d : Dy) : Prop := ∀ p ∈ d.people, p.entered = none → p.left = none
theorem sane_swap1 {f t : Int} {p : Pp} (h : p.entered = none → p.left = none) : (swap1 f t p).entered = none → (swap1 f t p).left = none := by
  unfold swap1
  split
  · unfold Pp.pass
    split
    · intro z; cases z
    · rename_i e
      intro z
      have z : p.entered = none := z
      rw [e] at z; cases z
  · exact h
theorem sane_step {F : Int} {d : Dy} (s : Sane d) (x : Dd) : Sane (stepD F d x) := by
  cases x with
  | tick =>
    intro p hp
    have hp : p ∈ (if tickW d = .part then swap d.lift.floor (d.ticks + 1) d.people else d.people) := hp
    split at hp
    · obtain ⟨q, hq, rfl⟩ := List.mem_map.mp hp
      exact sane_swap1 (s q hq)
    · exact s p hp
  | press a b =>
    unfold stepD
    dsimp only
    split
    · intro p hp
      rcases List.mem_append.mp hp with h | h
      · exact s p h
      · have : p = ⟨a, b, d.ticks, none, none⟩ := by simpa using h
        subst this
        intro _; rfl
    · exact s
theorem sane_run {F : Int} : ∀ (xs : List Dd) {d : Dy}, Sane d → Sane (runD F d xs)
  | [], _, s => s
  | x :: xs, _, s => sane_run xs (sane_step s x)
theorem sane0 : Sane dy0 := fun p hp => by cases hp
theorem ph_swap1 {f t : Int} {p : Pp} (h : p.entered = none → p.left = none) :
    (swap1 f t p).ph = if p.ph = .waits ∧ p.start = f then .rides else if p.ph = .rides ∧ p.goal = f then .left else p.ph := by
  obtain ⟨s, g, pr, en, le⟩ := p
  cases en with
  | none =>
    have : le = none := h rfl
    subst this
    by_cases e : s = f
    · subst e; simp [swap1, Pp.want, Pp.pass, Pp.ph]
    · simp [swap1, Pp.want, Pp.ph, e]
  | some a =>
    cases le with
    | none =>
      by_cases e : g = f
      · subst e; simp [swap1, Pp.want, Pp.pass, Pp.ph]
      · simp [swap1, Pp.want, Pp.ph, e]
    | some b => simp [swap1, Pp.want, Pp.ph]
/-- the law's own test of a press -/
theorem okPress_mm {F s g lo hi : Int} (h1 : lo = if g < s then g else s) (h2 : hi = if g > s then g else s) : okPress F s g = (decide (0 ≤ lo) && (decide (lo < hi) && decide (hi < F))) := by
  rw [Bool.eq_iff_iff, okPress_iff]
  simp only [Bool.and_eq_true, decide_eq_true_eq]
  subst h1 h2
  constructor
  · rintro ⟨a, b, c, d, e⟩
    refine ⟨?_, ?_, ?_⟩ <;> (split <;> first | omega | (split <;> omega))
  · rintro ⟨a, b, c⟩
    split at a <;> split at b <;> split at c <;> (first | omega | (split at b <;> omega))
end LW

set_option autoImplicit false
namespace LW
/-- for each tick the floor behind it, and its word -/
def rowsOf (F : Int) : Dy → List Dd → List (Int × Wd)
  | _, [] => []
  | d, .tick :: r => ((tickD d).lift.floor, tickW d) :: rowsOf F (tickD d) r
  | d, .press s g :: r => rowsOf F (stepD F d (.press s g)) r
theorem rowsOf_append (F : Int) : ∀ (a b : List Dd) (d : Dy), rowsOf F d (a ++ b) = rowsOf F d a ++ rowsOf F (runD F d a) b
  | [], _, _ => rfl
  | .tick :: a, b, d => by
    show _ :: rowsOf F (tickD d) (a ++ b) = _ :: (rowsOf F (tickD d) a ++ rowsOf F (runD F (tickD d) a) b)
    rw [rowsOf_append F a b]
  | .press s g :: a, b, d => rowsOf_append F a b _
theorem rowsOf_len (F : Int) : ∀ (a : List Dd) (d : Dy), (rowsOf F d a).length ≤ a.length
  | [], _ => Nat.le_refl _
  | .tick :: a, d => Nat.succ_le_succ (rowsOf_len F a _)
  | .press s g :: a, d => Nat.le_succ_of_le (rowsOf_len F a _)
theorem shut_iff {l : Lf} {ws : List Int} : actW l ws = .shut ↔ l.apart = true := by
  unfold actW
  constructor
  · intro h
    split at h
    · assumption
    · split at h
      · cases h
      · split at h <;> cases h
  · intro h; rw [if_pos h]
theorem moved_apart (l : Lf) (ws : List Int) : (moved l (actW l ws)).apart = decide (actW l ws = .part) := by
  cases e : actW l ws with
  | shut => rfl
  | part => rfl
  | rest =>
    have h : ¬ l.apart = true := fun z => by rw [shut_iff.mpr z] at e; cases e
    show l.apart = false
    simpa using h
  | go d => exact (actW_go e).1
theorem moved_floor (l : Lf) (w : Wd) : (moved l w).floor = l.floor + (if w = .go true then 1 else 0) - (if w = .go false then 1 else 0) := by
  cases w with
  | shut => show l.floor = l.floor + (0 : Int) - 0; omega
  | part => show l.floor = l.floor + (0 : Int) - 0; omega
  | rest => show l.floor = l.floor + (0 : Int) - 0; omega
  | go d => cases d with
    | true => show l.floor + 1 = l.floor + (1 : Int) - 0; omega
    | false => show l.floor - 1 = l.floor + (0 : Int) - 1; omega
theorem press_lift {F : Int} (d : Dy) (s g : Int) : (stepD F d (.press s g)).lift = d.lift := by
  unfold stepD; dsimp only; split <;> rfl
theorem last_row (F : Int) : ∀ (xs : List Dd) (d : Dy) (r0 : Int × Wd), r0.1 = d.lift.floor → decide (r0.2 = .part) = d.lift.apart →
    ∃ ini r, r0 :: rowsOf F d xs = ini ++ [r] ∧ r.1 = (runD F d xs).lift.floor ∧ decide (r.2 = .part) = (runD F d xs).lift.apart
  | [], d, r0, h1, h2 => ⟨[], r0, rfl, h1, h2⟩
  | .tick :: xs, d, r0, h1, h2 => by
    obtain ⟨ini, r, e, a, b⟩ := last_row F xs (tickD d) ((tickD d).lift.floor, tickW d) rfl (moved_apart d.lift (wants d.people)).symm
    exact ⟨r0 :: ini, r, by show r0 :: (_ :: rowsOf F (tickD d) xs) = _; rw [e]; rfl, a, b⟩
  | .press s g :: xs, d, r0, h1, h2 => last_row F xs (stepD F d (.press s g)) r0 (by rw [press_lift]; exact h1) (by rw [press_lift]; exact h2)
def isGo : Int × Wd → Bool
  | (_, .go _) => true
  | _ => false
theorem last_way {α : Type} (F : Int) (f : Int × Wd → α) (u : Bool → α) (hf : ∀ x d, f (x, .go d) = u d) : ∀ (xs : List Dd) (d : Dy) (u0 : α), u0 = u d.lift.up → ∃ ini, u0 :: ((rowsOf F d xs).filter isGo).map f = ini ++ [u (runD F d xs).lift.up]
  | [], d, u0, h => ⟨[], by rw [h]; rfl⟩
  | .press s g :: xs, d, u0, h => last_way F f u hf xs (stepD F d (.press s g)) u0 (by rw [press_lift]; exact h)
  | .tick :: xs, d, u0, h => by
    show ∃ ini, u0 :: ((((tickD d).lift.floor, tickW d) :: rowsOf F (tickD d) xs).filter isGo).map f = ini ++ [u (runD F (tickD d) xs).lift.up]
    have same : (∀ b, tickW d ≠ .go b) → (tickD d).lift.up = d.lift.up := fun hn => by
      show (moved d.lift (tickW d)).up = _
      cases e : tickW d with
      | go b => exact absurd e (hn b)
      | shut => rfl
      | part => rfl
      | rest => rfl
    cases e : tickW d with
    | go b =>
      have hup : (tickD d).lift.up = b := by
        show (moved d.lift (tickW d)).up = b
        rw [e]; rfl
      obtain ⟨ini, q⟩ := last_way F f u hf xs (tickD d) (f ((tickD d).lift.floor, .go b)) (by rw [hf, hup])
      refine ⟨u0 :: ini, ?_⟩
      rw [List.filter_cons]
      show u0 :: (f ((tickD d).lift.floor, .go b) :: ((rowsOf F (tickD d) xs).filter isGo).map f) = _
      rw [q]; rfl
    | shut =>
      rw [List.filter_cons]
      exact last_way F f u hf xs (tickD d) u0 (by rw [h, same (fun b z => by rw [e] at z; cases z)])
    | part =>
      rw [List.filter_cons]
      exact last_way F f u hf xs (tickD d) u0 (by rw [h, same (fun b z => by rw [e] at z; cases z)])
    | rest =>
      rw [List.filter_cons]
      exact last_way F f u hf xs (tickD d) u0 (by rw [h, same (fun b z => by rw [e] at z; cases z)])
/-- the law's other test of a press -/
theorem okPress_no {F s g lo hi : Int} (h1 : lo = if g < s then g else s) (h2 : hi = if g > s then g else s) : (!okPress F s g) = (decide (lo = hi) || (decide (lo < 0) || decide (F ≤ hi))) := by
  rw [Bool.eq_iff_iff]
  simp only [Bool.not_eq_true', Bool.or_eq_true, decide_eq_true_eq]
  rw [← Bool.not_eq_true, okPress_iff]
  subst h1 h2
  constructor
  · intro h
    by_cases a : g < s
    · by_cases b : g > s
      · omega
      · rw [if_pos a, if_neg b]; omega
    · by_cases b : g > s
      · rw [if_neg a, if_pos b]; omega
      · rw [if_neg a, if_neg b]; omega
  · intro h z
    by_cases a : g < s
    · by_cases b : g > s
      · omega
      · rw [if_pos a, if_neg b] at h; omega
    · by_cases b : g > s
      · rw [if_neg a, if_pos b] at h; omega
      · rw [if_neg a, if_neg b] at h; omega
end LW

set_option maxHeartbeats 4000000
namespace LWP
open PySem L2
def top (i : Nat) : Stmt := PySem.Challenge.pw_liftwell_k02_whole_doors_and_floors.main.body.getD i (.Pass ⟨0, 0, 0, 0⟩)
abbrev sOther : Stmt := top 4
abbrev sLies : Stmt := top 5
abbrev sAny : Stmt := top 6
abbrev sNext : Stmt := top 7
abbrev sBeside : Stmt := top 8
abbrev sLInit : Stmt := inClass (top 13) 0
abbrev sAct : Stmt := inClass (top 13) 1
abbrev sShut : Stmt := inClass (top 13) 2
abbrev sPart : Stmt := inClass (top 13) 3
abbrev sGo : Stmt := inClass (top 13) 4
abbrev sPInit : Stmt := inClass (top 15) 0
abbrev sWf : Stmt := inClass (top 15) 1
abbrev sPass : Stmt := inClass (top 15) 2
abbrev sTrip : Stmt := inClass (top 15) 3
abbrev sDInit : Stmt := inClass (top 16) 0
abbrev sIs : Stmt := inClass (top 16) 1
abbrev sPress : Stmt := inClass (top 16) 2
abbrev sWanted : Stmt := inClass (top 16) 3
abbrev sTick : Stmt := inClass (top 16) 4
abbrev sExch : Stmt := inClass (top 16) 5
abbrev sAnswer : Stmt := inClass (top 16) 6
abbrev sAnswers : Stmt := top 17
abbrev sBehind : Stmt := top 18
abbrev sLb : Stmt := top 19
abbrev sUnturned : Stmt := top 21
abbrev sRoom : Stmt := top 22
abbrev sWhole : Stmt := top 23
abbrev sAt : Stmt := top 24
abbrev sDeeds : Stmt := top 25
abbrev sParted : Stmt := top 26
abbrev sKept : Stmt := top 27
abbrev sDue : Stmt := top 28
abbrev sLet : Stmt := top 29
abbrev sAsked : Stmt := top 30
abbrev sPlayed : Stmt := top 31
abbrev sLaw : Stmt := top 32
/-! ### what is known of the text -/
/-- a def of the module's top -/
structure Df (K : PySem.W.Frag) (mg : Str → Option Value) (x : Str) (st : Stmt) (ps : List Str) (f : Addr) (fd : FuncData) : Prop where
  F : Fun K x x st f fd
  b : Binds K fd ps []
  m : mg x = some (.ref f)
/-- a text of the top -/
def Kon (mg : Str → Option Value) (x : Str) (v : Str) (t : Tok) : Prop := mg x = some (.str v t)
def wd (b : Bool) : Str := if b = true then "up" else "down"
def wayV : Option Bool → V
  | none => .non
  | some b => .str (wd b)
theorem du : ¬ (("down" : Str) = "up") := by decide +kernel
theorem duV : ¬ (V.str "down" = V.str "up") := fun h => du (V.str.inj h)
section
variable {P : Program} {w : World} {K : PySem.W.Frag} {mg : Str → Option Value} {base : Heap} {tU tD : Tok}
/-! ### ways -/
def spOther : Sp := fun vs H Q _ => ∃ up, vs = [.str (wd up)] ∧ Q (.str (wd (!up))) H
theorem scOther : FnScope ["way"] ["way"] (defScope sOther) := ⟨rfl, rfl, rfl, by decide +kernel, rfl, by decide +kernel, by decide +kernel⟩
theorem ok_other {f : Addr} {fd : FuncData} (F : Fun K "other_way" "other_way" sOther f fd) (hU : Kon mg "UP" "up" tU) (hD : Kon mg "DOWN" "down" tD) : FnOk P w K mg base CX0 1 f fd ["way"] spOther := by
  refine F.ok scOther (fun vs H Q E h => ?_) (fun cdv A outer s H vs Q E hr h => ?_)
  · obtain ⟨up, rfl, _⟩ := h
    rfl
  · obtain ⟨up, rfl, k⟩ := h
    refine ⟨_, pss_cons (ps_if (pt_cmpR op_eq (pv 0) (pe_glob (v := .str "up") rfl hU ⟨_, rfl⟩) (nomark _)) (pss_one (ps_ret (pe_glob (v := .str "down") rfl hD ⟨_, rfl⟩))) pss_nil) (pss_one (ps_ret (pe_glob (v := .str "up") rfl hU ⟨_, rfl⟩))), ?_⟩
    cases up with
    | true => exact ⟨_, rfl, rfl, _, rfl, iteY rfl k⟩
    | false => exact ⟨_, rfl, rfl, _, rfl, iteN duV k⟩
def spLies : Sp := fun vs H Q _ => ∃ (g h : Int) (up : Bool), vs = [.int g, .int h, .str (wd up)] ∧ Q (.bl (LW.ahead up h g)) H
theorem scLies : FnScope ["floor", "here", "way"] ["floor", "here", "way"] (defScope sLies) := ⟨rfl, rfl, rfl, by decide +kernel, rfl, by decide +kernel, by decide +kernel⟩
theorem ok_lies {f : Addr} {fd : FuncData} (F : Fun K "lies_ahead" "lies_ahead" sLies f fd) (hU : Kon mg "UP" "up" tU) : FnOk P w K mg base CX0 1 f fd ["floor", "here", "way"] spLies := by
  refine F.ok scLies (fun vs H Q E h => ?_) (fun cdv A outer s H vs Q E hr h => ?_)
  · obtain ⟨g, h, up, rfl, _⟩ := h
    rfl
  · obtain ⟨g, h, up, rfl, k⟩ := h
    refine ⟨_, pss_cons (ps_if (pt_cmpR op_eq (pv 2) (pe_glob (v := .str "up") rfl hU ⟨_, rfl⟩) (nomark _)) (pss_one (ps_ret (pe_cmpR op_gt (pv 0) (pv 1) (nomark _)))) pss_nil) (pss_one (ps_ret (pe_cmpR op_lt (pv 0) (pv 1) (nomark _)))), ?_⟩
    cases up with
    | true => exact ⟨_, rfl, rfl, _, rfl, iteY rfl ⟨_, rfl, _, rfl, _, _, rfl, rfl, k⟩⟩
    | false => exact ⟨_, rfl, rfl, _, rfl, iteN duV ⟨_, rfl, _, rfl, _, _, rfl, rfl, k⟩⟩
def spAny (K : PySem.W.Frag) : Sp := fun vs H Q _ => ∃ (h : Int) (up : Bool) (a : Addr) (ws : List Int), vs = [.int h, .str (wd up), .ref a] ∧ SqL K H a (ws.map V.int) ∧ Q (.bl (LW.anyAhead h up ws)) H
theorem scAny : FnScope ["here", "way", "wanted", "floor"] ["here", "way", "wanted"] (defScope sAny) := ⟨rfl, rfl, rfl, by decide +kernel, rfl, by decide +kernel, by decide +kernel⟩
theorem get_int {ns : List Int} {i : Nat} {y : V} (h : (ns.map V.int)[i]? = some y) : ∃ z, y = V.int z ∧ ns[i]? = some z := by
  rw [List.getElem?_map] at h
  cases e : ns[i]? with
  | none => rw [e] at h; cases h
  | some z => rw [e] at h; exact ⟨z, (Option.some.inj h).symm, rfl⟩
theorem ok_any {f f1 : Addr} {fd fd1 : FuncData} (F : Fun K "any_ahead" "any_ahead" sAny f fd) (D1 : Df K mg "lies_ahead" sLies ["floor", "here", "way"] f1 fd1) (hU : Kon mg "UP" "up" tU) : FnOk P w K mg base CX0 2 f fd ["here", "way", "wanted"] (spAny K) := by
  have G1 : FnOk P w K mg base CX0 1 f1 fd1 ["floor", "here", "way"] spLies := ok_lies D1.F hU
  refine F.ok scAny (fun vs H Q E h => ?_) (fun cdv A outer s H vs Q E hr h => ?_)
  · obtain ⟨h, up, a, ws, rfl, _⟩ := h
    rfl
  · obtain ⟨h, up, a, ws, rfl, hS, k⟩ := h
    refine ⟨_, pss_cons (ps_for PassesOwn.never rfl (pi_list (pv 2)) (pg_name (i := 3) scAny.nd rfl (Or.inl rfl))
      (pss_one (ps_if (pt_truth (pe_call G1 hr rfl D1.m D1.F.kp D1.b .nil pass0 (pa_cons (pv 3) (pa_cons (pv 0) (pa_cons (pv 1) pa_nil)))) (fun _ => rfl)) (pss_one (ps_ret pe_bl)) pss_nil)))
      (pss_one (ps_ret pe_bl)), ?_⟩
    refine ⟨_, rfl, a, rfl, ⟨_, hS⟩, for_list (K := K) (a := a) (xs := ws.map V.int) (fun i σ H2 => ∃ v, σ = [some (.int h), some (.str (wd up)), some (.ref a), v] ∧ H2 = H ∧ ∀ x ∈ ws.take i, LW.ahead up h x = false)
      ⟨none, rfl, rfl, fun x hx => by simp at hx⟩ (fun i σ H2 _ ⟨_, _, e, _⟩ => by rw [e]; exact hS) ?_ ?_⟩
    · rintro i y σ H2 hi ⟨v, rfl, rfl, hn⟩
      obtain ⟨z, rfl, hz⟩ := get_int hi
      refine ⟨_, rfl, _, rfl, _, rfl, z, h, up, rfl, _, rfl, ?_⟩
      refine iteB (fun e => ?_) (fun e => ?_)
      · have : LW.anyAhead h up ws = true := List.any_eq_true.mpr ⟨z, List.mem_of_getElem? hz, e⟩
        rw [this] at k
        exact k
      · refine ⟨_, rfl, rfl, fun x hx => ?_⟩
        rw [List.take_add_one, hz] at hx
        rcases List.mem_append.mp hx with hx | hx
        · exact hn x hx
        · have : x = z := by simpa using hx
          rw [this]; exact e
    · rintro σ H2 ⟨v, rfl, rfl, hn⟩
      have : LW.anyAhead h up ws = false := by
        unfold LW.anyAhead
        rw [List.any_eq_false]
        intro x hx
        rw [hn x (by rw [List.length_map, List.take_length]; exact hx)]
        exact Bool.false_ne_true
      rw [this] at k
      exact k
def spNext (K : PySem.W.Frag) : Sp := fun vs H Q _ => ∃ (h : Int) (up : Bool) (a : Addr) (ws : List Int), vs = [.int h, .str (wd up), .ref a] ∧ SqL K H a (ws.map V.int) ∧ Q (wayV (LW.nextWay h up ws)) H
theorem scNext : FnScope ["here", "way", "wanted", "turned"] ["here", "way", "wanted"] (defScope sNext) := ⟨rfl, rfl, rfl, by decide +kernel, rfl, by decide +kernel, by decide +kernel⟩
theorem ok_next {f f1 f2 f3 : Addr} {fd fd1 fd2 fd3 : FuncData} (F : Fun K "next_way" "next_way" sNext f fd) (D1 : Df K mg "lies_ahead" sLies ["floor", "here", "way"] f1 fd1) (D2 : Df K mg "any_ahead" sAny ["here", "way", "wanted"] f2 fd2)
    (D3 : Df K mg "other_way" sOther ["way"] f3 fd3) (hU : Kon mg "UP" "up" tU) (hD : Kon mg "DOWN" "down" tD) : FnOk P w K mg base CX0 3 f fd ["here", "way", "wanted"] (spNext K) := by
  have G2 : FnOk P w K mg base CX0 2 f2 fd2 ["here", "way", "wanted"] (spAny K) := ok_any D2.F D1 hU
  have G3 : FnOk P w K mg base CX0 1 f3 fd3 ["way"] spOther := ok_other D3.F hU hD
  refine F.ok scNext (fun vs H Q E h => ?_) (fun cdv A outer s H vs Q E hr h => ?_)
  · obtain ⟨h, up, a, ws, rfl, _⟩ := h
    rfl
  · obtain ⟨h, up, a, ws, rfl, hS, k⟩ := h
    refine ⟨_, pss_cons (ps_if (pt_truth (pe_call G2 hr rfl D2.m D2.F.kp D2.b .nil pass0 (pa_cons (pv 0) (pa_cons (pv 1) (pa_cons (pv 2) pa_nil)))) (fun _ => rfl)) (pss_one (ps_ret (pv 1))) pss_nil)
      (pss_cons (ps_set (i := 3) scNext.nd rfl (Or.inl rfl) (pe_call G3 (hr.mono (by decide)) rfl D3.m D3.F.kp D3.b .nil pass0 (pa_cons (pv 1) pa_nil)))
      (pss_cons (ps_if (pt_truth (pe_call G2 hr rfl D2.m D2.F.kp D2.b .nil pass0 (pa_cons (pv 0) (pa_cons (pv 3) (pa_cons (pv 2) pa_nil)))) (fun _ => rfl)) (pss_one (ps_ret (pv 3))) pss_nil)
      (pss_one (ps_ret pe_non)))), ?_⟩
    refine ⟨_, rfl, _, rfl, _, rfl, h, up, a, ws, rfl, hS, _, rfl, iteB (fun e => ?_) (fun e => ?_)⟩
    · unfold LW.nextWay at k
      rw [if_pos e] at k
      exact ⟨_, rfl, k⟩
    · refine ⟨_, rfl, up, rfl, ?_⟩
      refine ⟨_, rfl, _, rfl, _, rfl, h, !up, a, ws, rfl, hS, _, rfl, iteB (fun e2 => ?_) (fun e2 => ?_)⟩
      · unfold LW.nextWay at k
        rw [if_neg (by rw [e]; exact Bool.false_ne_true), if_pos e2] at k
        exact ⟨_, rfl, k⟩
      · unfold LW.nextWay at k
        rw [if_neg (by rw [e]; exact Bool.false_ne_true), if_neg (by rw [e2]; exact Bool.false_ne_true)] at k
        exact k
end
/-! ### objects -/
structure Mt (K : PySem.W.Frag) (C : Addr) (x qual : Str) (st : Stmt) (ps : List Str) (f : Addr) (fd : FuncData) : Prop where
  F : Fun K x qual st f fd
  b : Binds K fd ps []
  m : Meth K C x f
theorem lk_hd {f : Str} {v : V} {r : List (Str × V)} : ((f, v) :: r).lookup f = some v := by simp [List.lookup]
theorem lk_tl {f g : Str} {u : V} {r : List (Str × V)} (h : (f == g) = false) : ((g, u) :: r).lookup f = r.lookup f := by simp [List.lookup, h]
theorem pf_hd {f : Str} {u v : V} {r : List (Str × V)} : putF f v ((f, u) :: r) = (f, v) :: r := by
  show (if f = f then (f, v) :: r else _) = _
  rw [if_pos rfl]
theorem pf_tl {f g : Str} {u v : V} {r : List (Str × V)} (h : ¬ g = f) : putF f v ((g, u) :: r) = (g, u) :: putF f v r := by
  show (if g = f then _ else _) = _
  rw [if_neg h]
theorem pf_nil {f : Str} {v : V} : putF f v [] = [(f, v)] := rfl
theorem upd_id {H : Hp} {p : Addr} {o : HO} (h : H p = some o) : upd H p o = H := by
  funext b; unfold upd
  by_cases e : b = p
  · rw [if_pos e, e, h]
  · rw [if_neg e]
def wordS : LW.Wd → Str
  | .shut => "shut"
  | .part => "part"
  | .go b => wd b
  | .rest => "rest"
def fL (l : LW.Lf) : List (Str × V) := [("floor", .int l.floor), ("apart", .bl l.apart), ("way", .str (wd l.up)), ("new_stop", .bl l.new)]
theorem fL_floor (l : LW.Lf) : (fL l).lookup ("floor" : Str) = some (.int l.floor) := lk_hd
theorem fL_apart (l : LW.Lf) : (fL l).lookup ("apart" : Str) = some (.bl l.apart) := (lk_tl (by decide +kernel)).trans lk_hd
theorem fL_way (l : LW.Lf) : (fL l).lookup ("way" : Str) = some (.str (wd l.up)) := (lk_tl (by decide +kernel)).trans ((lk_tl (by decide +kernel)).trans lk_hd)
theorem fL_new (l : LW.Lf) : (fL l).lookup ("new_stop" : Str) = some (.bl l.new) := (lk_tl (by decide +kernel)).trans ((lk_tl (by decide +kernel)).trans ((lk_tl (by decide +kernel)).trans lk_hd))
theorem fL_no (l : LW.Lf) {m : Str} (h1 : (m == "floor") = false) (h2 : (m == "apart") = false) (h3 : (m == "way") = false) (h4 : (m == "new_stop") = false) : (fL l).lookup m = none :=
  (lk_tl h1).trans ((lk_tl h2).trans ((lk_tl h3).trans ((lk_tl h4).trans rfl)))
theorem fL_pfloor (l : LW.Lf) (x : Int) : putF ("floor" : Str) (.int x) (fL l) = fL { l with floor := x } := pf_hd
theorem fL_papart (l : LW.Lf) (x : Bool) : putF ("apart" : Str) (.bl x) (fL l) = fL { l with apart := x } := by
  unfold fL; rw [pf_tl (by decide +kernel), pf_hd]
theorem fL_pway (l : LW.Lf) (x : Bool) : putF ("way" : Str) (.str (wd x)) (fL l) = fL { l with up := x } := by
  unfold fL; rw [pf_tl (by decide +kernel), pf_tl (by decide +kernel), pf_hd]
theorem fL_pnew (l : LW.Lf) (x : Bool) : putF ("new_stop" : Str) (.bl x) (fL l) = fL { l with new := x } := by
  unfold fL; rw [pf_tl (by decide +kernel), pf_tl (by decide +kernel), pf_tl (by decide +kernel), pf_hd]
theorem fL_len (l : LW.Lf) : (fL l).length < 1000 := by show 4 < 1000; decide
/-- what is known of the class Lift -/
structure TL (K : PySem.W.Frag) (C : Addr) : Prop where
  cl : Cls K C
  nf : NoAttr K C "floor"
  na : NoAttr K C "apart"
  nw : NoAttr K C "way"
  nn : NoAttr K C "new_stop"
/-- the texts of the top -/
structure Kn (mg : Str → Option Value) (tU tD tS tP tR : Tok) : Prop where
  up : Kon mg "UP" "up" tU
  dn : Kon mg "DOWN" "down" tD
  sh : Kon mg "SHUT" "shut" tS
  pt : Kon mg "PART" "part" tP
  re : Kon mg "REST" "rest" tR
section
variable {P : Program} {w : World} {K : PySem.W.Frag} {mg : Str → Option Value} {base : Heap} {tU tD tS tP tR : Tok} {C : Addr}
def spBeside : Sp := fun vs H Q _ => ∃ (h : Int) (up : Bool), vs = [.int h, .str (wd up)] ∧ Q (.int (LW.beside h up)) H
theorem scBeside : FnScope ["here", "way"] ["here", "way"] (defScope sBeside) := ⟨rfl, rfl, rfl, by decide +kernel, rfl, by decide +kernel, by decide +kernel⟩
theorem ok_beside {f : Addr} {fd : FuncData} (F : Fun K "floor_beside" "floor_beside" sBeside f fd) (hU : Kon mg "UP" "up" tU) : FnOk P w K mg base CX0 1 f fd ["here", "way"] spBeside := by
  refine F.ok scBeside (fun vs H Q E h => ?_) (fun cdv A outer s H vs Q E hr h => ?_)
  · obtain ⟨h, up, rfl, _⟩ := h
    rfl
  · obtain ⟨h, up, rfl, k⟩ := h
    refine ⟨_, pss_cons (ps_if (pt_cmpR op_eq (pv 1) (pe_glob (v := .str "up") rfl hU ⟨_, rfl⟩) (nomark _)) (pss_one (ps_ret (pe_op op_add (pv 0) pe_int))) pss_nil) (pss_one (ps_ret (pe_op op_sub (pv 0) pe_int))), ?_⟩
    cases up with
    | true => exact ⟨_, rfl, rfl, _, rfl, iteY rfl ⟨_, rfl, _, _, rfl, rfl, k⟩⟩
    | false => exact ⟨_, rfl, rfl, _, rfl, iteN duV ⟨_, rfl, _, _, rfl, rfl, k⟩⟩
def lf0 : LW.Lf := ⟨0, false, true, true⟩
def spLInit (C : Addr) : Sp := fun vs H Q _ => ∃ p dx, vs = [.ref p] ∧ H p = some (.ins C dx []) ∧ Q .non (upd H p (.ins C dx (fL lf0)))
theorem scLInit : FnScope ["self"] ["self"] (defScope sLInit) := ⟨rfl, rfl, rfl, by decide +kernel, rfl, by decide +kernel, by decide +kernel⟩
theorem ok_linit {f : Addr} {fd : FuncData} (F : Fun K "__init__" "Lift.__init__" sLInit f fd) (T : TL K C) (hU : Kon mg "UP" "up" tU) : FnOk P w K mg base CX0 1 f fd ["self"] (spLInit C) := by
  refine F.ok scLInit (fun vs H Q E h => ?_) (fun cdv A outer s H vs Q E hr h => ?_)
  · obtain ⟨p, dx, rfl, _⟩ := h
    rfl
  · obtain ⟨p, dx, rfl, hp, k⟩ := h
    refine ⟨_, pss_cons (ps_fld (pv 0) pe_int rfl) (pss_cons (ps_fld (pv 0) pe_bl rfl) (pss_cons (ps_fld (pv 0) (pe_glob (v := .str "up") rfl hU ⟨_, rfl⟩) rfl) (pss_one (ps_fld (pv 0) pe_bl rfl)))), ?_⟩
    refine ⟨_, rfl, p, C, dx, _, rfl, hp, T.cl, T.nf, (by decide), ?_⟩
    rw [pf_nil]
    refine ⟨_, rfl, p, C, dx, _, rfl, upd_same, T.cl, T.na, (by show 1 < 1000; decide), ?_⟩
    rw [upd_upd, pf_tl (by decide +kernel), pf_nil]
    refine ⟨_, rfl, p, C, dx, _, rfl, upd_same, T.cl, T.nw, (by show 2 < 1000; decide), ?_⟩
    rw [upd_upd, pf_tl (by decide +kernel), pf_tl (by decide +kernel), pf_nil]
    refine ⟨_, rfl, p, C, dx, _, rfl, upd_same, T.cl, T.nn, (by show 3 < 1000; decide), ?_⟩
    rw [upd_upd, pf_tl (by decide +kernel), pf_tl (by decide +kernel), pf_tl (by decide +kernel), pf_nil]
    exact k
/-- a method that takes the lift alone and leaves l' -/
def spLw (C : Addr) (l' : LW.Lf → LW.Lf) (x : Str) : Sp := fun vs H Q _ => ∃ p dx l, vs = [.ref p] ∧ H p = some (.ins C dx (fL l)) ∧ Q (.str x) (upd H p (.ins C dx (fL (l' l))))
theorem scShut : FnScope ["self"] ["self"] (defScope sShut) := ⟨rfl, rfl, rfl, by decide +kernel, rfl, by decide +kernel, by decide +kernel⟩
theorem ok_shut {f : Addr} {fd : FuncData} (F : Fun K "shut_doors" "Lift.shut_doors" sShut f fd) (T : TL K C) (hS : Kon mg "SHUT" "shut" tS) : FnOk P w K mg base CX0 1 f fd ["self"] (spLw C (fun l => LW.moved l .shut) "shut") := by
  refine F.ok scShut (fun vs H Q E h => ?_) (fun cdv A outer s H vs Q E hr h => ?_)
  · obtain ⟨p, dx, l, rfl, _⟩ := h
    rfl
  · obtain ⟨p, dx, l, rfl, hp, k⟩ := h
    refine ⟨_, pss_cons (ps_fld (pv 0) pe_bl rfl) (pss_one (ps_ret (pe_glob (v := .str "shut") rfl hS ⟨_, rfl⟩))), ?_⟩
    refine ⟨_, rfl, p, C, dx, _, rfl, hp, T.cl, T.na, fL_len _, ?_⟩
    rw [fL_papart]
    exact k
theorem scPart : FnScope ["self"] ["self"] (defScope sPart) := ⟨rfl, rfl, rfl, by decide +kernel, rfl, by decide +kernel, by decide +kernel⟩
theorem ok_part {f : Addr} {fd : FuncData} (F : Fun K "part_doors" "Lift.part_doors" sPart f fd) (T : TL K C) (hP : Kon mg "PART" "part" tP) : FnOk P w K mg base CX0 1 f fd ["self"] (spLw C (fun l => LW.moved l .part) "part") := by
  refine F.ok scPart (fun vs H Q E h => ?_) (fun cdv A outer s H vs Q E hr h => ?_)
  · obtain ⟨p, dx, l, rfl, _⟩ := h
    rfl
  · obtain ⟨p, dx, l, rfl, hp, k⟩ := h
    refine ⟨_, pss_cons (ps_fld (pv 0) pe_bl rfl) (pss_cons (ps_fld (pv 0) pe_bl rfl) (pss_one (ps_ret (pe_glob (v := .str "part") rfl hP ⟨_, rfl⟩)))), ?_⟩
    refine ⟨_, rfl, p, C, dx, _, rfl, hp, T.cl, T.na, fL_len _, ?_⟩
    rw [fL_papart]
    refine ⟨_, rfl, p, C, dx, _, rfl, upd_same, T.cl, T.nn, fL_len _, ?_⟩
    rw [fL_pnew, upd_upd]
    exact k
def spGo (C : Addr) : Sp := fun vs H Q _ => ∃ p dx l up, vs = [.ref p, .str (wd up)] ∧ H p = some (.ins C dx (fL l)) ∧ Q (.str (wd up)) (upd H p (.ins C dx (fL (LW.moved l (.go up)))))
theorem scGo : FnScope ["self", "way"] ["self", "way"] (defScope sGo) := ⟨rfl, rfl, rfl, by decide +kernel, rfl, by decide +kernel, by decide +kernel⟩
theorem ok_go {f f1 : Addr} {fd fd1 : FuncData} (F : Fun K "go" "Lift.go" sGo f fd) (T : TL K C) (D1 : Df K mg "floor_beside" sBeside ["here", "way"] f1 fd1) (hU : Kon mg "UP" "up" tU) : FnOk P w K mg base CX0 2 f fd ["self", "way"] (spGo C) := by
  have G1 : FnOk P w K mg base CX0 1 f1 fd1 ["here", "way"] spBeside := ok_beside D1.F hU
  refine F.ok scGo (fun vs H Q E h => ?_) (fun cdv A outer s H vs Q E hr h => ?_)
  · obtain ⟨p, dx, l, up, rfl, _⟩ := h
    rfl
  · obtain ⟨p, dx, l, up, rfl, hp, k⟩ := h
    refine ⟨_, pss_cons (ps_fld (pv 0) (pv 1) rfl) (pss_cons (ps_fld (pv 0) (pe_call G1 hr rfl D1.m D1.F.kp D1.b .nil pass0 (pa_cons (pe_fld (pv 0) rfl) (pa_cons (pv 1) pa_nil))) rfl) (pss_cons (ps_fld (pv 0) pe_bl rfl) (pss_one (ps_ret (pv 1))))), ?_⟩
    refine ⟨_, rfl, _, rfl, p, C, dx, _, rfl, hp, T.cl, T.nw, fL_len _, ?_⟩
    rw [fL_pway]
    refine ⟨_, rfl, p, C, dx, _, _, rfl, upd_same, T.cl, T.nf, fL_floor _, _, rfl, _, up, rfl, ?_⟩
    refine ⟨_, rfl, p, C, dx, _, rfl, upd_same, T.cl, T.nf, fL_len _, ?_⟩
    rw [fL_pfloor, upd_upd]
    refine ⟨_, rfl, p, C, dx, _, rfl, upd_same, T.cl, T.nn, fL_len _, ?_⟩
    rw [fL_pnew, upd_upd]
    exact ⟨_, rfl, k⟩
def spAct (K : PySem.W.Frag) (C : Addr) : Sp := fun vs H Q _ => ∃ p dx l a ws, vs = [.ref p, .ref a] ∧ H p = some (.ins C dx (fL l)) ∧ SqL K H a (ws.map V.int) ∧ Q (.str (wordS (LW.actW l ws))) (upd H p (.ins C dx (fL (LW.moved l (LW.actW l ws)))))
theorem scAct : FnScope ["self", "wanted", "way"] ["self", "wanted"] (defScope sAct) := ⟨rfl, rfl, rfl, by decide +kernel, rfl, by decide +kernel, by decide +kernel⟩
theorem in_ints (x : Int) : ∀ ws : List Int, inV (.int x) (ws.map V.int) = LW.hasF x ws
  | [] => rfl
  | z :: ws => by
    show (eqV (.int z) (.int x) || inV (.int x) (ws.map V.int)) = ((z == x) || LW.hasF x ws)
    rw [in_ints x ws]; rfl
theorem all_flat : ∀ ws : List Int, (ws.map V.int).all flatV = true
  | [] => rfl
  | z :: ws => by rw [List.map_cons, List.all_cons, all_flat ws]; rfl
theorem ok_act {f f1 f2 f3 f4 f5 f6 f7 f8 : Addr} {fd fd1 fd2 fd3 fd4 fd5 fd6 fd7 fd8 : FuncData} (F : Fun K "act" "Lift.act" sAct f fd) (T : TL K C) (N : Kn mg tU tD tS tP tR) (D1 : Df K mg "lies_ahead" sLies ["floor", "here", "way"] f1 fd1) (D2 : Df K mg "any_ahead" sAny ["here", "way", "wanted"] f2 fd2)
    (D3 : Df K mg "other_way" sOther ["way"] f3 fd3) (D4 : Df K mg "next_way" sNext ["here", "way", "wanted"] f4 fd4) (D5 : Df K mg "floor_beside" sBeside ["here", "way"] f5 fd5)
    (M6 : Mt K C "shut_doors" "Lift.shut_doors" sShut ["self"] f6 fd6) (M7 : Mt K C "part_doors" "Lift.part_doors" sPart ["self"] f7 fd7) (M8 : Mt K C "go" "Lift.go" sGo ["self", "way"] f8 fd8) : FnOk P w K mg base CX0 4 f fd ["self", "wanted"] (spAct K C) := by
  have G4 : FnOk P w K mg base CX0 3 f4 fd4 ["here", "way", "wanted"] (spNext K) := ok_next D4.F D1 D2 D3 N.up N.dn
  have G6 : FnOk P w K mg base CX0 1 f6 fd6 ["self"] (spLw C (fun l => LW.moved l .shut) "shut") := ok_shut M6.F T N.sh
  have G7 : FnOk P w K mg base CX0 1 f7 fd7 ["self"] (spLw C (fun l => LW.moved l .part) "part") := ok_part M7.F T N.pt
  have G8 : FnOk P w K mg base CX0 2 f8 fd8 ["self", "way"] (spGo C) := ok_go M8.F T D5 N.up
  refine F.ok scAct (fun vs H Q E h => ?_) (fun cdv A outer s H vs Q E hr h => ?_)
  · obtain ⟨p, dx, l, a, ws, rfl, _⟩ := h
    rfl
  · obtain ⟨p, dx, l, a, ws, rfl, hp, hS, k⟩ := h
    have hr1 : Room 1 _ := hr.mono (by decide)
    refine ⟨_, pss_cons (ps_if (pt_truth (pe_fld (pv 0) rfl) (fun _ => rfl)) (pss_one (ps_ret (pe_meth0 (pv 0) T.cl M6.m G6 hr1 M6.b .nil pass0))) pss_nil)
      (pss_cons (ps_set (i := 2) scAct.nd rfl (Or.inl rfl) (pe_call G4 hr rfl D4.m D4.F.kp D4.b .nil pass0 (pa_cons (pe_fld (pv 0) rfl) (pa_cons (pe_fld (pv 0) rfl) (pa_cons (pv 1) pa_nil)))))
      (pss_cons (ps_if (PW.pt (pw_and (pt_cmpR op_in_seq (pe_fld (pv 0) rfl) (pv 1) (by with_unfolding_all rfl)) (pw_and1 (PW.pt (pw_or (pt_truth (pe_fld (pv 0) rfl) (fun _ => rfl)) (pw_or1 (pt_cmpR op_isN (pv 2) pe_non (nomark _)))))))) (pss_one (ps_ret (pe_meth0 (pv 0) T.cl M7.m G7 hr1 M7.b .nil pass0))) pss_nil)
      (pss_cons (ps_if (pt_cmpR op_isN (pv 2) pe_non (nomark _)) (pss_one (ps_ret (pe_glob (v := .str "rest") rfl N.re ⟨_, rfl⟩))) pss_nil)
      (pss_one (ps_ret (pe_meth (pv 0) T.cl M8.m G8 (hr.mono (by decide)) M8.b .nil pass0 (pa_cons (pv 2) pa_nil))))))), ?_⟩
    refine ⟨_, rfl, p, C, dx, _, _, rfl, hp, T.cl, T.na, fL_apart _, _, rfl, iteB (fun e => ?_) (fun e => ?_)⟩
    · have ew : LW.actW l ws = .shut := by unfold LW.actW; rw [if_pos e]
      rw [ew] at k
      exact ⟨_, rfl, p, dx, _, rfl, hp, fL_no _ (by decide +kernel) (by decide +kernel) (by decide +kernel) (by decide +kernel), p, dx, l, rfl, hp, k⟩
    · have ea : ¬ l.apart = true := by rw [e]; exact Bool.false_ne_true
      refine ⟨_, rfl, p, C, dx, _, _, rfl, hp, T.cl, T.nf, fL_floor _, _, rfl, p, C, dx, _, _, rfl, hp, T.cl, T.nw, fL_way _, _, rfl, l.floor, l.up, a, ws, rfl, hS, ?_⟩
      refine ⟨_, rfl, p, C, dx, _, _, rfl, hp, T.cl, T.nf, fL_floor _, _, rfl, a, _, rfl, .inl hS, rfl, all_flat _, _, rfl, ?_⟩
      have hin : (if false = true then !inV (V.int l.floor) (ws.map V.int) else inV (V.int l.floor) (ws.map V.int)) = LW.hasF l.floor ws := by rw [if_neg Bool.false_ne_true]; exact in_ints _ _
      rw [hin]
      -- the rest, where the doors do not part
      have past : LW.parts l ws = false → (LW.nextWay l.floor l.up ws = none → Q (.str "rest") H) ∧ ∀ d, LW.nextWay l.floor l.up ws = some d → Q (.str (wd d)) (upd H p (.ins C dx (fL (LW.moved l (.go d))))) := fun hp0 => by
        have hp0' : ¬ LW.parts l ws = true := by rw [hp0]; exact Bool.false_ne_true
        refine ⟨fun hn => ?_, fun d hn => ?_⟩
        · have ew : LW.actW l ws = .rest := by unfold LW.actW; rw [if_neg ea, if_neg hp0', hn]
          rw [ew] at k
          have k' : Q (.str "rest") (upd H p (.ins C dx (fL l))) := k
          rw [upd_id hp] at k'
          exact k'
        · have ew : LW.actW l ws = .go d := by unfold LW.actW; rw [if_neg ea, if_neg hp0', hn]
          rw [ew] at k
          exact k
      have tail : LW.parts l ws = false → tIfS (tTest (tOp (fun x y H Q => y = .non ∧ Q (.bl (decide (x = .non))) H) (tVar 2) (tC .non))) (tRet (tC (.str "rest"))) tNext
          { nx := tRet (tMeth C "go" (spGo C) [] E0 (tVar 0) (tCons (tVar 2) tNil)) { nx := fun _ H' => Q .non H', rt := Q }, rt := Q } [some (.ref p), some (.ref a), some (wayV (LW.nextWay l.floor l.up ws))] H := fun hp0 => by
        obtain ⟨p1, p2⟩ := past hp0
        cases hn : LW.nextWay l.floor l.up ws with
        | none => exact ⟨_, rfl, rfl, _, rfl, iteY rfl (p1 hn)⟩
        | some d => exact ⟨_, rfl, rfl, _, rfl, iteN (fun z => nomatch z) ⟨_, rfl, p, dx, _, rfl, hp, fL_no _ (by decide +kernel) (by decide +kernel) (by decide +kernel) (by decide +kernel), _, rfl, p, dx, l, d, rfl, hp, p2 d hn⟩⟩
      have part : LW.parts l ws = true → Q (.str "part") (upd H p (.ins C dx (fL (LW.moved l .part)))) := fun hp1 => by
        have ew : LW.actW l ws = .part := by unfold LW.actW; rw [if_neg ea, if_pos hp1]
        rw [ew] at k
        exact k
      cases hh : LW.hasF l.floor ws with
      | false =>
        refine iteF (iteF (tail ?_))
        unfold LW.parts; rw [hh]; rfl
      | true =>
        refine iteT ⟨_, rfl, p, C, dx, _, _, rfl, hp, T.cl, T.nn, fL_new _, _, rfl, iteB (fun en => ?_) (fun en => ?_)⟩
        · refine iteT ⟨_, rfl, p, dx, _, rfl, hp, fL_no _ (by decide +kernel) (by decide +kernel) (by decide +kernel) (by decide +kernel), p, dx, l, rfl, hp, part ?_⟩
          unfold LW.parts; rw [hh, en]; rfl
        · refine ⟨_, rfl, rfl, _, rfl, ?_⟩
          cases hn : LW.nextWay l.floor l.up ws with
          | none =>
            refine iteY rfl ⟨_, rfl, p, dx, _, rfl, hp, fL_no _ (by decide +kernel) (by decide +kernel) (by decide +kernel) (by decide +kernel), p, dx, l, rfl, hp, part ?_⟩
            unfold LW.parts; rw [hh, en, hn]; rfl
          | some d =>
            rw [← hn]
            refine iteN (fun z => ?_) (tail ?_)
            · rw [hn] at z; exact nomatch z
            · unfold LW.parts; rw [hh, en, hn]; rfl
end
/-! ### people -/
def oV : Option Int → V
  | none => .non
  | some i => .int i
def fP (p : LW.Pp) : List (Str × V) := [("start", .int p.start), ("goal", .int p.goal), ("pressed", .int p.pressed), ("entered", oV p.entered), ("left", oV p.left)]
theorem fP_start (p : LW.Pp) : (fP p).lookup ("start" : Str) = some (.int p.start) := lk_hd
theorem fP_goal (p : LW.Pp) : (fP p).lookup ("goal" : Str) = some (.int p.goal) := (lk_tl (by decide +kernel)).trans lk_hd
theorem fP_pressed (p : LW.Pp) : (fP p).lookup ("pressed" : Str) = some (.int p.pressed) := (lk_tl (by decide +kernel)).trans ((lk_tl (by decide +kernel)).trans lk_hd)
theorem fP_entered (p : LW.Pp) : (fP p).lookup ("entered" : Str) = some (oV p.entered) := (lk_tl (by decide +kernel)).trans ((lk_tl (by decide +kernel)).trans ((lk_tl (by decide +kernel)).trans lk_hd))
theorem fP_left (p : LW.Pp) : (fP p).lookup ("left" : Str) = some (oV p.left) := (lk_tl (by decide +kernel)).trans ((lk_tl (by decide +kernel)).trans ((lk_tl (by decide +kernel)).trans ((lk_tl (by decide +kernel)).trans lk_hd)))
theorem fP_no (p : LW.Pp) {m : Str} (h1 : (m == "start") = false) (h2 : (m == "goal") = false) (h3 : (m == "pressed") = false) (h4 : (m == "entered") = false) (h5 : (m == "left") = false) : (fP p).lookup m = none :=
  (lk_tl h1).trans ((lk_tl h2).trans ((lk_tl h3).trans ((lk_tl h4).trans ((lk_tl h5).trans rfl))))
theorem fP_pentered (p : LW.Pp) (t : Int) : putF ("entered" : Str) (.int t) (fP p) = fP { p with entered := some t } := by
  unfold fP; rw [pf_tl (by decide +kernel), pf_tl (by decide +kernel), pf_tl (by decide +kernel), pf_hd]; rfl
theorem fP_pleft (p : LW.Pp) (t : Int) : putF ("left" : Str) (.int t) (fP p) = fP { p with left := some t } := by
  unfold fP; rw [pf_tl (by decide +kernel), pf_tl (by decide +kernel), pf_tl (by decide +kernel), pf_tl (by decide +kernel), pf_hd]; rfl
theorem fP_len (p : LW.Pp) : (fP p).length < 1000 := by show 5 < 1000; decide
structure TP (K : PySem.W.Frag) (C : Addr) : Prop where
  cl : Cls K C
  ns : NoAttr K C "start"
  ng : NoAttr K C "goal"
  np : NoAttr K C "pressed"
  ne : NoAttr K C "entered"
  nl : NoAttr K C "left"
theorem oV_non {o : Option Int} (h : oV o = .non) : o = none := by cases o with | none => rfl | some i => cases h
section
variable {P : Program} {w : World} {K : PySem.W.Frag} {mg : Str → Option Value} {base : Heap} {C : Addr}
def spPInit (C : Addr) : Sp := fun vs H Q _ => ∃ (q dx : Addr) (s g t : Int), vs = [.ref q, .int s, .int g, .int t] ∧ H q = some (.ins C dx []) ∧ Q .non (upd H q (.ins C dx (fP ⟨s, g, t, none, none⟩)))
theorem scPInit : FnScope ["self", "start", "goal", "pressed"] ["self", "start", "goal", "pressed"] (defScope sPInit) := ⟨rfl, rfl, rfl, by decide +kernel, rfl, by decide +kernel, by decide +kernel⟩
theorem ok_pinit {f : Addr} {fd : FuncData} (F : Fun K "__init__" "Person.__init__" sPInit f fd) (T : TP K C) : FnOk P w K mg base CX0 1 f fd ["self", "start", "goal", "pressed"] (spPInit C) := by
  refine F.ok scPInit (fun vs H Q E h => ?_) (fun cdv A outer s H vs Q E hr h => ?_)
  · obtain ⟨q, dx, s, g, t, rfl, _⟩ := h
    rfl
  · obtain ⟨q, dx, s, g, t, rfl, hq, k⟩ := h
    refine ⟨_, pss_cons (ps_fld (pv 0) (pv 1) rfl) (pss_cons (ps_fld (pv 0) (pv 2) rfl) (pss_cons (ps_fld (pv 0) (pv 3) rfl) (pss_cons (ps_fld (pv 0) pe_non rfl) (pss_one (ps_fld (pv 0) pe_non rfl))))), ?_⟩
    refine ⟨_, rfl, _, rfl, q, C, dx, _, rfl, hq, T.cl, T.ns, (by decide), ?_⟩
    rw [pf_nil]
    refine ⟨_, rfl, _, rfl, q, C, dx, _, rfl, upd_same, T.cl, T.ng, (by show 1 < 1000; decide), ?_⟩
    rw [upd_upd, pf_tl (by decide +kernel), pf_nil]
    refine ⟨_, rfl, _, rfl, q, C, dx, _, rfl, upd_same, T.cl, T.np, (by show 2 < 1000; decide), ?_⟩
    rw [upd_upd, pf_tl (by decide +kernel), pf_tl (by decide +kernel), pf_nil]
    refine ⟨_, rfl, q, C, dx, _, rfl, upd_same, T.cl, T.ne, (by show 3 < 1000; decide), ?_⟩
    rw [upd_upd, pf_tl (by decide +kernel), pf_tl (by decide +kernel), pf_tl (by decide +kernel), pf_nil]
    refine ⟨_, rfl, q, C, dx, _, rfl, upd_same, T.cl, T.nl, (by show 4 < 1000; decide), ?_⟩
    rw [upd_upd, pf_tl (by decide +kernel), pf_tl (by decide +kernel), pf_tl (by decide +kernel), pf_tl (by decide +kernel), pf_nil]
    exact k
def spWf (C : Addr) : Sp := fun vs H Q _ => ∃ q dx p, vs = [.ref q] ∧ H q = some (.ins C dx (fP p)) ∧ Q (oV p.want) H
theorem scWf : FnScope ["self"] ["self"] (defScope sWf) := ⟨rfl, rfl, rfl, by decide +kernel, rfl, by decide +kernel, by decide +kernel⟩
theorem ok_wf {f : Addr} {fd : FuncData} (F : Fun K "wanted_floor" "Person.wanted_floor" sWf f fd) (T : TP K C) : FnOk P w K mg base CX0 1 f fd ["self"] (spWf C) := by
  refine F.ok scWf (fun vs H Q E h => ?_) (fun cdv A outer s H vs Q E hr h => ?_)
  · obtain ⟨q, dx, p, rfl, _⟩ := h
    rfl
  · obtain ⟨q, dx, p, rfl, hq, k⟩ := h
    refine ⟨_, pss_cons (ps_if (pt_cmpR op_isN (pe_fld (pv 0) rfl) pe_non (nomark _)) (pss_one (ps_ret (pe_fld (pv 0) rfl))) pss_nil) (pss_cons (ps_if (pt_cmpR op_isN (pe_fld (pv 0) rfl) pe_non (nomark _)) (pss_one (ps_ret (pe_fld (pv 0) rfl))) pss_nil) (pss_one (ps_ret pe_non))), ?_⟩
    refine ⟨_, rfl, q, C, dx, _, _, rfl, hq, T.cl, T.ne, fP_entered _, rfl, _, rfl, ?_⟩
    unfold LW.Pp.want at k
    cases e : p.entered with
    | none =>
      rw [e] at k
      exact iteY rfl ⟨_, rfl, q, C, dx, _, _, rfl, hq, T.cl, T.ns, fP_start _, k⟩
    | some a =>
      rw [e] at k
      refine iteN (fun z => nomatch z) ⟨_, rfl, q, C, dx, _, _, rfl, hq, T.cl, T.nl, fP_left _, rfl, _, rfl, ?_⟩
      cases e2 : p.left with
      | none =>
        rw [e2] at k
        exact iteY rfl ⟨_, rfl, q, C, dx, _, _, rfl, hq, T.cl, T.ng, fP_goal _, k⟩
      | some b =>
        rw [e2] at k
        exact iteN (fun z => nomatch z) k
def spPass (C : Addr) : Sp := fun vs H Q _ => ∃ (q dx : Addr) (p : LW.Pp) (t : Int), vs = [.ref q, .int t] ∧ H q = some (.ins C dx (fP p)) ∧ Q .non (upd H q (.ins C dx (fP (p.pass t))))
theorem scPass : FnScope ["self", "tick"] ["self", "tick"] (defScope sPass) := ⟨rfl, rfl, rfl, by decide +kernel, rfl, by decide +kernel, by decide +kernel⟩
theorem ok_pass {f : Addr} {fd : FuncData} (F : Fun K "pass_doors" "Person.pass_doors" sPass f fd) (T : TP K C) : FnOk P w K mg base CX0 1 f fd ["self", "tick"] (spPass C) := by
  refine F.ok scPass (fun vs H Q E h => ?_) (fun cdv A outer s H vs Q E hr h => ?_)
  · obtain ⟨q, dx, p, t, rfl, _⟩ := h
    rfl
  · obtain ⟨q, dx, p, t, rfl, hq, k⟩ := h
    refine ⟨_, pss_one (ps_if (pt_cmpR op_isN (pe_fld (pv 0) rfl) pe_non (nomark _)) (pss_one (ps_fld (pv 0) (pv 1) rfl)) (pss_one (ps_fld (pv 0) (pv 1) rfl))), ?_⟩
    refine ⟨_, rfl, q, C, dx, _, _, rfl, hq, T.cl, T.ne, fP_entered _, rfl, _, rfl, ?_⟩
    cases e : p.entered with
    | none =>
      have e2 : p.pass t = { p with entered := some t } := by unfold LW.Pp.pass; rw [e]
      rw [e2] at k
      refine iteY rfl ⟨_, rfl, _, rfl, q, C, dx, _, rfl, hq, T.cl, T.ne, fP_len _, ?_⟩
      rw [fP_pentered]
      exact k
    | some a =>
      have e2 : p.pass t = { p with left := some t } := by
        obtain ⟨s1, s2, s3, s4, s5⟩ := p
        have e : s4 = some a := e
        subst e; rfl
      rw [e2] at k
      refine iteN (fun z => nomatch z) ⟨_, rfl, _, rfl, q, C, dx, _, rfl, hq, T.cl, T.nl, fP_len _, ?_⟩
      rw [fP_pleft]
      exact k
end
/-! ### the day -/
def fD (F : Int) (L PL : Addr) (t : Int) : List (Str × V) := [("floors", .int F), ("lift", .ref L), ("people", .ref PL), ("ticks", .int t)]
theorem fD_floors (F : Int) (L PL : Addr) (t : Int) : (fD F L PL t).lookup ("floors" : Str) = some (.int F) := lk_hd
theorem fD_lift (F : Int) (L PL : Addr) (t : Int) : (fD F L PL t).lookup ("lift" : Str) = some (.ref L) := (lk_tl (by decide +kernel)).trans lk_hd
theorem fD_people (F : Int) (L PL : Addr) (t : Int) : (fD F L PL t).lookup ("people" : Str) = some (.ref PL) := (lk_tl (by decide +kernel)).trans ((lk_tl (by decide +kernel)).trans lk_hd)
theorem fD_ticks (F : Int) (L PL : Addr) (t : Int) : (fD F L PL t).lookup ("ticks" : Str) = some (.int t) := (lk_tl (by decide +kernel)).trans ((lk_tl (by decide +kernel)).trans ((lk_tl (by decide +kernel)).trans lk_hd))
theorem fD_no (F : Int) (L PL : Addr) (t : Int) {m : Str} (h1 : (m == "floors") = false) (h2 : (m == "lift") = false) (h3 : (m == "people") = false) (h4 : (m == "ticks") = false) : (fD F L PL t).lookup m = none :=
  (lk_tl h1).trans ((lk_tl h2).trans ((lk_tl h3).trans ((lk_tl h4).trans rfl)))
theorem fD_pticks (F : Int) (L PL : Addr) (t u : Int) : putF ("ticks" : Str) (.int u) (fD F L PL t) = fD F L PL u := by
  unfold fD; rw [pf_tl (by decide +kernel), pf_tl (by decide +kernel), pf_tl (by decide +kernel), pf_hd]
theorem fD_len (F : Int) (L PL : Addr) (t : Int) : (fD F L PL t).length < 1000 := by show 4 < 1000; decide
theorem fD_fL {F t : Int} {L PL : Addr} {l : LW.Lf} (h : fD F L PL t = fL l) : False := by
  have h1 : (("floors" : Str), V.int F) = (("floor" : Str), V.int l.floor) := (List.cons.inj h).1
  have h2 : ("floors" : Str) = "floor" := congrArg Prod.fst h1
  exact absurd h2 (by decide +kernel)
theorem fD_fP {F t : Int} {L PL : Addr} {p : LW.Pp} (h : fD F L PL t = fP p) : False := by
  have := congrArg List.length h
  exact absurd (show (4 : Nat) = 5 from this) (by decide)
theorem fL_fP {l : LW.Lf} {p : LW.Pp} (h : fL l = fP p) : False := by
  have := congrArg List.length h
  exact absurd (show (4 : Nat) = 5 from this) (by decide)
structure TD (K : PySem.W.Frag) (C : Addr) : Prop where
  cl : Cls K C
  nf : NoAttr K C "floors"
  nl : NoAttr K C "lift"
  np : NoAttr K C "people"
  nt : NoAttr K C "ticks"
/-- somebody stands at q -/
def PpAt (CP : Addr) (H : Hp) (q : Addr) (p : LW.Pp) : Prop := ∃ dx, H q = some (.ins CP dx (fP p))
theorem PpAt.same {CP : Addr} {H H' : Hp} {q : Addr} {p : LW.Pp} (s : Same H H') (h : PpAt CP H q p) : PpAt CP H' q p := let ⟨dx, e⟩ := h; ⟨dx, s _ _ e⟩
/-- a day stands at d: F0 is what lies outside of it -/
structure DayAt (CL CP CD : Addr) (F0 H : Hp) (d L PL : Addr) (qs : List Addr) (F : Int) (D : LW.Dy) : Prop where
  day : ∃ dx, H d = some (.ins CD dx (fD F L PL D.ticks))
  lift : ∃ dl, H L = some (.ins CL dl (fL D.lift))
  list : H PL = some (.lst (qs.map V.ref))
  pp : Paired (PpAt CP H) qs D.people
  nd : qs.Nodup
  out : Same F0 H
  fd : F0 d = none
  fl : F0 L = none
  fp : F0 PL = none
  fq : ∀ q ∈ qs, F0 q = none
theorem Paired.get {α β : Type} {R : α → β → Prop} : ∀ {xs : List α} {ys : List β} {i : Nat} {x : α}, Paired R xs ys → xs[i]? = some x → ∃ y, ys[i]? = some y ∧ R x y
  | _, _, _, _, .nil, e => by simp at e
  | _, _, 0, _, .cons r _, e => by simp at e; subst e; exact ⟨_, rfl, r⟩
  | _, _, i + 1, x, .cons _ t, e => by
    obtain ⟨u, h1, h2⟩ := Paired.get (i := i) (x := x) t (by simpa using e)
    exact ⟨u, by simpa using h1, h2⟩
theorem Paired.mem {α β : Type} {R : α → β → Prop} : ∀ {xs : List α} {ys : List β} {x : α}, Paired R xs ys → x ∈ xs → ∃ y ∈ ys, R x y
  | _, _, _, .nil, e => by cases e
  | _, _, x, .cons r t, e => by
    rcases List.mem_cons.mp e with rfl | e
    · exact ⟨_, List.mem_cons_self, r⟩
    · obtain ⟨y, hy, q⟩ := Paired.mem t e
      exact ⟨y, List.mem_cons_of_mem _ hy, q⟩
theorem DayAt.len {CL CP CD : Addr} {F0 H : Hp} {d L PL : Addr} {qs : List Addr} {F : Int} {D : LW.Dy} (A : DayAt CL CP CD F0 H d L PL qs F D) : qs.length = D.people.length := PySem.Paired.length A.pp
/-- all stays where nothing is written -/
theorem DayAt.same {CL CP CD : Addr} {F0 H H' : Hp} {d L PL : Addr} {qs : List Addr} {F : Int} {D : LW.Dy} (A : DayAt CL CP CD F0 H d L PL qs F D) (s : Same H H') : DayAt CL CP CD F0 H' d L PL qs F D :=
  ⟨let ⟨x, e⟩ := A.day; ⟨x, s _ _ e⟩, let ⟨x, e⟩ := A.lift; ⟨x, s _ _ e⟩, s _ _ A.list, L2.Paired.mapP A.pp fun _ _ h => h.same s, A.nd, A.out.trans s, A.fd, A.fl, A.fp, A.fq⟩
/-- what lies outside may grow, and be written -/
theorem DayAt.outer {CL CP CD : Addr} {F0 H : Hp} {d L PL g : Addr} {qs : List Addr} {F : Int} {D : LW.Dy} {o : HO} (A : DayAt CL CP CD F0 H d L PL qs F D) (hd : g ≠ d) (hL : g ≠ L) (hP : g ≠ PL) (hq : ∀ q ∈ qs, g ≠ q) :
    DayAt CL CP CD (upd F0 g o) (upd H g o) d L PL qs F D := by
  have ne : ∀ {b : Addr}, g ≠ b → upd H g o b = H b := fun h => upd_ne h.symm
  have ne0 : ∀ {b : Addr}, g ≠ b → upd F0 g o b = F0 b := fun h => upd_ne h.symm
  refine ⟨let ⟨x, e⟩ := A.day; ⟨x, (ne hd).trans e⟩, let ⟨x, e⟩ := A.lift; ⟨x, (ne hL).trans e⟩, (ne hP).trans A.list, ?_, A.nd, fun b u e => ?_, (ne0 hd).trans A.fd, (ne0 hL).trans A.fl, (ne0 hP).trans A.fp, fun q h => (ne0 (hq q h)).trans (A.fq q h)⟩
  · have : ∀ {xs : List Addr} {ys : List LW.Pp}, (∀ q ∈ xs, g ≠ q) → Paired (PpAt CP H) xs ys → Paired (PpAt CP (upd H g o)) xs ys := by
      intro xs
      induction xs with
      | nil => intro ys _ r; cases r; exact .nil
      | cons x xs ih =>
        intro ys h r
        cases r with
        | cons r1 rr =>
          obtain ⟨dx, e⟩ := r1
          exact .cons ⟨dx, (ne (h x List.mem_cons_self)).trans e⟩ (ih (fun q hq => h q (List.mem_cons_of_mem _ hq)) rr)
    exact this hq A.pp
  · by_cases hb : b = g
    · subst hb; rw [upd_same] at e ⊢; exact e
    · rw [upd_ne hb] at e ⊢; exact A.out _ _ e
theorem DayAt.put {CL CP CD : Addr} {F0 H : Hp} {d L PL g : Addr} {qs : List Addr} {F : Int} {D : LW.Dy} {o o' : HO} (A : DayAt CL CP CD (upd F0 g o) H d L PL qs F D) : DayAt CL CP CD (upd F0 g o') (upd H g o') d L PL qs F D := by
  have h : ∀ {b : Addr}, upd F0 g o b = none → g ≠ b := fun {b} e z => by subst z; rw [upd_same] at e; cases e
  have := A.outer (g := g) (o := o') (h A.fd) (h A.fl) (h A.fp) fun q hq => h (A.fq q hq)
  rw [upd_upd] at this
  exact this
section
variable {CL CP CD : Addr} {F0 H : Hp} {d L PL : Addr} {qs : List Addr} {F : Int} {D : LW.Dy}
theorem DayAt.ne (A : DayAt CL CP CD F0 H d L PL qs F D) : d ≠ L ∧ d ≠ PL ∧ L ≠ PL ∧ (∀ q ∈ qs, q ≠ d) ∧ (∀ q ∈ qs, q ≠ L) ∧ ∀ q ∈ qs, q ≠ PL := by
  obtain ⟨dx, hd⟩ := A.day
  obtain ⟨dl, hL⟩ := A.lift
  have pq : ∀ q ∈ qs, ∃ dq p, H q = some (.ins CP dq (fP p)) := fun q hq => by
    obtain ⟨p, _, dq, e⟩ := Paired.mem A.pp hq
    exact ⟨dq, p, e⟩
  refine ⟨ne_of hd hL fun z => ?_, ne_of hd A.list (fun z => nomatch z), ne_of hL A.list (fun z => nomatch z), fun q hq => ?_, fun q hq => ?_, fun q hq => ?_⟩
  · injection z with _ _ z; exact fD_fL z
  · obtain ⟨dq, p, e⟩ := pq q hq
    exact (ne_of hd e fun z => by injection z with _ _ z; exact fD_fP z).symm
  · obtain ⟨dq, p, e⟩ := pq q hq
    exact (ne_of hL e fun z => by injection z with _ _ z; exact fL_fP z).symm
  · obtain ⟨dq, p, e⟩ := pq q hq
    exact ne_of e A.list fun z => nomatch z
theorem pp_upd {g : Addr} {o : HO} {ps : List LW.Pp} (h : ∀ q ∈ qs, q ≠ g) (r : Paired (PpAt CP H) qs ps) : Paired (PpAt CP (upd H g o)) qs ps := by
  induction qs generalizing ps with
  | nil => cases r; exact .nil
  | cons x xs ih =>
    cases r with
    | cons r1 rr =>
      obtain ⟨dx, e⟩ := r1
      exact .cons ⟨dx, (upd_ne (h x List.mem_cons_self)).trans e⟩ (ih (fun q hq => h q (List.mem_cons_of_mem _ hq)) rr)
theorem out_upd {g : Addr} {o : HO} (s : Same F0 H) (h : F0 g = none) : Same F0 (upd H g o) := fun b u e => by rw [upd_ne (ne_of_none e h)]; exact s _ _ e
theorem DayAt.setTicks {dx : Addr} {u : Int} (A : DayAt CL CP CD F0 H d L PL qs F D) : DayAt CL CP CD F0 (upd H d (.ins CD dx (fD F L PL u))) d L PL qs F { D with ticks := u } := by
  obtain ⟨n1, n2, n3, n4, n5, n6⟩ := A.ne
  exact ⟨⟨dx, upd_same⟩, let ⟨x, e⟩ := A.lift; ⟨x, (upd_ne n1.symm).trans e⟩, (upd_ne n2.symm).trans A.list, pp_upd n4 A.pp, A.nd, out_upd A.out A.fd, A.fd, A.fl, A.fp, A.fq⟩
theorem DayAt.setLift {dl : Addr} {l : LW.Lf} (A : DayAt CL CP CD F0 H d L PL qs F D) : DayAt CL CP CD F0 (upd H L (.ins CL dl (fL l))) d L PL qs F { D with lift := l } := by
  obtain ⟨n1, n2, n3, n4, n5, n6⟩ := A.ne
  exact ⟨let ⟨x, e⟩ := A.day; ⟨x, (upd_ne n1).trans e⟩, ⟨dl, upd_same⟩, (upd_ne n3.symm).trans A.list, pp_upd n5 A.pp, A.nd, out_upd A.out A.fl, A.fd, A.fl, A.fp, A.fq⟩
theorem pp_set {q dq : Addr} {p' : LW.Pp} : ∀ {qs : List Addr} {ps : List LW.Pp} {i : Nat}, qs.Nodup → qs[i]? = some q → Paired (PpAt CP H) qs ps → Paired (PpAt CP (upd H q (.ins CP dq (fP p')))) qs (ps.set i p')
  | [], _, _, _, e, _ => by simp at e
  | x :: xs, _, 0, nd, e, .cons r rr => by
    have e : x = q := by simpa using e
    subst e
    exact .cons ⟨dq, upd_same⟩ (pp_upd (fun y hy z => (List.nodup_cons.mp nd).1 (z ▸ hy)) rr)
  | x :: xs, _, i + 1, nd, e, .cons r rr => by
    have e : xs[i]? = some q := by simpa using e
    obtain ⟨dx, r⟩ := r
    have hx : x ≠ q := fun z => (List.nodup_cons.mp nd).1 (z ▸ List.mem_of_getElem? e)
    exact .cons ⟨dx, (upd_ne hx).trans r⟩ (pp_set (List.nodup_cons.mp nd).2 e rr)
theorem DayAt.setP {q dq : Addr} {i : Nat} {p' : LW.Pp} (A : DayAt CL CP CD F0 H d L PL qs F D) (hq : qs[i]? = some q) : DayAt CL CP CD F0 (upd H q (.ins CP dq (fP p'))) d L PL qs F { D with people := D.people.set i p' } := by
  obtain ⟨n1, n2, n3, n4, n5, n6⟩ := A.ne
  have hm := List.mem_of_getElem? hq
  exact ⟨let ⟨x, e⟩ := A.day; ⟨x, (upd_ne (n4 q hm).symm).trans e⟩, let ⟨x, e⟩ := A.lift; ⟨x, (upd_ne (n5 q hm).symm).trans e⟩, (upd_ne (n6 q hm).symm).trans A.list, pp_set A.nd hq A.pp, A.nd, out_upd A.out (A.fq q hm), A.fd, A.fl, A.fp, A.fq⟩
end
section
variable {P : Program} {w : World} {K : PySem.W.Frag} {mg : Str → Option Value} {base : Heap} {tU tD tS tP tR : Tok} {CL CP CD : Addr}
def spDInit (CL CP CD : Addr) : Sp := fun vs H Q _ => ∃ (d dx : Addr) (F : Int) (F0 : Hp), vs = [.ref d, .int F] ∧ H d = some (.ins CD dx []) ∧ F0 d = none ∧ Same F0 H ∧ ∀ H' L PL, DayAt CL CP CD F0 H' d L PL [] F LW.dy0 → Q .non H'
theorem scDInit : FnScope ["self", "floors"] ["self", "floors"] (defScope sDInit) := ⟨rfl, rfl, rfl, by decide +kernel, rfl, by decide +kernel, by decide +kernel⟩
theorem ok_dinit {f f1 : Addr} {fd fd1 : FuncData} (F : Fun K "__init__" "Day.__init__" sDInit f fd) (T : TD K CD) (TLf : TL K CL) (M1 : Mk K CL f1) (F1 : Fun K "__init__" "Lift.__init__" sLInit f1 fd1) (b1 : Binds K fd1 ["self"] []) (m1 : mg "Lift" = some (.ref CL)) (hU : Kon mg "UP" "up" tU) :
    FnOk P w K mg base CX0 3 f fd ["self", "floors"] (spDInit CL CP CD) := by
  have G1 : FnOk P w K mg base CX0 1 f1 fd1 ["self"] (spLInit CL) := ok_linit F1 TLf hU
  refine F.ok scDInit (fun vs H Q E h => ?_) (fun cdv A outer s H vs Q E hr h => ?_)
  · obtain ⟨d, dx, F, F0, rfl, _⟩ := h
    rfl
  · obtain ⟨d, dx, F, F0, rfl, hd, f0, s0, k⟩ := h
    refine ⟨_, pss_cons (ps_fld (pv 0) (pv 1) rfl) (pss_cons (ps_fld (pv 0) (pe_make0 M1 G1 hr rfl m1 b1 .nil pass0) rfl) (pss_cons (ps_fld (pv 0) (pe_lst pa_nil) rfl) (pss_one (ps_fld (pv 0) pe_int rfl)))), ?_⟩
    refine ⟨_, rfl, _, rfl, d, CD, dx, _, rfl, hd, T.cl, T.nf, (by decide), ?_⟩
    rw [pf_nil]
    intro L dl nL ndl nel
    refine ⟨L, dl, rfl, upd_same, rfl, ?_⟩
    rw [upd_upd]
    have hL : L ≠ d := fun z => by subst z; rw [upd_same] at nL; cases nL
    have hdl : dl ≠ d := fun z => by subst z; rw [upd_same] at ndl; cases ndl
    rw [upd_ne hL] at nL
    rw [upd_ne hdl] at ndl
    refine ⟨_, rfl, d, CD, dx, _, rfl, (by rw [upd_ne hL.symm, upd_ne hdl.symm]; exact upd_same), T.cl, T.nl, (by show 1 < 1000; decide), ?_⟩
    rw [pf_tl (by decide +kernel), pf_nil]
    refine ⟨Nat.zero_le _, fun PL hPL => ?_⟩
    have nP1 : PL ≠ d := fun z => by subst z; rw [upd_same] at hPL; cases hPL
    rw [upd_ne nP1] at hPL
    have nP2 : PL ≠ L := fun z => by subst z; rw [upd_same] at hPL; cases hPL
    rw [upd_ne nP2] at hPL
    have nP3 : PL ≠ dl := fun z => by subst z; rw [upd_same] at hPL; cases hPL
    rw [upd_ne nP3, upd_ne nP1] at hPL
    refine ⟨_, rfl, d, CD, dx, _, rfl, (by rw [upd_ne nP1.symm]; exact upd_same), T.cl, T.np, (by show 2 < 1000; decide), ?_⟩
    rw [pf_tl (by decide +kernel), pf_tl (by decide +kernel), pf_nil]
    refine ⟨_, rfl, d, CD, dx, _, rfl, upd_same, T.cl, T.nt, (by show 3 < 1000; decide), ?_⟩
    rw [pf_tl (by decide +kernel), pf_tl (by decide +kernel), pf_tl (by decide +kernel), pf_nil]
    refine k _ L PL ⟨⟨dx, upd_same⟩, ⟨dl, ?_⟩, ?_, .nil, List.nodup_nil, fun b u e => ?_, f0, s0.free nL, s0.free hPL, fun q hq => nomatch hq⟩
    · rw [upd_ne hL, upd_ne hL, upd_ne nP2.symm, upd_ne hL, upd_same]; rfl
    · rw [upd_ne nP1, upd_ne nP1, upd_same]; rfl
    · have b1 : b ≠ d := ne_of_none e f0
      have b2 : b ≠ L := ne_of_none (s0 _ _ e) nL
      have b3 : b ≠ dl := ne_of_none (s0 _ _ e) ndl
      have b4 : b ≠ PL := ne_of_none (s0 _ _ e) hPL
      rw [upd_ne b1, upd_ne b1, upd_ne b4, upd_ne b1, upd_ne b2, upd_ne b3, upd_ne b1]
      exact s0 _ _ e
def spIs (CD : Addr) : Sp := fun vs H Q _ => ∃ (d dx : Addr) (n F : Int) (L PL : Addr) (t : Int), vs = [.ref d, .int n] ∧ H d = some (.ins CD dx (fD F L PL t)) ∧ Q (.bl (decide (0 ≤ n) && decide (n < F))) H
theorem scIs : FnScope ["self", "number"] ["self", "number"] (defScope sIs) := ⟨rfl, rfl, rfl, by decide +kernel, rfl, by decide +kernel, by decide +kernel⟩
theorem ok_is {f : Addr} {fd : FuncData} (F : Fun K "is_floor" "Day.is_floor" sIs f fd) (T : TD K CD) : FnOk P w K mg base CX0 1 f fd ["self", "number"] (spIs CD) := by
  refine F.ok scIs (fun vs H Q E h => ?_) (fun cdv A outer s H vs Q E hr h => ?_)
  · obtain ⟨d, dx, n, F, L, PL, t, rfl, _⟩ := h
    rfl
  · obtain ⟨d, dx, n, F, L, PL, t, rfl, hd, k⟩ := h
    refine ⟨_, pss_one (ps_ret (pe_and (pe_cmpR op_ge (pv 1) pe_int (nomark _)) (pe_one (pe_cmpR op_lt (pv 1) (pe_fld (pv 0) rfl) (nomark _))))), ?_⟩
    refine ⟨_, rfl, _, _, rfl, rfl, _, rfl, iteB (fun e => ?_) (fun e => ?_)⟩
    · rw [e] at k
      exact ⟨_, rfl, _, rfl, d, CD, dx, _, _, rfl, hd, T.cl, T.nf, fD_floors _ _ _ _, _, _, rfl, rfl, k⟩
    · rw [e] at k
      exact k
def anV : LW.An → V
  | .no => .non
  | .num n => .int n
  | .wd x => .str (wordS x)
def spPress (CL CP CD : Addr) : Sp := fun vs H Q _ => ∃ (d : Addr) (s g : Int) (F0 : Hp) (L PL : Addr) (qs : List Addr) (F : Int) (D : LW.Dy), vs = [.ref d, .int s, .int g] ∧ DayAt CL CP CD F0 H d L PL qs F D ∧ D.people.length < 1000 ∧
  ∀ H' qs', DayAt CL CP CD F0 H' d L PL qs' F (LW.stepD F D (.press s g)) → Q (anV (LW.stepA F D (.press s g))) H'
theorem scPress : FnScope ["self", "start", "goal"] ["self", "start", "goal"] (defScope sPress) := ⟨rfl, rfl, rfl, by decide +kernel, rfl, by decide +kernel, by decide +kernel⟩
theorem ok_press {f f1 f2 : Addr} {fd fd1 fd2 : FuncData} (F : Fun K "press" "Day.press" sPress f fd) (T : TD K CD) (TPp : TP K CP) (B : mg "len" = none) (M1 : Mt K CD "is_floor" "Day.is_floor" sIs ["self", "number"] f1 fd1)
    (M2 : Mk K CP f2) (F2 : Fun K "__init__" "Person.__init__" sPInit f2 fd2) (b2 : Binds K fd2 ["self", "start", "goal", "pressed"] []) (m2 : mg "Person" = some (.ref CP)) : FnOk P w K mg base CX0 3 f fd ["self", "start", "goal"] (spPress CL CP CD) := by
  have G1 : FnOk P w K mg base CX0 1 f1 fd1 ["self", "number"] (spIs CD) := ok_is M1.F T
  have G2 : FnOk P w K mg base CX0 1 f2 fd2 ["self", "start", "goal", "pressed"] (spPInit CP) := ok_pinit F2 TPp
  refine F.ok scPress (fun vs H Q E h => ?_) (fun cdv A outer s H vs Q E hr h => ?_)
  · obtain ⟨d, s, g, F0, L, PL, qs, F, D, rfl, _⟩ := h
    rfl
  · obtain ⟨d, s, g, F0, L, PL, qs, F, D, rfl, A0, hlen, k⟩ := h
    have hr1 : Room 1 _ := hr.mono (by decide)
    obtain ⟨dx, hd⟩ := A0.day
    have no : ∀ {m : Str}, (m == "floors") = false → (m == "lift") = false → (m == "people") = false → (m == "ticks") = false → (fD F L PL D.ticks).lookup m = none := fun h1 h2 h3 h4 => fD_no _ _ _ _ h1 h2 h3 h4
    refine ⟨_, pss_cons (ps_if (PW.pt (pw_or (pt_not (pt_truth (pe_meth (pv 0) T.cl M1.m G1 hr1 M1.b .nil pass0 (pa_cons (pv 1) pa_nil)) (fun _ => rfl)))
        (pw_or (pt_not (pt_truth (pe_meth (pv 0) T.cl M1.m G1 hr1 M1.b .nil pass0 (pa_cons (pv 2) pa_nil)) (fun _ => rfl))) (pw_or1 (pt_cmpR op_eq (pv 1) (pv 2) (nomark _)))))) (pss_one (ps_ret pe_non)) pss_nil)
      (pss_cons (ps_expr (pe_append (pe_fld (pv 0) rfl) (pe_make M2 G2 hr rfl m2 b2 .nil pass0 (pa_cons (pv 1) (pa_cons (pv 2) (pa_cons (pe_fld (pv 0) rfl) pa_nil))))))
      (pss_one (ps_ret (pe_op op_sub (pe_callB call_len_seq rfl B PySem.boot_len (pa_cons (pe_fld (pv 0) rfl) pa_nil)) pe_int)))), ?_⟩
    have bad : LW.okPress F s g = false → Q .non H := fun e => by
      have k := k H qs
      unfold LW.stepD LW.stepA at k
      dsimp only at k
      rw [if_neg (by rw [e]; exact Bool.false_ne_true), if_neg (by rw [e]; exact Bool.false_ne_true)] at k
      exact k A0
    refine ⟨_, rfl, d, dx, _, rfl, hd, no (by decide +kernel) (by decide +kernel) (by decide +kernel) (by decide +kernel), _, rfl, d, dx, s, F, L, PL, _, rfl, hd, _, rfl, ?_⟩
    cases e1 : (decide (0 ≤ s) && decide (s < F)) with
    | false => exact iteT (iteT (bad (by unfold LW.okPress; rw [e1]; rfl)))
    | true =>
      refine iteF ⟨_, rfl, d, dx, _, rfl, hd, no (by decide +kernel) (by decide +kernel) (by decide +kernel) (by decide +kernel), _, rfl, d, dx, g, F, L, PL, _, rfl, hd, _, rfl, ?_⟩
      cases e2 : (decide (0 ≤ g) && decide (g < F)) with
      | false => exact iteT (iteT (bad (by unfold LW.okPress; rw [e1, e2]; rfl)))
      | true =>
        refine iteF ⟨_, rfl, _, rfl, rfl, _, rfl, ?_⟩
        by_cases e3 : s = g
        · refine iteY (by rw [e3]) (bad ?_)
          unfold LW.okPress; rw [e1, e2, decide_eq_true e3]; rfl
        · have ok : LW.okPress F s g = true := by unfold LW.okPress; rw [e1, e2, decide_eq_false e3]; rfl
          refine iteN (fun z => e3 (V.int.inj z)) ?_
          refine ⟨_, rfl, d, CD, dx, _, _, rfl, hd, T.cl, T.np, fD_people _ _ _ _, .inl ⟨rfl, _, SqL.of A0.list⟩, _, rfl, _, rfl, _, rfl, d, CD, dx, _, _, rfl, hd, T.cl, T.nt, fD_ticks _ _ _ _, fun q dq nq ndq neq => ?_⟩
          refine ⟨q, dq, s, g, D.ticks, rfl, upd_same, rfl, ?_⟩
          rw [upd_upd]
          have s1 : Same H (upd (upd H dq (.own q)) q (.ins CP dq (fP ⟨s, g, D.ticks, none, none⟩))) := fun b u e => by
            rw [upd_ne (ne_of_none e nq), upd_ne (ne_of_none e ndq)]; exact e
          have eq : (upd (upd H dq (.own q)) q (.ins CP dq (fP ⟨s, g, D.ticks, none, none⟩))) q = some (.ins CP dq (fP ⟨s, g, D.ticks, none, none⟩)) := upd_same
          generalize upd (upd H dq (.own q)) q (.ins CP dq (fP ⟨s, g, D.ticks, none, none⟩)) = H1 at s1 eq ⊢
          have A1 := A0.same s1
          obtain ⟨n1, n2, n3, n4, n5, n6⟩ := A1.ne
          have hqs : q ∉ qs := fun hm => by
            obtain ⟨p, _, dp, e⟩ := Paired.mem A0.pp hm
            rw [nq] at e; cases e
          refine ⟨PL, _, _, rfl, rfl, A1.list, (by rw [List.length_map, A1.len]; exact small1000 (by omega)), ?_⟩
          have qP : q ≠ PL := ne_of eq A1.list fun z => nomatch z
          have A2 : DayAt CL CP CD F0 (upd H1 PL (.lst (qs.map V.ref ++ [V.ref q]))) d L PL (qs ++ [q]) F { D with people := D.people ++ [⟨s, g, D.ticks, none, none⟩] } := by
            refine ⟨let ⟨x, e⟩ := A1.day; ⟨x, (upd_ne n2).trans e⟩, let ⟨x, e⟩ := A1.lift; ⟨x, (upd_ne n3).trans e⟩, by rw [upd_same, List.map_append]; rfl, ?_, ?_, out_upd A1.out A1.fp, A1.fd, A1.fl, A1.fp, fun x hx => ?_⟩
            · exact PySem.Paired.snoc (pp_upd n6 A1.pp) ⟨dq, (upd_ne qP).trans eq⟩
            · rw [List.nodup_append]
              refine ⟨A1.nd, by simp, fun a ha b hb z => ?_⟩
              have : b = q := by simpa using hb
              subst this; subst z
              exact hqs ha
            · rcases List.mem_append.mp hx with hx | hx
              · exact A1.fq x hx
              · have : x = q := by simpa using hx
                subst this
                exact A0.out.free nq
          obtain ⟨dx2, hd2⟩ := A2.day
          refine ⟨_, rfl, d, CD, dx2, _, _, rfl, hd2, T.cl, T.np, fD_people _ _ _ _, PL, _, rfl, .inl (SqL.of A2.list), _, _, rfl, rfl, ?_⟩
          have k := k (upd H1 PL (.lst (qs.map V.ref ++ [V.ref q]))) (qs ++ [q])
          unfold LW.stepD LW.stepA at k
          dsimp only at k
          rw [if_pos ok, if_pos ok] at k
          have k := k A2
          have el : ((List.map V.ref (qs ++ [q])).length : Int) - 1 = (D.people.length : Int) := by
            rw [List.length_map, List.length_append, List.length_singleton, A0.len]; omega
          dsimp only
          rw [el]
          exact k
def spWanted (CL CP CD : Addr) : Sp := fun vs H Q _ => ∃ d F0 L PL qs F D, vs = [.ref d] ∧ DayAt CL CP CD F0 H d L PL qs F D ∧ D.people.length ≤ 1000 ∧ ∀ r, H r = none → Q (.ref r) (upd H r (.lst ((LW.wants D.people).map V.int)))
theorem scWanted : FnScope ["self", "found", "person", "floor"] ["self"] (defScope sWanted) := ⟨rfl, rfl, rfl, by decide +kernel, rfl, by decide +kernel, by decide +kernel⟩
theorem wants_take {ps : List LW.Pp} {i : Nat} {p : LW.Pp} (h : ps[i]? = some p) : LW.wants (ps.take (i + 1)) = LW.wants (ps.take i) ++ (p.want).toList := by
  unfold LW.wants
  rw [List.take_add_one, h, List.filterMap_append]
  cases e : p.want <;> simp [e]
theorem ok_wanted {f f1 : Addr} {fd fd1 : FuncData} (F : Fun K "wanted" "Day.wanted" sWanted f fd) (T : TD K CD) (TPp : TP K CP) (M1 : Mt K CP "wanted_floor" "Person.wanted_floor" sWf ["self"] f1 fd1) : FnOk P w K mg base CX0 2 f fd ["self"] (spWanted CL CP CD) := by
  have G1 : FnOk P w K mg base CX0 1 f1 fd1 ["self"] (spWf CP) := ok_wf M1.F TPp
  refine F.ok scWanted (fun vs H Q E h => ?_) (fun cdv A outer s H vs Q E hr h => ?_)
  · obtain ⟨d, F0, L, PL, qs, F, D, rfl, _⟩ := h
    rfl
  · obtain ⟨d, F0, L, PL, qs, F, D, rfl, A0, hlen, k⟩ := h
    refine ⟨_, pss_cons (ps_set (i := 1) scWanted.nd rfl (Or.inl rfl) (pe_lst pa_nil))
      (pss_cons (ps_for PassesOwn.never rfl (pi_list (pe_fld (pv 0) rfl)) (pg_name (i := 2) scWanted.nd rfl (Or.inl rfl))
        (pss_cons (ps_set (i := 3) scWanted.nd rfl (Or.inl rfl) (pe_meth0 (pv 2) TPp.cl M1.m G1 hr M1.b .nil pass0))
        (pss_one (ps_if (pt_cmpR op_notN (pv 3) pe_non (nomark _)) (pss_one (ps_expr (pe_append (pv 1) (pv 3)))) pss_nil))))
      (pss_one (ps_ret (pv 1)))), ?_⟩
    refine ⟨Nat.zero_le _, fun r hr0 => ?_⟩
    have sN : ∀ o, Same H (upd H r o) := fun o => Same.new hr0
    obtain ⟨dx, hd⟩ := A0.day
    refine ⟨_, rfl, d, CD, dx, _, _, rfl, sN _ _ _ hd, T.cl, T.np, fD_people _ _ _ _, PL, rfl, ⟨_, SqL.of (sN _ _ _ A0.list)⟩, for_list (K := K) (a := PL) (xs := qs.map V.ref)
      (fun i σ H2 => ∃ v2 v3, σ = [some (.ref d), some (.ref r), v2, v3] ∧ H2 = upd H r (.lst ((LW.wants (D.people.take i)).map V.int))) ⟨none, none, rfl, rfl⟩ (fun i σ H2 _ ⟨_, _, _, e⟩ => by rw [e]; exact SqL.of (sN _ _ _ A0.list)) ?_ ?_⟩
    · rintro i y σ H2 hi ⟨v2, v3, rfl, rfl⟩
      obtain ⟨q, hq, rfl⟩ : ∃ q, qs[i]? = some q ∧ y = V.ref q := by
        rw [List.getElem?_map] at hi
        cases e : qs[i]? with
        | none => rw [e] at hi; cases hi
        | some q => rw [e] at hi; exact ⟨q, rfl, (Option.some.inj hi).symm⟩
      obtain ⟨p, hp, dq, eq⟩ := Paired.get A0.pp hq
      refine ⟨_, rfl, q, dq, _, rfl, sN _ _ _ eq, fP_no _ (by decide +kernel) (by decide +kernel) (by decide +kernel) (by decide +kernel) (by decide +kernel), q, dq, p, rfl, sN _ _ _ eq, ?_⟩
      refine ⟨_, rfl, rfl, _, rfl, ?_⟩
      have wt := wants_take hp
      cases hw : p.want with
      | none =>
        refine iteNS rfl ⟨_, _, rfl, ?_⟩
        rw [wt, hw]; simp
      | some z =>
        have ne : (!decide (oV (some z) = V.non)) = true := rfl
        rw [ne]
        refine iteT ⟨_, rfl, .inl ⟨rfl, _, SqL.of upd_same⟩, _, rfl, r, _, _, rfl, rfl, upd_same, ?_, _, _, rfl, ?_⟩
        · rw [List.length_map]
          have h1 : (LW.wants (D.people.take i)).length ≤ (D.people.take i).length := List.length_filterMap_le _ _
          rw [List.length_take] at h1
          exact small1000 (by omega)
        · rw [upd_upd, wt, hw, List.map_append]; rfl
    · rintro σ H2 ⟨v2, v3, rfl, rfl⟩
      rw [List.length_map, A0.len, List.take_length]
      exact ⟨_, rfl, k r hr0⟩
def spExch (CL CP CD : Addr) : Sp := fun vs H Q _ => ∃ d F0 L PL qs F D, vs = [.ref d] ∧ DayAt CL CP CD F0 H d L PL qs F D ∧ ∀ H', DayAt CL CP CD F0 H' d L PL qs F { D with people := LW.swap D.lift.floor D.ticks D.people } → Q .non H'
theorem scExch : FnScope ["self", "person"] ["self"] (defScope sExch) := ⟨rfl, rfl, rfl, by decide +kernel, rfl, by decide +kernel, by decide +kernel⟩
def part_ (f t : Int) (i : Nat) (ps : List LW.Pp) : List LW.Pp := (ps.take i).map (LW.swap1 f t) ++ ps.drop i
theorem part_get {f t : Int} {i : Nat} {ps : List LW.Pp} {p : LW.Pp} (h : ps[i]? = some p) : (part_ f t i ps)[i]? = some p := by
  unfold part_
  have hi := (List.getElem?_eq_some_iff.mp h).1
  rw [List.getElem?_append_right (by rw [List.length_map, List.length_take]; omega), List.length_map, List.length_take, List.getElem?_drop, Nat.min_eq_left (Nat.le_of_lt hi)]
  simpa using h
theorem part_step {f t : Int} {i : Nat} {ps : List LW.Pp} {p : LW.Pp} (h : ps[i]? = some p) : (part_ f t i ps).set i (LW.swap1 f t p) = part_ f t (i + 1) ps := by
  unfold part_
  have hi := (List.getElem?_eq_some_iff.mp h).1
  have hl : ((ps.take i).map (LW.swap1 f t)).length = i := by rw [List.length_map, List.length_take, Nat.min_eq_left (Nat.le_of_lt hi)]
  have hd : ps.drop i = p :: ps.drop (i + 1) := by
    rw [List.drop_eq_getElem_cons hi]
    congr 1
    exact (List.getElem?_eq_some_iff.mp h).2
  rw [List.take_add_one, h, List.map_append, hd, List.set_append_right _ _ (by omega), hl, Nat.sub_self]
  simp
theorem ok_exch {f f1 f2 : Addr} {fd fd1 fd2 : FuncData} (F : Fun K "exchange" "Day.exchange" sExch f fd) (T : TD K CD) (TPp : TP K CP) (TLf : TL K CL) (M1 : Mt K CP "wanted_floor" "Person.wanted_floor" sWf ["self"] f1 fd1) (M2 : Mt K CP "pass_doors" "Person.pass_doors" sPass ["self", "tick"] f2 fd2) :
    FnOk P w K mg base CX0 2 f fd ["self"] (spExch CL CP CD) := by
  have G1 : FnOk P w K mg base CX0 1 f1 fd1 ["self"] (spWf CP) := ok_wf M1.F TPp
  have G2 : FnOk P w K mg base CX0 1 f2 fd2 ["self", "tick"] (spPass CP) := ok_pass M2.F TPp
  refine F.ok scExch (fun vs H Q E h => ?_) (fun cdv A outer s H vs Q E hr h => ?_)
  · obtain ⟨d, F0, L, PL, qs, F, D, rfl, _⟩ := h
    rfl
  · obtain ⟨d, F0, L, PL, qs, F, D, rfl, A0, k⟩ := h
    refine ⟨_, pss_one (ps_for PassesOwn.never rfl (pi_list (pe_fld (pv 0) rfl)) (pg_name (i := 1) scExch.nd rfl (Or.inl rfl))
        (pss_one (ps_if (pt_cmpR op_eq (pe_meth0 (pv 1) TPp.cl M1.m G1 hr M1.b .nil pass0) (pe_fld (pe_fld (pv 0) rfl) rfl) (nomark _)) (pss_one (ps_expr (pe_meth (pv 1) TPp.cl M2.m G2 hr M2.b .nil pass0 (pa_cons (pe_fld (pv 0) rfl) pa_nil)))) pss_nil))), ?_⟩
    obtain ⟨dx, hd⟩ := A0.day
    refine ⟨_, rfl, d, CD, dx, _, _, rfl, hd, T.cl, T.np, fD_people _ _ _ _, PL, rfl, ⟨_, SqL.of A0.list⟩, for_list (K := K) (a := PL) (xs := qs.map V.ref)
      (fun i σ H2 => ∃ v1, σ = [some (.ref d), v1] ∧ DayAt CL CP CD F0 H2 d L PL qs F { D with people := part_ D.lift.floor D.ticks i D.people }) ⟨none, rfl, ?_⟩ (fun i σ H2 _ ⟨_, _, A⟩ => SqL.of A.list) ?_ ?_⟩
    · have e : part_ D.lift.floor D.ticks 0 D.people = D.people := by unfold part_; simp
      rw [e]; exact A0
    · rintro i y σ H2 hi ⟨v1, rfl, A1⟩
      obtain ⟨q, hq, rfl⟩ : ∃ q, qs[i]? = some q ∧ y = V.ref q := by
        rw [List.getElem?_map] at hi
        cases e : qs[i]? with
        | none => rw [e] at hi; cases hi
        | some q => rw [e] at hi; exact ⟨q, rfl, (Option.some.inj hi).symm⟩
      obtain ⟨p0, hp0, _⟩ := Paired.get A0.pp hq
      obtain ⟨p, hp, dq, eq⟩ := Paired.get A1.pp hq
      have hp : (part_ D.lift.floor D.ticks i D.people)[i]? = some p := hp
      rw [part_get hp0] at hp
      cases hp
      obtain ⟨dx1, hd1⟩ := A1.day
      obtain ⟨dl1, hl1⟩ := A1.lift
      refine ⟨_, rfl, q, dq, _, rfl, eq, fP_no _ (by decide +kernel) (by decide +kernel) (by decide +kernel) (by decide +kernel) (by decide +kernel), q, dq, p0, rfl, eq, ?_⟩
      refine ⟨_, rfl, d, CD, dx1, _, _, rfl, hd1, T.cl, T.nl, fD_lift _ _ _ _, L, CL, dl1, _, _, rfl, hl1, TLf.cl, TLf.nf, fL_floor _, ?_, _, rfl, ?_⟩
      · cases p0.want <;> rfl
      · have st := part_step (f := D.lift.floor) (t := D.ticks) hp0
        by_cases hw : p0.want = some D.lift.floor
        · have e1 : LW.swap1 D.lift.floor D.ticks p0 = p0.pass D.ticks := by unfold LW.swap1; rw [if_pos hw]
          refine iteY (by rw [hw]; rfl) ?_
          refine ⟨_, rfl, q, dq, _, rfl, eq, fP_no _ (by decide +kernel) (by decide +kernel) (by decide +kernel) (by decide +kernel) (by decide +kernel), _, rfl, d, CD, dx1, _, _, rfl, hd1, T.cl, T.nt, fD_ticks _ _ _ _, q, dq, p0, D.ticks, rfl, eq, ?_⟩
          refine ⟨_, rfl, ?_⟩
          rw [← st, e1]
          exact A1.setP hq
        · have e1 : LW.swap1 D.lift.floor D.ticks p0 = p0 := by unfold LW.swap1; rw [if_neg hw]
          refine iteN (fun z => hw ?_) ⟨_, rfl, ?_⟩
          · cases e : p0.want with
            | none => rw [e] at z; exact nomatch z
            | some a => rw [e] at z; rw [V.int.inj z]
          · rw [← st, e1]
            have es : (part_ D.lift.floor D.ticks i D.people).set i p0 = part_ D.lift.floor D.ticks i D.people := by
              apply List.ext_getElem?
              intro j
              by_cases hj : j = i
              · subst hj
                rw [part_get hp0, List.getElem?_set_self (List.getElem?_eq_some_iff.mp (part_get hp0)).1]
              · rw [List.getElem?_set_ne (Ne.symm hj)]
            rw [es]; exact A1
    · rintro σ H2 ⟨v1, rfl, A1⟩
      refine k H2 ?_
      have e : part_ D.lift.floor D.ticks (qs.map V.ref).length D.people = LW.swap D.lift.floor D.ticks D.people := by
        unfold part_ LW.swap
        rw [List.length_map, A0.len, List.take_length, List.drop_length, List.append_nil]
      rw [e] at A1
      exact A1
def spTick (CL CP CD : Addr) : Sp := fun vs H Q _ => ∃ d F0 L PL qs F D, vs = [.ref d] ∧ DayAt CL CP CD F0 H d L PL qs F D ∧ D.people.length ≤ 1000 ∧ ∀ H', DayAt CL CP CD F0 H' d L PL qs F (LW.tickD D) → Q (.str (wordS (LW.tickW D))) H'
theorem scTick : FnScope ["self", "done"] ["self"] (defScope sTick) := ⟨rfl, rfl, rfl, by decide +kernel, rfl, by decide +kernel, by decide +kernel⟩
/-- all that the day's defs lean on -/
structure Lib (K : PySem.W.Frag) (mg : Str → Option Value) (CL CP CD : Addr) (tU tD tS tP tR : Tok) : Prop where
  td : TD K CD
  tp : TP K CP
  tl : TL K CL
  kn : Kn mg tU tD tS tP tR
  len : mg "len" = none
  mL : mg "Lift" = some (.ref CL)
  mP : mg "Person" = some (.ref CP)
  mD : mg "Day" = some (.ref CD)
  lies : ∃ f fd, Df K mg "lies_ahead" sLies ["floor", "here", "way"] f fd
  any : ∃ f fd, Df K mg "any_ahead" sAny ["here", "way", "wanted"] f fd
  other : ∃ f fd, Df K mg "other_way" sOther ["way"] f fd
  next : ∃ f fd, Df K mg "next_way" sNext ["here", "way", "wanted"] f fd
  beside : ∃ f fd, Df K mg "floor_beside" sBeside ["here", "way"] f fd
  linit : ∃ f fd, Mk K CL f ∧ Fun K "__init__" "Lift.__init__" sLInit f fd ∧ Binds K fd ["self"] []
  act : ∃ f fd, Mt K CL "act" "Lift.act" sAct ["self", "wanted"] f fd
  shut : ∃ f fd, Mt K CL "shut_doors" "Lift.shut_doors" sShut ["self"] f fd
  part : ∃ f fd, Mt K CL "part_doors" "Lift.part_doors" sPart ["self"] f fd
  go : ∃ f fd, Mt K CL "go" "Lift.go" sGo ["self", "way"] f fd
  pinit : ∃ f fd, Mk K CP f ∧ Fun K "__init__" "Person.__init__" sPInit f fd ∧ Binds K fd ["self", "start", "goal", "pressed"] []
  wf : ∃ f fd, Mt K CP "wanted_floor" "Person.wanted_floor" sWf ["self"] f fd
  pass : ∃ f fd, Mt K CP "pass_doors" "Person.pass_doors" sPass ["self", "tick"] f fd
  dinit : ∃ f fd, Mk K CD f ∧ Fun K "__init__" "Day.__init__" sDInit f fd ∧ Binds K fd ["self", "floors"] []
  is_ : ∃ f fd, Mt K CD "is_floor" "Day.is_floor" sIs ["self", "number"] f fd
  press : ∃ f fd, Mt K CD "press" "Day.press" sPress ["self", "start", "goal"] f fd
  wanted : ∃ f fd, Mt K CD "wanted" "Day.wanted" sWanted ["self"] f fd
  tick : ∃ f fd, Mt K CD "pass_tick" "Day.pass_tick" sTick ["self"] f fd
  exch : ∃ f fd, Mt K CD "exchange" "Day.exchange" sExch ["self"] f fd
  answer : ∃ f fd, Mt K CD "answer" "Day.answer" sAnswer ["self", "deed"] f fd
theorem part_word {x : LW.Wd} : (V.str (wordS x) = V.str "part") ↔ x = .part := by
  constructor
  · intro h
    have h := V.str.inj h
    cases x with
    | part => rfl
    | shut => exact absurd h (by decide +kernel)
    | rest => exact absurd h (by decide +kernel)
    | go b => cases b <;> exact absurd h (by decide +kernel)
  · rintro rfl; rfl
theorem ok_tick {f : Addr} {fd : FuncData} (F : Fun K "pass_tick" "Day.pass_tick" sTick f fd) (Z : Lib K mg CL CP CD tU tD tS tP tR) : FnOk P w K mg base CX0 5 f fd ["self"] (spTick CL CP CD) := by
  obtain ⟨fa, fda, MA⟩ := Z.act
  obtain ⟨f1, fd1, D1⟩ := Z.lies
  obtain ⟨f2, fd2, D2⟩ := Z.any
  obtain ⟨f3, fd3, D3⟩ := Z.other
  obtain ⟨f4, fd4, D4⟩ := Z.next
  obtain ⟨f5, fd5, D5⟩ := Z.beside
  obtain ⟨f6, fd6, M6⟩ := Z.shut
  obtain ⟨f7, fd7, M7⟩ := Z.part
  obtain ⟨f8, fd8, M8⟩ := Z.go
  obtain ⟨f9, fd9, M9⟩ := Z.wf
  obtain ⟨f10, fd10, M10⟩ := Z.pass
  obtain ⟨f11, fd11, M11⟩ := Z.wanted
  obtain ⟨f12, fd12, M12⟩ := Z.exch
  have GA : FnOk P w K mg base CX0 4 fa fda ["self", "wanted"] (spAct K CL) := ok_act MA.F Z.tl Z.kn D1 D2 D3 D4 D5 M6 M7 M8
  have GW : FnOk P w K mg base CX0 2 f11 fd11 ["self"] (spWanted CL CP CD) := ok_wanted M11.F Z.td Z.tp M9
  have GE : FnOk P w K mg base CX0 2 f12 fd12 ["self"] (spExch CL CP CD) := ok_exch M12.F Z.td Z.tp Z.tl M9 M10
  have T := Z.td
  refine F.ok scTick (fun vs H Q E h => ?_) (fun cdv A outer s H vs Q E hr h => ?_)
  · obtain ⟨d, F0, L, PL, qs, F, D, rfl, _⟩ := h
    rfl
  · obtain ⟨d, F0, L, PL, qs, F, D, rfl, A0, hlen, k⟩ := h
    have hr2 : Room 2 _ := hr.mono (by decide)
    refine ⟨_, pss_cons (ps_fld (pv 0) (pe_op op_add (pe_fld (pv 0) rfl) pe_int) rfl)
      (pss_cons (ps_set (i := 1) scTick.nd rfl (Or.inl rfl) (pe_meth (pe_fld (pv 0) rfl) Z.tl.cl MA.m GA hr MA.b .nil pass0 (pa_cons (pe_meth0 (pv 0) T.cl M11.m GW hr2 M11.b .nil pass0) pa_nil)))
      (pss_cons (ps_if (pt_cmpR op_eq (pv 1) (pe_glob (v := .str "part") rfl Z.kn.pt ⟨_, rfl⟩) (nomark _)) (pss_one (ps_expr (pe_meth0 (pv 0) T.cl M12.m GE hr2 M12.b .nil pass0))) pss_nil)
      (pss_one (ps_ret (pv 1))))), ?_⟩
    obtain ⟨dx, hd⟩ := A0.day
    refine ⟨_, rfl, d, CD, dx, _, _, rfl, hd, T.cl, T.nt, fD_ticks _ _ _ _, _, _, rfl, rfl, _, rfl, d, CD, dx, _, rfl, hd, T.cl, T.nt, fD_len _ _ _ _, ?_⟩
    rw [fD_pticks]
    have A1 := A0.setTicks (dx := dx) (u := D.ticks + 1)
    generalize upd H d (.ins CD dx (fD F L PL (D.ticks + 1))) = H1 at A1 ⊢
    obtain ⟨dx1, hd1⟩ := A1.day
    obtain ⟨dl1, hl1⟩ := A1.lift
    refine ⟨_, rfl, d, CD, dx1, _, _, rfl, hd1, T.cl, T.nl, fD_lift _ _ _ _, L, dl1, _, rfl, hl1, fL_no _ (by decide +kernel) (by decide +kernel) (by decide +kernel) (by decide +kernel), ?_⟩
    refine ⟨_, rfl, d, dx1, _, rfl, hd1, fD_no _ _ _ _ (by decide +kernel) (by decide +kernel) (by decide +kernel) (by decide +kernel), d, F0, L, PL, qs, F, _, rfl, A1, hlen, fun r hr0 => ?_⟩
    have s2 : Same H1 (upd H1 r (.lst ((LW.wants D.people).map V.int))) := Same.new hr0
    have A2 := A1.same s2
    have er : (upd H1 r (.lst ((LW.wants D.people).map V.int))) r = some (.lst ((LW.wants D.people).map V.int)) := upd_same
    have el := s2 _ _ hl1
    dsimp only [tNil]
    generalize upd H1 r (.lst ((LW.wants D.people).map V.int)) = H2 at A2 er el ⊢
    refine ⟨L, dl1, D.lift, r, LW.wants D.people, rfl, el, SqL.of er, ?_⟩
    have A3 := A2.setLift (dl := dl1) (l := LW.moved D.lift (LW.actW D.lift (LW.wants D.people)))
    generalize upd H2 L (.ins CL dl1 (fL (LW.moved D.lift (LW.actW D.lift (LW.wants D.people))))) = H3 at A3 ⊢
    refine ⟨_, rfl, rfl, _, rfl, ?_⟩
    by_cases hw : LW.tickW D = .part
    · refine iteY (part_word.mpr hw) ?_
      obtain ⟨dx3, hd3⟩ := A3.day
      refine ⟨_, rfl, d, dx3, _, rfl, hd3, fD_no _ _ _ _ (by decide +kernel) (by decide +kernel) (by decide +kernel) (by decide +kernel), d, F0, L, PL, qs, F, _, rfl, A3, fun H4 A4 => ?_⟩
      refine ⟨_, rfl, k H4 ?_⟩
      have e : LW.tickD D = { lift := LW.moved D.lift (LW.tickW D), people := LW.swap D.lift.floor (D.ticks + 1) D.people, ticks := D.ticks + 1 } := by
        unfold LW.tickD; rw [if_pos hw]
      rw [e]
      have e2 : (LW.moved D.lift (LW.actW D.lift (LW.wants D.people))).floor = D.lift.floor := by
        have hw' : LW.actW D.lift (LW.wants D.people) = .part := hw
        rw [hw']; rfl
      have A4' : DayAt CL CP CD F0 H4 d L PL qs F { lift := LW.moved D.lift (LW.actW D.lift (LW.wants D.people)), people := LW.swap (LW.moved D.lift (LW.actW D.lift (LW.wants D.people))).floor (D.ticks + 1) D.people, ticks := D.ticks + 1 } := A4
      rw [e2] at A4'
      exact A4'
    · refine iteN (fun z => hw (part_word.mp z)) ⟨_, rfl, k H3 ?_⟩
      have e : LW.tickD D = { lift := LW.moved D.lift (LW.tickW D), people := D.people, ticks := D.ticks + 1 } := by
        unfold LW.tickD; rw [if_neg hw]
      rw [e]
      exact A3
/-- a deed as a tuple -/
def ddV : LW.Dd → List V
  | .press s g => [.str "press", .int s, .int g]
  | .tick => [.str "tick"]
def spAnswer (K : PySem.W.Frag) (CL CP CD : Addr) : Sp := fun vs H Q _ => ∃ d t x F0 L PL qs F D, vs = [.ref d, .ref t] ∧ SqT K H t (ddV x) ∧ DayAt CL CP CD F0 H d L PL qs F D ∧ D.people.length < 1000 ∧
  ∀ H' qs', DayAt CL CP CD F0 H' d L PL qs' F (LW.stepD F D x) → Q (anV (LW.stepA F D x)) H'
theorem scAnswer : FnScope ["self", "deed"] ["self", "deed"] (defScope sAnswer) := ⟨rfl, rfl, rfl, by decide +kernel, rfl, by decide +kernel, by decide +kernel⟩
theorem tpV : ¬ (V.str "tick" = V.str "press") := fun h => absurd (V.str.inj h) (by decide +kernel)
theorem ok_answer {f : Addr} {fd : FuncData} (F : Fun K "answer" "Day.answer" sAnswer f fd) (Z : Lib K mg CL CP CD tU tD tS tP tR) : FnOk P w K mg base CX0 6 f fd ["self", "deed"] (spAnswer K CL CP CD) := by
  obtain ⟨f1, fd1, M1⟩ := Z.press
  obtain ⟨f2, fd2, M2⟩ := Z.tick
  obtain ⟨f3, fd3, M3⟩ := Z.is_
  obtain ⟨f4, fd4, M4, F4, b4⟩ := Z.pinit
  have GP : FnOk P w K mg base CX0 3 f1 fd1 ["self", "start", "goal"] (spPress CL CP CD) := ok_press M1.F Z.td Z.tp Z.len M3 M4 F4 b4 Z.mP
  have GT : FnOk P w K mg base CX0 5 f2 fd2 ["self"] (spTick CL CP CD) := ok_tick M2.F Z
  refine F.ok scAnswer (fun vs H Q E h => ?_) (fun cdv A outer s H vs Q E hr h => ?_)
  · obtain ⟨d, t, x, F0, L, PL, qs, F, D, rfl, _⟩ := h
    rfl
  · obtain ⟨d, t, x, F0, L, PL, qs, F, D, rfl, hT, A0, hlen, k⟩ := h
    refine ⟨_, pss_cons (ps_if (pt_cmpR op_eq (pe_ix ix_tup (pv 1) pe_int (fun _ _ => rfl)) pe_str (nomark _))
        (pss_one (ps_ret (pe_meth (pv 0) Z.td.cl M1.m GP (hr.mono (by decide)) M1.b .nil pass0 (pa_cons (pe_ix ix_tup (pv 1) pe_int (fun _ _ => rfl)) (pa_cons (pe_ix ix_tup (pv 1) pe_int (fun _ _ => rfl)) pa_nil))))) pss_nil)
      (pss_one (ps_ret (pe_meth0 (pv 0) Z.td.cl M2.m GT hr M2.b .nil pass0))), ?_⟩
    obtain ⟨dx, hd⟩ := A0.day
    cases x with
    | press s g =>
      refine ⟨_, rfl, t, _, _, _, rfl, rfl, hT, (show atI (ddV (.press s g)) 0 = some (.str "press") from rfl), rfl, _, rfl, iteY rfl ?_⟩
      refine ⟨_, rfl, d, dx, _, rfl, hd, fD_no _ _ _ _ (by decide +kernel) (by decide +kernel) (by decide +kernel) (by decide +kernel), ?_⟩
      refine ⟨_, rfl, t, _, _, _, rfl, rfl, hT, (show atI (ddV (.press s g)) 1 = some (.int s) from rfl), _, rfl, t, _, _, _, rfl, rfl, hT, (show atI (ddV (.press s g)) 2 = some (.int g) from rfl), d, s, g, F0, L, PL, qs, F, D, rfl, A0, hlen, k⟩
    | tick =>
      refine ⟨_, rfl, t, _, _, _, rfl, rfl, hT, (show atI (ddV .tick) 0 = some (.str "tick") from rfl), rfl, _, rfl, iteN tpV ?_⟩
      exact ⟨_, rfl, d, dx, _, rfl, hd, fD_no _ _ _ _ (by decide +kernel) (by decide +kernel) (by decide +kernel) (by decide +kernel), d, F0, L, PL, qs, F, D, rfl, A0, by omega, fun H' A' => k H' qs A'⟩
/-- deeds handed in: a list of tuples -/
structure Deeds (K : PySem.W.Frag) (H : Hp) (a : Addr) (ts : List Addr) (xs : List LW.Dd) : Prop where
  list : SqL K H a (ts.map V.ref)
  each : Paired (fun t x => SqT K H t (ddV x)) ts xs
theorem Deeds.same {H H' : Hp} {a : Addr} {ts : List Addr} {xs : List LW.Dd} (s : Same H H') (h : Deeds K H a ts xs) : Deeds K H' a ts xs := ⟨s.seq h.list, L2.Paired.mapP h.each fun _ _ q => s.tup q⟩
theorem step_people {F : Int} (d : LW.Dy) (x : LW.Dd) : (LW.stepD F d x).people.length ≤ d.people.length + 1 := by
  cases x with
  | tick =>
    show (if LW.tickW d = .part then LW.swap d.lift.floor (d.ticks + 1) d.people else d.people).length ≤ _
    split
    · unfold LW.swap; rw [List.length_map]; omega
    · omega
  | press s g =>
    unfold LW.stepD; dsimp only
    split
    · show (d.people ++ [_]).length ≤ _
      rw [List.length_append, List.length_singleton]; omega
    · omega
theorem run_take {F : Int} {xs : List LW.Dd} {i : Nat} {x : LW.Dd} (h : xs[i]? = some x) (d : LW.Dy) : LW.runD F d (xs.take (i + 1)) = LW.stepD F (LW.runD F d (xs.take i)) x := by
  rw [List.take_add_one, h, LW.runD_append]; rfl
theorem runA_take {F : Int} {xs : List LW.Dd} {i : Nat} {x : LW.Dd} (h : xs[i]? = some x) (d : LW.Dy) : LW.runA F d (xs.take (i + 1)) = LW.runA F d (xs.take i) ++ [LW.stepA F (LW.runD F d (xs.take i)) x] := by
  rw [List.take_add_one, h, LW.runA_append]; rfl
theorem run_people {F : Int} : ∀ (xs : List LW.Dd) (d : LW.Dy), (LW.runD F d xs).people.length ≤ d.people.length + xs.length
  | [], d => Nat.le_refl _
  | x :: xs, d => by
    have h1 := run_people (F := F) xs (LW.stepD F d x)
    have h2 := step_people (F := F) d x
    show (LW.runD F (LW.stepD F d x) xs).people.length ≤ _
    rw [List.length_cons]; omega
theorem get_ref {ts : List Addr} {i : Nat} {y : V} (h : (ts.map V.ref)[i]? = some y) : ∃ t, y = V.ref t ∧ ts[i]? = some t := by
  rw [List.getElem?_map] at h
  cases e : ts[i]? with
  | none => rw [e] at h; cases h
  | some z => rw [e] at h; exact ⟨z, (Option.some.inj h).symm, rfl⟩
end
section
variable {P : Program} {w : World} {K : PySem.W.Frag} {mg : Str → Option Value} {base : Heap} {tU tD tS tP tR : Tok} {CL CP CD : Addr}
def spAnswers (K : PySem.W.Frag) : Sp := fun vs H Q _ => ∃ (F : Int) (a : Addr) (ts : List Addr) (xs : List LW.Dd), vs = [.int F, .ref a] ∧ Deeds K H a ts xs ∧ xs.length ≤ 900 ∧ ∀ H' g, Same H H' → H g = none → H' g = some (.lst ((LW.runA F LW.dy0 xs).map anV)) → Q (.ref g) H'
theorem scAnswers : FnScope ["floors", "deeds", "day", "given", "deed"] ["floors", "deeds"] (defScope sAnswers) := ⟨rfl, rfl, rfl, by decide +kernel, rfl, by decide +kernel, by decide +kernel⟩
theorem ok_answers {f : Addr} {fd : FuncData} (F : Fun K "answers" "answers" sAnswers f fd) (Z : Lib K mg CL CP CD tU tD tS tP tR) : FnOk P w K mg base CX0 7 f fd ["floors", "deeds"] (spAnswers K) := by
  obtain ⟨f1, fd1, M1⟩ := Z.answer
  obtain ⟨f2, fd2, M2, F2, b2⟩ := Z.dinit
  obtain ⟨f3, fd3, M3, F3, b3⟩ := Z.linit
  have GA : FnOk P w K mg base CX0 6 f1 fd1 ["self", "deed"] (spAnswer K CL CP CD) := ok_answer M1.F Z
  have GI : FnOk P w K mg base CX0 3 f2 fd2 ["self", "floors"] (spDInit CL CP CD) := ok_dinit F2 Z.td Z.tl M3 F3 b3 Z.mL Z.kn.up
  refine F.ok scAnswers (fun vs H Q E h => ?_) (fun cdv A outer s H vs Q E hr h => ?_)
  · obtain ⟨F, a, ts, xs, rfl, _⟩ := h
    rfl
  · obtain ⟨F, a, ts, xs, rfl, hds, hlen, k⟩ := h
    refine ⟨_, pss_cons (ps_set (i := 2) scAnswers.nd rfl (Or.inl rfl) (pe_make M2 GI (hr.mono (by decide)) rfl Z.mD b2 .nil pass0 (pa_cons (pv 0) pa_nil)))
      (pss_cons (ps_set (i := 3) scAnswers.nd rfl (Or.inl rfl) (pe_lst pa_nil))
      (pss_cons (ps_for PassesOwn.never rfl (pi_list (pv 1)) (pg_name (i := 4) scAnswers.nd rfl (Or.inl rfl))
        (pss_one (ps_expr (pe_append (pv 3) (pe_meth (pv 2) Z.td.cl M1.m GA hr M1.b .nil pass0 (pa_cons (pv 4) pa_nil))))))
      (pss_one (ps_ret (pv 3))))), ?_⟩
    refine ⟨_, rfl, fun d dx nd ndx nex => ⟨d, dx, F, H, rfl, upd_same, nd, (fun b u e => by rw [upd_ne (ne_of_none e nd), upd_ne (ne_of_none e ndx)]; exact e), fun H1 L PL A1 => ⟨rfl, ?_⟩⟩⟩
    refine ⟨Nat.zero_le _, fun g hg => ?_⟩
    have ne1 : ∀ {b : Addr} {o : HO}, H1 b = some o → g ≠ b := fun e z => by subst z; rw [hg] at e; cases e
    obtain ⟨dx1, hd1⟩ := A1.day
    obtain ⟨dl1, hl1⟩ := A1.lift
    have A2 : DayAt CL CP CD (upd H g (.lst [])) (upd H1 g (.lst [])) d L PL [] F LW.dy0 := A1.outer (ne1 hd1) (ne1 hl1) (ne1 A1.list) fun q hq => nomatch hq
    have fg : H g = none := A1.out.free hg
    have hlx : ts.length = xs.length := PySem.Paired.length hds.each
    refine ⟨_, rfl, a, rfl, ⟨_, (A1.out.trans (Same.new hg)).seq hds.list⟩, for_list (K := K) (a := a) (xs := ts.map V.ref)
      (fun i σ H2 => ∃ v4 qs, σ = [some (.int F), some (.ref a), some (.ref d), some (.ref g), v4] ∧ DayAt CL CP CD (upd H g (.lst ((LW.runA F LW.dy0 (xs.take i)).map anV))) H2 d L PL qs F (LW.runD F LW.dy0 (xs.take i)))
      ⟨none, [], rfl, A2⟩ (fun i σ H2 _ ⟨_, _, _, A⟩ => ((Same.new fg).trans A.out).seq hds.list) ?_ ?_⟩
    · rintro i y σ H2 hi ⟨v4, qs, rfl, A3⟩
      obtain ⟨t, rfl, ht⟩ := get_ref hi
      obtain ⟨x, hx, hT⟩ := Paired.get hds.each ht
      have hil : i < xs.length := (List.getElem?_eq_some_iff.mp hx).1
      have s3 : Same H H2 := (Same.new fg).trans A3.out
      have hgl : H2 g = some (.lst ((LW.runA F LW.dy0 (xs.take i)).map anV)) := A3.out _ _ upd_same
      obtain ⟨dx3, hd3⟩ := A3.day
      have hpl := run_people (F := F) (xs.take i) LW.dy0
      refine ⟨_, rfl, .inl ⟨rfl, _, SqL.of hgl⟩, _, rfl, d, dx3, _, rfl, hd3, fD_no _ _ _ _ (by decide +kernel) (by decide +kernel) (by decide +kernel) (by decide +kernel), _, rfl, d, t, x, _, L, PL, qs, F, _, rfl, s3.tup hT, A3, ?_, fun H4 qs4 A4 => ?_⟩
      · rw [List.length_take] at hpl
        have : LW.dy0.people.length = 0 := rfl
        omega
      · refine ⟨g, _, _, rfl, rfl, A4.out _ _ upd_same, ?_, _, qs4, rfl, ?_⟩
        · rw [List.length_map, LW.runA_length, List.length_take]; exact small1000 (by omega)
        · rw [run_take hx, runA_take hx, List.map_append]
          exact A4.put
    · rintro σ H2 ⟨v4, qs, rfl, A3⟩
      rw [List.length_map, hlx, List.take_length] at A3
      exact ⟨_, rfl, k H2 g ((Same.new fg).trans A3.out) fg (A3.out _ _ upd_same)⟩
end
section
variable {P : Program} {w : World} {K : PySem.W.Frag} {mg : Str → Option Value} {base : Heap} {tU tD tS tP tR : Tok} {CL CP CD : Addr}
def spBehind (K : PySem.W.Frag) (CL CP CD : Addr) : Sp := fun vs H Q _ => ∃ (F : Int) (a : Addr) (ts : List Addr) (xs : List LW.Dd), vs = [.int F, .ref a] ∧ Deeds K H a ts xs ∧ xs.length ≤ 900 ∧ ∀ H' d L PL qs, DayAt CL CP CD H H' d L PL qs F (LW.runD F LW.dy0 xs) → Q (.ref d) H'
theorem scBehind : FnScope ["floors", "deeds", "day", "deed"] ["floors", "deeds"] (defScope sBehind) := ⟨rfl, rfl, rfl, by decide +kernel, rfl, by decide +kernel, by decide +kernel⟩
theorem ok_behind {f : Addr} {fd : FuncData} (F : Fun K "day_behind" "day_behind" sBehind f fd) (Z : Lib K mg CL CP CD tU tD tS tP tR) : FnOk P w K mg base CX0 7 f fd ["floors", "deeds"] (spBehind K CL CP CD) := by
  obtain ⟨f1, fd1, M1⟩ := Z.answer
  obtain ⟨f2, fd2, M2, F2, b2⟩ := Z.dinit
  obtain ⟨f3, fd3, M3, F3, b3⟩ := Z.linit
  have GA : FnOk P w K mg base CX0 6 f1 fd1 ["self", "deed"] (spAnswer K CL CP CD) := ok_answer M1.F Z
  have GI : FnOk P w K mg base CX0 3 f2 fd2 ["self", "floors"] (spDInit CL CP CD) := ok_dinit F2 Z.td Z.tl M3 F3 b3 Z.mL Z.kn.up
  refine F.ok scBehind (fun vs H Q E h => ?_) (fun cdv A outer s H vs Q E hr h => ?_)
  · obtain ⟨F, a, ts, xs, rfl, _⟩ := h
    rfl
  · obtain ⟨F, a, ts, xs, rfl, hds, hlen, k⟩ := h
    refine ⟨_, pss_cons (ps_set (i := 2) scBehind.nd rfl (Or.inl rfl) (pe_make M2 GI (hr.mono (by decide)) rfl Z.mD b2 .nil pass0 (pa_cons (pv 0) pa_nil)))
      (pss_cons (ps_for PassesOwn.never rfl (pi_list (pv 1)) (pg_name (i := 3) scBehind.nd rfl (Or.inl rfl))
        (pss_one (ps_expr (pe_meth (pv 2) Z.td.cl M1.m GA hr M1.b .nil pass0 (pa_cons (pv 3) pa_nil)))))
      (pss_one (ps_ret (pv 2)))), ?_⟩
    refine ⟨_, rfl, fun d dx nd ndx nex => ⟨d, dx, F, H, rfl, upd_same, nd, (fun b u e => by rw [upd_ne (ne_of_none e nd), upd_ne (ne_of_none e ndx)]; exact e), fun H1 L PL A1 => ⟨rfl, ?_⟩⟩⟩
    have hlx : ts.length = xs.length := PySem.Paired.length hds.each
    refine ⟨_, rfl, a, rfl, ⟨_, A1.out.seq hds.list⟩, for_list (K := K) (a := a) (xs := ts.map V.ref)
      (fun i σ H2 => ∃ v3 qs, σ = [some (.int F), some (.ref a), some (.ref d), v3] ∧ DayAt CL CP CD H H2 d L PL qs F (LW.runD F LW.dy0 (xs.take i)))
      ⟨none, [], rfl, A1⟩ (fun i σ H2 _ ⟨_, _, _, A⟩ => A.out.seq hds.list) ?_ ?_⟩
    · rintro i y σ H2 hi ⟨v3, qs, rfl, A3⟩
      obtain ⟨t, rfl, ht⟩ := get_ref hi
      obtain ⟨x, hx, hT⟩ := Paired.get hds.each ht
      have hil : i < xs.length := (List.getElem?_eq_some_iff.mp hx).1
      obtain ⟨dx3, hd3⟩ := A3.day
      have hpl := run_people (F := F) (xs.take i) LW.dy0
      refine ⟨_, rfl, d, dx3, _, rfl, hd3, fD_no _ _ _ _ (by decide +kernel) (by decide +kernel) (by decide +kernel) (by decide +kernel), _, rfl, d, t, x, _, L, PL, qs, F, _, rfl, A3.out.tup hT, A3, ?_, fun H4 qs4 A4 => ?_⟩
      · rw [List.length_take] at hpl
        have : LW.dy0.people.length = 0 := rfl
        omega
      · refine ⟨_, qs4, rfl, ?_⟩
        rw [run_take hx]
        exact A4
    · rintro σ H2 ⟨v3, qs, rfl, A3⟩
      rw [List.length_map, hlx, List.take_length] at A3
      exact ⟨_, rfl, k H2 d L PL qs A3⟩
end
section
variable {P : Program} {w : World} {K : PySem.W.Frag} {mg : Str → Option Value} {base : Heap} {tU tD tS tP tR : Tok} {CL CP CD : Addr}
def spLb (K : PySem.W.Frag) : Sp := fun vs H Q _ => ∃ (F : Int) (a : Addr) (ts : List Addr) (xs : List LW.Dd), vs = [.int F, .ref a] ∧ Deeds K H a ts xs ∧ xs.length ≤ 900 ∧
  ∀ H' r, Same H H' → H' r = some (.tup [.int (LW.runD F LW.dy0 xs).lift.floor, .bl (LW.runD F LW.dy0 xs).lift.apart, .str (wd (LW.runD F LW.dy0 xs).lift.up)]) → Q (.ref r) H'
theorem scLb : FnScope ["floors", "deeds", "lift"] ["floors", "deeds"] (defScope sLb) := ⟨rfl, rfl, rfl, by decide +kernel, rfl, by decide +kernel, by decide +kernel⟩
theorem ok_lb {f f1 : Addr} {fd fd1 : FuncData} (F : Fun K "lift_behind" "lift_behind" sLb f fd) (Z : Lib K mg CL CP CD tU tD tS tP tR) (D1 : Df K mg "day_behind" sBehind ["floors", "deeds"] f1 fd1) : FnOk P w K mg base CX0 8 f fd ["floors", "deeds"] (spLb K) := by
  have G1 : FnOk P w K mg base CX0 7 f1 fd1 ["floors", "deeds"] (spBehind K CL CP CD) := ok_behind D1.F Z
  refine F.ok scLb (fun vs H Q E h => ?_) (fun cdv A outer s H vs Q E hr h => ?_)
  · obtain ⟨F, a, ts, xs, rfl, _⟩ := h
    rfl
  · obtain ⟨F, a, ts, xs, rfl, hds, hlen, k⟩ := h
    refine ⟨_, (pss_cons (ps_set (i := 2) scLb.nd rfl (Or.inl rfl) (pe_fld (pe_call G1 hr rfl D1.m D1.F.kp D1.b .nil pass0 (pa_cons (pv 0) (pa_cons (pv 1) pa_nil))) rfl))
      (pss_one (ps_ret (pe_tup (pa_cons (pe_fld (pv 2) rfl) (pa_cons (pe_fld (pv 2) rfl) (pa_cons (pe_fld (pv 2) rfl) pa_nil))))))), ?_⟩
    refine ⟨_, rfl, _, rfl, F, a, ts, xs, rfl, hds, hlen, fun H1 d L PL qs A1 => ?_⟩
    obtain ⟨dx, hd⟩ := A1.day
    obtain ⟨dl, hl⟩ := A1.lift
    refine ⟨d, CD, dx, _, _, rfl, hd, Z.td.cl, Z.td.nl, fD_lift _ _ _ _, ?_⟩
    exact ⟨_, rfl, L, CL, dl, _, _, rfl, hl, Z.tl.cl, Z.tl.nf, fL_floor _, _, rfl, L, CL, dl, _, _, rfl, hl, Z.tl.cl, Z.tl.na, fL_apart _, _, rfl, L, CL, dl, _, _, rfl, hl, Z.tl.cl, Z.tl.nw, fL_way _, sz 3 (by decide), fun r hr0 => k _ r (A1.out.trans (Same.new hr0)) upd_same⟩
end
/-! ### the law's small defs -/
section
variable {P : Program} {w : World} {K : PySem.W.Frag} {mg : Str → Option Value} {base : Heap}
def spWhole : Sp := fun vs H Q _ => ∃ i : Int, vs = [.int i] ∧ Q (.bl true) H
theorem scWhole : FnScope ["_law_found"] ["_law_found"] (defScope sWhole) := ⟨rfl, rfl, rfl, by decide +kernel, rfl, by decide +kernel, by decide +kernel⟩
/-- the names that the text leaves to the built-ins, and their types' answers -/
structure Blt (K : PySem.W.Frag) (mg : Str → Option Value) : Prop where
  isi : mg "isinstance" = none
  int : mg "int" = none
  bool : mg "bool" = none
  str : mg "str" = none
  list : mg "list" = none
  tuple : mg "tuple" = none
  len : mg "len" = none
  range : mg "range" = none
  max : mg "max" = none
  min : mg "min" = none
theorem kit_same {K : PySem.W.Frag} {T : String} : PySem.W.kitOne K (.type T) (.type T) = some true := by
  unfold PySem.W.kitOne
  rw [if_pos (by simp)]
theorem kit_no {K : PySem.W.Frag} {T T' : String} {b : Bool} (h : (if (Value.type T == Value.type T') = true then some true else if PySem.W.kitMeta T' = true then (fastBuiltinMro T).map (·.contains (Value.type T')) else none) = some b) : PySem.W.kitOne K (.type T) (.type T') = some b := h
theorem kit_ib {K : PySem.W.Frag} : PySem.W.kitOne K (.type "int") (.type "bool") = some false := kit_no (by decide +kernel)
theorem ok_whole {f : Addr} {fd : FuncData} (F : Fun K "_law_whole" "_law_whole" sWhole f fd) (B : Blt K mg) : FnOk P w K mg base CX0 1 f fd ["_law_found"] spWhole := by
  refine F.ok scWhole (fun vs H Q E h => ?_) (fun cdv A outer s H vs Q E hr h => ?_)
  · obtain ⟨i, rfl, _⟩ := h
    rfl
  · obtain ⟨i, rfl, k⟩ := h
    refine ⟨_, pss_one (ps_ret (pe_and (pe_callB call_isi rfl B.isi PyProof.Rows.boot_isinstance (pa_cons (pv 0) (pa_cons (pe_bltn (v := .ty "int") rfl B.int PyProof.Rows.boot_int rfl) pa_nil)))
      (pe_one (pe_not (pe_callB call_isi rfl B.isi PyProof.Rows.boot_isinstance (pa_cons (pv 0) (pa_cons (pe_bltn (v := .ty "bool") rfl B.bool PyProof.Rows.boot_bool rfl) pa_nil))))))), ?_⟩
    refine ⟨_, rfl, _, _, _, _, rfl, .int i, kit_same, _, rfl, iteT ?_⟩
    exact ⟨_, rfl, _, _, _, _, rfl, .int i, kit_ib, _, rfl, k⟩
def spAt (K : PySem.W.Frag) : Sp := fun vs H Q _ => ∃ (a : Addr) (ns : List Int) (j : Nat), vs = [.ref a, .int j] ∧ SqL K H a (ns.map V.int) ∧ Q (.int (ns.getD j 0)) H
theorem scAt : FnScope ["_law_script", "_law_k"] ["_law_script", "_law_k"] (defScope sAt) := ⟨rfl, rfl, rfl, by decide +kernel, rfl, by decide +kernel, by decide +kernel⟩
theorem ok_at {f : Addr} {fd : FuncData} (F : Fun K "_law_at" "_law_at" sAt f fd) (B : Blt K mg) : FnOk P w K mg base CX0 1 f fd ["_law_script", "_law_k"] (spAt K) := by
  refine F.ok scAt (fun vs H Q E h => ?_) (fun cdv A outer s H vs Q E hr h => ?_)
  · obtain ⟨a, ns, j, rfl, _⟩ := h
    rfl
  · obtain ⟨a, ns, j, rfl, hS, k⟩ := h
    refine ⟨_, pss_cons (ps_if (pt_cmpR op_lt (pv 1) (pe_callB call_len_seq rfl B.len PySem.boot_len (pa_cons (pv 0) pa_nil)) (nomark _)) (pss_one (ps_ret (pe_ix ix_list (pv 0) (pv 1) (fun _ _ => rfl)))) pss_nil) (pss_one (ps_ret pe_int)), ?_⟩
    refine ⟨_, rfl, _, rfl, a, _, rfl, .inl hS, _, _, rfl, rfl, _, rfl, iteB (fun e => ?_) (fun e => ?_)⟩
    · have e := of_decide_eq_true e
      rw [List.length_map] at e
      have hj : j < ns.length := by omega
      have hg : ns.getD j 0 = ns[j] := by simp [List.getD, hj]
      rw [hg] at k
      exact ⟨_, rfl, _, rfl, a, _, _, _, rfl, rfl, hS, atI_nat (by simp [hj]), k⟩
    · have e := of_decide_eq_false e
      rw [List.length_map] at e
      have hj : ¬ j < ns.length := by omega
      have hg : ns.getD j 0 = 0 := by simp [List.getD, hj]
      rw [hg] at k
      exact k
end
section
variable {P : Program} {w : World} {K : PySem.W.Frag} {mg : Str → Option Value} {base : Heap}
def spRoom (K : PySem.W.Frag) : Sp := fun vs H Q _ => ∃ (a : Addr) (ns : List Int) (x y : V), vs = [.ref a, x, y] ∧ SqL K H a (ns.map V.int) ∧ ns.length ≤ 63 ∧ Q x H
theorem scRoom : FnScope ["_law_script", "_law_most", "_law_bound"] ["_law_script", "_law_most", "_law_bound"] (defScope sRoom) := ⟨rfl, rfl, rfl, by decide +kernel, rfl, by decide +kernel, by decide +kernel⟩
theorem ok_room {f : Addr} {fd : FuncData} (F : Fun K "_law_room" "_law_room" sRoom f fd) (B : Blt K mg) : FnOk P w K mg base CX0 1 f fd ["_law_script", "_law_most", "_law_bound"] (spRoom K) := by
  refine F.ok scRoom (fun vs H Q E h => ?_) (fun cdv A outer s H vs Q E hr h => ?_)
  · obtain ⟨a, ns, x, y, rfl, _⟩ := h
    rfl
  · obtain ⟨a, ns, x, y, rfl, hS, hl, k⟩ := h
    refine ⟨_, (pss_cons (ps_if (pt_cmpR op_gt (pe_callB call_len_seq rfl B.len PySem.boot_len (pa_cons (pv 0) pa_nil)) pe_int (nomark _)) (pss_one (ps_ret (pv 2))) pss_nil)
      (pss_one (ps_ret (pv 1)))), ?_⟩
    refine ⟨_, rfl, a, _, rfl, .inl hS, _, _, rfl, rfl, _, rfl, iteN (fun z => ?_) ⟨_, rfl, k⟩⟩
    rw [List.length_map] at z
    omega
theorem p60 : (0 : Int) < 10 ^ (60 : Int).toNat := by decide +kernel
/-- deeds at tuples of ours -/
abbrev TupDd (H : Hp) (t : Addr) (x : LW.Dd) : Prop := H t = some (.tup (ddV x))
def spDeeds (K : PySem.W.Frag) : Sp := fun vs H Q _ => ∃ (c : Addr) (F : Int) (ms : List Int), vs = [.ref c, .int F] ∧ SqL K H c (ms.map V.int) ∧ 2 ≤ F ∧ ms.length ≤ 200 ∧
  ∀ H' r ts xs, Same H H' → H r = none → H' r = some (.lst (ts.map V.ref)) → Paired (TupDd H') ts xs → ts.length = ms.length → Q (.ref r) H'
theorem scDeeds : FnScope ["_law_cells", "_law_floors", "_law_made", "_law_k", "_law_rest", "_law_start", "_law_goal", "_law_menu"] ["_law_cells", "_law_floors"] (defScope sDeeds) := ⟨rfl, rfl, rfl, by decide +kernel, rfl, by decide +kernel, by decide +kernel⟩
def AllI (xs : List V) : Prop := ∀ v ∈ xs, ∃ g, v = V.int g
theorem allI_nil : AllI [] := fun v hv => nomatch hv
theorem allI_cons {g : Int} {xs : List V} (h : AllI xs) : AllI (V.int g :: xs) := fun v hv => by
  rcases List.mem_cons.mp hv with rfl | hv
  · exact ⟨g, rfl⟩
  · exact h v hv
theorem rIx_ints {H : Hp} {p : Addr} {i : Int} {xs : List V} {Q : VK} (hp : H p = some (.lst xs)) (hall : AllI xs) (h0 : 0 ≤ i) (h1 : i < xs.length) (h : ∀ g, Q (.int g) H) : rIxL K (.ref p) (.int i) H Q := by
  obtain ⟨v, e, hm⟩ := atI_lt h0 h1
  obtain ⟨g, rfl⟩ := hall v hm
  exact ⟨p, xs, i, _, rfl, rfl, SqL.of hp, e, h g⟩
/-- so far: the list at r holds the tuples ts, they bear the deeds xs -/
structure HpD (H : Hp) (r : Addr) (i : Nat) (ts : List Addr) (xs : List LW.Dd) (H2 : Hp) : Prop where
  sm : Same H H2
  er : H2 r = some (.lst (ts.map V.ref))
  ep : Paired (TupDd H2) ts xs
  el : ts.length = i
def PvD (H : Hp) (c r : Addr) (F : Int) (i : Nat) (σ : St) (H2 : Hp) : Prop := ∃ (ts : List Addr) (xs : List LW.Dd) (v3 v4 v5 v6 v7 : Option V), σ = [some (.ref c), some (.int F), some (.ref r), v3, v4, v5, v6, v7] ∧ HpD H r i ts xs H2
theorem hpD_put {H H2 H3 : Hp} {r t : Addr} {i : Nat} {ts : List Addr} {xs : List LW.Dd} (A : HpD H r i ts xs H2) (s3 : Same H2 H3) (ht : H3 t = none) (hr0 : H r = none) (x : LW.Dd) : HpD H r (i + 1) (ts ++ [t]) (xs ++ [x]) (upd (upd H3 t (.tup (ddV x))) r (.lst (ts.map V.ref ++ [V.ref t]))) := by
  have tr : t ≠ r := fun z => by subst z; rw [s3 _ _ A.er] at ht; cases ht
  have s4 : Same H2 (upd H3 t (.tup (ddV x))) := s3.trans (Same.new ht)
  have nr : ∀ b ∈ ts, b ≠ r := fun b hb z => by
    subst z
    obtain ⟨y, _, e⟩ := Paired.mem A.ep hb
    have e : H2 b = some (.tup (ddV y)) := e
    rw [A.er] at e; cases e
  have keep : ∀ {us : List Addr} {ys : List LW.Dd} {o : HO}, (∀ b ∈ us, b ≠ r) → Paired (TupDd H2) us ys → Paired (TupDd (upd (upd H3 t (.tup (ddV x))) r o)) us ys := by
    intro us
    induction us with
    | nil => intro ys o _ q; cases q; exact .nil
    | cons b us ih =>
      intro ys o h q
      cases q with
      | cons q1 qq => exact .cons ((upd_ne (h b List.mem_cons_self)).trans (s4 _ _ q1)) (ih (fun b hb => h b (List.mem_cons_of_mem _ hb)) qq)
  refine ⟨fun b o e => ?_, ?_, PySem.Paired.snoc (keep nr A.ep) ((upd_ne tr).trans upd_same), ?_⟩
  · rw [upd_ne (ne_of_none e hr0)]; exact s4 _ _ (A.sm _ _ e)
  · rw [upd_same, List.map_append]; rfl
  · rw [List.length_append, List.length_singleton, A.el]
theorem deed_press {H H2 H3 : Hp} {c r : Addr} {F s g : Int} {i : Nat} {ts : List Addr} {xs : List LW.Dd} {u3 u4 u7 : Option V} {Dn : Ends} (A : HpD H r i ts xs H2) (s3 : Same H2 H3) (hr0 : H r = none) (hi : i ≤ 900) (hn : ∀ σ' H', PvD H c r F (i + 1) σ' H' → Dn.nx σ' H') :
    tDrop (tBM K "list" rAppend (tVar 2) (tCons (tTup (tCons (tC (.str "press")) (tCons (tVar 5) (tCons (tVar 6) tNil)))) tNil)) Dn [some (.ref c), some (.int F), some (.ref r), u3, u4, some (.int s), some (.int g), u7] H3 := by
  refine ⟨_, rfl, .inl ⟨rfl, _, SqL.of (s3 _ _ A.er)⟩, _, rfl, _, rfl, sz 3 (by decide), fun t ht => ?_⟩
  refine ⟨r, _, _, rfl, rfl, (Same.new ht) _ _ (s3 _ _ A.er), (by rw [List.length_map, A.el]; exact small1000 (by omega)), ?_⟩
  exact hn _ _ ⟨_, _, _, _, _, _, _, rfl, hpD_put A s3 ht hr0 (.press s g)⟩
theorem deed_tick {H H2 H3 : Hp} {c r : Addr} {F : Int} {i : Nat} {ts : List Addr} {xs : List LW.Dd} {u3 u4 u5 u6 u7 : Option V} {Dn : Ends} (A : HpD H r i ts xs H2) (s3 : Same H2 H3) (hr0 : H r = none) (hi : i ≤ 900) (hn : ∀ σ' H', PvD H c r F (i + 1) σ' H' → Dn.nx σ' H') :
    tDrop (tBM K "list" rAppend (tVar 2) (tCons (tTup (tCons (tC (.str "tick")) tNil)) tNil)) Dn [some (.ref c), some (.int F), some (.ref r), u3, u4, u5, u6, u7] H3 := by
  refine ⟨_, rfl, .inl ⟨rfl, _, SqL.of (s3 _ _ A.er)⟩, sz 1 (by decide), fun t ht => ?_⟩
  refine ⟨r, _, _, rfl, rfl, (Same.new ht) _ _ (s3 _ _ A.er), (by rw [List.length_map, A.el]; exact small1000 (by omega)), ?_⟩
  exact hn _ _ ⟨_, _, _, _, _, _, _, rfl, hpD_put A s3 ht hr0 .tick⟩
theorem ok_deeds {f : Addr} {fd : FuncData} (F : Fun K "_law_deeds" "_law_deeds" sDeeds f fd) (B : Blt K mg) : FnOk P w K mg base CX0 1 f fd ["_law_cells", "_law_floors"] (spDeeds K) := by
  refine F.ok scDeeds (fun vs H Q E h => ?_) (fun cdv A outer s H vs Q E hr h => ?_)
  · obtain ⟨c, F, ms, rfl, _⟩ := h
    rfl
  · obtain ⟨c, F, ms, rfl, hS, hF, hl, k⟩ := h
    refine ⟨_, (pss_cons (ps_set (i := 2) scDeeds.nd rfl (Or.inl rfl) (pe_lst pa_nil))
      (pss_cons (ps_for PassesOwn.never rfl (pi_range1 rfl B.range (pa_cons (pe_callB call_len_seq rfl B.len PySem.boot_len (pa_cons (pv 0) pa_nil)) pa_nil)) (pg_name (i := 3) scDeeds.nd rfl (Or.inl rfl)) (pss_cons (ps_set (i := 4) scDeeds.nd rfl (Or.inl rfl) (pe_op op_fdiv (pe_ix ix_list (pv 0) (pv 3) (fun _ _ => rfl)) pe_int))
      (pss_one (ps_if (pt_cmpR op_lt (pe_op op_mod (pe_op op_add (pe_ix ix_list (pv 0) (pv 3) (fun _ _ => rfl)) (pv 3)) pe_int) pe_int (nomark _)) (pss_cons (ps_set (i := 5) scDeeds.nd rfl (Or.inl rfl) (pe_op op_mod (pe_op op_add (pv 4) (pe_op op_mul pe_int (pv 3))) (pv 1)))
      (pss_cons (ps_set (i := 6) scDeeds.nd rfl (Or.inl rfl) (pe_op op_mod (pe_op op_add (pe_op op_add (pv 5) pe_int) (pe_op op_mod (pe_op op_add (pe_op op_fdiv (pv 4) pe_int) (pv 3)) (pe_op op_sub (pv 1) pe_int))) (pv 1)))
      (pss_cons (ps_if (pt_cmpR op_eq (pe_op op_mod (pe_ix ix_list (pv 0) (pv 3) (fun _ _ => rfl)) pe_int) pe_int (nomark _)) (pss_cons (ps_set (i := 7) scDeeds.nd rfl (Or.inl rfl) (pe_lst (pa_cons (pv 5) (pa_cons (pe_un un_neg pe_int) (pa_cons (pv 1) (pa_cons (pe_op op_pow pe_int pe_int) (pa_cons (pe_op op_add (pv 1) (pe_op op_mod (pv 4) (pe_op op_pow pe_int pe_int))) (pa_cons (pe_op op_sub (pe_un un_neg pe_int) (pe_op op_mod (pv 4) (pe_op op_pow pe_int pe_int))) pa_nil))))))))
      (pss_one (ps_set (i := 6) scDeeds.nd rfl (Or.inl rfl) (pe_ix ix_list (pv 7) (pe_op op_mod (pv 4) pe_int) (fun _ _ => rfl))))) pss_nil)
      (pss_cons (ps_if (pt_cmpR op_eq (pe_op op_mod (pe_ix ix_list (pv 0) (pv 3) (fun _ _ => rfl)) pe_int) pe_int (nomark _)) (pss_one (ps_set (i := 5) scDeeds.nd rfl (Or.inl rfl) (pe_ix ix_list (pe_lst (pa_cons (pe_un un_neg pe_int) (pa_cons (pv 1) (pa_cons (pe_op op_add (pv 1) pe_int) (pa_cons (pe_un un_neg (pe_op op_pow pe_int pe_int)) (pa_cons (pe_op op_add (pv 1) (pe_op op_mod (pv 4) (pe_op op_pow pe_int pe_int))) pa_nil)))))) (pe_op op_mod (pv 4) pe_int) (fun _ _ => rfl)))) pss_nil)
      (pss_one (ps_expr (pe_append (pv 2) (pe_tup (pa_cons pe_str (pa_cons (pv 5) (pa_cons (pv 6) pa_nil))))))))))) (pss_one (ps_expr (pe_append (pv 2) (pe_tup (pa_cons pe_str pa_nil)))))))))
      (pss_one (ps_ret (pv 2))))), ?_⟩
    refine ⟨Nat.zero_le _, fun r hr0 => ?_⟩
    have s0 : Same H (upd H r (.lst [])) := Same.new hr0
    refine ⟨_, rfl, c, _, rfl, .inl (s0.seq hS), _, rfl, ?_, ?_, for_range (PvD H c r F) ⟨[], [], none, none, none, none, none, rfl, s0, upd_same, .nil, rfl⟩ ?_ ?_⟩
    · omega
    · rw [List.length_map]; omega
    · rintro i σ H2 hi ⟨ts, xs, v3, v4, v5, v6, v7, rfl, A⟩
      have hi : i < ms.length := by rw [List.length_map] at hi; omega
      have e0 : (0 : Int) + (i : Int) = (i : Int) := by omega
      rw [e0]
      have at1 : atI (ms.map V.int) (i : Int) = some (.int ms[i]) := atI_nat (by simp [hi])
      generalize ms[i] = z at at1
      have s2 := A.sm
      -- rest
      refine ⟨_, rfl, _, rfl, c, _, _, _, rfl, rfl, s2.seq hS, at1, _, _, rfl, rfl, ⟨by decide, by decide⟩, ?_⟩
      refine ⟨_, rfl, _, rfl, c, _, _, _, rfl, rfl, s2.seq hS, at1, _, rfl, _, _, rfl, rfl, _, _, rfl, rfl, (by show (0 : Int) < 8; decide), _, _, rfl, rfl, _, rfl, iteB (fun _ => ?_) (fun _ => ?_)⟩
      · -- start, goal
        refine ⟨_, rfl, _, rfl, _, _, rfl, rfl, .inl ⟨by decide, by decide⟩, _, _, rfl, rfl, _, rfl, _, _, rfl, rfl, (by show (0 : Int) < F; omega), ?_⟩
        refine ⟨_, rfl, _, _, rfl, rfl, _, rfl, _, _, rfl, rfl, ⟨by decide, by decide⟩, _, rfl, _, _, rfl, rfl, _, rfl, _, _, rfl, rfl, _, _, rfl, rfl, (by show (0 : Int) < F - 1; omega), _, _, rfl, rfl, _, rfl, _, _, rfl, rfl, (by show (0 : Int) < F; omega), ?_⟩
        refine ⟨_, rfl, _, rfl, c, _, _, _, rfl, rfl, s2.seq hS, at1, _, _, rfl, rfl, (by show (0 : Int) < 17; decide), rfl, _, rfl, iteB (fun _ => ?_) (fun _ => ?_)⟩
        · refine ⟨_, rfl, _, rfl, _, rfl, _, _, rfl, rfl, ⟨by decide, by decide, by decide⟩, _, rfl, _, rfl, _, _, rfl, rfl, ⟨by decide, by decide, by decide⟩, _, _, rfl, rfl, p60, _, _, rfl, rfl, _, rfl, _, rfl, _, _, rfl, rfl, ⟨by decide, by decide, by decide⟩, _, _, rfl, rfl, p60, _, _, rfl, rfl, sz 6 (by decide), fun p1 hp1 => ?_⟩
          refine ⟨_, rfl, _, rfl, _, _, rfl, rfl, (by show (0 : Int) < 6; decide), rIx_ints upd_same (allI_cons (allI_cons (allI_cons (allI_cons (allI_cons (allI_cons allI_nil)))))) (by show (0 : Int) ≤ z / 8 % 6; omega) (by show z / 8 % 6 < (6 : Int); omega) fun g => ?_⟩
          have s3 := fun o => Same.new (o := o) hp1
          refine ⟨_, rfl, _, rfl, c, _, _, _, rfl, rfl, (s2.trans (s3 _)).seq hS, at1, _, _, rfl, rfl, (by show (0 : Int) < 17; decide), rfl, _, rfl, iteB (fun _ => ?_) (fun _ => ?_)⟩
          · refine ⟨_, rfl, _, rfl, _, rfl, _, _, rfl, rfl, _, _, rfl, rfl, ⟨by decide, by decide, by decide⟩, _, rfl, _, rfl, _, rfl, _, _, rfl, rfl, ⟨by decide, by decide, by decide⟩, _, _, rfl, rfl, p60, _, _, rfl, rfl, sz 5 (by decide), fun p2 hp2 => ?_⟩
            refine ⟨_, rfl, _, _, rfl, rfl, (by show (0 : Int) < 5; decide), rIx_ints upd_same (allI_cons (allI_cons (allI_cons (allI_cons (allI_cons allI_nil))))) (by show (0 : Int) ≤ z / 8 % 5; omega) (by show z / 8 % 5 < (5 : Int); omega) fun st => ?_⟩
            exact deed_press A ((s3 _).trans (Same.new hp2)) hr0 (by omega) fun _ _ h => h
          · exact deed_press A (s3 _) hr0 (by omega) fun _ _ h => h
        · refine ⟨_, rfl, _, rfl, c, _, _, _, rfl, rfl, s2.seq hS, at1, _, _, rfl, rfl, (by show (0 : Int) < 17; decide), rfl, _, rfl, iteB (fun _ => ?_) (fun _ => ?_)⟩
          · refine ⟨_, rfl, _, rfl, _, rfl, _, _, rfl, rfl, _, _, rfl, rfl, ⟨by decide, by decide, by decide⟩, _, rfl, _, rfl, _, rfl, _, _, rfl, rfl, ⟨by decide, by decide, by decide⟩, _, _, rfl, rfl, p60, _, _, rfl, rfl, sz 5 (by decide), fun p2 hp2 => ?_⟩
            refine ⟨_, rfl, _, _, rfl, rfl, (by show (0 : Int) < 5; decide), rIx_ints upd_same (allI_cons (allI_cons (allI_cons (allI_cons (allI_cons allI_nil))))) (by show (0 : Int) ≤ z / 8 % 5; omega) (by show z / 8 % 5 < (5 : Int); omega) fun st => ?_⟩
            exact deed_press A (Same.new hp2) hr0 (by omega) fun _ _ h => h
          · exact deed_press A (Same.refl _) hr0 (by omega) fun _ _ h => h
      · exact deed_tick A (Same.refl _) hr0 (by omega) fun _ _ h => h
    · rintro σ H2 ⟨ts, xs, v3, v4, v5, v6, v7, rfl, A⟩
      have el := A.el
      rw [List.length_map] at el
      exact ⟨_, rfl, k H2 r ts xs A.sm hr0 A.er A.ep (by omega)⟩
end
/-- the lift's state as the law's tuple -/
def stV (l : LW.Lf) : List V := [.int l.floor, .str (wd l.up), .bl l.apart, .bl l.new]
section
variable {P : Program} {w : World} {K : PySem.W.Frag} {mg : Str → Option Value} {base : Heap}
def vGt (h : Int) : V → Bool
  | .int z => decide (h < z)
  | _ => false
def vLt (h : Int) : V → Bool
  | .int z => decide (z < h)
  | _ => false
theorem filter_int (p : V → Bool) : ∀ ws : List Int, ((ws.map V.int).filter p).map (fun v => v) = (ws.filter fun z => p (V.int z)).map V.int
  | [] => rfl
  | z :: ws => by
    rw [List.map_cons, List.filter_cons, List.filter_cons]
    split
    · rw [List.map_cons, List.map_cons, filter_int p ws]
    · exact filter_int p ws
theorem mem_int {ws : List Int} {v : V} (h : v ∈ ws.map V.int) : ∃ z ∈ ws, v = V.int z := by
  obtain ⟨z, hz, e⟩ := List.mem_map.mp h
  exact ⟨z, hz, e.symm⟩
def spDue (K : PySem.W.Frag) : Sp := fun vs H Q _ => ∃ (st a : Addr) (l : LW.Lf) (ws : List Int), vs = [.ref st, .ref a] ∧ SqT K H st (stV l) ∧ SqL K H a (ws.map V.int) ∧ ws.length ≤ 1000 ∧ ∀ H', Same H H' → Q (.str (wordS (LW.ruleW l ws))) H'
theorem scDue : FnScope ["_law_state", "_law_wanted", "_law_here", "_law_way", "_law_doors", "_law_fresh", "_law_above", "_law_below"] ["_law_state", "_law_wanted"] (defScope sDue) := ⟨rfl, rfl, rfl, by decide +kernel, rfl, by decide +kernel, by decide +kernel⟩
theorem ok_due {f : Addr} {fd : FuncData} (F : Fun K "_law_rule_for" "_law_rule_for" sDue f fd) : FnOk P w K mg base CX0 1 f fd ["_law_state", "_law_wanted"] (spDue K) := by
  refine F.ok scDue (fun vs H Q E h => ?_) (fun cdv A outer s H vs Q E hr h => ?_)
  · obtain ⟨st, a, l, ws, rfl, _⟩ := h
    rfl
  · obtain ⟨st, a, l, ws, rfl, hT, hS, hl, k⟩ := h
    have hu := hr.units0
    have hz : (ws.map V.int).length ≤ sizeLine := by rw [List.length_map]; exact Nat.le_of_lt (small1000 hl)
    refine ⟨_, (pss_cons (ps_asg (pv 0) (pg_tup rfl (pgs_cons (pg_name (i := 2) scDue.nd rfl (Or.inr rfl)) (pgs_cons (pg_name (i := 3) scDue.nd rfl (Or.inl rfl)) (pgs_cons (pg_name (i := 4) scDue.nd rfl (Or.inl rfl)) (pgs_cons (pg_name (i := 5) scDue.nd rfl (Or.inl rfl)) pgs_nil))))))
      (pss_cons (ps_setComp (i := 6) (compSc1 (x := "_law_floor") (y := "_law_here") (j := 2) rfl rfl (by decide) (by decide) (by decide) rfl rfl rfl rfl) rfl scDue.nd rfl (Or.inl rfl) (pi_list (pv 1)) (fun _ _ _ => pif_one (pt_cmpR op_gt (pv 0) (pv 1) (nomark _))) (fun _ _ _ => pv 0) rfl)
      (pss_cons (ps_setComp (i := 7) (compSc1 (x := "_law_floor") (y := "_law_here") (j := 2) rfl rfl (by decide) (by decide) (by decide) rfl rfl rfl rfl) rfl scDue.nd rfl (Or.inl rfl) (pi_list (pv 1)) (fun _ _ _ => pif_one (pt_cmpR op_lt (pv 0) (pv 1) (nomark _))) (fun _ _ _ => pv 0) rfl)
      (pss_cons (ps_if (pt_truth (pv 4) (fun _ => rfl)) (pss_one (ps_ret pe_str)) pss_nil)
      (pss_cons (ps_if (PW.pt (pw_and (pt_cmpR op_in_seq (pv 2) (pv 1) (by with_unfolding_all rfl)) (pw_and1 (PW.pt (pw_or (pt_truth (pv 5) (fun _ => rfl)) (pw_or1 (pt_cmpR (op_eqNil hu) (pe_op op_cat (pv 6) (pv 7)) (pe_lst pa_nil) (nomark _)))))))) (pss_one (ps_ret pe_str)) pss_nil)
      (pss_cons (ps_if (PW.pt (pw_and (pt_cmpR (op_neNil hu) (pv 6) (pe_lst pa_nil) (nomark _)) (pw_and1 (PW.pt (pw_or (pt_cmpR op_eq (pv 3) pe_str (nomark _)) (pw_or1 (pt_cmpR (op_eqNil hu) (pv 7) (pe_lst pa_nil) (nomark _)))))))) (pss_one (ps_ret pe_str)) pss_nil)
      (pss_cons (ps_if (pt_cmpR (op_neNil hu) (pv 7) (pe_lst pa_nil) (nomark _)) (pss_one (ps_ret pe_str)) pss_nil)
      (pss_one (ps_ret pe_str))))))))), ?_⟩
    refine ⟨_, rfl, st, _, rfl, hT, rfl, _, _, rfl, _, _, rfl, _, _, rfl, _, _, rfl, rfl, ?_⟩
    refine ⟨_, rfl, a, rfl, ⟨_, hS⟩, comp_list (K := K) (vGt l.floor) (fun v => v) hS hz (fun v hv H' _ R hR => ?_) (fun v hv _ H' _ R hR => ⟨_, rfl, hR⟩) fun D1 hD1 => ?_⟩
    · obtain ⟨z, _, rfl⟩ := mem_int hv
      exact ⟨_, rfl, _, rfl, _, _, rfl, rfl, _, rfl, hR⟩
    have s1 : Same H (upd H D1 (.lst (((ws.map V.int).filter (vGt l.floor)).map fun v => v))) := Same.new hD1
    rw [filter_int] at s1 ⊢
    refine ⟨_, rfl, a, rfl, ⟨_, s1.seq hS⟩, comp_list (K := K) (vLt l.floor) (fun v => v) (s1.seq hS) hz (fun v hv H' _ R hR => ?_) (fun v hv _ H' _ R hR => ⟨_, rfl, hR⟩) fun D2 hD2 => ?_⟩
    · obtain ⟨z, _, rfl⟩ := mem_int hv
      exact ⟨_, rfl, _, rfl, _, _, rfl, rfl, _, rfl, hR⟩
    rw [filter_int]
    have hA : (ws.filter fun z => decide (l.floor < z)) = ws.filter fun z => vGt l.floor (V.int z) := rfl
    have hB : (ws.filter fun z => decide (z < l.floor)) = ws.filter fun z => vLt l.floor (V.int z) := rfl
    unfold LW.ruleW at k
    dsimp only at k
    rw [hA, hB] at k
    have la : (ws.filter fun z => vGt l.floor (V.int z)).length ≤ 1000 := Nat.le_trans (List.length_filter_le _ _) hl
    have lb : (ws.filter fun z => vLt l.floor (V.int z)).length ≤ 1000 := Nat.le_trans (List.length_filter_le _ _) hl
    generalize (ws.filter fun z => vGt l.floor (V.int z)) = wa at *
    generalize (ws.filter fun z => vLt l.floor (V.int z)) = wb at *
    generalize hH2 : upd (upd H D1 (.lst (wa.map V.int))) D2 (.lst (wb.map V.int)) = H2
    have s2 : Same H H2 := by rw [← hH2]; exact s1.trans (Same.new hD2)
    have g1 : H2 D1 = some (.lst (wa.map V.int)) := by rw [← hH2]; exact Same.new hD2 _ _ upd_same
    have g2 : H2 D2 = some (.lst (wb.map V.int)) := by rw [← hH2]; exact upd_same
    have ea : (wa.map V.int).isEmpty = wa.isEmpty := List.isEmpty_map
    have eb : (wb.map V.int).isEmpty = wb.isEmpty := List.isEmpty_map
    clear hH2 s1 hD1 hD2 hA hB
    refine ⟨_, rfl, _, rfl, iteB (fun e => ?_) (fun e => ?_)⟩
    · have e : l.apart = true := e
      rw [if_pos e] at k
      exact k _ s2
    have e : l.apart = false := e
    rw [if_neg (by rw [e]; exact Bool.false_ne_true)] at k
    -- the last two rules
    have T3 : (∀ H', Same H H' → Q (.str (wordS (if (!wb.isEmpty) = true then .go false else .rest))) H') → ∀ H4, Same H2 H4 → tSeq (tIfS (tTest (tOp (rNeNil K) (tVar 7) (tLst tNil))) (tRet (tC (.str "down"))) tNext) (tRet (tC (.str "rest")))
        { nx := fun _ H' => Q .non H', rt := Q } [some (.ref st), some (.ref a), some (.int l.floor), some (.str (wd l.up)), some (.bl l.apart), some (.bl l.new), some (.ref D1), some (.ref D2)] H4 := fun k3 H4 s4 => by
      refine ⟨_, rfl, Nat.zero_le _, fun p hp => ⟨D2, p, _, rfl, rfl, .inl (.inl (Same.new hp _ _ (s4 _ _ g2))), .inl (.inl upd_same), _, rfl, ?_⟩⟩
      rw [eb]
      have s5 := s2.trans (s4.trans (Same.new (o := .lst []) hp))
      cases hb : wb.isEmpty with
      | true => rw [hb] at k3; exact iteF (k3 _ s5)
      | false => rw [hb] at k3; exact iteT (k3 _ s5)
    -- the third rule
    have T2 : (∀ H', Same H H' → Q (.str (wordS (if (!wa.isEmpty && (l.up || wb.isEmpty)) = true then .go true else if (!wb.isEmpty) = true then .go false else .rest))) H') → ∀ H4, Same H2 H4 →
        tSeq (tIfS (tAnd (tTest (tOp (rNeNil K) (tVar 6) (tLst tNil))) (tOr (tTest (tOp rEq (tVar 3) (tC (.str "up")))) (tTest (tOp (rEqNil K) (tVar 7) (tLst tNil))))) (tRet (tC (.str "up"))) tNext)
          (tSeq (tIfS (tTest (tOp (rNeNil K) (tVar 7) (tLst tNil))) (tRet (tC (.str "down"))) tNext) (tRet (tC (.str "rest"))))
        { nx := fun _ H' => Q .non H', rt := Q } [some (.ref st), some (.ref a), some (.int l.floor), some (.str (wd l.up)), some (.bl l.apart), some (.bl l.new), some (.ref D1), some (.ref D2)] H4 := fun k2 H4 s4 => by
      refine ⟨_, rfl, Nat.zero_le _, fun p hp => ⟨D1, p, _, rfl, rfl, .inl (.inl (Same.new hp _ _ (s4 _ _ g1))), .inl (.inl upd_same), _, rfl, ?_⟩⟩
      rw [ea]
      have s5 := s4.trans (Same.new (o := .lst []) hp)
      cases ha : wa.isEmpty with
      | true =>
        rw [ha] at k2
        exact iteF (iteF (T3 k2 _ s5))
      | false =>
        rw [ha] at k2
        refine iteT ?_
        cases hup : l.up with
        | true =>
          rw [hup] at k2
          exact ⟨_, rfl, rfl, _, rfl, iteY rfl (iteT (k2 _ (s2.trans s5)))⟩
        | false =>
          rw [hup] at k2
          refine ⟨_, rfl, rfl, _, rfl, iteN duV ?_⟩
          refine ⟨_, rfl, Nat.zero_le _, fun p2 hp2 => ⟨D2, p2, _, rfl, rfl, .inl (.inl (Same.new hp2 _ _ (s5 _ _ g2))), .inl (.inl upd_same), _, rfl, ?_⟩⟩
          have s6 := s5.trans (Same.new (o := .lst []) hp2)
          rw [eb]
          cases hb : wb.isEmpty with
          | true => rw [hb] at k2; exact iteT (k2 _ (s2.trans s6))
          | false =>
            rw [hb] at k2
            have := T3 (by rw [hb]; exact k2) _ s6
            rw [hup] at this
            exact iteF this
    refine ⟨_, rfl, _, rfl, a, _, rfl, .inl (s2.seq hS), rfl, all_flat _, _, rfl, ?_⟩
    have hin : (if false = true then !inV (V.int l.floor) (ws.map V.int) else inV (V.int l.floor) (ws.map V.int)) = LW.hasF l.floor ws := by rw [if_neg Bool.false_ne_true]; exact in_ints _ _
    rw [hin]
    cases hh : LW.hasF l.floor ws with
    | false =>
      rw [hh] at k
      exact iteF (iteF (T2 k _ (Same.refl _)))
    | true =>
      rw [hh] at k
      refine iteT ⟨_, rfl, _, rfl, iteB (fun en => ?_) (fun en => ?_)⟩
      · have en : l.new = true := en
        rw [en] at k
        exact iteT (k _ s2)
      · have en : l.new = false := en
        rw [en] at k
        refine ⟨_, rfl, _, rfl, D1, D2, _, _, rfl, rfl, g1, g2, (by rw [List.length_map, List.length_map]; exact sz2000 (by omega)), fun p1 hp1 => ⟨Nat.zero_le _, fun p2 hp2 => ?_⟩⟩
        refine ⟨p1, p2, _, rfl, rfl, .inl (.inl (Same.new hp2 _ _ upd_same)), .inl (.inl upd_same), _, rfl, ?_⟩
        have s3 : Same H2 (upd (upd H2 p1 (.lst (wa.map V.int ++ wb.map V.int))) p2 (.lst [])) := (Same.new hp1).trans (Same.new hp2)
        have e3 : (wa.map V.int ++ wb.map V.int).isEmpty = (wa ++ wb).isEmpty := by rw [LW.append_empty, LW.append_empty, ea, eb]
        rw [e3]
        cases h3 : (wa ++ wb).isEmpty with
        | true => rw [h3] at k; exact iteT (k _ (s2.trans s3))
        | false => rw [h3] at k; exact iteF (T2 k _ s3)
end
/-! ### the law's own people -/
structure LawP (row : LW.Pp → List V) (F0 H : Hp) (lp : Addr) (rs : List Addr) (ps : List LW.Pp) : Prop where
  list : H lp = some (.lst (rs.map V.ref))
  pp : Paired (fun r p => H r = some (.lst (row p))) rs ps
  nd : rs.Nodup
  no : lp ∉ rs
  out : Same F0 H
  fl : F0 lp = none
  fr : ∀ r ∈ rs, F0 r = none
section
variable {row : LW.Pp → List V} {F0 H : Hp} {lp : Addr} {rs : List Addr} {ps : List LW.Pp}
theorem LawP.len (A : LawP row F0 H lp rs ps) : rs.length = ps.length := PySem.Paired.length A.pp
theorem LawP.same {H' : Hp} (A : LawP row F0 H lp rs ps) (s : Same H H') : LawP row F0 H' lp rs ps :=
  ⟨s _ _ A.list, L2.Paired.mapP A.pp fun _ _ h => s _ _ h, A.nd, A.no, A.out.trans s, A.fl, A.fr⟩
theorem rows_upd {g : Addr} {o : HO} (h : ∀ r ∈ rs, r ≠ g) (q : Paired (fun r p => H r = some (.lst (row p))) rs ps) : Paired (fun r p => (upd H g o) r = some (.lst (row p))) rs ps := by
  induction rs generalizing ps with
  | nil => cases q; exact .nil
  | cons x xs ih =>
    cases q with
    | cons q1 qq => exact .cons ((upd_ne (h x List.mem_cons_self)).trans q1) (ih (fun r hr => h r (List.mem_cons_of_mem _ hr)) qq)
theorem rows_set {r : Addr} {p' : LW.Pp} : ∀ {rs : List Addr} {ps : List LW.Pp} {i : Nat}, rs.Nodup → rs[i]? = some r → Paired (fun r p => H r = some (.lst (row p))) rs ps → Paired (fun b p => (upd H r (.lst (row p'))) b = some (.lst (row p))) rs (ps.set i p')
  | [], _, _, _, e, _ => by simp at e
  | x :: xs, _, 0, nd, e, .cons q qq => by
    have e : x = r := by simpa using e
    subst e
    exact .cons upd_same (rows_upd (fun y hy z => (List.nodup_cons.mp nd).1 (z ▸ hy)) qq)
  | x :: xs, _, i + 1, nd, e, .cons q qq => by
    have e : xs[i]? = some r := by simpa using e
    have hx : x ≠ r := fun z => (List.nodup_cons.mp nd).1 (z ▸ List.mem_of_getElem? e)
    exact .cons ((upd_ne hx).trans q) (rows_set (List.nodup_cons.mp nd).2 e qq)
theorem LawP.set {r : Addr} {i : Nat} {p' : LW.Pp} (A : LawP row F0 H lp rs ps) (hr : rs[i]? = some r) : LawP row F0 (upd H r (.lst (row p'))) lp rs (ps.set i p') := by
  have hm := List.mem_of_getElem? hr
  have n1 : lp ≠ r := fun z => A.no (z ▸ hm)
  exact ⟨(upd_ne n1).trans A.list, rows_set A.nd hr A.pp, A.nd, A.no, out_upd A.out (A.fr r hm), A.fl, A.fr⟩
theorem LawP.push {r : Addr} {p : LW.Pp} (A : LawP row F0 H lp rs ps) (hr : H r = none) : LawP row F0 (upd (upd H r (.lst (row p))) lp (.lst (rs.map V.ref ++ [V.ref r]))) lp (rs ++ [r]) (ps ++ [p]) := by
  have n1 : r ≠ lp := fun z => by subst z; rw [A.list] at hr; cases hr
  have n2 : r ∉ rs := fun hm => by
    obtain ⟨q, _, e⟩ := Paired.mem A.pp hm
    rw [hr] at e; cases e
  have A1 := A.same (Same.new (o := .lst (row p)) hr)
  refine ⟨by rw [upd_same, List.map_append]; rfl, PySem.Paired.snoc (rows_upd (fun b hb z => A.no (z ▸ hb)) A1.pp) ((upd_ne n1).trans upd_same), ?_, ?_, out_upd A1.out A.fl, A.fl, fun b hb => ?_⟩
  · rw [List.nodup_append]
    refine ⟨A.nd, by simp, fun a ha b hb z => ?_⟩
    have : b = r := by simpa using hb
    subst this; subst z
    exact n2 ha
  · intro hm
    rcases List.mem_append.mp hm with h | h
    · exact A.no h
    · have : lp = r := by simpa using h
      exact n1 this.symm
  · rcases List.mem_append.mp hb with h | h
    · exact A.fr b h
    · have : b = r := by simpa using h
      subst this
      exact A.out.free hr
theorem set_same {α : Type} {xs : List α} {i : Nat} {x : α} (h : xs[i]? = some x) : xs.set i x = xs := by
  apply List.ext_getElem?
  intro j
  by_cases hj : j = i
  · subst hj
    rw [h, List.getElem?_set_self (List.getElem?_eq_some_iff.mp h).1]
  · rw [List.getElem?_set_ne (Ne.symm hj)]
end
def phS : LW.Ph → Str
  | .waits => "waits"
  | .rides => "rides"
  | .left => "left"
def rowW (p : LW.Pp) : List V := [.int p.start, .int p.goal, .str (phS p.ph)]
theorem ph_eq {a b : LW.Ph} : (V.str (phS a) = V.str (phS b)) ↔ a = b := by
  constructor
  · intro h
    have h := V.str.inj h
    cases a <;> cases b <;> first | rfl | exact absurd h (by decide +kernel)
  · rintro rfl; rfl
section
variable {P : Program} {w : World} {K : PySem.W.Frag} {mg : Str → Option Value} {base : Heap}
def spLet : Sp := fun vs H Q _ => ∃ (lp : Addr) (h t : Int) (F0 : Hp) (rs : List Addr) (ps : List LW.Pp), vs = [.ref lp, .int h] ∧ LawP rowW F0 H lp rs ps ∧ (∀ p ∈ ps, p.entered = none → p.left = none) ∧ ∀ H', LawP rowW F0 H' lp rs (LW.swap h t ps) → Q .non H'
theorem scLet : FnScope ["_law_people", "_law_here", "_law_person"] ["_law_people", "_law_here"] (defScope sLet) := ⟨rfl, rfl, rfl, by decide +kernel, rfl, by decide +kernel, by decide +kernel⟩
theorem ok_let {f : Addr} {fd : FuncData} (F : Fun K "_law_let" "_law_let" sLet f fd) : FnOk P w K mg base CX0 1 f fd ["_law_people", "_law_here"] spLet := by
  refine F.ok scLet (fun vs H Q E h => ?_) (fun cdv A outer s H vs Q E hr h => ?_)
  · obtain ⟨lp, h, t, F0, rs, ps, rfl, _⟩ := h
    rfl
  · obtain ⟨lp, h, t, F0, rs, ps, rfl, A0, sane, k⟩ := h
    refine ⟨_, (pss_one (ps_for PassesOwn.never rfl (pi_list (pv 0)) (pg_name (i := 2) scLet.nd rfl (Or.inl rfl)) (pss_one (ps_if (PW.pt (pw_and (pt_cmpR op_eq (pe_ix ix_list (pv 2) pe_int (fun _ _ => rfl)) pe_str (nomark _)) (pw_and1 (pt_cmpR op_eq (pe_ix ix_list (pv 2) pe_int (fun _ _ => rfl)) (pv 1) (nomark _))))) (pss_one (ps_asg pe_str (pg_sub (pv 2) pe_int set_list))) (pss_one (ps_if (PW.pt (pw_and (pt_cmpR op_eq (pe_ix ix_list (pv 2) pe_int (fun _ _ => rfl)) pe_str (nomark _)) (pw_and1 (pt_cmpR op_eq (pe_ix ix_list (pv 2) pe_int (fun _ _ => rfl)) (pv 1) (nomark _))))) (pss_one (ps_asg pe_str (pg_sub (pv 2) pe_int set_list))) pss_nil)))))), ?_⟩
    refine ⟨_, rfl, lp, rfl, ⟨_, SqL.of A0.list⟩, for_list (K := K) (a := lp) (xs := rs.map V.ref) (fun i σ H2 => ∃ v2, σ = [some (.ref lp), some (.int h), v2] ∧ LawP rowW F0 H2 lp rs (part_ h t i ps)) ⟨none, rfl, ?_⟩ (fun i σ H2 _ ⟨_, _, A⟩ => SqL.of A.list) ?_ ?_⟩
    · have e : part_ h t 0 ps = ps := by unfold part_; simp
      rw [e]; exact A0
    · rintro i y σ H2 hi ⟨v2, rfl, A1⟩
      obtain ⟨r, rfl, hr⟩ := get_ref hi
      obtain ⟨p0, hp0, _⟩ := Paired.get A0.pp hr
      obtain ⟨p, hp, er⟩ := Paired.get A1.pp hr
      have hp : (part_ h t i ps)[i]? = some p := hp
      rw [part_get hp0] at hp
      cases hp
      have st := part_step (f := h) (t := t) hp0
      have hph := LW.ph_swap1 (f := h) (t := t) (sane p0 (List.mem_of_getElem? hp0))
      have hsm := LW.swap1_same h t p0
      have keep : (LW.swap1 h t p0).ph = p0.ph → LawP rowW F0 H2 lp rs (part_ h t (i + 1) ps) := fun e => by
        have A2 := A1.set (p' := LW.swap1 h t p0) hr
        have e2 : rowW (LW.swap1 h t p0) = rowW p0 := by unfold rowW; rw [hsm.1, hsm.2.1, e]
        rw [e2, upd_id er, st] at A2
        exact A2
      have put : ∀ x, (LW.swap1 h t p0).ph = x → LawP rowW F0 (upd H2 r (.lst ((rowW p0).set 2 (.str (phS x))))) lp rs (part_ h t (i + 1) ps) := fun x e => by
        have A2 := A1.set (p' := LW.swap1 h t p0) hr
        have e2 : rowW (LW.swap1 h t p0) = (rowW p0).set 2 (.str (phS x)) := by unfold rowW; rw [hsm.1, hsm.2.1, e]; rfl
        rw [e2, st] at A2
        exact A2
      -- the second test
      have second : ¬ (p0.ph = .waits ∧ p0.start = h) → ∀ (Dn : Ends), (∀ H', LawP rowW F0 H' lp rs (part_ h t (i + 1) ps) → Dn.nx [some (.ref lp), some (.int h), some (.ref r)] H') →
          tIfS (tAnd (tTest (tOp rEq (tOp (rIxL K) (tVar 2) (tC (.int 2))) (tC (.str "rides")))) (tTest (tOp rEq (tOp (rIxL K) (tVar 2) (tC (.int 1))) (tVar 1)))) (tAsg (tC (.str "left")) (gSub (tVar 2) (tC (.int 2)) rSetL)) tNext Dn
            [some (.ref lp), some (.int h), some (.ref r)] H2 := fun hno Dn hn => by
        rw [if_neg hno] at hph
        refine ⟨_, rfl, r, _, _, _, rfl, rfl, SqL.of er, (show atI (rowW p0) 2 = some (.str (phS p0.ph)) from rfl), rfl, _, rfl, ?_⟩
        by_cases h1 : p0.ph = .rides
        · refine iteY (ph_eq.mpr h1 : V.str (phS p0.ph) = V.str (phS .rides)) ⟨_, rfl, r, _, _, _, rfl, rfl, SqL.of er, (show atI (rowW p0) 1 = some (.int p0.goal) from rfl), _, rfl, rfl, _, rfl, ?_⟩
          by_cases h2 : p0.goal = h
          · rw [if_pos ⟨h1, h2⟩] at hph
            refine iteY (by rw [h2]) ⟨_, rfl, r, _, _, _, rfl, rfl, er, rfl, ?_⟩
            exact hn _ (put .left hph)
          · rw [if_neg (fun z => h2 z.2)] at hph
            exact iteN (fun z => h2 (V.int.inj z)) (hn _ (keep hph))
        · rw [if_neg (fun z => h1 z.1)] at hph
          exact iteN (fun z => h1 (ph_eq.mp (show V.str (phS p0.ph) = V.str (phS .rides) from z))) (iteF (hn _ (keep hph)))
      refine ⟨_, rfl, r, _, _, _, rfl, rfl, SqL.of er, (show atI (rowW p0) 2 = some (.str (phS p0.ph)) from rfl), rfl, _, rfl, ?_⟩
      by_cases h1 : p0.ph = .waits
      · refine iteY (ph_eq.mpr h1 : V.str (phS p0.ph) = V.str (phS .waits)) ⟨_, rfl, r, _, _, _, rfl, rfl, SqL.of er, (show atI (rowW p0) 0 = some (.int p0.start) from rfl), _, rfl, rfl, _, rfl, ?_⟩
        by_cases h2 : p0.start = h
        · rw [if_pos ⟨h1, h2⟩] at hph
          refine iteY (by rw [h2]) ⟨_, rfl, r, _, _, _, rfl, rfl, er, rfl, ?_⟩
          exact ⟨_, rfl, put .rides hph⟩
        · exact iteN (fun z => h2 (V.int.inj z)) (second (fun z => h2 z.2) _ fun H' A' => ⟨_, rfl, A'⟩)
      · exact iteN (fun z => h1 (ph_eq.mp (show V.str (phS p0.ph) = V.str (phS .waits) from z))) (iteF (second (fun z => h1 z.1) _ fun H' A' => ⟨_, rfl, A'⟩))
    · rintro σ H2 ⟨v2, rfl, A1⟩
      refine k H2 ?_
      have e : part_ h t (rs.map V.ref).length ps = LW.swap h t ps := by
        unfold part_ LW.swap
        rw [List.length_map, A0.len, List.take_length, List.drop_length, List.append_nil]
      rw [e] at A1
      exact A1
def spAsked (K : PySem.W.Frag) : Sp := fun vs H Q _ => ∃ (lp : Addr) (F0 : Hp) (rs : List Addr) (ps : List LW.Pp), vs = [.ref lp] ∧ LawP rowW F0 H lp rs ps ∧ ps.length ≤ 1000 ∧ ∀ H' r, Same H H' → H' r = some (.lst ((LW.asked ps).map V.int)) → Q (.ref r) H'
theorem scAsked : FnScope ["_law_people", "_law_floors"] ["_law_people"] (defScope sAsked) := ⟨rfl, rfl, rfl, by decide +kernel, rfl, by decide +kernel, by decide +kernel⟩
theorem pair_ref {row : LW.Pp → List V} {H : Hp} : ∀ {rs : List Addr} {ps : List LW.Pp}, Paired (fun r p => H r = some (.lst (row p))) rs ps → Paired (fun v p => ∃ r, v = V.ref r ∧ H r = some (.lst (row p))) (rs.map V.ref) ps
  | [], _, .nil => .nil
  | r :: rs, _, .cons q qq => .cons ⟨r, rfl, q⟩ (pair_ref qq)
theorem ok_asked {f : Addr} {fd : FuncData} (F : Fun K "_law_asked_for" "_law_asked_for" sAsked f fd) : FnOk P w K mg base CX0 1 f fd ["_law_people"] (spAsked K) := by
  refine F.ok scAsked (fun vs H Q E h => ?_) (fun cdv A outer s H vs Q E hr h => ?_)
  · obtain ⟨lp, F0, rs, ps, rfl, _⟩ := h
    rfl
  · obtain ⟨lp, F0, rs, ps, rfl, A0, hl, k⟩ := h
    have hz : (rs.map V.ref).length ≤ sizeLine := by rw [List.length_map, A0.len]; exact Nat.le_of_lt (small1000 hl)
    refine ⟨_, (pss_cons (ps_setComp (i := 1) (compSc0 (x := "_law_person") rfl rfl (by decide)) rfl scAsked.nd rfl (Or.inl rfl) (pi_list (pv 0)) (fun _ _ _ => pif_one (pt_cmpR op_eq (pe_ix (ix_listK K) (pv 0) pe_int (fun _ _ => rfl)) pe_str (nomark _))) (fun _ _ _ => (pe_ix (ix_listK K) (pv 0) pe_int (fun _ _ => rfl))) rfl)
      (pss_one (ps_ret (pe_op op_cat (pv 1) (pe_comp (compSc0 (x := "_law_person") rfl rfl (by decide)) rfl (pi_list (pv 0)) (fun _ _ _ => pif_one (pt_cmpR op_eq (pe_ix (ix_listK K) (pv 0) pe_int (fun _ _ => rfl)) pe_str (nomark _))) (fun _ _ _ => (pe_ix (ix_listK K) (pv 0) pe_int (fun _ _ => rfl)))))))), ?_⟩
    have tst : ∀ (x : LW.Ph) (p : LW.Pp), decide (V.str (phS p.ph) = V.str (phS x)) = decide (p.ph = x) := fun x p => by
      by_cases e : p.ph = x
      · rw [decide_eq_true e, decide_eq_true (ph_eq.mpr e)]
      · rw [decide_eq_false e, decide_eq_false fun z => e (ph_eq.mp z)]
    refine ⟨_, rfl, lp, rfl, ⟨_, SqL.of A0.list⟩, comp_pair (K := K) _ (fun p => decide (p.ph = .waits)) (fun p => V.int p.start) (SqL.of A0.list) (pair_ref A0.pp) hz (fun v p ⟨r, ev, er⟩ H' s' S hS => ?_) (fun v p ⟨r, ev, er⟩ _ H' s' S hS => ?_) fun D1 hD1 => ?_⟩
    · subst ev
      refine ⟨_, rfl, r, _, _, _, rfl, rfl, SqL.of (s' _ _ er), (show atI (rowW p) 2 = some (.str (phS p.ph)) from rfl), rfl, _, rfl, ?_⟩
      have := tst .waits p
      rw [← this] at hS
      exact hS
    · subst ev
      exact ⟨_, rfl, r, _, _, _, rfl, rfl, SqL.of (s' _ _ er), (show atI (rowW p) 0 = some (.int p.start) from rfl), hS⟩
    have s1 := Same.new (o := .lst ((ps.filter fun p => decide (p.ph = .waits)).map fun p => V.int p.start)) hD1
    have A1 := A0.same s1
    have e1 : (upd H D1 (.lst ((ps.filter fun p => decide (p.ph = .waits)).map fun p => V.int p.start))) D1 = some (.lst ((ps.filter fun p => decide (p.ph = .waits)).map fun p => V.int p.start)) := upd_same
    generalize upd H D1 (.lst ((ps.filter fun p => decide (p.ph = .waits)).map fun p => V.int p.start)) = H1 at *
    refine ⟨_, rfl, _, rfl, lp, rfl, ⟨_, SqL.of A1.list⟩, comp_pair (K := K) _ (fun p => decide (p.ph = .rides)) (fun p => V.int p.goal) (SqL.of A1.list) (pair_ref A1.pp) hz (fun v p ⟨r, ev, er⟩ H' s' S hS => ?_) (fun v p ⟨r, ev, er⟩ _ H' s' S hS => ?_) fun D2 hD2 => ?_⟩
    · subst ev
      refine ⟨_, rfl, r, _, _, _, rfl, rfl, SqL.of (s' _ _ er), (show atI (rowW p) 2 = some (.str (phS p.ph)) from rfl), rfl, _, rfl, ?_⟩
      have := tst .rides p
      rw [← this] at hS
      exact hS
    · subst ev
      exact ⟨_, rfl, r, _, _, _, rfl, rfl, SqL.of (s' _ _ er), (show atI (rowW p) 1 = some (.int p.goal) from rfl), hS⟩
    have s2 := Same.new (o := .lst ((ps.filter fun p => decide (p.ph = .rides)).map fun p => V.int p.goal)) hD2
    refine ⟨D1, D2, _, _, rfl, rfl, s2 _ _ e1, upd_same, ?_, fun D3 hD3 => ?_⟩
    · rw [List.length_map, List.length_map]
      have h1 := List.length_filter_le (fun p : LW.Pp => decide (p.ph = .waits)) ps
      have h2 := List.length_filter_le (fun p : LW.Pp => decide (p.ph = .rides)) ps
      exact sz2000 (by omega)
    · refine k _ D3 (s1.trans (s2.trans (Same.new hD3))) ?_
      rw [upd_same]
      unfold LW.asked
      rw [List.map_append, List.map_map, List.map_map]
      rfl
end
/-! ### the law's opening, and words -/
section
variable {P : Program} {w : World} {K : PySem.W.Frag} {mg : Str → Option Value} {base : Heap}
theorem rd_floors {a : Addr} {ns : List Int} {u : TS} {D : Ends} {v1 : Option V} {rest : St} {H : Hp} (hS : SqL K H a (ns.map V.int)) (hl : ns.length ≤ 63) (most bound : Int) (hm : 1 ≤ most) (hm2 : most ≤ 39)
    (hu : ∀ F : Int, 2 ≤ F → F ≤ 50 → (most ≤ 15 → F ≤ 16) → u D (some (.ref a) :: some (.int F) :: rest) H) :
    tSeq (tAsg (tOp (rI0 fun i j => V.int (i + j)) (tC (.int 2)) (tOp (rI (fun _ j => 0 < j) fun i j => V.int (i % j)) (tCall (spAt K) [] E0 (tCons (tVar 0) (tCons (tC (.int 0)) tNil))) (tC (.int 7)))) (gName 1))
      (tSeq (tIfS (tTest (tOp (rI0 fun i j => V.bl (decide (j < i))) (tOp (rI (fun _ j => 0 < j) fun i j => V.int (i % j)) (tCall (spAt K) [] E0 (tCons (tVar 0) (tCons (tC (.int 0)) tNil))) (tC (.int 28))) (tC (.int 20))))
        (tAsg (tOp (rI0 fun i j => V.int (i + j)) (tC (.int 2)) (tOp (rI (fun _ j => 0 < j) fun i j => V.int (i % j)) (tOp (rI CDiv fun i j => V.int (i / j)) (tCall (spAt K) [] E0 (tCons (tVar 0) (tCons (tC (.int 0)) tNil))) (tC (.int 7)))
          (tCall (spRoom K) [] E0 (tCons (tVar 0) (tCons (tC (.int most)) (tCons (tC (.int bound)) tNil)))))) (gName 1)) tNext) u) D (some (.ref a) :: v1 :: rest) H := by
  refine ⟨_, rfl, a, ns, 0, rfl, hS, _, _, rfl, rfl, (by show (0 : Int) < 7; decide), _, _, rfl, rfl, ?_⟩
  refine ⟨_, rfl, a, ns, 0, rfl, hS, _, _, rfl, rfl, (by show (0 : Int) < 28; decide), _, _, rfl, rfl, _, rfl, iteB (fun _ => ?_) (fun _ => ?_)⟩
  · refine ⟨_, rfl, a, ns, 0, rfl, hS, _, _, rfl, rfl, ⟨by decide, by decide⟩, _, rfl, a, ns, _, _, rfl, hS, hl, _, _, rfl, rfl, (by show (0 : Int) < most; omega), _, _, rfl, rfl, ?_⟩
    have h1 : 0 ≤ ns.getD 0 0 / 7 % most := Int.emod_nonneg _ (by omega)
    have h2 : ns.getD 0 0 / 7 % most < most := Int.emod_lt_of_pos _ (by omega)
    exact hu (2 + ns.getD 0 0 / 7 % most) (by omega) (by omega) (by omega)
  · exact hu (2 + ns.getD 0 0 % 7) (by omega) (by omega) (by omega)
end
/-! ### words of a tick -/
section
variable {P : Program} {w : World} {K : PySem.W.Frag} {mg : Str → Option Value} {base : Heap}
theorem shut_word {x : LW.Wd} : (V.str (wordS x) = V.str "shut") ↔ x = .shut := by
  constructor
  · intro h
    have h := V.str.inj h
    cases x with
    | shut => rfl
    | part => exact absurd h (by decide +kernel)
    | rest => exact absurd h (by decide +kernel)
    | go b => cases b <;> exact absurd h (by decide +kernel)
  · rintro rfl; rfl
theorem rest_word {x : LW.Wd} : (V.str (wordS x) = V.str "rest") ↔ x = .rest := by
  constructor
  · intro h
    have h := V.str.inj h
    cases x with
    | rest => rfl
    | part => exact absurd h (by decide +kernel)
    | shut => exact absurd h (by decide +kernel)
    | go b => cases b <;> exact absurd h (by decide +kernel)
  · rintro rfl; rfl
theorem runA_get {F : Int} {xs : List LW.Dd} {i : Nat} {x : LW.Dd} (h : xs[i]? = some x) (d : LW.Dy) : (LW.runA F d xs)[i]? = some (LW.stepA F (LW.runD F d (xs.take i)) x) := by
  have hi := (List.getElem?_eq_some_iff.mp h).1
  have e : xs = xs.take i ++ xs.drop i := (List.take_append_drop i xs).symm
  have hd : xs.drop i = x :: xs.drop (i + 1) := by
    rw [List.drop_eq_getElem_cons hi]
    congr 1
    exact (List.getElem?_eq_some_iff.mp h).2
  rw [e, LW.runA_append, hd]
  rw [List.getElem?_append_right (by rw [LW.runA_length, List.length_take]; omega), LW.runA_length, List.length_take, Nat.min_eq_left (Nat.le_of_lt hi), Nat.sub_self]
  rw [List.take_append_of_le_length (by rw [List.length_take]; omega), List.take_take, Nat.min_self]
  rfl
theorem tup_deeds {H : Hp} {ts : List Addr} {xs : List LW.Dd} (h : Paired (TupDd H) ts xs) : Paired (fun t x => SqT K H t (ddV x)) ts xs := L2.Paired.mapP h fun _ _ e => SqT.of e
theorem stV_go {l : LW.Lf} {d : Bool} (h : l.apart = false) : stV (LW.moved l (.go d)) = [.int (LW.beside l.floor d), .str (wd d), .bl false, .bl true] := by
  show [V.int (LW.beside l.floor d), .str (wd d), .bl l.apart, .bl true] = _
  rw [h]
end
/-! ### the law's look whether two things are alike, and unturned -/
/-- plain values that are alike -/
inductive Flt1 : V → V → Prop where
  | non : Flt1 .non .non
  | int (i : Int) : Flt1 (.int i) (.int i)
  | str (x : Str) : Flt1 (.str x) (.str x)
/-- plain, or the same tuple of plain values -/
inductive Alike (H : Hp) : V → V → Prop where
  | flat {x y : V} (h : Flt1 x y) : Alike H x y
  | tup {a : Addr} {xs : List V} (h : H a = some (.tup xs)) (hx : ∀ x ∈ xs, Flt1 x x) (hl : xs.length ≤ 5) : Alike H (.ref a) (.ref a)
theorem Alike.same {H H' : Hp} (s : Same H H') {x y : V} (h : Alike H x y) : Alike H' x y := by
  cases h with
  | flat h => exact .flat h
  | tup h hx hl => exact .tup (s _ _ h) hx hl
section
variable {P : Program} {w : World} {K : PySem.W.Frag} {mg : Str → Option Value} {base : Heap}
def spUnturned (K : PySem.W.Frag) : Sp := fun vs H Q _ => ∃ (a b : Addr) (xs ys : List V), vs = [.ref a, .ref b] ∧ H a = some (.lst xs) ∧ H b = some (.lst ys) ∧ Paired (Alike H) xs ys ∧ xs.length ≤ 900 ∧ ∀ H', Same H H' → Q (.bl true) H'
theorem scUnturned : FnScope ["_law_found", "_law_due", "_law_todo", "_law_left", "_law_right", "_law_k"] ["_law_found", "_law_due"] (defScope sUnturned) := ⟨rfl, rfl, rfl, by decide +kernel, rfl, by decide +kernel, by decide +kernel⟩
abbrev TupPr (H : Hp) (t : Addr) (q : V × V) : Prop := H t = some (.tup [q.1, q.2])
/-- how much work stands on the pile -/
inductive Work (H : Hp) : V × V → Nat → Prop where
  | flat {x y : V} (h : Flt1 x y) : Work H (x, y) 1
  | tup {a : Addr} {xs : List V} (h : H a = some (.tup xs)) (hx : ∀ x ∈ xs, Flt1 x x) (hl : xs.length ≤ 5) : Work H (.ref a, .ref a) 7
  | lists {a b : Addr} {xs ys : List V} (h1 : H a = some (.lst xs)) (h2 : H b = some (.lst ys)) (h : Paired (Alike H) xs ys) (hl : xs.length ≤ 900) : Work H (.ref a, .ref b) 7000
theorem work_of {H : Hp} {x y : V} (h : Alike H x y) : ∃ n, n ≤ 7 ∧ Work H (x, y) n := by
  cases h with
  | flat h => exact ⟨1, by decide, .flat h⟩
  | tup h hx hl => exact ⟨7, by decide, .tup h hx hl⟩
theorem work_len {H : Hp} : ∀ {qs : List (V × V)} {ns : List Nat}, Paired (Work H) qs ns → ns.length ≤ ns.sum
  | _, _, .nil => Nat.le_refl _
  | _, _, .cons h q => by
    have h1 := work_len q
    rw [List.length_cons, List.sum_cons]
    cases h <;> omega
structure PileAt (H0 H : Hp) (td : Addr) (ts : List Addr) (qs : List (V × V)) (ns : List Nat) : Prop where
  sm : Same H0 H
  er : H td = some (.lst (ts.map V.ref))
  ep : Paired (TupPr H) ts qs
  ew : Paired (Work H0) qs ns
theorem PileAt.same {H0 H H' : Hp} {td : Addr} {ts : List Addr} {qs : List (V × V)} {ns : List Nat} (A : PileAt H0 H td ts qs ns) (s : Same H H') : PileAt H0 H' td ts qs ns := ⟨A.sm.trans s, s _ _ A.er, L2.Paired.mapP A.ep fun _ _ e => s _ _ e, A.ew⟩
theorem pr_upd {H : Hp} {td : Addr} {l : List V} {o : HO} (er : H td = some (.lst l)) : ∀ {ts : List Addr} {qs : List (V × V)}, Paired (TupPr H) ts qs → Paired (TupPr (upd H td o)) ts qs
  | _, _, .nil => .nil
  | _, _, .cons q1 qq => .cons ((upd_ne (ne_of q1 er fun z => nomatch z)).trans q1) (pr_upd er qq)
theorem PileAt.push {H0 H : Hp} {td t : Addr} {ts : List Addr} {qs : List (V × V)} {ns : List Nat} {q : V × V} {n : Nat} (A : PileAt H0 H td ts qs ns) (f0 : H0 td = none) (ht : H t = none) (hw : Work H0 q n) :
    PileAt H0 (upd (upd H t (.tup [q.1, q.2])) td (.lst (ts.map V.ref ++ [V.ref t]))) td (ts ++ [t]) (qs ++ [q]) (ns ++ [n]) := by
  have tr : t ≠ td := fun z => by subst z; rw [A.er] at ht; cases ht
  have A1 := A.same (Same.new (o := .tup [q.1, q.2]) ht)
  refine ⟨out_upd A1.sm f0, by rw [upd_same, List.map_append]; rfl, PySem.Paired.snoc (pr_upd A1.er A1.ep) ((upd_ne tr).trans upd_same), PySem.Paired.snoc A.ew hw⟩
theorem unsnoc {α β : Type} {R : α → β → Prop} : ∀ {as : List α} {a : α} {bs : List β}, Paired R (as ++ [a]) bs → ∃ bs' b, bs = bs' ++ [b] ∧ Paired R as bs' ∧ R a b
  | [], _, _, .cons r .nil => ⟨[], _, rfl, .nil, r⟩
  | _ :: as, _, _, .cons r t => by
    obtain ⟨bs', b, e, q, z⟩ := unsnoc t
    exact ⟨_ :: bs', b, by rw [e]; rfl, .cons r q, z⟩
theorem PileAt.pop {H0 H : Hp} {td t : Addr} {ts : List Addr} {qs : List (V × V)} {ns : List Nat} (A : PileAt H0 H td (ts ++ [t]) qs ns) (f0 : H0 td = none) :
    ∃ qs' q ns' n, ns = ns' ++ [n] ∧ H t = some (.tup [q.1, q.2]) ∧ Work H0 q n ∧ PileAt H0 (upd H td (.lst (ts.map V.ref))) td ts qs' ns' := by
  obtain ⟨qs', q, rfl, ep, eq⟩ := unsnoc A.ep
  obtain ⟨ns', n, rfl, ew, hw⟩ := unsnoc A.ew
  exact ⟨qs', q, ns', n, rfl, eq, hw, out_upd A.sm f0, upd_same, pr_upd A.er ep, ew⟩
theorem kitA1 {t c : Value} {cs : List Value} (h : PySem.W.kitOne K t c = some true) : PySem.W.kitAny K t (c :: cs) = some true := by
  unfold PySem.W.kitAny; rw [h]
theorem kitA2 {t c c' : Value} {b : Bool} (h : PySem.W.kitOne K t c = some false) (h' : PySem.W.kitOne K t c' = some b) : PySem.W.kitAny K t [c, c'] = some b := by
  unfold PySem.W.kitAny; rw [h]
  cases b with
  | true => exact kitA1 h'
  | false =>
    show PySem.W.kitAny K t [c'] = some false
    unfold PySem.W.kitAny; rw [h']; rfl
/-- a list or a tuple that is read -/
def Sq (K : PySem.W.Frag) (H : Hp) (v : V) (xs : List V) : Prop := ∃ p, v = .ref p ∧ (SqL K H p xs ∨ SqT K H p xs)
theorem Sq.same {H H' : Hp} {v : V} {xs : List V} (s : Same H H') (h : Sq K H v xs) : Sq K H' v xs := by
  obtain ⟨p, e, h | h⟩ := h
  · exact ⟨p, e, .inl (s.seq h)⟩
  · exact ⟨p, e, .inr (s.tup h)⟩
theorem rIx_of {H : Hp} {v u : V} {xs : List V} {i : Int} {Q : VK} (h : Sq K H v xs) (e : atI xs i = some u) (q : Q u H) : rIx K v (.int i) H Q := by
  obtain ⟨p, rfl, h | h⟩ := h
  · exact .inl ⟨p, xs, i, u, rfl, rfl, h, e, q⟩
  · exact .inr (.inl ⟨p, xs, i, u, rfl, rfl, h, e, q⟩)
theorem ok_unturned {f : Addr} {fd : FuncData} (F : Fun K "_law_unturned" "_law_unturned" sUnturned f fd) (B : Blt K mg) : FnOk P w K mg base CX0 1 f fd ["_law_found", "_law_due"] (spUnturned K) := by
  refine F.ok scUnturned (fun vs H Q E h => ?_) (fun cdv A outer s H vs Q E hr h => ?_)
  · obtain ⟨a, b, xs, ys, rfl, _⟩ := h
    rfl
  · obtain ⟨a, b, xs, ys, rfl, ha, hb, hxy, hlen, k⟩ := h
    have hu := hr.units0
    refine ⟨_, (pss_cons (ps_set (i := 2) scUnturned.nd rfl (Or.inl rfl) (pe_lst (pa_cons (pe_tup (pa_cons (pv 0) (pa_cons (pv 1) pa_nil))) pa_nil)))
      (pss_cons (ps_while PassesOwn.never (pt_cmpR (op_neNil hu) (pv 2) (pe_lst pa_nil) (nomark _)) (pss_cons (ps_asg (pe_pop (pv 2)) (pg_tup rfl (pgs_cons (pg_name (i := 3) scUnturned.nd rfl (Or.inl rfl)) (pgs_cons (pg_name (i := 4) scUnturned.nd rfl (Or.inl rfl)) pgs_nil))))
      (pss_one (ps_if (pt_truth (pe_callB call_isiT rfl B.isi PyProof.Rows.boot_isinstance (pa_cons (pv 4) (pa_cons (pe_tup (pa_cons (pe_bltn (v := .ty "list") rfl B.list PyProof.Rows.boot_list rfl) (pa_cons (pe_bltn (v := .ty "tuple") rfl B.tuple PyProof.Rows.boot_tuple rfl) pa_nil))) pa_nil))) (fun _ => rfl)) (pss_cons (ps_if (pt_cmpR op_ne (pe_callB call_isi rfl B.isi PyProof.Rows.boot_isinstance (pa_cons (pv 3) (pa_cons (pe_bltn (v := .ty "list") rfl B.list PyProof.Rows.boot_list rfl) pa_nil))) (pe_callB call_isi rfl B.isi PyProof.Rows.boot_isinstance (pa_cons (pv 4) (pa_cons (pe_bltn (v := .ty "list") rfl B.list PyProof.Rows.boot_list rfl) pa_nil))) (nomark _)) (pss_one (ps_ret pe_bl)) pss_nil)
      (pss_cons (ps_if (PW.pt (pw_or (pt_not (pt_truth (pe_callB call_isiT rfl B.isi PyProof.Rows.boot_isinstance (pa_cons (pv 3) (pa_cons (pe_tup (pa_cons (pe_bltn (v := .ty "list") rfl B.list PyProof.Rows.boot_list rfl) (pa_cons (pe_bltn (v := .ty "tuple") rfl B.tuple PyProof.Rows.boot_tuple rfl) pa_nil))) pa_nil))) (fun _ => rfl))) (pw_or1 (pt_cmpR op_ne (pe_callB call_len_seq rfl B.len PySem.boot_len (pa_cons (pv 3) pa_nil)) (pe_callB call_len_seq rfl B.len PySem.boot_len (pa_cons (pv 4) pa_nil)) (nomark _))))) (pss_one (ps_ret pe_bl)) pss_nil)
      (pss_one (ps_for PassesOwn.never rfl (pi_range1 rfl B.range (pa_cons (pe_callB call_len_seq rfl B.len PySem.boot_len (pa_cons (pv 4) pa_nil)) pa_nil)) (pg_name (i := 5) scUnturned.nd rfl (Or.inl rfl)) (pss_one (ps_expr (pe_append (pv 2) (pe_tup (pa_cons (pe_ix ix_seq (pv 3) (pv 5) (fun _ _ => rfl)) (pa_cons (pe_ix ix_seq (pv 4) (pv 5) (fun _ _ => rfl)) pa_nil)))))))))) (pss_one (ps_if (PW.pt (pw_or (pt_cmpR op_isN (pv 3) pe_non (nomark _)) (pw_or1 (pt_cmpR op_isN (pv 4) pe_non (nomark _))))) (pss_one (ps_if (PW.pt (pw_or (pt_cmpR op_notN (pv 3) pe_non (nomark _)) (pw_or1 (pt_cmpR op_notN (pv 4) pe_non (nomark _))))) (pss_one (ps_ret pe_bl)) pss_nil)) (pss_one (ps_if (pt_cmpR op_ne (pe_callB call_isi rfl B.isi PyProof.Rows.boot_isinstance (pa_cons (pv 3) (pa_cons (pe_bltn (v := .ty "bool") rfl B.bool PyProof.Rows.boot_bool rfl) pa_nil))) (pe_callB call_isi rfl B.isi PyProof.Rows.boot_isinstance (pa_cons (pv 4) (pa_cons (pe_bltn (v := .ty "bool") rfl B.bool PyProof.Rows.boot_bool rfl) pa_nil))) (nomark _)) (pss_one (ps_ret pe_bl)) (pss_one (ps_if (pt_cmpR op_ne (pe_callB call_isi rfl B.isi PyProof.Rows.boot_isinstance (pa_cons (pv 3) (pa_cons (pe_bltn (v := .ty "str") rfl B.str PyProof.Rows.boot_str rfl) pa_nil))) (pe_callB call_isi rfl B.isi PyProof.Rows.boot_isinstance (pa_cons (pv 4) (pa_cons (pe_bltn (v := .ty "str") rfl B.str PyProof.Rows.boot_str rfl) pa_nil))) (nomark _)) (pss_one (ps_ret pe_bl)) (pss_one (ps_if (PW.pt (pw_or (pt_not (pt_truth (pe_callB call_isiT rfl B.isi PyProof.Rows.boot_isinstance (pa_cons (pv 3) (pa_cons (pe_tup (pa_cons (pe_bltn (v := .ty "str") rfl B.str PyProof.Rows.boot_str rfl) (pa_cons (pe_bltn (v := .ty "int") rfl B.int PyProof.Rows.boot_int rfl) pa_nil))) pa_nil))) (fun _ => rfl))) (pw_or1 (pt_cmpR op_ne (pv 3) (pv 4) (nomark _))))) (pss_one (ps_ret pe_bl)) pss_nil))))))))))))
      (pss_one (ps_ret pe_bl)))), ?_⟩
    refine ⟨_, rfl, _, rfl, sz 2 (by decide), fun t0 ht0 => ⟨sz 1 (by decide), fun td htd => ?_⟩⟩
    have htd0 : H td = none := (Same.new ht0).free htd
    have nt : t0 ≠ td := ne_of_none upd_same htd
    refine ⟨fun m σ H2 => ∃ (ts : List Addr) (qs : List (V × V)) (ns : List Nat) (v3 v4 v5 : Option V), σ = [some (.ref a), some (.ref b), some (.ref td), v3, v4, v5] ∧ PileAt H H2 td ts qs ns ∧ ns.sum = m ∧ m ≤ 7000, ⟨7000, [t0], [(.ref a, .ref b)], [7000], none, none, none, rfl, ⟨(Same.new ht0).trans (Same.new htd), upd_same, .cons ((upd_ne nt).trans upd_same) .nil, .cons (.lists ha hb hxy hlen) .nil⟩, rfl, Nat.le_refl _⟩, ?_⟩
    rintro m σ H2 ⟨ts, qs, ns, v3, v4, v5, rfl, A2, hm, hm7⟩
    refine ⟨_, rfl, Nat.zero_le _, fun p0 hp0 => ⟨td, p0, _, rfl, rfl, .inl (.inl (Same.new hp0 _ _ A2.er)), .inl (.inl upd_same), _, rfl, ?_⟩⟩
    have A3 := A2.same (Same.new (o := .lst []) hp0)
    generalize upd H2 p0 (.lst []) = H3 at A3 ⊢
    clear A2
    rcases List.eq_nil_or_concat ts with rfl | ⟨ts', t, rfl⟩
    · exact iteF (k H3 A3.sm)
    have hne : (!(List.map V.ref (ts'.concat t)).isEmpty) = true := by rw [List.isEmpty_map]; cases ts' <;> rfl
    rw [hne]
    rw [List.concat_eq_append] at A3
    refine iteT ⟨fun σ' H' => ∃ m', m' < m ∧ ∃ (ts : List Addr) (qs : List (V × V)) (ns : List Nat) (v3 v4 v5 : Option V), σ' = [some (.ref a), some (.ref b), some (.ref td), v3, v4, v5] ∧ PileAt H H' td ts qs ns ∧ ns.sum = m' ∧ m' ≤ 7000, fun σ' H' h => h, ?_⟩
    obtain ⟨qs', ⟨x, y⟩, ns', n, rfl, et, hw, A4⟩ := A3.pop htd0
    have et : H3 t = some (.tup [x, y]) := et
    have hsum : ns'.sum + n = m := by rw [← hm, List.sum_append]; simp
    have nt : t ≠ td := ne_of et A3.er fun z => nomatch z
    refine ⟨_, rfl, .inl ⟨rfl, _, SqL.of A3.er⟩, td, _, V.ref t, rfl, rfl, A3.er, (by rw [List.map_append, List.length_append, List.map_singleton]; simp), ?_⟩
    have ed : (List.map V.ref (ts' ++ [t])).dropLast = ts'.map V.ref := by rw [List.map_append, List.map_singleton, List.dropLast_concat]
    rw [ed]
    refine ⟨t, _, rfl, SqT.of ((upd_ne nt).trans et), rfl, _, _, rfl, _, _, rfl, rfl, ?_⟩
    generalize upd H3 td (.lst (ts'.map V.ref)) = H4 at A4 ⊢
    clear et A3 nt ed hne
    -- nothing is pushed
    have done_ : ∀ H5, Same H4 H5 → 1 ≤ n → ∃ m', m' < m ∧ ∃ (ts : List Addr) (qs : List (V × V)) (ns : List Nat) (v3 v4 v5' : Option V), [some (V.ref a), some (.ref b), some (.ref td), some x, some y, v5] = [some (.ref a), some (.ref b), some (.ref td), v3, v4, v5'] ∧ PileAt H H5 td ts qs ns ∧ ns.sum = m' ∧ m' ≤ 7000 := fun H5 s5 hn =>
      ⟨ns'.sum, by omega, ts', qs', ns', _, _, _, rfl, A4.same s5, rfl, by omega⟩
    -- the parts of two lists, or of two tuples, are pushed
    have push : ∀ (us zs : List V) (c : Nat), Sq K H x us → Sq K H y zs → us.length = zs.length → zs.length ≤ 900 → (∀ (j : Nat) (u z : V), us[j]? = some u → zs[j]? = some z → ∃ n', n' ≤ c ∧ Work H (u, z) n') → c * zs.length < n → ∀ H5, Same H4 H5 → ∀ (Dn : Ends),
        (∀ σ' H', (∃ m', m' < m ∧ ∃ (ts : List Addr) (qs : List (V × V)) (ns : List Nat) (v3 v4 v5 : Option V), σ' = [some (.ref a), some (.ref b), some (.ref td), v3, v4, v5] ∧ PileAt H H' td ts qs ns ∧ ns.sum = m' ∧ m' ≤ 7000) → Dn.nx σ' H') →
        tFor (iRng1 (tCons (tCB (fun xs H Q => ∃ p ys, xs = [.ref p] ∧ (SqL K H p ys ∨ SqT K H p ys) ∧ Q (.int ys.length) H) (tCons (tVar 4) tNil)) tNil)) (gName 5) (tDrop (tBM K "list" rAppend (tVar 2) (tCons (tTup (tCons (tOp (rIx K) (tVar 3) (tVar 5)) (tCons (tOp (rIx K) (tVar 4) (tVar 5)) tNil))) tNil)))
          Dn [some (.ref a), some (.ref b), some (.ref td), some x, some y, v5] H5 := by
      intro us zs c hx hy hlz hz9 hw' hc H5 s5 Dn hn
      obtain ⟨py, rfl, _⟩ := id hy
      obtain ⟨py', e, hy5'⟩ := hy.same (A4.sm.trans s5)
      cases e
      refine ⟨_, rfl, py, _, rfl, hy5', _, rfl, by omega, by omega, for_range (fun j σ H6 => ∃ (ts : List Addr) (qs : List (V × V)) (ns : List Nat) (v5 : Option V), σ = [some (.ref a), some (.ref b), some (.ref td), some x, some (.ref py), v5] ∧ PileAt H H6 td ts qs ns ∧ ns.sum ≤ ns'.sum + c * j)
        ⟨ts', qs', ns', _, rfl, A4.same s5, Nat.le_refl _⟩ ?_ ?_⟩
      · rintro j σ H6 hj ⟨ts6, qs6, ns6, w5, rfl, A6, hs6⟩
        have hj : j < zs.length := by omega
        have e0 : (0 : Int) + (j : Int) = (j : Int) := by omega
        rw [e0]
        obtain ⟨u, hu'⟩ : ∃ u, us[j]? = some u := ⟨us[j]'(by omega), by simp⟩
        obtain ⟨z, hz'⟩ : ∃ z, zs[j]? = some z := ⟨zs[j], by simp⟩
        obtain ⟨n', hn', hwz⟩ := hw' j u z hu' hz'
        have hcj : c * (j + 1) ≤ c * zs.length := Nat.mul_le_mul_left c hj
        have hcj2 : c * (j + 1) = c * j + c := Nat.mul_succ c j
        have h6 : ts6.length ≤ 7000 := by
          have e1 := PySem.Paired.length A6.ep
          have e2 := work_len A6.ew
          have e3 := PySem.Paired.length A6.ew
          omega
        refine ⟨_, rfl, .inl ⟨rfl, _, SqL.of A6.er⟩, _, rfl, _, rfl, rIx_of (hx.same A6.sm) (atI_nat hu') ⟨_, rfl, _, rfl, rIx_of (hy.same A6.sm) (atI_nat hz') ⟨sz 2 (by decide), fun t ht => ?_⟩⟩⟩
        refine ⟨td, _, _, rfl, rfl, Same.new ht _ _ A6.er, (by rw [List.length_map]; exact Nat.lt_of_le_of_lt h6 (by decide)), ts6 ++ [t], qs6 ++ [(u, z)], ns6 ++ [n'], _, rfl, A6.push htd0 ht hwz, ?_⟩
        rw [List.sum_append]
        show ns6.sum + (n' + 0) ≤ _
        omega
      · rintro σ H6 ⟨ts6, qs6, ns6, w5, rfl, A6, hs6⟩
        have e1 : ((zs.length : Int)).toNat = zs.length := by omega
        rw [e1] at hs6
        exact hn _ _ ⟨ns6.sum, by omega, ts6, qs6, ns6, _, _, _, rfl, A6, rfl, by omega⟩
    cases hw with
    | flat hf =>
      cases hf with
      | non =>
        refine ⟨_, rfl, sz 2 (by decide), fun p1 hp1 => ⟨_, p1, ["list", "tuple"], _, _, rfl, .non, upd_same, kitA2 (kit_no (by decide +kernel)) (kit_no (by decide +kernel)), _, rfl, iteF ?_⟩⟩
        refine ⟨_, rfl, rfl, _, rfl, iteY rfl (iteT ?_)⟩
        exact ⟨_, rfl, rfl, _, rfl, iteNS rfl ⟨_, rfl, rfl, _, rfl, iteNS rfl (done_ _ (Same.new hp1) (by decide))⟩⟩
      | int i =>
        refine ⟨_, rfl, sz 2 (by decide), fun p1 hp1 => ⟨_, p1, ["list", "tuple"], _, _, rfl, .int i, upd_same, kitA2 (kit_no (by decide +kernel)) (kit_no (by decide +kernel)), _, rfl, iteF ?_⟩⟩
        refine ⟨_, rfl, rfl, _, rfl, iteN (fun z => nomatch z) ⟨_, rfl, rfl, _, rfl, iteN (fun z => nomatch z) ?_⟩⟩
        refine ⟨_, rfl, _, _, _, _, rfl, .int i, kit_ib, _, rfl, _, _, _, _, rfl, .int i, kit_ib, rfl, _, rfl, iteNS rfl ?_⟩
        refine ⟨_, rfl, _, _, _, _, rfl, .int i, kit_no (b := false) (by decide +kernel), _, rfl, _, _, _, _, rfl, .int i, kit_no (b := false) (by decide +kernel), rfl, _, rfl, iteNS rfl ?_⟩
        refine ⟨_, rfl, sz 2 (by decide), fun p2 hp2 => ⟨_, p2, ["str", "int"], _, _, rfl, .int i, upd_same, kitA2 (kit_no (by decide +kernel)) kit_same, _, rfl, iteF ?_⟩⟩
        exact ⟨_, rfl, _, rfl, rfl, _, rfl, iteNS rfl (done_ _ ((Same.new hp1).trans (Same.new hp2)) (by decide))⟩
      | str z0 =>
        refine ⟨_, rfl, sz 2 (by decide), fun p1 hp1 => ⟨_, p1, ["list", "tuple"], _, _, rfl, .str z0, upd_same, kitA2 (kit_no (by decide +kernel)) (kit_no (by decide +kernel)), _, rfl, iteF ?_⟩⟩
        refine ⟨_, rfl, rfl, _, rfl, iteN (fun z => nomatch z) ⟨_, rfl, rfl, _, rfl, iteN (fun z => nomatch z) ?_⟩⟩
        refine ⟨_, rfl, _, _, _, _, rfl, .str z0, kit_no (b := false) (by decide +kernel), _, rfl, _, _, _, _, rfl, .str z0, kit_no (b := false) (by decide +kernel), rfl, _, rfl, iteNS rfl ?_⟩
        refine ⟨_, rfl, _, _, _, _, rfl, .str z0, kit_same, _, rfl, _, _, _, _, rfl, .str z0, kit_same, rfl, _, rfl, iteNS rfl ?_⟩
        refine ⟨_, rfl, sz 2 (by decide), fun p2 hp2 => ⟨_, p2, ["str", "int"], _, _, rfl, .str z0, upd_same, kitA1 kit_same, _, rfl, iteF ?_⟩⟩
        exact ⟨_, rfl, _, rfl, rfl, _, rfl, iteNS rfl (done_ _ ((Same.new hp1).trans (Same.new hp2)) (by decide))⟩
    | @tup q us hq hflat hl5 =>
      have hq4 := A4.sm _ _ hq
      refine ⟨_, rfl, sz 2 (by decide), fun p1 hp1 => ⟨_, p1, ["list", "tuple"], _, _, rfl, .tup (Same.new hp1 _ _ hq4), upd_same, kitA2 (kit_no (by decide +kernel)) kit_same, _, rfl, iteT ?_⟩⟩
      have s5 := Same.new (o := .tup [.ty "list", .ty "tuple"]) hp1
      have hq5 := s5 _ _ hq4
      refine ⟨_, rfl, _, _, _, _, rfl, .tup hq5, kit_no (b := false) (by decide +kernel), _, rfl, _, _, _, _, rfl, .tup hq5, kit_no (b := false) (by decide +kernel), rfl, _, rfl, iteNS rfl ?_⟩
      refine ⟨_, rfl, sz 2 (by decide), fun p2 hp2 => ⟨_, p2, ["list", "tuple"], _, _, rfl, .tup (Same.new hp2 _ _ hq5), upd_same, kitA2 (kit_no (by decide +kernel)) kit_same, _, rfl, iteF ?_⟩⟩
      have s6 := s5.trans (Same.new (o := .tup [.ty "list", .ty "tuple"]) hp2)
      have hq6 := s6 _ _ hq4
      refine ⟨_, rfl, q, us, rfl, .inr (SqT.of hq6), _, rfl, q, us, rfl, .inr (SqT.of hq6), rfl, _, rfl, iteNS rfl ?_⟩
      refine push us us 1 ⟨q, rfl, .inr (SqT.of hq)⟩ ⟨q, rfl, .inr (SqT.of hq)⟩ rfl (by omega) (fun j u z h1 h2 => ?_) (by omega) _ s6 _ fun _ _ h => h
      rw [h1] at h2
      cases h2
      exact ⟨1, Nat.le_refl _, .flat (hflat u (List.mem_of_getElem? h1))⟩
    | @lists q r us zs hq hr' hpr hl9 =>
      have hq4 := A4.sm _ _ hq
      have hr4 := A4.sm _ _ hr'
      have hll : us.length = zs.length := PySem.Paired.length hpr
      refine ⟨_, rfl, sz 2 (by decide), fun p1 hp1 => ⟨_, p1, ["list", "tuple"], _, _, rfl, .lst (Same.new hp1 _ _ hr4), upd_same, kitA1 kit_same, _, rfl, iteT ?_⟩⟩
      have s5 := Same.new (o := .tup [.ty "list", .ty "tuple"]) hp1
      have hq5 := s5 _ _ hq4
      have hr5 := s5 _ _ hr4
      refine ⟨_, rfl, _, _, _, _, rfl, .lst hq5, kit_same, _, rfl, _, _, _, _, rfl, .lst hr5, kit_same, rfl, _, rfl, iteNS rfl ?_⟩
      refine ⟨_, rfl, sz 2 (by decide), fun p2 hp2 => ⟨_, p2, ["list", "tuple"], _, _, rfl, .lst (Same.new hp2 _ _ hq5), upd_same, kitA1 kit_same, _, rfl, iteF ?_⟩⟩
      have s6 := s5.trans (Same.new (o := .tup [.ty "list", .ty "tuple"]) hp2)
      have hq6 := s6 _ _ hq4
      have hr6 := s6 _ _ hr4
      refine ⟨_, rfl, q, us, rfl, .inl (SqL.of hq6), _, rfl, r, zs, rfl, .inl (SqL.of hr6), rfl, _, rfl, iteNS (by rw [hll]) ?_⟩
      refine push us zs 7 ⟨q, rfl, .inl (SqL.of hq)⟩ ⟨r, rfl, .inl (SqL.of hr')⟩ hll (by omega) (fun j u z h1 h2 => ?_) (by omega) _ s6 _ fun _ _ h => h
      obtain ⟨z', h3, h4⟩ := Paired.get hpr h1
      rw [h2] at h3
      cases h3
      exact work_of h4
def spKept (K : PySem.W.Frag) : Sp := spUnturned K
theorem scKept : FnScope ["_law_handed", "_law_asked"] ["_law_handed", "_law_asked"] (defScope sKept) := ⟨rfl, rfl, rfl, by decide +kernel, rfl, by decide +kernel, by decide +kernel⟩
theorem ok_kept {f f1 : Addr} {fd fd1 : FuncData} (F : Fun K "_law_kept" "_law_kept" sKept f fd) (B : Blt K mg) (D1 : Df K mg "_law_unturned" sUnturned ["_law_found", "_law_due"] f1 fd1) : FnOk P w K mg base CX0 2 f fd ["_law_handed", "_law_asked"] (spKept K) := by
  have G1 : FnOk P w K mg base CX0 1 f1 fd1 ["_law_found", "_law_due"] (spUnturned K) := ok_unturned D1.F B
  refine F.ok scKept (fun vs H Q E h => ?_) (fun cdv A outer s H vs Q E hr h => ?_)
  · obtain ⟨a, b, xs, ys, rfl, _⟩ := h
    rfl
  · obtain ⟨a, b, xs, ys, rfl, ha, hb, hxy, hlen, k⟩ := h
    refine ⟨_, (pss_one (ps_ret (pe_call G1 hr rfl D1.m D1.F.kp D1.b .nil pass0 (pa_cons (pv 0) (pa_cons (pv 1) pa_nil))))), ?_⟩
    exact ⟨_, rfl, _, rfl, a, b, xs, ys, rfl, ha, hb, hxy, hlen, k⟩
/-- deeds against themselves -/
theorem alike_deeds {H : Hp} : ∀ {ts : List Addr} {xs : List LW.Dd}, Paired (TupDd H) ts xs → Paired (Alike H) (ts.map V.ref) (ts.map V.ref)
  | _, _, .nil => .nil
  | t :: _, x :: _, .cons h q => by
    refine .cons (.tup (a := t) (xs := ddV x) h ?_ ?_) (alike_deeds q)
    · intro v hv
      cases x with
      | tick =>
        have : v = .str "tick" := by simpa [ddV] using hv
        subst this; exact .str _
      | press s g =>
        simp only [ddV, List.mem_cons, List.not_mem_nil, or_false] at hv
        rcases hv with rfl | rfl | rfl
        · exact .str _
        · exact .int _
        · exact .int _
    · cases x with
      | tick => show 1 ≤ 5; decide
      | press s g => show 3 ≤ 5; decide
end
def rowV (z : Int × LW.Wd) : List V := [.int z.1, .str (wordS z.2)]
abbrev TupRow (H : Hp) (t : Addr) (z : Int × LW.Wd) : Prop := H t = some (.tup (rowV z))
/-- a list of tuples of ours -/
structure HpR (H : Hp) (r : Addr) (ts : List Addr) (ys : List (Int × LW.Wd)) (H2 : Hp) : Prop where
  sm : Same H H2
  er : H2 r = some (.lst (ts.map V.ref))
  ep : Paired (TupRow H2) ts ys
theorem HpR.same {H H2 H3 : Hp} {r : Addr} {ts : List Addr} {ys : List (Int × LW.Wd)} (A : HpR H r ts ys H2) (s : Same H2 H3) : HpR H r ts ys H3 := ⟨A.sm.trans s, s _ _ A.er, L2.Paired.mapP A.ep fun _ _ e => s _ _ e⟩
theorem row_upd {H : Hp} {td : Addr} {l : List V} {o : HO} (er : H td = some (.lst l)) : ∀ {ts : List Addr} {ys : List (Int × LW.Wd)}, Paired (TupRow H) ts ys → Paired (TupRow (upd H td o)) ts ys
  | _, _, .nil => .nil
  | _, _, .cons q1 qq => .cons ((upd_ne (ne_of q1 er fun z => nomatch z)).trans q1) (row_upd er qq)
theorem HpR.put {H H2 : Hp} {r t : Addr} {ts : List Addr} {ys : List (Int × LW.Wd)} (A : HpR H r ts ys H2) (ht : H2 t = none) (hr0 : H r = none) (y : Int × LW.Wd) : HpR H r (ts ++ [t]) (ys ++ [y]) (upd (upd H2 t (.tup (rowV y))) r (.lst (ts.map V.ref ++ [V.ref t]))) := by
  have tr : t ≠ r := fun z => by subst z; rw [A.er] at ht; cases ht
  have A1 := A.same (Same.new (o := .tup (rowV y)) ht)
  exact ⟨out_upd A1.sm hr0, by rw [upd_same, List.map_append]; rfl, PySem.Paired.snoc (row_upd A1.er A1.ep) ((upd_ne tr).trans upd_same)⟩
section
variable {P : Program} {w : World} {K : PySem.W.Frag} {mg : Str → Option Value} {base : Heap}
theorem ptV : ¬ (V.str "press" = V.str "tick") := fun h => absurd (V.str.inj h) (by decide +kernel)
theorem up_word {x : LW.Wd} : decide (V.str (wordS x) = V.str "up") = decide (x = .go true) := by
  cases x with
  | shut => exact (decide_eq_false (fun h => absurd (V.str.inj h) (by decide +kernel))).trans (decide_eq_false (fun h => nomatch h)).symm
  | part => exact (decide_eq_false (fun h => absurd (V.str.inj h) (by decide +kernel))).trans (decide_eq_false (fun h => nomatch h)).symm
  | rest => exact (decide_eq_false (fun h => absurd (V.str.inj h) (by decide +kernel))).trans (decide_eq_false (fun h => nomatch h)).symm
  | go b => cases b with
    | true => exact (decide_eq_true rfl).trans (decide_eq_true rfl).symm
    | false => exact (decide_eq_false duV).trans (decide_eq_false (fun h => nomatch h)).symm
theorem udV : ¬ (V.str "up" = V.str "down") := fun h => absurd (V.str.inj h) (by decide +kernel)
theorem down_word {x : LW.Wd} : decide (V.str (wordS x) = V.str "down") = decide (x = .go false) := by
  cases x with
  | shut => exact (decide_eq_false (fun h => absurd (V.str.inj h) (by decide +kernel))).trans (decide_eq_false (fun h => nomatch h)).symm
  | part => exact (decide_eq_false (fun h => absurd (V.str.inj h) (by decide +kernel))).trans (decide_eq_false (fun h => nomatch h)).symm
  | rest => exact (decide_eq_false (fun h => absurd (V.str.inj h) (by decide +kernel))).trans (decide_eq_false (fun h => nomatch h)).symm
  | go b => cases b with
    | false => exact (decide_eq_true rfl).trans (decide_eq_true rfl).symm
    | true => exact (decide_eq_false udV).trans (decide_eq_false (fun h => nomatch h)).symm
theorem word_in (x : LW.Wd) : inV (.str (wordS x)) [.str "shut", .str "part", .str "up", .str "down", .str "rest"] = true := by
  cases x with
  | shut => decide +kernel
  | part => decide +kernel
  | rest => decide +kernel
  | go b => cases b <;> decide +kernel
def spParted (K : PySem.W.Frag) : Sp := fun vs H Q _ => ∃ (r g : Addr) (F : Int) (ts : List Addr) (xs : List LW.Dd), vs = [.ref r, .ref g, .int F] ∧ Deeds K H r ts xs ∧ xs.length ≤ 200 ∧ 2 ≤ F ∧ SqL K H g ((LW.runA F LW.dy0 xs).map anV) ∧
  ∀ H' b us, HpR H b us (LW.rowsOf F LW.dy0 xs) H' → Q (.ref b) H'
theorem scParted : FnScope ["_law_asked", "_law_told", "_law_floors", "_law_here", "_law_doors", "_law_rows", "_law_k", "_law_word"] ["_law_asked", "_law_told", "_law_floors"] (defScope sParted) := ⟨rfl, rfl, rfl, by decide +kernel, rfl, by decide +kernel, by decide +kernel⟩
theorem ok_parted {f : Addr} {fd : FuncData} (F : Fun K "_law_parted" "_law_parted" sParted f fd) (B : Blt K mg) : FnOk P w K mg base CX0 1 f fd ["_law_asked", "_law_told", "_law_floors"] (spParted K) := by
  refine F.ok scParted (fun vs H Q E h => ?_) (fun cdv A outer s H vs Q E hr h => ?_)
  · obtain ⟨r, g, F, ts, xs, rfl, _⟩ := h
    rfl
  · obtain ⟨r, g, F, ts, xs, rfl, hds, hlen, hF, hg, k⟩ := h
    refine ⟨_, (pss_cons (ps_set (i := 3) scParted.nd rfl (Or.inl rfl) pe_int)
      (pss_cons (ps_set (i := 4) scParted.nd rfl (Or.inl rfl) pe_bl)
      (pss_cons (ps_set (i := 5) scParted.nd rfl (Or.inl rfl) (pe_lst pa_nil))
      (pss_cons (ps_for PassesOwn.never rfl (pi_range1 rfl B.range (pa_cons (pe_callB call_len_seq rfl B.len PySem.boot_len (pa_cons (pv 0) pa_nil)) pa_nil)) (pg_name (i := 6) scParted.nd rfl (Or.inl rfl)) (pss_one (ps_if (pt_cmpR op_eq (pe_ix ix_tup (pe_ix ix_list (pv 0) (pv 6) (fun _ _ => rfl)) pe_int (fun _ _ => rfl)) pe_str (nomark _)) (pss_cons (ps_set (i := 7) scParted.nd rfl (Or.inl rfl) (pe_ix ix_list (pv 1) (pv 6) (fun _ _ => rfl)))
      (pss_cons (ps_if (PW.pt (pw_or (pt_not (pt_truth (pe_callB call_isi rfl B.isi PyProof.Rows.boot_isinstance (pa_cons (pv 7) (pa_cons (pe_bltn (v := .ty "str") rfl B.str PyProof.Rows.boot_str rfl) pa_nil))) (fun _ => rfl))) (pw_or1 (pt_cmpR op_ne (pe_cmpR op_eq (pv 7) pe_str (nomark _)) (pv 4) (nomark _))))) (pss_one (ps_ret pe_non)) pss_nil)
      (pss_cons (ps_if (pt_cmpR op_notIn_seq (pv 7) (pe_lst (pa_cons pe_str (pa_cons pe_str (pa_cons pe_str (pa_cons pe_str (pa_cons pe_str pa_nil)))))) (by with_unfolding_all rfl)) (pss_one (ps_ret pe_non)) pss_nil)
      (pss_cons (ps_set (i := 4) scParted.nd rfl (Or.inl rfl) (pe_cmpR op_eq (pv 7) pe_str (nomark _)))
      (pss_cons (ps_set (i := 3) scParted.nd rfl (Or.inl rfl) (pe_op op_sub (pe_op op_add (pv 3) (pe_callTy call_int1 rfl B.int PyProof.Rows.boot_int (pa_cons (pe_cmpR op_eq (pv 7) pe_str (nomark _)) pa_nil))) (pe_callTy call_int1 rfl B.int PyProof.Rows.boot_int (pa_cons (pe_cmpR op_eq (pv 7) pe_str (nomark _)) pa_nil))))
      (pss_cons (ps_if (PW.pt (pw_or (pt_cmpR op_lt (pv 3) pe_int (nomark _)) (pw_or1 (pt_cmpR op_ge (pv 3) (pv 2) (nomark _))))) (pss_one (ps_ret pe_non)) pss_nil)
      (pss_one (ps_expr (pe_append (pv 5) (pe_tup (pa_cons (pv 3) (pa_cons (pv 7) pa_nil)))))))))))) pss_nil)))
      (pss_one (ps_ret (pv 5))))))), ?_⟩
    have hlx : ts.length = xs.length := PySem.Paired.length hds.each
    refine ⟨Nat.zero_le _, fun b hb => ?_⟩
    have s0 := Same.new (o := .lst []) hb
    refine ⟨_, rfl, r, _, rfl, .inl (s0.seq hds.list), _, rfl, ?_, ?_, for_range (fun i σ H2 => ∃ (us : List Addr) (v6 v7 : Option V), σ = [some (.ref r), some (.ref g), some (.int F), some (.int (LW.runD F LW.dy0 (xs.take i)).lift.floor), some (.bl (LW.runD F LW.dy0 (xs.take i)).lift.apart), some (.ref b), v6, v7] ∧ HpR H b us (LW.rowsOf F LW.dy0 (xs.take i)) H2)
      ⟨[], none, none, rfl, s0, upd_same, .nil⟩ ?_ ?_⟩
    · omega
    · rw [List.length_map]; omega
    · rintro i σ H2 hi ⟨us, v6, v7, rfl, A⟩
      have hi : i < ts.length := by rw [List.length_map] at hi; omega
      have e0 : (0 : Int) + (i : Int) = (i : Int) := by omega
      rw [e0]
      obtain ⟨t, ht⟩ : ∃ t, ts[i]? = some t := ⟨ts[i], by simp [hi]⟩
      obtain ⟨x, hx, hT⟩ := Paired.get hds.each ht
      have hT2 := A.sm.tup hT
      have atk : atI (ts.map V.ref) (i : Int) = some (.ref t) := atI_nat (by rw [List.getElem?_map, ht]; rfl)
      have atg : atI ((LW.runA F LW.dy0 xs).map anV) (i : Int) = some (anV (LW.stepA F (LW.runD F LW.dy0 (xs.take i)) x)) := atI_nat (by rw [List.getElem?_map, runA_get hx]; rfl)
      have next := run_take (F := F) hx LW.dy0
      have good := LW.good_run (F := F) (xs.take i) (LW.good0 (by omega))
      have tk : xs.take (i + 1) = xs.take i ++ [x] := by rw [List.take_add_one, hx]; rfl
      have er : LW.rowsOf F LW.dy0 (xs.take (i + 1)) = LW.rowsOf F LW.dy0 (xs.take i) ++ LW.rowsOf F (LW.runD F LW.dy0 (xs.take i)) [x] := by rw [tk, LW.rowsOf_append]
      have ulen : us.length ≤ i := by
        have h1 := PySem.Paired.length A.ep
        have h2 := LW.rowsOf_len F (xs.take i) LW.dy0
        rw [List.length_take] at h2
        omega
      rw [er, next]
      generalize LW.runD F LW.dy0 (xs.take i) = D at *
      cases x with
      | press s g' =>
        refine ⟨_, rfl, _, rfl, r, _, _, _, rfl, rfl, A.sm.seq hds.list, atk, t, _, _, _, rfl, rfl, hT2, (show atI (ddV (.press s g')) 0 = some (.str "press") from rfl), rfl, _, rfl, iteN ptV ?_⟩
        have e1 : LW.rowsOf F D [.press s g'] = [] := rfl
        rw [e1, List.append_nil, LW.press_lift]
        exact ⟨us, _, _, rfl, A⟩
      | tick =>
        refine ⟨_, rfl, _, rfl, r, _, _, _, rfl, rfl, A.sm.seq hds.list, atk, t, _, _, _, rfl, rfl, hT2, (show atI (ddV .tick) 0 = some (.str "tick") from rfl), rfl, _, rfl, iteY rfl ?_⟩
        have e1 : LW.rowsOf F D [.tick] = [((LW.tickD D).lift.floor, LW.tickW D)] := rfl
        have e2 : LW.stepD F D .tick = LW.tickD D := rfl
        rw [e1, e2]
        have atg : atI ((LW.runA F LW.dy0 xs).map anV) (i : Int) = some (V.str (wordS (LW.tickW D))) := atg
        refine ⟨_, rfl, _, rfl, g, _, _, _, rfl, rfl, A.sm.seq hg, atg, ?_⟩
        refine ⟨_, rfl, _, _, _, _, rfl, .str _, kit_same, _, rfl, iteF ?_⟩
        refine ⟨_, rfl, rfl, _, rfl, rfl, _, rfl, ?_⟩
        have sh : decide (V.str (wordS (LW.tickW D)) = V.str "shut") = D.lift.apart := by
          cases h : D.lift.apart with
          | true => exact decide_eq_true (shut_word.mpr (LW.shut_iff.mpr h))
          | false => exact decide_eq_false (fun z => absurd (LW.shut_iff.mp (shut_word.mp z)) (by rw [h]; exact Bool.false_ne_true))
        have sh2 : (V.bl (decide (V.str (wordS (LW.tickW D)) = V.str "shut")) = V.bl D.lift.apart) := by rw [sh]
        refine iteNS sh2 ?_
        refine ⟨_, rfl, sz 5 (by decide), fun p1 hp1 => ⟨p1, _, rfl, .inl (SqL.of upd_same), rfl, rfl, _, rfl, ?_⟩⟩
        have ni : (if true = true then !inV (V.str (wordS (LW.tickW D))) [.str "shut", .str "part", .str "up", .str "down", .str "rest"] else inV (V.str (wordS (LW.tickW D))) [.str "shut", .str "part", .str "up", .str "down", .str "rest"]) = false := by rw [if_pos rfl, word_in]; rfl
        have A2 := A.same (Same.new (o := .lst [.str "shut", .str "part", .str "up", .str "down", .str "rest"]) hp1)
        refine (show if (if true = true then !inV (V.str (wordS (LW.tickW D))) [.str "shut", .str "part", .str "up", .str "down", .str "rest"] else inV (V.str (wordS (LW.tickW D))) [.str "shut", .str "part", .str "up", .str "down", .str "rest"]) = true then _ else _ from ?_)
        rw [ni]
        generalize upd H2 p1 (.lst [.str "shut", .str "part", .str "up", .str "down", .str "rest"]) = H3 at A2 ⊢
        refine iteF ⟨_, rfl, rfl, ?_⟩
        refine ⟨_, rfl, _, rfl, rfl, .inr ⟨_, rfl, _, _, rfl, rfl, _, rfl, rfl, .inr ⟨_, rfl, _, _, rfl, rfl, ?_⟩⟩⟩
        have gd := LW.good_tick good
        have fl : D.lift.floor + (if decide (V.str (wordS (LW.tickW D)) = V.str "up") = true then 1 else 0) - (if decide (V.str (wordS (LW.tickW D)) = V.str "down") = true then 1 else 0) = (LW.tickD D).lift.floor := by
          rw [up_word, down_word]
          have h := LW.moved_floor D.lift (LW.tickW D)
          show _ = (LW.moved D.lift (LW.tickW D)).floor
          rw [h]
          simp only [decide_eq_true_eq]
        have ap : decide (V.str (wordS (LW.tickW D)) = V.str "part") = (LW.tickD D).lift.apart := by
          have h := LW.moved_apart D.lift (LW.wants D.people)
          show _ = (LW.moved D.lift (LW.actW D.lift (LW.wants D.people))).apart
          rw [h]
          by_cases z : LW.actW D.lift (LW.wants D.people) = .part
          · rw [decide_eq_true z]; exact decide_eq_true (part_word.mpr z)
          · rw [decide_eq_false z]; exact decide_eq_false fun q => z (part_word.mp q)
        dsimp only
        rw [fl, ap]
        refine ⟨_, rfl, _, _, rfl, rfl, _, rfl, iteN (by have := gd.lo; omega) ?_⟩
        refine ⟨_, rfl, _, rfl, _, _, rfl, rfl, _, rfl, iteN (by have := gd.hi; omega) ?_⟩
        refine ⟨_, rfl, .inl ⟨rfl, _, SqL.of A2.er⟩, _, rfl, _, rfl, sz 2 (by decide), fun t' ht' => ?_⟩
        refine ⟨b, _, _, rfl, rfl, Same.new ht' _ _ A2.er, (by rw [List.length_map]; exact small1000 (by omega)), us ++ [t'], _, _, rfl, ?_⟩
        exact A2.put ht' hb ((LW.tickD D).lift.floor, LW.tickW D)
    · rintro σ H2 ⟨us, v6, v7, rfl, A⟩
      have A := A
      rw [List.length_map] at A
      have e1 : ((ts.length : Int)).toNat = xs.length := by omega
      rw [e1, List.take_length] at A
      exact ⟨_, rfl, k H2 b us A⟩
end
section
variable {row : LW.Pp → List V} {F0 H : Hp} {lp g : Addr} {rs : List Addr} {ps : List LW.Pp} {o o' : HO}
theorem LawP.put (A : LawP row (upd F0 g o) H lp rs ps) : LawP row (upd F0 g o') (upd H g o') lp rs ps := by
  have n1 : lp ≠ g := fun z => by have := A.fl; rw [z, upd_same] at this; cases this
  have n2 : ∀ r ∈ rs, r ≠ g := fun r hr z => by have := A.fr r hr; rw [z, upd_same] at this; cases this
  refine ⟨(upd_ne n1).trans A.list, rows_upd n2 A.pp, A.nd, A.no, fun b u e => ?_, ?_, fun r hr => ?_⟩
  · by_cases hb : b = g
    · subst hb; rw [upd_same] at e ⊢; exact e
    · rw [upd_ne hb] at e ⊢
      exact A.out b u (by rw [upd_ne hb]; exact e)
  · rw [upd_ne n1]; have := A.fl; rw [upd_ne n1] at this; exact this
  · rw [upd_ne (n2 r hr)]; have := A.fr r hr; rw [upd_ne (n2 r hr)] at this; exact this
end
section
variable {P : Program} {w : World} {K : PySem.W.Frag} {mg : Str → Option Value} {base : Heap}
def spPlayed (K : PySem.W.Frag) : Sp := fun vs H Q _ => ∃ (r : Addr) (F : Int) (ts : List Addr) (xs : List LW.Dd), vs = [.ref r, .int F] ∧ Deeds K H r ts xs ∧ xs.length ≤ 200 ∧
  ∀ H' m, Same H H' → H' m = some (.lst ((LW.runA F LW.dy0 xs).map anV)) → Q (.ref m) H'
theorem scPlayed : FnScope ["_law_asked", "_law_floors", "_law_people", "_law_row", "_law_made", "_law_deed", "_law_word", "_law_low", "_law_high", "_law_here", "_law_way", "_law_doors", "_law_fresh"] ["_law_asked", "_law_floors"] (defScope sPlayed) := ⟨rfl, rfl, rfl, by decide +kernel, rfl, by decide +kernel, by decide +kernel⟩
theorem ok_played {f f1 f2 f3 : Addr} {fd fd1 fd2 fd3 : FuncData} (F : Fun K "_law_played" "_law_played" sPlayed f fd) (B : Blt K mg) (D1 : Df K mg "_law_rule_for" sDue ["_law_state", "_law_wanted"] f1 fd1) (D2 : Df K mg "_law_let" sLet ["_law_people", "_law_here"] f2 fd2) (D3 : Df K mg "_law_asked_for" sAsked ["_law_people"] f3 fd3) :
    FnOk P w K mg base CX0 2 f fd ["_law_asked", "_law_floors"] (spPlayed K) := by
  have G1 : FnOk P w K mg base CX0 1 f1 fd1 ["_law_state", "_law_wanted"] (spDue K) := ok_due D1.F
  have G2 : FnOk P w K mg base CX0 1 f2 fd2 ["_law_people", "_law_here"] spLet := ok_let (K := K) D2.F
  have G3 : FnOk P w K mg base CX0 1 f3 fd3 ["_law_people"] (spAsked K) := ok_asked D3.F
  refine F.ok scPlayed (fun vs H Q E h => ?_) (fun cdv A outer s H vs Q E hr h => ?_)
  · obtain ⟨r, F, ts, xs, rfl, _⟩ := h
    rfl
  · obtain ⟨r, F, ts, xs, rfl, hds, hlen, k⟩ := h
    refine ⟨_, (pss_cons (ps_set (i := 2) scPlayed.nd rfl (Or.inl rfl) (pe_lst pa_nil))
      (pss_cons (ps_set (i := 3) scPlayed.nd rfl (Or.inl rfl) (pe_tup (pa_cons pe_int (pa_cons pe_str (pa_cons pe_bl (pa_cons pe_bl pa_nil))))))
      (pss_cons (ps_set (i := 4) scPlayed.nd rfl (Or.inl rfl) (pe_lst pa_nil))
      (pss_cons (ps_for PassesOwn.never rfl (pi_list (pv 0)) (pg_name (i := 5) scPlayed.nd rfl (Or.inl rfl)) (pss_cons (ps_set (i := 6) scPlayed.nd rfl (Or.inl rfl) pe_non)
      (pss_cons (ps_if (pt_cmpR op_eq (pe_ix ix_tup (pv 5) pe_int (fun _ _ => rfl)) pe_str (nomark _)) (pss_cons (ps_set (i := 7) scPlayed.nd rfl (Or.inl rfl) (pe_callB (call_min2 rfl) rfl B.min PyProof.Rows.boot_min (pa_cons (pe_ix ix_tup (pv 5) pe_int (fun _ _ => rfl)) (pa_cons (pe_ix ix_tup (pv 5) pe_int (fun _ _ => rfl)) pa_nil))))
      (pss_cons (ps_set (i := 8) scPlayed.nd rfl (Or.inl rfl) (pe_callB (call_max2 rfl) rfl B.max PyProof.Rows.boot_max (pa_cons (pe_ix ix_tup (pv 5) pe_int (fun _ _ => rfl)) (pa_cons (pe_ix ix_tup (pv 5) pe_int (fun _ _ => rfl)) pa_nil))))
      (pss_one (ps_if (PW.pt (pw_and (pt_cmpR op_le pe_int (pv 7) (nomark _)) (pw_and (pt_cmpR op_lt (pv 7) (pv 8) (nomark _)) (pw_and1 (pt_cmpR op_lt (pv 8) (pv 1) (nomark _)))))) (pss_cons (ps_set (i := 6) scPlayed.nd rfl (Or.inl rfl) (pe_callB call_len_seq rfl B.len PySem.boot_len (pa_cons (pv 2) pa_nil)))
      (pss_one (ps_expr (pe_append (pv 2) (pe_lst (pa_cons (pe_ix ix_tup (pv 5) pe_int (fun _ _ => rfl)) (pa_cons (pe_ix ix_tup (pv 5) pe_int (fun _ _ => rfl)) (pa_cons pe_str pa_nil)))))))) pss_nil)))) (pss_cons (ps_set (i := 6) scPlayed.nd rfl (Or.inl rfl) (pe_call G1 hr rfl D1.m D1.F.kp D1.b .nil pass0 (pa_cons (pv 3) (pa_cons (pe_call G3 hr rfl D3.m D3.F.kp D3.b .nil pass0 (pa_cons (pv 2) pa_nil)) pa_nil))))
      (pss_cons (ps_asg (pv 3) (pg_tup rfl (pgs_cons (pg_name (i := 9) scPlayed.nd rfl (Or.inl rfl)) (pgs_cons (pg_name (i := 10) scPlayed.nd rfl (Or.inl rfl)) (pgs_cons (pg_name (i := 11) scPlayed.nd rfl (Or.inl rfl)) (pgs_cons (pg_name (i := 12) scPlayed.nd rfl (Or.inl rfl)) pgs_nil))))))
      (pss_one (ps_if (pt_cmpR op_eq (pv 6) pe_str (nomark _)) (pss_cons (ps_expr (pe_call G2 hr rfl D2.m D2.F.kp D2.b .nil pass0 (pa_cons (pv 2) (pa_cons (pv 9) pa_nil))))
      (pss_one (ps_set (i := 3) scPlayed.nd rfl (Or.inl rfl) (pe_tup (pa_cons (pv 9) (pa_cons (pv 10) (pa_cons pe_bl (pa_cons pe_bl pa_nil)))))))) (pss_one (ps_if (pt_cmpR op_eq (pv 6) pe_str (nomark _)) (pss_one (ps_set (i := 3) scPlayed.nd rfl (Or.inl rfl) (pe_tup (pa_cons (pv 9) (pa_cons (pv 10) (pa_cons pe_bl (pa_cons (pv 12) pa_nil))))))) (pss_one (ps_if (pt_cmpR op_ne (pv 6) pe_str (nomark _)) (pss_one (ps_set (i := 3) scPlayed.nd rfl (Or.inl rfl) (pe_tup (pa_cons (pe_op op_add (pv 9) (pe_ix ix_list (pe_lst (pa_cons (pe_un un_neg pe_int) (pa_cons pe_int pa_nil))) (pe_callTy call_int1 rfl B.int PyProof.Rows.boot_int (pa_cons (pe_cmpR op_eq (pv 6) pe_str (nomark _)) pa_nil)) (fun _ _ => rfl))) (pa_cons (pv 6) (pa_cons pe_bl (pa_cons pe_bl pa_nil))))))) pss_nil)))))))))
      (pss_one (ps_expr (pe_append (pv 4) (pv 6)))))))
      (pss_one (ps_ret (pv 4))))))), ?_⟩
    have hlx : ts.length = xs.length := PySem.Paired.length hds.each
    refine ⟨Nat.zero_le _, fun lp hlp => ⟨sz 4 (by decide), fun st hst => ⟨Nat.zero_le _, fun md hmd => ?_⟩⟩⟩
    have s0 : Same H (upd (upd H lp (.lst [])) st (.tup [.int 0, .str "up", .bl false, .bl true])) := (Same.new hlp).trans (Same.new hst)
    have fmd : H md = none := s0.free hmd
    have nlm : lp ≠ md := fun z => by subst z; rw [Same.new hst _ _ upd_same] at hmd; cases hmd
    have nsm : st ≠ md := fun z => by subst z; rw [upd_same] at hmd; cases hmd
    refine ⟨_, rfl, r, rfl, ⟨_, (s0.trans (Same.new hmd)).seq hds.list⟩, for_list (K := K) (a := r) (xs := ts.map V.ref) (fun i σ H5 => ∃ (st : Addr) (rs : List Addr) (v5 v6 v7 v8 v9 v10 v11 v12 : Option V), σ = [some (.ref r), some (.int F), some (.ref lp), some (.ref st), some (.ref md), v5, v6, v7, v8, v9, v10, v11, v12] ∧
        LawP rowW (upd H md (.lst ((LW.runA F LW.dy0 (xs.take i)).map anV))) H5 lp rs (LW.runD F LW.dy0 (xs.take i)).people ∧ H5 st = some (.tup (stV (LW.runD F LW.dy0 (xs.take i)).lift)))
      ⟨st, [], none, none, none, none, none, none, none, none, rfl, ?_, (upd_ne nsm).trans upd_same⟩ (fun i σ H5 _ ⟨_, _, _, _, _, _, _, _, _, _, _, A5, _⟩ => ((Same.new fmd).trans A5.out).seq hds.list) ?_ ?_⟩
    · refine ⟨(upd_ne nlm).trans (Same.new hst _ _ upd_same), .nil, List.nodup_nil, by simp, fun b u e => ?_, (upd_ne nlm).trans hlp, fun r hr => nomatch hr⟩
      by_cases hb : b = md
      · subst hb; rw [upd_same] at e ⊢; exact e
      · rw [upd_ne hb] at e ⊢; exact s0 _ _ e
    · rintro i y σ H5 hi ⟨st, rs, v5, v6, v7, v8, v9, v10, v11, v12, rfl, A5, est⟩
      obtain ⟨t, rfl, ht⟩ := get_ref hi
      obtain ⟨x, hx, hT⟩ := Paired.get hds.each ht
      have hT5 := ((Same.new fmd).trans A5.out).tup hT
      have hil : i < xs.length := (List.getElem?_eq_some_iff.mp hx).1
      have sane := LW.sane_run (F := F) (xs.take i) LW.sane0
      have hpl : (LW.runD F LW.dy0 (xs.take i)).people.length ≤ 200 := by
        have h1 := run_people (F := F) (xs.take i) LW.dy0
        rw [List.length_take] at h1
        have : LW.dy0.people.length = 0 := rfl
        omega
      have next := run_take (F := F) hx LW.dy0
      have nextA := runA_take (F := F) hx LW.dy0
      have hml : ((LW.runA F LW.dy0 (xs.take i)).map anV).length ≤ 200 := by rw [List.length_map, LW.runA_length, List.length_take]; omega
      rw [next, nextA]
      generalize hD : LW.runD F LW.dy0 (xs.take i) = D at *
      generalize hM : LW.runA F LW.dy0 (xs.take i) = M at *
      -- the answer is kept
      have fin : ∀ (v : V) (D' : LW.Dy) (st' : Addr) (rs' : List Addr) (H6 : Hp) (w5 w7 w8 w9 w10 w11 w12 : Option V) (an : LW.An), v = anV an → LawP rowW (upd H md (.lst (M.map anV))) H6 lp rs' D'.people → H6 st' = some (.tup (stV D'.lift)) → ∀ Dn : Ends,
          (∀ σ' H', (∃ (st : Addr) (rs : List Addr) (v5 v6 v7 v8 v9 v10 v11 v12 : Option V), σ' = [some (.ref r), some (.int F), some (.ref lp), some (.ref st), some (.ref md), v5, v6, v7, v8, v9, v10, v11, v12] ∧ LawP rowW (upd H md (.lst ((M ++ [an]).map anV))) H' lp rs D'.people ∧ H' st = some (.tup (stV D'.lift))) → Dn.nx σ' H') →
          tDrop (tBM K "list" rAppend (tVar 4) (tCons (tVar 6) tNil)) Dn [some (.ref r), some (.int F), some (.ref lp), some (.ref st'), some (.ref md), w5, some v, w7, w8, w9, w10, w11, w12] H6 := by
        intro v D' st' rs' H6 w5 w7 w8 w9 w10 w11 w12 an ev A6 est6 Dn hn
        have emd : H6 md = some (.lst (M.map anV)) := A6.out _ _ upd_same
        refine ⟨_, rfl, .inl ⟨rfl, _, SqL.of emd⟩, _, rfl, md, _, _, rfl, rfl, emd, Nat.lt_of_le_of_lt hml (by decide), ?_⟩
        have nst : st' ≠ md := ne_of est6 emd fun z => nomatch z
        refine hn _ _ ⟨st', rs', _, _, _, _, _, _, _, _, rfl, ?_, (upd_ne nst).trans est6⟩
        have e1 : M.map anV ++ [v] = (M ++ [an]).map anV := by rw [List.map_append, ev]; rfl
        rw [e1]
        exact A6.put
      cases x with
      | press s g' =>
        have ix : ∀ (j : Int) (v : V), atI (ddV (.press s g')) j = some v → ∀ (σ : St) (Q : VK), σ[5]? = some (some (V.ref t)) → Q v H5 → tOp (rIxT K) (tVar 5) (tC (.int j)) σ H5 Q := fun j v hj σ Q h2 hQ =>
          ⟨_, h2, t, _, _, _, rfl, rfl, hT5, hj, hQ⟩
        refine ix 0 (.str "press") rfl _ _ rfl ⟨rfl, _, rfl, iteY rfl ?_⟩
        refine ix 1 (.int s) rfl _ _ rfl (ix 2 (.int g') rfl _ _ rfl ⟨_, _, rfl, ?_⟩)
        refine ix 1 (.int s) rfl _ _ rfl (ix 2 (.int g') rfl _ _ rfl ⟨_, _, rfl, ?_⟩)
        obtain ⟨lo, hlo⟩ : ∃ lo, lo = if g' < s then g' else s := ⟨_, rfl⟩
        obtain ⟨hi', hhi⟩ : ∃ hi', hi' = if g' > s then g' else s := ⟨_, rfl⟩
        rw [← hlo, ← hhi]
        have okm := LW.okPress_mm (F := F) hlo hhi
        have no : LW.okPress F s g' = false → LW.stepD F D (.press s g') = D ∧ LW.stepA F D (.press s g') = .no := fun e => by
          constructor
          · unfold LW.stepD; dsimp only; rw [if_neg (by rw [e]; exact Bool.false_ne_true)]
          · unfold LW.stepA; dsimp only; rw [if_neg (by rw [e]; exact Bool.false_ne_true)]
        refine ⟨_, rfl, _, _, rfl, rfl, _, rfl, ?_⟩
        cases c1 : decide (0 ≤ lo) with
        | false =>
          obtain ⟨e1, e2⟩ := no (by rw [okm, c1]; rfl)
          rw [e1, e2]
          exact iteF (iteF (fin _ D st rs H5 _ _ _ _ _ _ _ .no rfl A5 est _ fun _ _ h => h))
        | true =>
          refine iteT ⟨_, rfl, _, rfl, _, _, rfl, rfl, _, rfl, ?_⟩
          cases c2 : decide (lo < hi') with
          | false =>
            obtain ⟨e1, e2⟩ := no (by rw [okm, c1, c2]; rfl)
            rw [e1, e2]
            exact iteF (iteF (fin _ D st rs H5 _ _ _ _ _ _ _ .no rfl A5 est _ fun _ _ h => h))
          | true =>
            refine iteT ⟨_, rfl, _, rfl, _, _, rfl, rfl, _, rfl, ?_⟩
            cases c3 : decide (hi' < F) with
            | false =>
              obtain ⟨e1, e2⟩ := no (by rw [okm, c1, c2, c3]; rfl)
              rw [e1, e2]
              exact iteF (fin _ D st rs H5 _ _ _ _ _ _ _ .no rfl A5 est _ fun _ _ h => h)
            | true =>
              have ok : LW.okPress F s g' = true := by rw [okm, c1, c2, c3]; rfl
              have e1 : LW.stepD F D (.press s g') = { D with people := D.people ++ [⟨s, g', D.ticks, none, none⟩] } := by unfold LW.stepD; dsimp only; rw [if_pos ok]
              have e2 : LW.stepA F D (.press s g') = .num D.people.length := by unfold LW.stepA; dsimp only; rw [if_pos ok]
              rw [e1, e2]
              refine iteT ⟨_, rfl, lp, _, rfl, .inl (SqL.of A5.list), ?_⟩
              refine ⟨_, rfl, .inl ⟨rfl, _, SqL.of A5.list⟩, ?_⟩
              refine ix 1 (.int s) rfl _ _ rfl (ix 2 (.int g') rfl _ _ rfl ⟨sz 3 (by decide), fun b hb => ?_⟩)
              have nb : lp ≠ b := fun z => by subst z; rw [A5.list] at hb; cases hb
              refine ⟨lp, _, _, rfl, rfl, (upd_ne nb).trans A5.list, (by rw [List.length_map, A5.len]; exact small1000 (by omega)), ?_⟩
              have A6 := A5.push (p := ⟨s, g', D.ticks, none, none⟩) hb
              have n1 : st ≠ b := ne_of_none est hb
              have n2 : st ≠ lp := ne_of est A5.list fun z => nomatch z
              refine fin _ { D with people := D.people ++ [⟨s, g', D.ticks, none, none⟩] } st (rs ++ [b]) _ _ _ _ _ _ _ _ (.num D.people.length) ?_ A6 ((upd_ne n2).trans ((upd_ne n1).trans est)) _ fun _ _ h => h
              rw [List.length_map, A5.len]; rfl
      | tick =>
        refine ⟨_, rfl, t, _, _, _, rfl, rfl, hT5, (show atI (ddV .tick) 0 = some (.str "tick") from rfl), rfl, _, rfl, iteN tpV ?_⟩
        refine ⟨_, rfl, _, rfl, lp, _, rs, D.people, rfl, A5, by omega, fun H6 wl s6 ewl => ?_⟩
        have hal : (LW.asked D.people).length ≤ 400 := by
          unfold LW.asked
          rw [List.length_append, List.length_map, List.length_map]
          have h1 := List.length_filter_le (fun p : LW.Pp => decide (p.ph = .waits)) D.people
          have h2 := List.length_filter_le (fun p : LW.Pp => decide (p.ph = .rides)) D.people
          omega
        refine ⟨st, wl, D.lift, LW.asked D.people, rfl, SqT.of (s6 _ _ est), SqL.of ewl, by omega, fun H7 s7 => ?_⟩
        have hw : LW.ruleW D.lift (LW.asked D.people) = LW.tickW D := LW.rule_asked _ _
        rw [hw]
        have s8 := s6.trans s7
        have A7 := A5.same s8
        have est7 := s8 _ _ est
        refine ⟨_, rfl, st, _, rfl, SqT.of est7, rfl, _, _, rfl, _, _, rfl, _, _, rfl, _, _, rfl, rfl, ?_⟩
        have e2 : LW.stepD F D .tick = LW.tickD D := rfl
        have e2' : LW.stepA F D .tick = .wd (LW.tickW D) := rfl
        rw [e2, e2']
        refine ⟨_, rfl, rfl, _, rfl, ?_⟩
        by_cases h1 : LW.tickW D = .part
        · refine iteY (part_word.mpr h1) ?_
          refine ⟨_, rfl, _, rfl, lp, D.lift.floor, D.ticks + 1, _, rs, D.people, rfl, A7, sane, fun H8 A8 => ?_⟩
          refine ⟨_, rfl, _, rfl, sz 4 (by decide), fun st' hst' => ?_⟩
          have e3 : LW.tickD D = { lift := LW.moved D.lift .part, people := LW.swap D.lift.floor (D.ticks + 1) D.people, ticks := D.ticks + 1 } := by unfold LW.tickD; rw [if_pos h1, h1]
          rw [e3]
          exact fin _ { lift := LW.moved D.lift .part, people := LW.swap D.lift.floor (D.ticks + 1) D.people, ticks := D.ticks + 1 } st' rs _ _ _ _ _ _ _ _ (.wd (LW.tickW D)) rfl (A8.same (Same.new hst')) upd_same _ fun _ _ h => h
        · have ppl : (LW.tickD D).people = D.people := by unfold LW.tickD; dsimp only; rw [if_neg h1]
          have lft : (LW.tickD D).lift = LW.moved D.lift (LW.tickW D) := rfl
          refine iteN (fun z => h1 (part_word.mp z)) ⟨_, rfl, rfl, _, rfl, ?_⟩
          by_cases h2 : LW.tickW D = .shut
          · refine iteY (shut_word.mpr h2) ⟨_, rfl, _, rfl, _, rfl, sz 4 (by decide), fun st' hst' => ?_⟩
            refine fin _ (LW.tickD D) st' rs _ _ _ _ _ _ _ _ (.wd (LW.tickW D)) rfl ?_ ?_ _ fun _ _ h => h
            · rw [ppl]; exact A7.same (Same.new hst')
            · rw [lft, h2]; exact upd_same
          · refine iteN (fun z => h2 (shut_word.mp z)) ⟨_, rfl, rfl, _, rfl, ?_⟩
            by_cases h3 : LW.tickW D = .rest
            · refine iteNS (rest_word.mpr h3) ?_
              refine fin _ (LW.tickD D) st rs _ _ _ _ _ _ _ _ (.wd (LW.tickW D)) rfl ?_ ?_ _ fun _ _ h => h
              · rw [ppl]; exact A7
              · rw [lft, h3]; exact est7
            · obtain ⟨d, hd⟩ : ∃ d, LW.tickW D = .go d := by
                cases e : LW.tickW D with
                | shut => exact absurd e h2
                | part => exact absurd e h1
                | rest => exact absurd e h3
                | go d => exact ⟨d, rfl⟩
              have hap := (LW.actW_go hd).1
              rw [decide_eq_false (fun z => h3 (rest_word.mp z))]
              refine iteT ⟨_, rfl, _, rfl, sz 2 (by decide), fun p hp => ?_⟩
              have s9 := Same.new (o := .lst [V.int (-1), V.int 1]) hp
              refine ⟨_, rfl, rfl, .inr ⟨_, rfl, ?_⟩⟩
              cases d with
              | true =>
                have ew : decide (V.str (wordS (LW.tickW D)) = V.str "up") = true := decide_eq_true (by rw [hd]; rfl)
                rw [ew]
                refine ⟨p, _, _, _, rfl, rfl, SqL.of upd_same, (show atI [V.int (-1), V.int 1] 1 = some (.int 1) from rfl), _, _, rfl, rfl, _, rfl, sz 4 (by decide), fun st' hst' => ?_⟩
                refine fin _ (LW.tickD D) st' rs _ _ _ _ _ _ _ _ (.wd (LW.tickW D)) rfl ?_ ?_ _ fun _ _ h => h
                · rw [ppl]; exact (A7.same s9).same (Same.new hst')
                · rw [lft, hd, upd_same, stV_go hap]; rfl
              | false =>
                have ew : decide (V.str (wordS (LW.tickW D)) = V.str "up") = false := decide_eq_false (by rw [hd]; exact duV)
                rw [ew]
                refine ⟨p, _, _, _, rfl, rfl, SqL.of upd_same, (show atI [V.int (-1), V.int 1] 0 = some (.int (-1)) from rfl), _, _, rfl, rfl, _, rfl, sz 4 (by decide), fun st' hst' => ?_⟩
                refine fin _ (LW.tickD D) st' rs _ _ _ _ _ _ _ _ (.wd (LW.tickW D)) rfl ?_ ?_ _ fun _ _ h => h
                · rw [ppl]; exact (A7.same s9).same (Same.new hst')
                · rw [lft, hd, upd_same, stV_go hap]; rfl
    · rintro σ H5 ⟨st, rs, v5, v6, v7, v8, v9, v10, v11, v12, rfl, A5, est⟩
      rw [List.length_map, hlx, List.take_length] at A5
      exact ⟨_, rfl, k H5 md ((Same.new fmd).trans A5.out) (A5.out _ _ upd_same)⟩
end
section
variable {P : Program} {w : World} {K : PySem.W.Frag} {mg : Str → Option Value} {base : Heap} {tU tD tS tP tR : Tok} {CL CP CD : Addr}
def nmL : List Str := ["_law_script", "_law_floors", "_law_asked", "_law_handed", "_law_told", "_law_rows", "_law_number", "_law_k", "_law_low", "_law_high", "_law_given", "_law_found", "_law_here", "_law_ways"]
theorem scL : FnScope nmL ["_law_script"] (defScope sLaw) := ⟨rfl, rfl, rfl, by decide +kernel, rfl, by decide +kernel, by decide +kernel⟩
def spLaw (K : PySem.W.Frag) : Sp := fun vs H Q _ => ∃ (a : Addr) (ns : List Int), vs = [.ref a] ∧ SqL K H a (ns.map V.int) ∧ ns.length ≤ 63 ∧ ∀ H', Q (.bl true) H'
theorem cut_ints {ns : List Int} {lo hi : Option Int} : ∃ ms : List Int, cutV (ns.map V.int) lo hi = ms.map V.int ∧ ms.length ≤ ns.length := by
  refine ⟨(ns.drop (HT.sIx ns.length 0 lo)).take (HT.sIx ns.length ns.length hi - HT.sIx ns.length 0 lo), ?_, ?_⟩
  · unfold cutV
    rw [List.length_map, ← List.map_drop, ← List.map_take]
  · rw [List.length_take, List.length_drop]; omega
theorem alike_ans {H : Hp} : ∀ M : List LW.An, Paired (Alike H) (M.map anV) (M.map anV)
  | [] => .nil
  | x :: M => by
    refine .cons (.flat ?_) (alike_ans M)
    cases x with
    | no => exact .non
    | num n => exact .int _
    | wd x => exact .str _
theorem go_in (z : Int × LW.Wd) : inV (.str (wordS z.2)) [.str "up", .str "down"] = LW.isGo z := by
  obtain ⟨i, x⟩ := z
  cases x with
  | shut => show inV (.str "shut") [.str "up", .str "down"] = false; decide +kernel
  | part => show inV (.str "part") [.str "up", .str "down"] = false; decide +kernel
  | rest => show inV (.str "rest") [.str "up", .str "down"] = false; decide +kernel
  | go b => cases b with
    | true => show inV (.str "up") [.str "up", .str "down"] = true; decide +kernel
    | false => show inV (.str "down") [.str "up", .str "down"] = true; decide +kernel
theorem pair_refR {H : Hp} : ∀ {rs : List Addr} {ys : List (Int × LW.Wd)}, Paired (TupRow H) rs ys → Paired (fun v z => ∃ r, v = V.ref r ∧ H r = some (.tup (rowV z))) (rs.map V.ref) ys
  | [], _, .nil => .nil
  | r :: rs, _, .cons q qq => .cons ⟨r, rfl, q⟩ (pair_refR qq)
theorem ok_law {f f1 f2 f3 f4 f5 f6 f7 f8 f9 f10 f11 f12 f13 f14 : Addr} {fd fd1 fd2 fd3 fd4 fd5 fd6 fd7 fd8 fd9 fd10 fd11 fd12 fd13 fd14 : FuncData} (F : Fun K "law" "law" sLaw f fd) (Z : Lib K mg CL CP CD tU tD tS tP tR) (B : Blt K mg) (D1 : Df K mg "answers" sAnswers ["floors", "deeds"] f1 fd1)
    (D2 : Df K mg "_law_room" sRoom ["_law_script", "_law_most", "_law_bound"] f2 fd2) (D3 : Df K mg "_law_at" sAt ["_law_script", "_law_k"] f3 fd3) (D4 : Df K mg "_law_deeds" sDeeds ["_law_cells", "_law_floors"] f4 fd4)
    (D5 : Df K mg "_law_parted" sParted ["_law_asked", "_law_told", "_law_floors"] f5 fd5) (D6 : Df K mg "_law_kept" sKept ["_law_handed", "_law_asked"] f6 fd6) (D7 : Df K mg "_law_whole" sWhole ["_law_found"] f7 fd7) (D8 : Df K mg "_law_unturned" sUnturned ["_law_found", "_law_due"] f8 fd8)
    (D9 : Df K mg "day_behind" sBehind ["floors", "deeds"] f9 fd9) (D10 : Df K mg "lift_behind" sLb ["floors", "deeds"] f10 fd10) (D11 : Df K mg "_law_rule_for" sDue ["_law_state", "_law_wanted"] f11 fd11) (D12 : Df K mg "_law_let" sLet ["_law_people", "_law_here"] f12 fd12)
    (D13 : Df K mg "_law_asked_for" sAsked ["_law_people"] f13 fd13) (D14 : Df K mg "_law_played" sPlayed ["_law_asked", "_law_floors"] f14 fd14) : FnOk P w K mg base CX0 9 f fd ["_law_script"] (spLaw K) := by
  have G1 : FnOk P w K mg base CX0 7 f1 fd1 ["floors", "deeds"] (spAnswers K) := ok_answers D1.F Z
  have G2 : FnOk P w K mg base CX0 1 f2 fd2 ["_law_script", "_law_most", "_law_bound"] (spRoom K) := ok_room D2.F B
  have G3 : FnOk P w K mg base CX0 1 f3 fd3 ["_law_script", "_law_k"] (spAt K) := ok_at D3.F B
  have G4 : FnOk P w K mg base CX0 1 f4 fd4 ["_law_cells", "_law_floors"] (spDeeds K) := ok_deeds D4.F B
  have G5 : FnOk P w K mg base CX0 1 f5 fd5 ["_law_asked", "_law_told", "_law_floors"] (spParted K) := ok_parted D5.F B
  have G6 : FnOk P w K mg base CX0 2 f6 fd6 ["_law_handed", "_law_asked"] (spKept K) := ok_kept D6.F B D8
  have G7 : FnOk P w K mg base CX0 1 f7 fd7 ["_law_found"] spWhole := ok_whole D7.F B
  have G8 : FnOk P w K mg base CX0 1 f8 fd8 ["_law_found", "_law_due"] (spUnturned K) := ok_unturned D8.F B
  have G10 : FnOk P w K mg base CX0 8 f10 fd10 ["floors", "deeds"] (spLb K) := ok_lb D10.F Z D9
  have G14 : FnOk P w K mg base CX0 2 f14 fd14 ["_law_asked", "_law_floors"] (spPlayed K) := ok_played D14.F B D11 D12 D13
  refine F.ok scL (fun vs H Q E h => ?_) (fun cdv A outer s H vs Q E hr h => ?_)
  · obtain ⟨a, ns, rfl, _⟩ := h
    rfl
  · obtain ⟨a, ns, rfl, hS, hl, k⟩ := h
    have hr1 : Room 1 _ := hr.mono (by decide)
    have hr2 : Room 2 _ := hr.mono (by decide)
    have hr7 : Room 7 _ := hr.mono (by decide)
    refine ⟨_, (pss_cons (ps_set (i := 1) scL.nd rfl (Or.inl rfl) (pe_op op_add pe_int (pe_op op_mod (pe_call G3 hr1 rfl D3.m D3.F.kp D3.b .nil pass0 (pa_cons (pv 0) (pa_cons pe_int pa_nil))) pe_int)))
      (pss_cons (ps_if (pt_cmpR op_gt (pe_op op_mod (pe_call G3 hr1 rfl D3.m D3.F.kp D3.b .nil pass0 (pa_cons (pv 0) (pa_cons pe_int pa_nil))) pe_int) pe_int (nomark _)) (pss_one (ps_set (i := 1) scL.nd rfl (Or.inl rfl) (pe_op op_add pe_int (pe_op op_mod (pe_op op_fdiv (pe_call G3 hr1 rfl D3.m D3.F.kp D3.b .nil pass0 (pa_cons (pv 0) (pa_cons pe_int pa_nil))) pe_int) (pe_call G2 hr1 rfl D2.m D2.F.kp D2.b .nil pass0 (pa_cons (pv 0) (pa_cons pe_int (pa_cons pe_int pa_nil)))))))) pss_nil)
      (pss_cons (ps_set (i := 2) scL.nd rfl (Or.inl rfl) (pe_call G4 hr1 rfl D4.m D4.F.kp D4.b .nil pass0 (pa_cons (pe_slice sl_list (pv 0) (po_some pe_int) (po_some pe_int)) (pa_cons (pv 1) pa_nil))))
      (pss_cons (ps_set (i := 3) scL.nd rfl (Or.inl rfl) (pe_callTy call_list_of rfl B.list PyProof.Rows.boot_list (pa_cons (pv 2) pa_nil)))
      (pss_cons (ps_set (i := 4) scL.nd rfl (Or.inl rfl) (pe_call G1 hr7 rfl D1.m D1.F.kp D1.b .nil pass0 (pa_cons (pv 1) (pa_cons (pv 3) pa_nil))))
      (pss_cons (ps_if (PW.pt (pw_or (pt_not (pt_truth (pe_call G6 hr2 rfl D6.m D6.F.kp D6.b .nil pass0 (pa_cons (pv 3) (pa_cons (pv 2) pa_nil))) (fun _ => rfl))) (pw_or (pt_not (pt_truth (pe_callB call_isi rfl B.isi PyProof.Rows.boot_isinstance (pa_cons (pv 4) (pa_cons (pe_bltn (v := .ty "list") rfl B.list PyProof.Rows.boot_list rfl) pa_nil))) (fun _ => rfl))) (pw_or1 (pt_cmpR op_ne (pe_callB call_len_seq rfl B.len PySem.boot_len (pa_cons (pv 4) pa_nil)) (pe_callB call_len_seq rfl B.len PySem.boot_len (pa_cons (pv 2) pa_nil)) (nomark _)))))) (pss_one (ps_ret pe_bl)) pss_nil)
      (pss_cons (ps_if (pt_not (pt_truth (pe_call G8 hr1 rfl D8.m D8.F.kp D8.b .nil pass0 (pa_cons (pv 4) (pa_cons (pe_call G14 hr2 rfl D14.m D14.F.kp D14.b .nil pass0 (pa_cons (pv 2) (pa_cons (pv 1) pa_nil))) pa_nil))) (fun _ => rfl))) (pss_one (ps_ret pe_bl)) pss_nil)
      (pss_cons (ps_set (i := 5) scL.nd rfl (Or.inl rfl) (pe_call G5 hr1 rfl D5.m D5.F.kp D5.b .nil pass0 (pa_cons (pv 2) (pa_cons (pv 4) (pa_cons (pv 1) pa_nil)))))
      (pss_cons (ps_if (pt_cmpR op_isN (pv 5) pe_non (nomark _)) (pss_one (ps_ret pe_bl)) pss_nil)
      (pss_cons (ps_set (i := 6) scL.nd rfl (Or.inl rfl) pe_int)
      (pss_cons (ps_for PassesOwn.never rfl (pi_range1 rfl B.range (pa_cons (pe_callB call_len_seq rfl B.len PySem.boot_len (pa_cons (pv 2) pa_nil)) pa_nil)) (pg_name (i := 7) scL.nd rfl (Or.inl rfl)) (pss_one (ps_if (pt_cmpR op_eq (pe_ix ix_tup (pe_ix ix_list (pv 2) (pv 7) (fun _ _ => rfl)) pe_int (fun _ _ => rfl)) pe_str (nomark _)) (pss_cons (ps_set (i := 8) scL.nd rfl (Or.inl rfl) (pe_callB (call_min2 rfl) rfl B.min PyProof.Rows.boot_min (pa_cons (pe_ix ix_tup (pe_ix ix_list (pv 2) (pv 7) (fun _ _ => rfl)) pe_int (fun _ _ => rfl)) (pa_cons (pe_ix ix_tup (pe_ix ix_list (pv 2) (pv 7) (fun _ _ => rfl)) pe_int (fun _ _ => rfl)) pa_nil))))
      (pss_cons (ps_set (i := 9) scL.nd rfl (Or.inl rfl) (pe_callB (call_max2 rfl) rfl B.max PyProof.Rows.boot_max (pa_cons (pe_ix ix_tup (pe_ix ix_list (pv 2) (pv 7) (fun _ _ => rfl)) pe_int (fun _ _ => rfl)) (pa_cons (pe_ix ix_tup (pe_ix ix_list (pv 2) (pv 7) (fun _ _ => rfl)) pe_int (fun _ _ => rfl)) pa_nil))))
      (pss_one (ps_if (PW.pt (pw_or (pt_cmpR op_eq (pv 8) (pv 9) (nomark _)) (pw_or (pt_cmpR op_lt (pv 8) pe_int (nomark _)) (pw_or1 (pt_cmpR op_ge (pv 9) (pv 1) (nomark _)))))) (pss_one (ps_if (pt_cmpR op_notN (pe_ix ix_list (pv 4) (pv 7) (fun _ _ => rfl)) pe_non (nomark _)) (pss_one (ps_ret pe_bl)) pss_nil)) (pss_one (ps_if (PW.pt (pw_or (pt_not (pt_truth (pe_call G7 hr1 rfl D7.m D7.F.kp D7.b .nil pass0 (pa_cons (pe_ix ix_list (pv 4) (pv 7) (fun _ _ => rfl)) pa_nil)) (fun _ => rfl))) (pw_or1 (pt_cmpR op_ne (pe_ix ix_list (pv 4) (pv 7) (fun _ _ => rfl)) (pv 6) (nomark _))))) (pss_one (ps_ret pe_bl)) (pss_one (ps_set (i := 6) scL.nd rfl (Or.inl rfl) (pe_op op_add (pv 6) pe_int))))))))) pss_nil)))
      (pss_cons (ps_set (i := 10) scL.nd rfl (Or.inl rfl) (pe_callTy call_list_of rfl B.list PyProof.Rows.boot_list (pa_cons (pv 2) pa_nil)))
      (pss_cons (ps_set (i := 11) scL.nd rfl (Or.inl rfl) (pe_call G10 hr rfl D10.m D10.F.kp D10.b .nil pass0 (pa_cons (pv 1) (pa_cons (pv 10) pa_nil))))
      (pss_cons (ps_if (pt_not (pt_truth (pe_call G6 hr2 rfl D6.m D6.F.kp D6.b .nil pass0 (pa_cons (pv 10) (pa_cons (pv 2) pa_nil))) (fun _ => rfl))) (pss_one (ps_ret pe_bl)) pss_nil)
      (pss_cons (ps_if (PW.pt (pw_or (pt_not (pt_truth (pe_callB call_isi rfl B.isi PyProof.Rows.boot_isinstance (pa_cons (pv 11) (pa_cons (pe_bltn (v := .ty "tuple") rfl B.tuple PyProof.Rows.boot_tuple rfl) pa_nil))) (fun _ => rfl))) (pw_or (pt_cmpR op_ne (pe_callB call_len_seq rfl B.len PySem.boot_len (pa_cons (pv 11) pa_nil)) pe_int (nomark _)) (pw_or1 (pt_not (pt_truth (pe_call G7 hr1 rfl D7.m D7.F.kp D7.b .nil pass0 (pa_cons (pe_ix ix_tup (pv 11) pe_int (fun _ _ => rfl)) pa_nil)) (fun _ => rfl))))))) (pss_one (ps_ret pe_bl)) pss_nil)
      (pss_cons (ps_if (PW.pt (pw_or (pt_not (pt_truth (pe_callB call_isi rfl B.isi PyProof.Rows.boot_isinstance (pa_cons (pe_ix ix_tup (pv 11) pe_int (fun _ _ => rfl)) (pa_cons (pe_bltn (v := .ty "bool") rfl B.bool PyProof.Rows.boot_bool rfl) pa_nil))) (fun _ => rfl))) (pw_or1 (pt_not (pt_truth (pe_callB call_isi rfl B.isi PyProof.Rows.boot_isinstance (pa_cons (pe_ix ix_tup (pv 11) pe_int (fun _ _ => rfl)) (pa_cons (pe_bltn (v := .ty "str") rfl B.str PyProof.Rows.boot_str rfl) pa_nil))) (fun _ => rfl)))))) (pss_one (ps_ret pe_bl)) pss_nil)
      (pss_cons (ps_set (i := 12) scL.nd rfl (Or.inl rfl) (pe_ix ix_list (pe_op op_cat (pe_lst (pa_cons (pe_tup (pa_cons pe_int (pa_cons pe_str pa_nil))) pa_nil)) (pv 5)) (pe_un un_neg pe_int) (fun _ _ => rfl)))
      (pss_cons (ps_if (PW.pt (pw_or (pt_cmpR op_ne (pe_ix ix_tup (pv 11) pe_int (fun _ _ => rfl)) (pe_ix ix_tup (pv 12) pe_int (fun _ _ => rfl)) (nomark _)) (pw_or1 (pt_cmpR op_ne (pe_ix ix_tup (pv 11) pe_int (fun _ _ => rfl)) (pe_cmpR op_eq (pe_ix ix_tup (pv 12) pe_int (fun _ _ => rfl)) pe_str (nomark _)) (nomark _))))) (pss_one (ps_ret pe_bl)) pss_nil)
      (pss_cons (ps_set (i := 13) scL.nd rfl (Or.inl rfl) (pe_op op_cat (pe_lst (pa_cons pe_str pa_nil)) (pe_comp (compSc0 (x := "_law_row") rfl rfl (by decide)) rfl (pi_list (pv 5)) (fun _ _ _ => pif_one (pt_cmpR (op_in_seqK K) (pe_ix (ix_tupK K) (pv 0) pe_int (fun _ _ => rfl)) (pe_lst (pa_cons pe_str (pa_cons pe_str pa_nil))) (by with_unfolding_all rfl))) (fun _ _ _ => (pe_ix (ix_tupK K) (pv 0) pe_int (fun _ _ => rfl))))))
      (pss_one (ps_ret (pe_cmpR op_eq (pe_ix ix_tup (pv 11) pe_int (fun _ _ => rfl)) (pe_ix ix_list (pv 13) (pe_un un_neg pe_int) (fun _ _ => rfl)) (nomark _))))))))))))))))))))))), ?_⟩
    refine rd_floors hS hl 39 999 (by decide) (by decide) fun F hF _ _ => ?_
    -- asked, handed
    refine ⟨_, rfl, _, rfl, _, rfl, a, _, rfl, hS, fun q hq => ?_⟩
    obtain ⟨ms, ems, hms⟩ := cut_ints (ns := ns) (lo := some 1) (hi := some 201)
    refine ⟨_, rfl, q, F, ms, rfl, SqL.of (by rw [upd_same, ems]), hF, by omega, fun H1 r ts xs s1 hr1' er ep el => ?_⟩
    have hlx : ts.length = xs.length := PySem.Paired.length ep
    have hxl : xs.length ≤ 200 := by omega
    refine ⟨_, rfl, r, _, rfl, .inl (SqL.of er), fun r2 hr2 => ?_⟩
    have s2 := Same.new (o := .lst (ts.map V.ref)) hr2
    have e2 : (upd H1 r2 (.lst (ts.map V.ref))) r2 = some (.lst (ts.map V.ref)) := upd_same
    generalize upd H1 r2 (.lst (ts.map V.ref)) = H2 at *
    -- told
    refine ⟨_, rfl, _, rfl, F, r2, ts, xs, rfl, ⟨SqL.of e2, L2.Paired.mapP ep fun _ _ e => SqT.of (s2 _ _ e)⟩, by omega, fun H3 g s3 hg0 eg => ?_⟩
    have s23 := s2.trans s3
    have er3 := s23 _ _ er
    have ep3 : Paired (TupDd H3) ts xs := L2.Paired.mapP ep fun _ _ e => s23 _ _ e
    have e23 := s3 _ _ e2
    clear hr2 hg0 s3 s2 ep er e2 s23 s1 hr1'
    refine ⟨_, rfl, _, rfl, r2, r, _, _, rfl, e23, er3, alike_deeds ep3, (by rw [List.length_map]; omega), fun H4 s4 => ⟨_, rfl, iteF ?_⟩⟩
    have eg4 := s4 _ _ eg
    have er4 := s4 _ _ er3
    have ep4 : Paired (TupDd H4) ts xs := L2.Paired.mapP ep3 fun _ _ e => s4 _ _ e
    refine ⟨_, rfl, _, _, _, _, rfl, .lst eg4, kit_same, _, rfl, iteF ?_⟩
    refine ⟨_, rfl, g, _, rfl, .inl (SqL.of eg4), _, rfl, r, _, rfl, .inl (SqL.of er4), rfl, _, rfl, iteNS (by rw [List.length_map, LW.runA_length, List.length_map, hlx]) ?_⟩
    -- as the rules beside have it
    refine ⟨_, rfl, _, rfl, _, rfl, r, F, ts, xs, rfl, ⟨SqL.of er4, tup_deeds ep4⟩, hxl, fun H5 m s5 em => ?_⟩
    refine ⟨g, m, _, _, rfl, s5 _ _ eg4, em, alike_ans _, (by rw [List.length_map, LW.runA_length]; omega), fun H6 s6 => ⟨_, rfl, iteF ?_⟩⟩
    have s56 := s5.trans s6
    have eg6 := s56 _ _ eg4
    have er6 := s56 _ _ er4
    have ep6 : Paired (TupDd H6) ts xs := L2.Paired.mapP ep4 fun _ _ e => s56 _ _ e
    clear s56 s5 s6 em ep4 er4 eg4 s4 ep3 er3 eg e23
    -- rows
    refine ⟨_, rfl, _, rfl, _, rfl, r, g, F, ts, xs, rfl, ⟨SqL.of er6, tup_deeds ep6⟩, hxl, hF, SqL.of eg6, fun H7 b us A7 => ?_⟩
    refine ⟨_, rfl, rfl, _, rfl, iteN (fun z => nomatch z) ?_⟩
    have eg7 := A7.sm _ _ eg6
    have er7 := A7.sm _ _ er6
    have ep7 : Paired (TupDd H7) ts xs := L2.Paired.mapP ep6 fun _ _ e => A7.sm _ _ e
    -- the numbers of people
    refine ⟨_, rfl, r, _, rfl, .inl (SqL.of er7), _, rfl, ?_, ?_, for_range (fun i σ H8 => ∃ v7 v8 v9, σ = [some (.ref a), some (.int F), some (.ref r), some (.ref r2), some (.ref g), some (.ref b), some (.int ((LW.runD F LW.dy0 (xs.take i)).people.length : Int)), v7, v8, v9, none, none, none, none] ∧ H8 = H7) ⟨none, none, none, rfl, rfl⟩ ?_ ?_⟩
    · omega
    · rw [List.length_map]; omega
    · rintro i σ H8 hi ⟨v7, v8, v9, rfl, rfl⟩
      have hi : i < ts.length := by rw [List.length_map] at hi; omega
      have e0 : (0 : Int) + (i : Int) = (i : Int) := by omega
      rw [e0]
      obtain ⟨t, ht⟩ : ∃ t, ts[i]? = some t := ⟨ts[i], by simp [hi]⟩
      obtain ⟨x, hx, et⟩ := Paired.get ep7 ht
      have atk : atI (ts.map V.ref) (i : Int) = some (.ref t) := atI_nat (by rw [List.getElem?_map, ht]; rfl)
      have atg : atI ((LW.runA F LW.dy0 xs).map anV) (i : Int) = some (anV (LW.stepA F (LW.runD F LW.dy0 (xs.take i)) x)) := atI_nat (by rw [List.getElem?_map, runA_get hx]; rfl)
      have next := run_take (F := F) hx LW.dy0
      rw [next]
      generalize LW.runD F LW.dy0 (xs.take i) = D at *
      cases x with
      | tick =>
        refine ⟨_, rfl, _, rfl, r, _, _, _, rfl, rfl, SqL.of er7, atk, t, _, _, _, rfl, rfl, SqT.of et, (show atI (ddV .tick) 0 = some (.str "tick") from rfl), rfl, _, rfl, iteN tpV ?_⟩
        have e1 : (LW.stepD F D .tick).people.length = D.people.length := by
          show (if LW.tickW D = .part then LW.swap D.lift.floor (D.ticks + 1) D.people else D.people).length = _
          split
          · unfold LW.swap; rw [List.length_map]
          · rfl
        rw [e1]
        exact ⟨_, _, _, rfl, rfl⟩
      | press s g' =>
        have ix : ∀ (j : Int) (v : V), atI (ddV (.press s g')) j = some v → ∀ (σ : St) (Q : VK), σ[2]? = some (some (V.ref r)) → σ[7]? = some (some (V.int i)) → Q v H8 → tOp (rIxT K) (tOp (rIxL K) (tVar 2) (tVar 7)) (tC (.int j)) σ H8 Q := fun j v hj σ Q h2 h6 hQ =>
          ⟨_, h2, _, h6, r, _, _, _, rfl, rfl, SqL.of er7, atk, t, _, _, _, rfl, rfl, SqT.of et, hj, hQ⟩
        refine ix 0 (.str "press") rfl _ _ rfl rfl ⟨rfl, _, rfl, iteY rfl ?_⟩
        refine ix 1 (.int s) rfl _ _ rfl rfl (ix 2 (.int g') rfl _ _ rfl rfl ⟨_, _, rfl, ?_⟩)
        refine ix 1 (.int s) rfl _ _ rfl rfl (ix 2 (.int g') rfl _ _ rfl rfl ⟨_, _, rfl, ?_⟩)
        obtain ⟨lo, hlo⟩ : ∃ lo, lo = if g' < s then g' else s := ⟨_, rfl⟩
        obtain ⟨hi', hhi⟩ : ∃ hi', hi' = if g' > s then g' else s := ⟨_, rfl⟩
        rw [← hlo, ← hhi]
        have okn := LW.okPress_no (F := F) hlo hhi
        -- refused
        have ref : LW.okPress F s g' = false → tIfS (tTest (tOp (fun x y H Q => y = .non ∧ Q (.bl (!decide (x = .non))) H) (tOp (rIxL K) (tVar 4) (tVar 7)) (tC .non))) (tRet (tC (.bl false))) tNext
            { nx := fun σ H9 => ∃ v7 v8 v9, σ = [some (.ref a), some (.int F), some (.ref r), some (.ref r2), some (.ref g), some (.ref b), some (.int ((LW.stepD F D (.press s g')).people.length : Int)), v7, v8, v9, none, none, none, none] ∧ H9 = H8, rt := Q }
            [some (.ref a), some (.int F), some (.ref r), some (.ref r2), some (.ref g), some (.ref b), some (.int (D.people.length : Int)), some (.int i), some (.int lo), some (.int hi'), none, none, none, none] H8 := fun e => by
          have e1 : LW.stepD F D (.press s g') = D := by unfold LW.stepD; dsimp only; rw [if_neg (by rw [e]; exact Bool.false_ne_true)]
          have e2 : LW.stepA F D (.press s g') = .no := by unfold LW.stepA; dsimp only; rw [if_neg (by rw [e]; exact Bool.false_ne_true)]
          rw [e2] at atg
          rw [e1]
          exact ⟨_, rfl, _, rfl, g, _, _, _, rfl, rfl, SqL.of eg7, atg, rfl, _, rfl, iteNS rfl ⟨_, _, _, rfl, rfl⟩⟩
        refine ⟨_, rfl, _, rfl, rfl, _, rfl, ?_⟩
        by_cases c1 : lo = hi'
        · refine iteY (by rw [c1]) (iteT (ref ?_))
          have : (!LW.okPress F s g') = true := by rw [okn, decide_eq_true c1]; rfl
          simpa using this
        refine iteN (fun z => c1 (V.int.inj z)) ⟨_, rfl, _, _, rfl, rfl, _, rfl, ?_⟩
        by_cases c2 : lo < 0
        · refine iteY c2 (iteT (ref ?_))
          have : (!LW.okPress F s g') = true := by rw [okn, decide_eq_true c2]; simp
          simpa using this
        refine iteN c2 ⟨_, rfl, _, rfl, _, _, rfl, rfl, _, rfl, ?_⟩
        by_cases c3 : F ≤ hi'
        · refine iteY c3 (ref ?_)
          have : (!LW.okPress F s g') = true := by rw [okn, decide_eq_true c3]; simp
          simpa using this
        have ok : LW.okPress F s g' = true := by
          have : (!LW.okPress F s g') = false := by rw [okn, decide_eq_false c1, decide_eq_false c2, decide_eq_false c3]; rfl
          simpa using this
        have e1 : LW.stepD F D (.press s g') = { D with people := D.people ++ [⟨s, g', D.ticks, none, none⟩] } := by unfold LW.stepD; dsimp only; rw [if_pos ok]
        have e2 : LW.stepA F D (.press s g') = .num D.people.length := by unfold LW.stepA; dsimp only; rw [if_pos ok]
        rw [e2] at atg
        have e3 : ((LW.stepD F D (.press s g')).people.length : Int) = (D.people.length : Int) + 1 := by rw [e1]; show ((D.people ++ [_]).length : Int) = _; rw [List.length_append, List.length_singleton]; omega
        rw [e3]
        refine iteN c3 ?_
        refine ⟨_, rfl, _, rfl, g, _, _, _, rfl, rfl, SqL.of eg7, atg, _, rfl, _, rfl, iteF ?_⟩
        refine ⟨_, rfl, _, rfl, g, _, _, _, rfl, rfl, SqL.of eg7, atg, _, rfl, rfl, _, rfl, iteNS rfl ?_⟩
        exact ⟨_, rfl, _, _, rfl, rfl, _, _, _, rfl, rfl⟩
    · rintro σ H8 ⟨v7, v8, v9, rfl, rfl⟩
      -- given, found
      refine ⟨_, rfl, r, _, rfl, .inl (SqL.of er7), fun r3 hr3 => ?_⟩
      have s8 := Same.new (o := .lst (ts.map V.ref)) hr3
      have e8 : (upd H8 r3 (.lst (ts.map V.ref))) r3 = some (.lst (ts.map V.ref)) := upd_same
      generalize upd H8 r3 (.lst (ts.map V.ref)) = H9 at *
      refine ⟨_, rfl, _, rfl, F, r3, ts, xs, rfl, ⟨SqL.of e8, L2.Paired.mapP ep7 fun _ _ e => SqT.of (s8 _ _ e)⟩, by omega, fun H10 lb s10 elb => ?_⟩
      have s9 := s8.trans s10
      have ep10 : Paired (TupDd H10) ts xs := L2.Paired.mapP ep7 fun _ _ e => s9 _ _ e
      refine ⟨_, rfl, _, rfl, r3, r, _, _, rfl, s10 _ _ e8, s9 _ _ er7, alike_deeds ep10, (by rw [List.length_map]; omega), fun H11 s11 => ⟨_, rfl, iteF ?_⟩⟩
      have elb := s11 _ _ elb
      have A11 := A7.same (s9.trans s11)
      have lrow := LW.last_row F xs LW.dy0 (0, .rest) rfl rfl
      have lway := LW.last_way F (fun z => V.str (wordS z.2)) (fun d => V.str (wd d)) (fun _ _ => rfl) xs LW.dy0 (V.str "up") rfl
      have hul : us.length ≤ 200 := by
        have h1 := PySem.Paired.length A11.ep
        have h2 := LW.rowsOf_len F xs LW.dy0
        omega
      generalize LW.runD F LW.dy0 xs = D at *
      generalize LW.rowsOf F LW.dy0 xs = zs at *
      have f0 : atI [V.int D.lift.floor, .bl D.lift.apart, .str (wd D.lift.up)] 0 = some (.int D.lift.floor) := rfl
      have f1 : atI [V.int D.lift.floor, .bl D.lift.apart, .str (wd D.lift.up)] 1 = some (.bl D.lift.apart) := rfl
      have f2 : atI [V.int D.lift.floor, .bl D.lift.apart, .str (wd D.lift.up)] 2 = some (.str (wd D.lift.up)) := rfl
      refine ⟨_, rfl, _, _, _, _, rfl, .tup elb, kit_same, _, rfl, iteF ?_⟩
      refine ⟨_, rfl, lb, _, rfl, .inr (SqT.of elb), rfl, _, rfl, iteNS rfl ?_⟩
      refine ⟨_, rfl, lb, _, _, _, rfl, rfl, SqT.of elb, f0, _, rfl, _, rfl, iteF ?_⟩
      refine ⟨_, rfl, lb, _, _, _, rfl, rfl, SqT.of elb, f1, _, _, _, _, rfl, .bl _, kit_same, _, rfl, iteF ?_⟩
      refine ⟨_, rfl, lb, _, _, _, rfl, rfl, SqT.of elb, f2, _, _, _, _, rfl, .str _, kit_same, _, rfl, iteF ?_⟩
      -- here
      refine ⟨sz 2 (by decide), fun p1 hp1 => ⟨sz 1 (by decide), fun p2 hp2 => ?_⟩⟩
      have s12 : Same H11 (upd (upd H11 p1 (.tup [.int 0, .str "rest"])) p2 (.lst [.ref p1])) := (Same.new hp1).trans (Same.new hp2)
      have et12 : (upd (upd H11 p1 (.tup [.int 0, .str "rest"])) p2 (.lst [.ref p1])) p1 = some (.tup (rowV (0, .rest))) := Same.new hp2 _ _ upd_same
      have el12 : (upd (upd H11 p1 (.tup [.int 0, .str "rest"])) p2 (.lst [.ref p1])) p2 = some (.lst [.ref p1]) := upd_same
      generalize upd (upd H11 p1 (.tup [.int 0, .str "rest"])) p2 (.lst [.ref p1]) = H12 at *
      have A12 := A11.same s12
      have elb := s12 _ _ elb
      obtain ⟨us', u, hus⟩ : ∃ us' u, p1 :: us = us' ++ [u] := by
        rcases List.eq_nil_or_concat (p1 :: us) with h | ⟨us', u, h⟩
        · cases h
        · exact ⟨us', u, by rw [h, List.concat_eq_append]⟩
      have epz : Paired (TupRow H12) (us' ++ [u]) ((0, .rest) :: zs) := by rw [← hus]; exact .cons et12 A12.ep
      obtain ⟨ini, z, ez, z1, z2⟩ := lrow
      rw [ez] at epz
      obtain ⟨bs', z', ebs, _, hz⟩ := unsnoc epz
      have ezz : z = z' := by
        have := congrArg List.getLast? ebs
        simpa using this
      subst ezz
      have hz : H12 u = some (.tup [.int z.1, .str (wordS z.2)]) := hz
      refine ⟨_, rfl, p2, b, [V.ref p1], us.map V.ref, rfl, rfl, el12, A12.er, (by rw [List.length_map]; exact sz _ (by show 1 + us.length ≤ 1000; omega)), fun p3 hp3 => ?_⟩
      have elist : [V.ref p1] ++ us.map V.ref = us'.map V.ref ++ [V.ref u] := by
        show (p1 :: us).map V.ref = _
        rw [hus, List.map_append]; rfl
      rw [elist]
      have s13 := Same.new (o := .lst (us'.map V.ref ++ [V.ref u])) hp3
      refine ⟨_, rfl, p3, _, _, _, rfl, rfl, SqL.of upd_same, atI_last _ _, ?_⟩
      have hz := s13 _ _ hz
      have elb := s13 _ _ elb
      have A13 := A12.same s13
      generalize upd H12 p3 (.lst (us'.map V.ref ++ [V.ref u])) = H13 at *
      have g0 : atI [V.int z.1, .str (wordS z.2)] 0 = some (.int z.1) := rfl
      have g1 : atI [V.int z.1, .str (wordS z.2)] 1 = some (.str (wordS z.2)) := rfl
      refine ⟨_, rfl, lb, _, _, _, rfl, rfl, SqT.of elb, f0, _, rfl, u, _, _, _, rfl, rfl, SqT.of hz, g0, rfl, _, rfl, iteNS (by rw [z1]) ?_⟩
      refine ⟨_, rfl, lb, _, _, _, rfl, rfl, SqT.of elb, f1, _, rfl, u, _, _, _, rfl, rfl, SqT.of hz, g1, rfl, rfl, _, rfl, iteNS ?_ ?_⟩
      · rw [← z2]
        by_cases h : z.2 = .part
        · rw [decide_eq_true h, decide_eq_true (part_word.mpr h)]
        · rw [decide_eq_false h, decide_eq_false fun q => h (part_word.mp q)]
      -- ways
      refine ⟨sz 1 (by decide), fun p4 hp4 => ?_⟩
      have s14 := Same.new (o := .lst [V.str "up"]) hp4
      have e14 : (upd H13 p4 (.lst [V.str "up"])) p4 = some (.lst [V.str "up"]) := upd_same
      have A14 := A13.same s14
      generalize upd H13 p4 (.lst [V.str "up"]) = H14 at *
      refine ⟨_, rfl, b, rfl, ⟨_, SqL.of A14.er⟩, comp_pairG (K := K) _ LW.isGo (fun z => V.str (wordS z.2)) (SqL.of A14.er) (pair_refR A14.ep) (by rw [List.length_map]; exact sz _ (by omega)) (fun v y ⟨c, ev, ec⟩ H' s' S hS => ?_) (fun v y ⟨c, ev, ec⟩ _ H' s' S hS => ?_) fun D5 H15 s15 e15 => ?_⟩
      · subst ev
        refine ⟨_, rfl, c, _, _, _, rfl, rfl, SqT.of (s' _ _ ec), (show atI (rowV y) 1 = some (.str (wordS y.2)) from rfl), sz 2 (by decide), fun p5 hp5 => ⟨p5, _, rfl, .inl (SqL.of upd_same), rfl, rfl, _, rfl, ?_⟩⟩
        have : (if false = true then !inV (V.str (wordS y.2)) [.str "up", .str "down"] else inV (V.str (wordS y.2)) [.str "up", .str "down"]) = LW.isGo y := by rw [if_neg Bool.false_ne_true]; exact go_in y
        rw [this]
        exact hS _ (Same.new hp5)
      · subst ev
        exact ⟨_, rfl, c, _, _, _, rfl, rfl, SqT.of (s' _ _ ec), (show atI (rowV y) 1 = some (.str (wordS y.2)) from rfl), hS _ (Same.refl _)⟩
      have hfl : ((zs.filter LW.isGo).map fun z => V.str (wordS z.2)).length ≤ 300 := by
        rw [List.length_map]
        have h1 := List.length_filter_le LW.isGo zs
        have h2 := PySem.Paired.length A11.ep
        omega
      refine ⟨p4, D5, [V.str "up"], _, rfl, rfl, s15 _ _ e14, e15, (by exact sz _ (by show 1 + _ ≤ 1000; omega)), fun p6 hp6 => ?_⟩
      obtain ⟨ini2, ew⟩ := lway
      have ew : [V.str "up"] ++ (zs.filter LW.isGo).map (fun z => V.str (wordS z.2)) = ini2 ++ [V.str (wd D.lift.up)] := ew
      rw [ew]
      have s16 := (s14.trans s15).trans (Same.new (o := .lst (ini2 ++ [V.str (wd D.lift.up)])) hp6)
      refine ⟨_, rfl, lb, _, _, _, rfl, rfl, SqT.of (s16 _ _ elb), f2, _, rfl, _, rfl, p6, _, _, _, rfl, rfl, SqL.of upd_same, atI_last _ _, rfl, ?_⟩
      rw [decide_eq_true rfl]
      exact k _
end
theorem all_mk {l : PySem.W.OpenLaw} {w : World} {K : PySem.W.Frag} {h : Heap} {mg : Str → Option Value} {fa : Addr} (X : K.In h) (G : h.Ns mainGlobals mg) (hfa : mg "law" = some (.ref fa))
    {CL : Addr}
    {f1 : Addr} {od1 an1 : Option Addr} {sl1 : Array (Option Value)} {oc1 kV1 dc1 pm1 cd1 ct1 : Value}
    {f2 : Addr} {od2 an2 : Option Addr} {sl2 : Array (Option Value)} {oc2 kV2 dc2 pm2 cd2 ct2 : Value}
    {f3 : Addr} {od3 an3 : Option Addr} {sl3 : Array (Option Value)} {oc3 kV3 dc3 pm3 cd3 ct3 : Value}
    {f4 : Addr} {od4 an4 : Option Addr} {sl4 : Array (Option Value)} {oc4 kV4 dc4 pm4 cd4 ct4 : Value}
    {f5 : Addr} {od5 an5 : Option Addr} {sl5 : Array (Option Value)} {oc5 kV5 dc5 pm5 cd5 ct5 : Value}
    {CP : Addr}
    {f6 : Addr} {od6 an6 : Option Addr} {sl6 : Array (Option Value)} {oc6 kV6 dc6 pm6 cd6 ct6 : Value}
    {f7 : Addr} {od7 an7 : Option Addr} {sl7 : Array (Option Value)} {oc7 kV7 dc7 pm7 cd7 ct7 : Value}
    {f8 : Addr} {od8 an8 : Option Addr} {sl8 : Array (Option Value)} {oc8 kV8 dc8 pm8 cd8 ct8 : Value}
    {CD : Addr}
    {f9 : Addr} {od9 an9 : Option Addr} {sl9 : Array (Option Value)} {oc9 kV9 dc9 pm9 cd9 ct9 : Value}
    {f10 : Addr} {od10 an10 : Option Addr} {sl10 : Array (Option Value)} {oc10 kV10 dc10 pm10 cd10 ct10 : Value}
    {f11 : Addr} {od11 an11 : Option Addr} {sl11 : Array (Option Value)} {oc11 kV11 dc11 pm11 cd11 ct11 : Value}
    {f12 : Addr} {od12 an12 : Option Addr} {sl12 : Array (Option Value)} {oc12 kV12 dc12 pm12 cd12 ct12 : Value}
    {f13 : Addr} {od13 an13 : Option Addr} {sl13 : Array (Option Value)} {oc13 kV13 dc13 pm13 cd13 ct13 : Value}
    {f14 : Addr} {od14 an14 : Option Addr} {sl14 : Array (Option Value)} {oc14 kV14 dc14 pm14 cd14 ct14 : Value}
    {f15 : Addr} {od15 an15 : Option Addr} {sl15 : Array (Option Value)} {oc15 kV15 dc15 pm15 cd15 ct15 : Value}
    {f16 : Addr} {od16 an16 : Option Addr} {sl16 : Array (Option Value)} {oc16 kV16 dc16 pm16 cd16 ct16 : Value}
    {f17 : Addr} {od17 an17 : Option Addr} {sl17 : Array (Option Value)} {oc17 kV17 dc17 pm17 cd17 ct17 : Value}
    {f18 : Addr} {od18 an18 : Option Addr} {sl18 : Array (Option Value)} {oc18 kV18 dc18 pm18 cd18 ct18 : Value}
    {f19 : Addr} {od19 an19 : Option Addr} {sl19 : Array (Option Value)} {oc19 kV19 dc19 pm19 cd19 ct19 : Value}
    {f20 : Addr} {od20 an20 : Option Addr} {sl20 : Array (Option Value)} {oc20 kV20 dc20 pm20 cd20 ct20 : Value}
    {f21 : Addr} {od21 an21 : Option Addr} {sl21 : Array (Option Value)} {oc21 kV21 dc21 pm21 cd21 ct21 : Value}
    {f22 : Addr} {od22 an22 : Option Addr} {sl22 : Array (Option Value)} {oc22 kV22 dc22 pm22 cd22 ct22 : Value}
    {f23 : Addr} {od23 an23 : Option Addr} {sl23 : Array (Option Value)} {oc23 kV23 dc23 pm23 cd23 ct23 : Value}
    {f24 : Addr} {od24 an24 : Option Addr} {sl24 : Array (Option Value)} {oc24 kV24 dc24 pm24 cd24 ct24 : Value}
    {f25 : Addr} {od25 an25 : Option Addr} {sl25 : Array (Option Value)} {oc25 kV25 dc25 pm25 cd25 ct25 : Value}
    {f26 : Addr} {od26 an26 : Option Addr} {sl26 : Array (Option Value)} {oc26 kV26 dc26 pm26 cd26 ct26 : Value}
    {f27 : Addr} {od27 an27 : Option Addr} {sl27 : Array (Option Value)} {oc27 kV27 dc27 pm27 cd27 ct27 : Value}
    {f28 : Addr} {od28 an28 : Option Addr} {sl28 : Array (Option Value)} {oc28 kV28 dc28 pm28 cd28 ct28 : Value}
    {f29 : Addr} {od29 an29 : Option Addr} {sl29 : Array (Option Value)} {oc29 kV29 dc29 pm29 cd29 ct29 : Value}
    {f30 : Addr} {od30 an30 : Option Addr} {sl30 : Array (Option Value)} {oc30 kV30 dc30 pm30 cd30 ct30 : Value}
    {f31 : Addr} {od31 an31 : Option Addr} {sl31 : Array (Option Value)} {oc31 kV31 dc31 pm31 cd31 ct31 : Value}
    {f32 : Addr} {od32 an32 : Option Addr} {sl32 : Array (Option Value)} {oc32 kV32 dc32 pm32 cd32 ct32 : Value}
    {f33 : Addr} {od33 an33 : Option Addr} {sl33 : Array (Option Value)} {oc33 kV33 dc33 pm33 cd33 ct33 : Value}
    {f34 : Addr} {od34 an34 : Option Addr} {sl34 : Array (Option Value)} {oc34 kV34 dc34 pm34 cd34 ct34 : Value}
    {f35 : Addr} {od35 an35 : Option Addr} {sl35 : Array (Option Value)} {oc35 kV35 dc35 pm35 cd35 ct35 : Value}
    {tk0 : Tok}
    {tk1 : Tok}
    {tk2 : Tok}
    {tk3 : Tok}
    {tk4 : Tok}
    (aCL : PySem.W.nsIn K mainGlobals "Lift" = some (some (.ref CL))) (pgCL : PySem.W.plainGet K CL Str.empty = true) (hdCL : PySem.W.hasDictIn K CL = true) (poCL : PySem.W.plainOver K CL = true) (saCL : PySem.W.findIn K (.ref CL) "__setattr__" = some (some (.builtin "object.__setattr__"))) (mkCL : PySem.W.makesIn K CL = true) (kcCL : PySem.W.keepIn K (.ref CL) = true)
    (nCL0 : PySem.W.findIn K (.ref CL) "floor" = some none)
    (nCL1 : PySem.W.findIn K (.ref CL) "apart" = some none)
    (nCL2 : PySem.W.findIn K (.ref CL) "way" = some none)
    (nCL3 : PySem.W.findIn K (.ref CL) "new_stop" = some none)
    (a1 : PySem.W.findIn K (.ref CL) "__init__" = some (some (.ref f1))) (l1 : K.lookup f1 = some ⟨oc1, od1, .func (PySem.W.fnOf "__init__" "Lift.__init__" (defArgs sLInit) (defBody sLInit) (defScope sLInit) .none kV1 dc1 pm1 an1 cd1 ct1), sl1⟩) (c1 : PySem.W.codeIn K cd1 "Lift.__init__" = true) (k1 : PySem.W.keepIn K (.ref f1) = true)
    (i1 : PySem.W.isFn K (.ref f1) = true)
    (a2 : PySem.W.findIn K (.ref CL) "act" = some (some (.ref f2))) (l2 : K.lookup f2 = some ⟨oc2, od2, .func (PySem.W.fnOf "act" "Lift.act" (defArgs sAct) (defBody sAct) (defScope sAct) .none kV2 dc2 pm2 an2 cd2 ct2), sl2⟩) (c2 : PySem.W.codeIn K cd2 "Lift.act" = true) (k2 : PySem.W.keepIn K (.ref f2) = true)
    (i2 : PySem.W.isFn K (.ref f2) = true)
    (a3 : PySem.W.findIn K (.ref CL) "shut_doors" = some (some (.ref f3))) (l3 : K.lookup f3 = some ⟨oc3, od3, .func (PySem.W.fnOf "shut_doors" "Lift.shut_doors" (defArgs sShut) (defBody sShut) (defScope sShut) .none kV3 dc3 pm3 an3 cd3 ct3), sl3⟩) (c3 : PySem.W.codeIn K cd3 "Lift.shut_doors" = true) (k3 : PySem.W.keepIn K (.ref f3) = true)
    (i3 : PySem.W.isFn K (.ref f3) = true)
    (a4 : PySem.W.findIn K (.ref CL) "part_doors" = some (some (.ref f4))) (l4 : K.lookup f4 = some ⟨oc4, od4, .func (PySem.W.fnOf "part_doors" "Lift.part_doors" (defArgs sPart) (defBody sPart) (defScope sPart) .none kV4 dc4 pm4 an4 cd4 ct4), sl4⟩) (c4 : PySem.W.codeIn K cd4 "Lift.part_doors" = true) (k4 : PySem.W.keepIn K (.ref f4) = true)
    (i4 : PySem.W.isFn K (.ref f4) = true)
    (a5 : PySem.W.findIn K (.ref CL) "go" = some (some (.ref f5))) (l5 : K.lookup f5 = some ⟨oc5, od5, .func (PySem.W.fnOf "go" "Lift.go" (defArgs sGo) (defBody sGo) (defScope sGo) .none kV5 dc5 pm5 an5 cd5 ct5), sl5⟩) (c5 : PySem.W.codeIn K cd5 "Lift.go" = true) (k5 : PySem.W.keepIn K (.ref f5) = true)
    (i5 : PySem.W.isFn K (.ref f5) = true)
    (aCP : PySem.W.nsIn K mainGlobals "Person" = some (some (.ref CP))) (pgCP : PySem.W.plainGet K CP Str.empty = true) (hdCP : PySem.W.hasDictIn K CP = true) (poCP : PySem.W.plainOver K CP = true) (saCP : PySem.W.findIn K (.ref CP) "__setattr__" = some (some (.builtin "object.__setattr__"))) (mkCP : PySem.W.makesIn K CP = true) (kcCP : PySem.W.keepIn K (.ref CP) = true)
    (nCP0 : PySem.W.findIn K (.ref CP) "start" = some none)
    (nCP1 : PySem.W.findIn K (.ref CP) "goal" = some none)
    (nCP2 : PySem.W.findIn K (.ref CP) "pressed" = some none)
    (nCP3 : PySem.W.findIn K (.ref CP) "entered" = some none)
    (nCP4 : PySem.W.findIn K (.ref CP) "left" = some none)
    (a6 : PySem.W.findIn K (.ref CP) "__init__" = some (some (.ref f6))) (l6 : K.lookup f6 = some ⟨oc6, od6, .func (PySem.W.fnOf "__init__" "Person.__init__" (defArgs sPInit) (defBody sPInit) (defScope sPInit) .none kV6 dc6 pm6 an6 cd6 ct6), sl6⟩) (c6 : PySem.W.codeIn K cd6 "Person.__init__" = true) (k6 : PySem.W.keepIn K (.ref f6) = true)
    (i6 : PySem.W.isFn K (.ref f6) = true)
    (a7 : PySem.W.findIn K (.ref CP) "wanted_floor" = some (some (.ref f7))) (l7 : K.lookup f7 = some ⟨oc7, od7, .func (PySem.W.fnOf "wanted_floor" "Person.wanted_floor" (defArgs sWf) (defBody sWf) (defScope sWf) .none kV7 dc7 pm7 an7 cd7 ct7), sl7⟩) (c7 : PySem.W.codeIn K cd7 "Person.wanted_floor" = true) (k7 : PySem.W.keepIn K (.ref f7) = true)
    (i7 : PySem.W.isFn K (.ref f7) = true)
    (a8 : PySem.W.findIn K (.ref CP) "pass_doors" = some (some (.ref f8))) (l8 : K.lookup f8 = some ⟨oc8, od8, .func (PySem.W.fnOf "pass_doors" "Person.pass_doors" (defArgs sPass) (defBody sPass) (defScope sPass) .none kV8 dc8 pm8 an8 cd8 ct8), sl8⟩) (c8 : PySem.W.codeIn K cd8 "Person.pass_doors" = true) (k8 : PySem.W.keepIn K (.ref f8) = true)
    (i8 : PySem.W.isFn K (.ref f8) = true)
    (aCD : PySem.W.nsIn K mainGlobals "Day" = some (some (.ref CD))) (pgCD : PySem.W.plainGet K CD Str.empty = true) (hdCD : PySem.W.hasDictIn K CD = true) (poCD : PySem.W.plainOver K CD = true) (saCD : PySem.W.findIn K (.ref CD) "__setattr__" = some (some (.builtin "object.__setattr__"))) (mkCD : PySem.W.makesIn K CD = true) (kcCD : PySem.W.keepIn K (.ref CD) = true)
    (nCD0 : PySem.W.findIn K (.ref CD) "floors" = some none)
    (nCD1 : PySem.W.findIn K (.ref CD) "lift" = some none)
    (nCD2 : PySem.W.findIn K (.ref CD) "people" = some none)
    (nCD3 : PySem.W.findIn K (.ref CD) "ticks" = some none)
    (a9 : PySem.W.findIn K (.ref CD) "__init__" = some (some (.ref f9))) (l9 : K.lookup f9 = some ⟨oc9, od9, .func (PySem.W.fnOf "__init__" "Day.__init__" (defArgs sDInit) (defBody sDInit) (defScope sDInit) .none kV9 dc9 pm9 an9 cd9 ct9), sl9⟩) (c9 : PySem.W.codeIn K cd9 "Day.__init__" = true) (k9 : PySem.W.keepIn K (.ref f9) = true)
    (i9 : PySem.W.isFn K (.ref f9) = true)
    (a10 : PySem.W.findIn K (.ref CD) "is_floor" = some (some (.ref f10))) (l10 : K.lookup f10 = some ⟨oc10, od10, .func (PySem.W.fnOf "is_floor" "Day.is_floor" (defArgs sIs) (defBody sIs) (defScope sIs) .none kV10 dc10 pm10 an10 cd10 ct10), sl10⟩) (c10 : PySem.W.codeIn K cd10 "Day.is_floor" = true) (k10 : PySem.W.keepIn K (.ref f10) = true)
    (i10 : PySem.W.isFn K (.ref f10) = true)
    (a11 : PySem.W.findIn K (.ref CD) "press" = some (some (.ref f11))) (l11 : K.lookup f11 = some ⟨oc11, od11, .func (PySem.W.fnOf "press" "Day.press" (defArgs sPress) (defBody sPress) (defScope sPress) .none kV11 dc11 pm11 an11 cd11 ct11), sl11⟩) (c11 : PySem.W.codeIn K cd11 "Day.press" = true) (k11 : PySem.W.keepIn K (.ref f11) = true)
    (i11 : PySem.W.isFn K (.ref f11) = true)
    (a12 : PySem.W.findIn K (.ref CD) "wanted" = some (some (.ref f12))) (l12 : K.lookup f12 = some ⟨oc12, od12, .func (PySem.W.fnOf "wanted" "Day.wanted" (defArgs sWanted) (defBody sWanted) (defScope sWanted) .none kV12 dc12 pm12 an12 cd12 ct12), sl12⟩) (c12 : PySem.W.codeIn K cd12 "Day.wanted" = true) (k12 : PySem.W.keepIn K (.ref f12) = true)
    (i12 : PySem.W.isFn K (.ref f12) = true)
    (a13 : PySem.W.findIn K (.ref CD) "pass_tick" = some (some (.ref f13))) (l13 : K.lookup f13 = some ⟨oc13, od13, .func (PySem.W.fnOf "pass_tick" "Day.pass_tick" (defArgs sTick) (defBody sTick) (defScope sTick) .none kV13 dc13 pm13 an13 cd13 ct13), sl13⟩) (c13 : PySem.W.codeIn K cd13 "Day.pass_tick" = true) (k13 : PySem.W.keepIn K (.ref f13) = true)
    (i13 : PySem.W.isFn K (.ref f13) = true)
    (a14 : PySem.W.findIn K (.ref CD) "exchange" = some (some (.ref f14))) (l14 : K.lookup f14 = some ⟨oc14, od14, .func (PySem.W.fnOf "exchange" "Day.exchange" (defArgs sExch) (defBody sExch) (defScope sExch) .none kV14 dc14 pm14 an14 cd14 ct14), sl14⟩) (c14 : PySem.W.codeIn K cd14 "Day.exchange" = true) (k14 : PySem.W.keepIn K (.ref f14) = true)
    (i14 : PySem.W.isFn K (.ref f14) = true)
    (a15 : PySem.W.findIn K (.ref CD) "answer" = some (some (.ref f15))) (l15 : K.lookup f15 = some ⟨oc15, od15, .func (PySem.W.fnOf "answer" "Day.answer" (defArgs sAnswer) (defBody sAnswer) (defScope sAnswer) .none kV15 dc15 pm15 an15 cd15 ct15), sl15⟩) (c15 : PySem.W.codeIn K cd15 "Day.answer" = true) (k15 : PySem.W.keepIn K (.ref f15) = true)
    (i15 : PySem.W.isFn K (.ref f15) = true)
    (a16 : PySem.W.nsIn K mainGlobals "other_way" = some (some (.ref f16))) (l16 : K.lookup f16 = some ⟨oc16, od16, .func (PySem.W.fnOf "other_way" "other_way" (defArgs sOther) (defBody sOther) (defScope sOther) .none kV16 dc16 pm16 an16 cd16 ct16), sl16⟩) (c16 : PySem.W.codeIn K cd16 "other_way" = true) (k16 : PySem.W.keepIn K (.ref f16) = true)
    (a17 : PySem.W.nsIn K mainGlobals "lies_ahead" = some (some (.ref f17))) (l17 : K.lookup f17 = some ⟨oc17, od17, .func (PySem.W.fnOf "lies_ahead" "lies_ahead" (defArgs sLies) (defBody sLies) (defScope sLies) .none kV17 dc17 pm17 an17 cd17 ct17), sl17⟩) (c17 : PySem.W.codeIn K cd17 "lies_ahead" = true) (k17 : PySem.W.keepIn K (.ref f17) = true)
    (a18 : PySem.W.nsIn K mainGlobals "any_ahead" = some (some (.ref f18))) (l18 : K.lookup f18 = some ⟨oc18, od18, .func (PySem.W.fnOf "any_ahead" "any_ahead" (defArgs sAny) (defBody sAny) (defScope sAny) .none kV18 dc18 pm18 an18 cd18 ct18), sl18⟩) (c18 : PySem.W.codeIn K cd18 "any_ahead" = true) (k18 : PySem.W.keepIn K (.ref f18) = true)
    (a19 : PySem.W.nsIn K mainGlobals "next_way" = some (some (.ref f19))) (l19 : K.lookup f19 = some ⟨oc19, od19, .func (PySem.W.fnOf "next_way" "next_way" (defArgs sNext) (defBody sNext) (defScope sNext) .none kV19 dc19 pm19 an19 cd19 ct19), sl19⟩) (c19 : PySem.W.codeIn K cd19 "next_way" = true) (k19 : PySem.W.keepIn K (.ref f19) = true)
    (a20 : PySem.W.nsIn K mainGlobals "floor_beside" = some (some (.ref f20))) (l20 : K.lookup f20 = some ⟨oc20, od20, .func (PySem.W.fnOf "floor_beside" "floor_beside" (defArgs sBeside) (defBody sBeside) (defScope sBeside) .none kV20 dc20 pm20 an20 cd20 ct20), sl20⟩) (c20 : PySem.W.codeIn K cd20 "floor_beside" = true) (k20 : PySem.W.keepIn K (.ref f20) = true)
    (a21 : PySem.W.nsIn K mainGlobals "answers" = some (some (.ref f21))) (l21 : K.lookup f21 = some ⟨oc21, od21, .func (PySem.W.fnOf "answers" "answers" (defArgs sAnswers) (defBody sAnswers) (defScope sAnswers) .none kV21 dc21 pm21 an21 cd21 ct21), sl21⟩) (c21 : PySem.W.codeIn K cd21 "answers" = true) (k21 : PySem.W.keepIn K (.ref f21) = true)
    (a22 : PySem.W.nsIn K mainGlobals "day_behind" = some (some (.ref f22))) (l22 : K.lookup f22 = some ⟨oc22, od22, .func (PySem.W.fnOf "day_behind" "day_behind" (defArgs sBehind) (defBody sBehind) (defScope sBehind) .none kV22 dc22 pm22 an22 cd22 ct22), sl22⟩) (c22 : PySem.W.codeIn K cd22 "day_behind" = true) (k22 : PySem.W.keepIn K (.ref f22) = true)
    (a23 : PySem.W.nsIn K mainGlobals "lift_behind" = some (some (.ref f23))) (l23 : K.lookup f23 = some ⟨oc23, od23, .func (PySem.W.fnOf "lift_behind" "lift_behind" (defArgs sLb) (defBody sLb) (defScope sLb) .none kV23 dc23 pm23 an23 cd23 ct23), sl23⟩) (c23 : PySem.W.codeIn K cd23 "lift_behind" = true) (k23 : PySem.W.keepIn K (.ref f23) = true)
    (a24 : PySem.W.nsIn K mainGlobals "_law_unturned" = some (some (.ref f24))) (l24 : K.lookup f24 = some ⟨oc24, od24, .func (PySem.W.fnOf "_law_unturned" "_law_unturned" (defArgs sUnturned) (defBody sUnturned) (defScope sUnturned) .none kV24 dc24 pm24 an24 cd24 ct24), sl24⟩) (c24 : PySem.W.codeIn K cd24 "_law_unturned" = true) (k24 : PySem.W.keepIn K (.ref f24) = true)
    (a25 : PySem.W.nsIn K mainGlobals "_law_room" = some (some (.ref f25))) (l25 : K.lookup f25 = some ⟨oc25, od25, .func (PySem.W.fnOf "_law_room" "_law_room" (defArgs sRoom) (defBody sRoom) (defScope sRoom) .none kV25 dc25 pm25 an25 cd25 ct25), sl25⟩) (c25 : PySem.W.codeIn K cd25 "_law_room" = true) (k25 : PySem.W.keepIn K (.ref f25) = true)
    (a26 : PySem.W.nsIn K mainGlobals "_law_whole" = some (some (.ref f26))) (l26 : K.lookup f26 = some ⟨oc26, od26, .func (PySem.W.fnOf "_law_whole" "_law_whole" (defArgs sWhole) (defBody sWhole) (defScope sWhole) .none kV26 dc26 pm26 an26 cd26 ct26), sl26⟩) (c26 : PySem.W.codeIn K cd26 "_law_whole" = true) (k26 : PySem.W.keepIn K (.ref f26) = true)
    (a27 : PySem.W.nsIn K mainGlobals "_law_at" = some (some (.ref f27))) (l27 : K.lookup f27 = some ⟨oc27, od27, .func (PySem.W.fnOf "_law_at" "_law_at" (defArgs sAt) (defBody sAt) (defScope sAt) .none kV27 dc27 pm27 an27 cd27 ct27), sl27⟩) (c27 : PySem.W.codeIn K cd27 "_law_at" = true) (k27 : PySem.W.keepIn K (.ref f27) = true)
    (a28 : PySem.W.nsIn K mainGlobals "_law_deeds" = some (some (.ref f28))) (l28 : K.lookup f28 = some ⟨oc28, od28, .func (PySem.W.fnOf "_law_deeds" "_law_deeds" (defArgs sDeeds) (defBody sDeeds) (defScope sDeeds) .none kV28 dc28 pm28 an28 cd28 ct28), sl28⟩) (c28 : PySem.W.codeIn K cd28 "_law_deeds" = true) (k28 : PySem.W.keepIn K (.ref f28) = true)
    (a29 : PySem.W.nsIn K mainGlobals "_law_parted" = some (some (.ref f29))) (l29 : K.lookup f29 = some ⟨oc29, od29, .func (PySem.W.fnOf "_law_parted" "_law_parted" (defArgs sParted) (defBody sParted) (defScope sParted) .none kV29 dc29 pm29 an29 cd29 ct29), sl29⟩) (c29 : PySem.W.codeIn K cd29 "_law_parted" = true) (k29 : PySem.W.keepIn K (.ref f29) = true)
    (a30 : PySem.W.nsIn K mainGlobals "_law_kept" = some (some (.ref f30))) (l30 : K.lookup f30 = some ⟨oc30, od30, .func (PySem.W.fnOf "_law_kept" "_law_kept" (defArgs sKept) (defBody sKept) (defScope sKept) .none kV30 dc30 pm30 an30 cd30 ct30), sl30⟩) (c30 : PySem.W.codeIn K cd30 "_law_kept" = true) (k30 : PySem.W.keepIn K (.ref f30) = true)
    (a31 : PySem.W.nsIn K mainGlobals "_law_rule_for" = some (some (.ref f31))) (l31 : K.lookup f31 = some ⟨oc31, od31, .func (PySem.W.fnOf "_law_rule_for" "_law_rule_for" (defArgs sDue) (defBody sDue) (defScope sDue) .none kV31 dc31 pm31 an31 cd31 ct31), sl31⟩) (c31 : PySem.W.codeIn K cd31 "_law_rule_for" = true) (k31 : PySem.W.keepIn K (.ref f31) = true)
    (a32 : PySem.W.nsIn K mainGlobals "_law_let" = some (some (.ref f32))) (l32 : K.lookup f32 = some ⟨oc32, od32, .func (PySem.W.fnOf "_law_let" "_law_let" (defArgs sLet) (defBody sLet) (defScope sLet) .none kV32 dc32 pm32 an32 cd32 ct32), sl32⟩) (c32 : PySem.W.codeIn K cd32 "_law_let" = true) (k32 : PySem.W.keepIn K (.ref f32) = true)
    (a33 : PySem.W.nsIn K mainGlobals "_law_asked_for" = some (some (.ref f33))) (l33 : K.lookup f33 = some ⟨oc33, od33, .func (PySem.W.fnOf "_law_asked_for" "_law_asked_for" (defArgs sAsked) (defBody sAsked) (defScope sAsked) .none kV33 dc33 pm33 an33 cd33 ct33), sl33⟩) (c33 : PySem.W.codeIn K cd33 "_law_asked_for" = true) (k33 : PySem.W.keepIn K (.ref f33) = true)
    (a34 : PySem.W.nsIn K mainGlobals "_law_played" = some (some (.ref f34))) (l34 : K.lookup f34 = some ⟨oc34, od34, .func (PySem.W.fnOf "_law_played" "_law_played" (defArgs sPlayed) (defBody sPlayed) (defScope sPlayed) .none kV34 dc34 pm34 an34 cd34 ct34), sl34⟩) (c34 : PySem.W.codeIn K cd34 "_law_played" = true) (k34 : PySem.W.keepIn K (.ref f34) = true)
    (a35 : PySem.W.nsIn K mainGlobals "law" = some (some (.ref f35))) (l35 : K.lookup f35 = some ⟨oc35, od35, .func (PySem.W.fnOf "law" "law" (defArgs sLaw) (defBody sLaw) (defScope sLaw) .none kV35 dc35 pm35 an35 cd35 ct35), sl35⟩) (c35 : PySem.W.codeIn K cd35 "law" = true) (k35 : PySem.W.keepIn K (.ref f35) = true)
    (u0 : PySem.W.nsIn K mainGlobals "UP" = some (some (.str "up" tk0)))
    (u1 : PySem.W.nsIn K mainGlobals "DOWN" = some (some (.str "down" tk1)))
    (u2 : PySem.W.nsIn K mainGlobals "SHUT" = some (some (.str "shut" tk2)))
    (u3 : PySem.W.nsIn K mainGlobals "PART" = some (some (.str "part" tk3)))
    (u4 : PySem.W.nsIn K mainGlobals "REST" = some (some (.str "rest" tk4)))
    (z0 : PySem.W.nsIn K mainGlobals "isinstance" = some none)
    (z1 : PySem.W.nsIn K mainGlobals "int" = some none)
    (z2 : PySem.W.nsIn K mainGlobals "bool" = some none)
    (z3 : PySem.W.nsIn K mainGlobals "str" = some none)
    (z4 : PySem.W.nsIn K mainGlobals "list" = some none)
    (z5 : PySem.W.nsIn K mainGlobals "tuple" = some none)
    (z6 : PySem.W.nsIn K mainGlobals "len" = some none)
    (z7 : PySem.W.nsIn K mainGlobals "range" = some none)
    (z8 : PySem.W.nsIn K mainGlobals "max" = some none)
    (z9 : PySem.W.nsIn K mainGlobals "min" = some none) :
    ∃ fd : FuncData, (∀ (s : Shared) (v : Value), BindsTo s fd ⟨[v], []⟩ [("_law_script", v)]) ∧ ∀ base : Heap, K.In base → base.Ns mainGlobals mg → FnOk l.prog w K mg base CX0 9 fa fd ["_law_script"] (spLaw K) := by
  have e := hfa.symm.trans (PySem.W.mg_of X G a35)
  cases e
  have F1 := fun_mk (st := sLInit) l1 c1 k1
  have b1 := F1.binds (ps := ["self"]) fun _ _ _ _ _ _ us hl => match us, hl with | [_], _ => rfl
  have D1 : Mt K CL "__init__" "Lift.__init__" sLInit ["self"] f1 _ := ⟨F1, b1, ⟨a1, i1, k1⟩⟩
  have F2 := fun_mk (st := sAct) l2 c2 k2
  have b2 := F2.binds (ps := ["self", "wanted"]) fun _ _ _ _ _ _ us hl => match us, hl with | [_, _], _ => rfl
  have D2 : Mt K CL "act" "Lift.act" sAct ["self", "wanted"] f2 _ := ⟨F2, b2, ⟨a2, i2, k2⟩⟩
  have F3 := fun_mk (st := sShut) l3 c3 k3
  have b3 := F3.binds (ps := ["self"]) fun _ _ _ _ _ _ us hl => match us, hl with | [_], _ => rfl
  have D3 : Mt K CL "shut_doors" "Lift.shut_doors" sShut ["self"] f3 _ := ⟨F3, b3, ⟨a3, i3, k3⟩⟩
  have F4 := fun_mk (st := sPart) l4 c4 k4
  have b4 := F4.binds (ps := ["self"]) fun _ _ _ _ _ _ us hl => match us, hl with | [_], _ => rfl
  have D4 : Mt K CL "part_doors" "Lift.part_doors" sPart ["self"] f4 _ := ⟨F4, b4, ⟨a4, i4, k4⟩⟩
  have F5 := fun_mk (st := sGo) l5 c5 k5
  have b5 := F5.binds (ps := ["self", "way"]) fun _ _ _ _ _ _ us hl => match us, hl with | [_, _], _ => rfl
  have D5 : Mt K CL "go" "Lift.go" sGo ["self", "way"] f5 _ := ⟨F5, b5, ⟨a5, i5, k5⟩⟩
  have F6 := fun_mk (st := sPInit) l6 c6 k6
  have b6 := F6.binds (ps := ["self", "start", "goal", "pressed"]) fun _ _ _ _ _ _ us hl => match us, hl with | [_, _, _, _], _ => rfl
  have D6 : Mt K CP "__init__" "Person.__init__" sPInit ["self", "start", "goal", "pressed"] f6 _ := ⟨F6, b6, ⟨a6, i6, k6⟩⟩
  have F7 := fun_mk (st := sWf) l7 c7 k7
  have b7 := F7.binds (ps := ["self"]) fun _ _ _ _ _ _ us hl => match us, hl with | [_], _ => rfl
  have D7 : Mt K CP "wanted_floor" "Person.wanted_floor" sWf ["self"] f7 _ := ⟨F7, b7, ⟨a7, i7, k7⟩⟩
  have F8 := fun_mk (st := sPass) l8 c8 k8
  have b8 := F8.binds (ps := ["self", "tick"]) fun _ _ _ _ _ _ us hl => match us, hl with | [_, _], _ => rfl
  have D8 : Mt K CP "pass_doors" "Person.pass_doors" sPass ["self", "tick"] f8 _ := ⟨F8, b8, ⟨a8, i8, k8⟩⟩
  have F9 := fun_mk (st := sDInit) l9 c9 k9
  have b9 := F9.binds (ps := ["self", "floors"]) fun _ _ _ _ _ _ us hl => match us, hl with | [_, _], _ => rfl
  have D9 : Mt K CD "__init__" "Day.__init__" sDInit ["self", "floors"] f9 _ := ⟨F9, b9, ⟨a9, i9, k9⟩⟩
  have F10 := fun_mk (st := sIs) l10 c10 k10
  have b10 := F10.binds (ps := ["self", "number"]) fun _ _ _ _ _ _ us hl => match us, hl with | [_, _], _ => rfl
  have D10 : Mt K CD "is_floor" "Day.is_floor" sIs ["self", "number"] f10 _ := ⟨F10, b10, ⟨a10, i10, k10⟩⟩
  have F11 := fun_mk (st := sPress) l11 c11 k11
  have b11 := F11.binds (ps := ["self", "start", "goal"]) fun _ _ _ _ _ _ us hl => match us, hl with | [_, _, _], _ => rfl
  have D11 : Mt K CD "press" "Day.press" sPress ["self", "start", "goal"] f11 _ := ⟨F11, b11, ⟨a11, i11, k11⟩⟩
  have F12 := fun_mk (st := sWanted) l12 c12 k12
  have b12 := F12.binds (ps := ["self"]) fun _ _ _ _ _ _ us hl => match us, hl with | [_], _ => rfl
  have D12 : Mt K CD "wanted" "Day.wanted" sWanted ["self"] f12 _ := ⟨F12, b12, ⟨a12, i12, k12⟩⟩
  have F13 := fun_mk (st := sTick) l13 c13 k13
  have b13 := F13.binds (ps := ["self"]) fun _ _ _ _ _ _ us hl => match us, hl with | [_], _ => rfl
  have D13 : Mt K CD "pass_tick" "Day.pass_tick" sTick ["self"] f13 _ := ⟨F13, b13, ⟨a13, i13, k13⟩⟩
  have F14 := fun_mk (st := sExch) l14 c14 k14
  have b14 := F14.binds (ps := ["self"]) fun _ _ _ _ _ _ us hl => match us, hl with | [_], _ => rfl
  have D14 : Mt K CD "exchange" "Day.exchange" sExch ["self"] f14 _ := ⟨F14, b14, ⟨a14, i14, k14⟩⟩
  have F15 := fun_mk (st := sAnswer) l15 c15 k15
  have b15 := F15.binds (ps := ["self", "deed"]) fun _ _ _ _ _ _ us hl => match us, hl with | [_, _], _ => rfl
  have D15 : Mt K CD "answer" "Day.answer" sAnswer ["self", "deed"] f15 _ := ⟨F15, b15, ⟨a15, i15, k15⟩⟩
  have F16 := fun_mk (st := sOther) l16 c16 k16
  have b16 := F16.binds (ps := ["way"]) fun _ _ _ _ _ _ us hl => match us, hl with | [_], _ => rfl
  have D16 : Df K mg "other_way" sOther ["way"] f16 _ := ⟨F16, b16, PySem.W.mg_of X G a16⟩
  have F17 := fun_mk (st := sLies) l17 c17 k17
  have b17 := F17.binds (ps := ["floor", "here", "way"]) fun _ _ _ _ _ _ us hl => match us, hl with | [_, _, _], _ => rfl
  have D17 : Df K mg "lies_ahead" sLies ["floor", "here", "way"] f17 _ := ⟨F17, b17, PySem.W.mg_of X G a17⟩
  have F18 := fun_mk (st := sAny) l18 c18 k18
  have b18 := F18.binds (ps := ["here", "way", "wanted"]) fun _ _ _ _ _ _ us hl => match us, hl with | [_, _, _], _ => rfl
  have D18 : Df K mg "any_ahead" sAny ["here", "way", "wanted"] f18 _ := ⟨F18, b18, PySem.W.mg_of X G a18⟩
  have F19 := fun_mk (st := sNext) l19 c19 k19
  have b19 := F19.binds (ps := ["here", "way", "wanted"]) fun _ _ _ _ _ _ us hl => match us, hl with | [_, _, _], _ => rfl
  have D19 : Df K mg "next_way" sNext ["here", "way", "wanted"] f19 _ := ⟨F19, b19, PySem.W.mg_of X G a19⟩
  have F20 := fun_mk (st := sBeside) l20 c20 k20
  have b20 := F20.binds (ps := ["here", "way"]) fun _ _ _ _ _ _ us hl => match us, hl with | [_, _], _ => rfl
  have D20 : Df K mg "floor_beside" sBeside ["here", "way"] f20 _ := ⟨F20, b20, PySem.W.mg_of X G a20⟩
  have F21 := fun_mk (st := sAnswers) l21 c21 k21
  have b21 := F21.binds (ps := ["floors", "deeds"]) fun _ _ _ _ _ _ us hl => match us, hl with | [_, _], _ => rfl
  have D21 : Df K mg "answers" sAnswers ["floors", "deeds"] f21 _ := ⟨F21, b21, PySem.W.mg_of X G a21⟩
  have F22 := fun_mk (st := sBehind) l22 c22 k22
  have b22 := F22.binds (ps := ["floors", "deeds"]) fun _ _ _ _ _ _ us hl => match us, hl with | [_, _], _ => rfl
  have D22 : Df K mg "day_behind" sBehind ["floors", "deeds"] f22 _ := ⟨F22, b22, PySem.W.mg_of X G a22⟩
  have F23 := fun_mk (st := sLb) l23 c23 k23
  have b23 := F23.binds (ps := ["floors", "deeds"]) fun _ _ _ _ _ _ us hl => match us, hl with | [_, _], _ => rfl
  have D23 : Df K mg "lift_behind" sLb ["floors", "deeds"] f23 _ := ⟨F23, b23, PySem.W.mg_of X G a23⟩
  have F24 := fun_mk (st := sUnturned) l24 c24 k24
  have b24 := F24.binds (ps := ["_law_found", "_law_due"]) fun _ _ _ _ _ _ us hl => match us, hl with | [_, _], _ => rfl
  have D24 : Df K mg "_law_unturned" sUnturned ["_law_found", "_law_due"] f24 _ := ⟨F24, b24, PySem.W.mg_of X G a24⟩
  have F25 := fun_mk (st := sRoom) l25 c25 k25
  have b25 := F25.binds (ps := ["_law_script", "_law_most", "_law_bound"]) fun _ _ _ _ _ _ us hl => match us, hl with | [_, _, _], _ => rfl
  have D25 : Df K mg "_law_room" sRoom ["_law_script", "_law_most", "_law_bound"] f25 _ := ⟨F25, b25, PySem.W.mg_of X G a25⟩
  have F26 := fun_mk (st := sWhole) l26 c26 k26
  have b26 := F26.binds (ps := ["_law_found"]) fun _ _ _ _ _ _ us hl => match us, hl with | [_], _ => rfl
  have D26 : Df K mg "_law_whole" sWhole ["_law_found"] f26 _ := ⟨F26, b26, PySem.W.mg_of X G a26⟩
  have F27 := fun_mk (st := sAt) l27 c27 k27
  have b27 := F27.binds (ps := ["_law_script", "_law_k"]) fun _ _ _ _ _ _ us hl => match us, hl with | [_, _], _ => rfl
  have D27 : Df K mg "_law_at" sAt ["_law_script", "_law_k"] f27 _ := ⟨F27, b27, PySem.W.mg_of X G a27⟩
  have F28 := fun_mk (st := sDeeds) l28 c28 k28
  have b28 := F28.binds (ps := ["_law_cells", "_law_floors"]) fun _ _ _ _ _ _ us hl => match us, hl with | [_, _], _ => rfl
  have D28 : Df K mg "_law_deeds" sDeeds ["_law_cells", "_law_floors"] f28 _ := ⟨F28, b28, PySem.W.mg_of X G a28⟩
  have F29 := fun_mk (st := sParted) l29 c29 k29
  have b29 := F29.binds (ps := ["_law_asked", "_law_told", "_law_floors"]) fun _ _ _ _ _ _ us hl => match us, hl with | [_, _, _], _ => rfl
  have D29 : Df K mg "_law_parted" sParted ["_law_asked", "_law_told", "_law_floors"] f29 _ := ⟨F29, b29, PySem.W.mg_of X G a29⟩
  have F30 := fun_mk (st := sKept) l30 c30 k30
  have b30 := F30.binds (ps := ["_law_handed", "_law_asked"]) fun _ _ _ _ _ _ us hl => match us, hl with | [_, _], _ => rfl
  have D30 : Df K mg "_law_kept" sKept ["_law_handed", "_law_asked"] f30 _ := ⟨F30, b30, PySem.W.mg_of X G a30⟩
  have F31 := fun_mk (st := sDue) l31 c31 k31
  have b31 := F31.binds (ps := ["_law_state", "_law_wanted"]) fun _ _ _ _ _ _ us hl => match us, hl with | [_, _], _ => rfl
  have D31 : Df K mg "_law_rule_for" sDue ["_law_state", "_law_wanted"] f31 _ := ⟨F31, b31, PySem.W.mg_of X G a31⟩
  have F32 := fun_mk (st := sLet) l32 c32 k32
  have b32 := F32.binds (ps := ["_law_people", "_law_here"]) fun _ _ _ _ _ _ us hl => match us, hl with | [_, _], _ => rfl
  have D32 : Df K mg "_law_let" sLet ["_law_people", "_law_here"] f32 _ := ⟨F32, b32, PySem.W.mg_of X G a32⟩
  have F33 := fun_mk (st := sAsked) l33 c33 k33
  have b33 := F33.binds (ps := ["_law_people"]) fun _ _ _ _ _ _ us hl => match us, hl with | [_], _ => rfl
  have D33 : Df K mg "_law_asked_for" sAsked ["_law_people"] f33 _ := ⟨F33, b33, PySem.W.mg_of X G a33⟩
  have F34 := fun_mk (st := sPlayed) l34 c34 k34
  have b34 := F34.binds (ps := ["_law_asked", "_law_floors"]) fun _ _ _ _ _ _ us hl => match us, hl with | [_, _], _ => rfl
  have D34 : Df K mg "_law_played" sPlayed ["_law_asked", "_law_floors"] f34 _ := ⟨F34, b34, PySem.W.mg_of X G a34⟩
  have F35 := fun_mk (st := sLaw) l35 c35 k35
  have clCL : Cls K CL := ⟨pgCL, hdCL, poCL, saCL⟩
  have clCP : Cls K CP := ⟨pgCP, hdCP, poCP, saCP⟩
  have clCD : Cls K CD := ⟨pgCD, hdCD, poCD, saCD⟩
  have B : Blt K mg := ⟨PySem.W.mg_none_of X G z0, PySem.W.mg_none_of X G z1, PySem.W.mg_none_of X G z2, PySem.W.mg_none_of X G z3, PySem.W.mg_none_of X G z4, PySem.W.mg_none_of X G z5, PySem.W.mg_none_of X G z6, PySem.W.mg_none_of X G z7, PySem.W.mg_none_of X G z8, PySem.W.mg_none_of X G z9⟩
  have Z : Lib K mg CL CP CD tk0 tk1 tk2 tk3 tk4 := ⟨⟨clCD, nCD0, nCD1, nCD2, nCD3⟩, ⟨clCP, nCP0, nCP1, nCP2, nCP3, nCP4⟩, ⟨clCL, nCL0, nCL1, nCL2, nCL3⟩,
    ⟨PySem.W.mg_of X G u0, PySem.W.mg_of X G u1, PySem.W.mg_of X G u2, PySem.W.mg_of X G u3, PySem.W.mg_of X G u4⟩, B.len, PySem.W.mg_of X G aCL, PySem.W.mg_of X G aCP, PySem.W.mg_of X G aCD,
    ⟨_, _, D17⟩, ⟨_, _, D18⟩, ⟨_, _, D16⟩, ⟨_, _, D19⟩, ⟨_, _, D20⟩, ⟨_, _, ⟨mkCL, a1, i1, kcCL⟩, F1, b1⟩, ⟨_, _, D2⟩, ⟨_, _, D3⟩, ⟨_, _, D4⟩, ⟨_, _, D5⟩,
    ⟨_, _, ⟨mkCP, a6, i6, kcCP⟩, F6, b6⟩, ⟨_, _, D7⟩, ⟨_, _, D8⟩, ⟨_, _, ⟨mkCD, a9, i9, kcCD⟩, F9, b9⟩, ⟨_, _, D10⟩, ⟨_, _, D11⟩, ⟨_, _, D12⟩, ⟨_, _, D13⟩, ⟨_, _, D14⟩, ⟨_, _, D15⟩⟩
  exact ⟨PySem.W.fnOf "law" "law" (defArgs sLaw) (defBody sLaw) (defScope sLaw) .none kV35 dc35 pm35 an35 cd35 ct35, fun s v => .of_eq rfl, fun base _ _ => ok_law F35 Z B D21 D25 D27 D28 D29 D30 D26 D24 D22 D23 D31 D32 D33 D34⟩
theorem walk {l : PySem.W.OpenLaw} {q : Program} {loose : List Str} {XP : (Str → Option Value) → Heap → Prop} {YP : World → Heap → Prop} {d : DefRec} {K : Params → PySem.W.Frag} (hn : l.most = some 63) (hdf : d.params.defaults = [])
    (hY : ∀ (w : World) (h : Heap), YP w h → (K w.params).In h)
    (F : ∀ (w : World) (mg : Str → Option Value) (fa : Addr) (h : Heap), (K w.params).In h → h.Ns mainGlobals mg → mg d.name = some (.ref fa) →
      ∃ fd : FuncData, (∀ (s : Shared) (u : Value), BindsTo s fd ⟨[u], []⟩ [("_law_script", u)]) ∧ ∀ base : Heap, (K w.params).In base → base.Ns mainGlobals mg → FnOk l.prog w (K w.params) mg base CX0 9 fa fd ["_law_script"] (spLaw (K w.params))) :
    PySem.W.WalkO q loose XP YP l.row.toRowW d [] (fun f vs => PySem.call f vs) :=
  L2.walk_of (n := 63) (k := 9) (x := "_law_script") (CX := fun _ => CX0) (sp := fun w => spLaw (K w.params)) hn (by decide) hdf ⟨rfl, by decide, by decide⟩ hY F (fun _ _ a ns hl _ hS => ⟨a, ns, rfl, hS, hl, fun _ => rfl⟩) fun _ _ _ _ _ z => z
end LWP
open PySem PySem.W PyProof.Rows
set_option maxRecDepth 100000 in
set_option maxHeartbeats 0 in
theorem PySem.Challenge.cw_liftwell_k02_whole_doors_and_floors_holds : PySem.Challenge.rw_liftwell_k02_whole_doors_and_floors.Holds := by
  w_on; o_law; k_head; (case hw => w_witness2)
  k_fill
  refine LWP.walk (l := PySem.Challenge.rw_liftwell_k02_whole_doors_and_floors) rfl rfl (fun w h Y => PySem.W.kIn_of Y) ?F
  case F =>
    intro w mg fa h KX G hmg
    refine' LWP.all_mk KX G hmg ?aCL ?pgCL ?hdCL ?poCL ?saCL ?mkCL ?kcCL ?nCL0 ?nCL1 ?nCL2 ?nCL3 ?a1 ?l1 ?c1 ?k1 ?i1 ?a2 ?l2 ?c2 ?k2 ?i2 ?a3 ?l3 ?c3 ?k3 ?i3 ?a4 ?l4 ?c4 ?k4 ?i4 ?a5 ?l5 ?c5 ?k5 ?i5 ?aCP ?pgCP ?hdCP ?poCP ?saCP ?mkCP ?kcCP ?nCP0 ?nCP1 ?nCP2 ?nCP3 ?nCP4 ?a6 ?l6 ?c6 ?k6 ?i6 ?a7 ?l7 ?c7 ?k7 ?i7 ?a8 ?l8 ?c8 ?k8 ?i8 ?aCD ?pgCD ?hdCD ?poCD ?saCD ?mkCD ?kcCD ?nCD0 ?nCD1 ?nCD2 ?nCD3 ?a9 ?l9 ?c9 ?k9 ?i9 ?a10 ?l10 ?c10 ?k10 ?i10 ?a11 ?l11 ?c11 ?k11 ?i11 ?a12 ?l12 ?c12 ?k12 ?i12 ?a13 ?l13 ?c13 ?k13 ?i13 ?a14 ?l14 ?c14 ?k14 ?i14 ?a15 ?l15 ?c15 ?k15 ?i15 ?a16 ?l16 ?c16 ?k16 ?a17 ?l17 ?c17 ?k17 ?a18 ?l18 ?c18 ?k18 ?a19 ?l19 ?c19 ?k19 ?a20 ?l20 ?c20 ?k20 ?a21 ?l21 ?c21 ?k21 ?a22 ?l22 ?c22 ?k22 ?a23 ?l23 ?c23 ?k23 ?a24 ?l24 ?c24 ?k24 ?a25 ?l25 ?c25 ?k25 ?a26 ?l26 ?c26 ?k26 ?a27 ?l27 ?c27 ?k27 ?a28 ?l28 ?c28 ?k28 ?a29 ?l29 ?c29 ?k29 ?a30 ?l30 ?c30 ?k30 ?a31 ?l31 ?c31 ?k31 ?a32 ?l32 ?c32 ?k32 ?a33 ?l33 ?c33 ?k33 ?a34 ?l34 ?c34 ?k34 ?a35 ?l35 ?c35 ?k35 ?u0 ?u1 ?u2 ?u3 ?u4 ?z0 ?z1 ?z2 ?z3 ?z4 ?z5 ?z6 ?z7 ?z8 ?z9
    (case aCL => k_is)
    (case pgCL => k_is)
    (case hdCL => k_is)
    (case poCL => k_is)
    (case saCL => k_is)
    (case mkCL => k_is)
    (case kcCL => k_is)
    (case nCL0 => k_is)
    (case nCL1 => k_is)
    (case nCL2 => k_is)
    (case nCL3 => k_is)
    (case a1 => k_is)
    (case l1 => k_is)
    (case c1 => k_is)
    (case k1 => k_is)
    (case i1 => k_is)
    (case a2 => k_is)
    (case l2 => k_is)
    (case c2 => k_is)
    (case k2 => k_is)
    (case i2 => k_is)
    (case a3 => k_is)
    (case l3 => k_is)
    (case c3 => k_is)
    (case k3 => k_is)
    (case i3 => k_is)
    (case a4 => k_is)
    (case l4 => k_is)
    (case c4 => k_is)
    (case k4 => k_is)
    (case i4 => k_is)
    (case a5 => k_is)
    (case l5 => k_is)
    (case c5 => k_is)
    (case k5 => k_is)
    (case i5 => k_is)
    (case aCP => k_is)
    (case pgCP => k_is)
    (case hdCP => k_is)
    (case poCP => k_is)
    (case saCP => k_is)
    (case mkCP => k_is)
    (case kcCP => k_is)
    (case nCP0 => k_is)
    (case nCP1 => k_is)
    (case nCP2 => k_is)
    (case nCP3 => k_is)
    (case nCP4 => k_is)
    (case a6 => k_is)
    (case l6 => k_is)
    (case c6 => k_is)
    (case k6 => k_is)
    (case i6 => k_is)
    (case a7 => k_is)
    (case l7 => k_is)
    (case c7 => k_is)
    (case k7 => k_is)
    (case i7 => k_is)
    (case a8 => k_is)
    (case l8 => k_is)
    (case c8 => k_is)
    (case k8 => k_is)
    (case i8 => k_is)
    (case aCD => k_is)
    (case pgCD => k_is)
    (case hdCD => k_is)
    (case poCD => k_is)
    (case saCD => k_is)
    (case mkCD => k_is)
    (case kcCD => k_is)
    (case nCD0 => k_is)
    (case nCD1 => k_is)
    (case nCD2 => k_is)
    (case nCD3 => k_is)
    (case a9 => k_is)
    (case l9 => k_is)
    (case c9 => k_is)
    (case k9 => k_is)
    (case i9 => k_is)
    (case a10 => k_is)
    (case l10 => k_is)
    (case c10 => k_is)
    (case k10 => k_is)
    (case i10 => k_is)
    (case a11 => k_is)
    (case l11 => k_is)
    (case c11 => k_is)
    (case k11 => k_is)
    (case i11 => k_is)
    (case a12 => k_is)
    (case l12 => k_is)
    (case c12 => k_is)
    (case k12 => k_is)
    (case i12 => k_is)
    (case a13 => k_is)
    (case l13 => k_is)
    (case c13 => k_is)
    (case k13 => k_is)
    (case i13 => k_is)
    (case a14 => k_is)
    (case l14 => k_is)
    (case c14 => k_is)
    (case k14 => k_is)
    (case i14 => k_is)
    (case a15 => k_is)
    (case l15 => k_is)
    (case c15 => k_is)
    (case k15 => k_is)
    (case i15 => k_is)
    (case a16 => k_is)
    (case l16 => k_is)
    (case c16 => k_is)
    (case k16 => k_is)
    (case a17 => k_is)
    (case l17 => k_is)
    (case c17 => k_is)
    (case k17 => k_is)
    (case a18 => k_is)
    (case l18 => k_is)
    (case c18 => k_is)
    (case k18 => k_is)
    (case a19 => k_is)
    (case l19 => k_is)
    (case c19 => k_is)
    (case k19 => k_is)
    (case a20 => k_is)
    (case l20 => k_is)
    (case c20 => k_is)
    (case k20 => k_is)
    (case a21 => k_is)
    (case l21 => k_is)
    (case c21 => k_is)
    (case k21 => k_is)
    (case a22 => k_is)
    (case l22 => k_is)
    (case c22 => k_is)
    (case k22 => k_is)
    (case a23 => k_is)
    (case l23 => k_is)
    (case c23 => k_is)
    (case k23 => k_is)
    (case a24 => k_is)
    (case l24 => k_is)
    (case c24 => k_is)
    (case k24 => k_is)
    (case a25 => k_is)
    (case l25 => k_is)
    (case c25 => k_is)
    (case k25 => k_is)
    (case a26 => k_is)
    (case l26 => k_is)
    (case c26 => k_is)
    (case k26 => k_is)
    (case a27 => k_is)
    (case l27 => k_is)
    (case c27 => k_is)
    (case k27 => k_is)
    (case a28 => k_is)
    (case l28 => k_is)
    (case c28 => k_is)
    (case k28 => k_is)
    (case a29 => k_is)
    (case l29 => k_is)
    (case c29 => k_is)
    (case k29 => k_is)
    (case a30 => k_is)
    (case l30 => k_is)
    (case c30 => k_is)
    (case k30 => k_is)
    (case a31 => k_is)
    (case l31 => k_is)
    (case c31 => k_is)
    (case k31 => k_is)
    (case a32 => k_is)
    (case l32 => k_is)
    (case c32 => k_is)
    (case k32 => k_is)
    (case a33 => k_is)
    (case l33 => k_is)
    (case c33 => k_is)
    (case k33 => k_is)
    (case a34 => k_is)
    (case l34 => k_is)
    (case c34 => k_is)
    (case k34 => k_is)
    (case a35 => k_is)
    (case l35 => k_is)
    (case c35 => k_is)
    (case k35 => k_is)
    (case u0 => k_is)
    (case u1 => k_is)
    (case u2 => k_is)
    (case u3 => k_is)
    (case u4 => k_is)
    (case z0 => k_is)
    (case z1 => k_is)
    (case z2 => k_is)
    (case z3 => k_is)
    (case z4 => k_is)
    (case z5 => k_is)
    (case z6 => k_is)
    (case z7 => k_is)
    (case z8 => k_is)
    (case z9 => k_is)

