import PyProof.Rows.All
import Wide.All
import OpenK.AllK
import Wide.FinOn
import Lean
import PyProof.EqAt
import PyProof.EqKinds
import PyProof.TupleCall
import PySem.Challenge.RW_lampwish_k04_forced
set_option Elab.async false
set_option linter.all false
set_option maxRecDepth 100000
set_option maxHeartbeats 4000000
namespace L2
open PySem PySem.Spec PyProof.Rows

/-- a key: an int or a str -/
abbrev Key := Sum Int Str
def keyIs : Key → Value → Bool
  | .inl k, v => Value.isInt k v
  | .inr x, v => Value.isStrOf x v
def keyH (w : World) : Key → Int
  | .inl k => hashInt k
  | .inr x => hashStr w x
theorem keyIs_shape : ∀ {k : Key} {v : Value}, keyIs k v = true → (∃ i t, k = Sum.inl i ∧ v = Value.int i t) ∨ (∃ x t, k = Sum.inr x ∧ v = Value.str x t)
  | .inl i, v, h => by
    obtain ⟨t, e⟩ := Value.isInt_shape (k := i) (v := v) h
    exact .inl ⟨i, t, rfl, e⟩
  | .inr x, v, h => by
    obtain ⟨t, e⟩ := Value.isStrOf_shape (x := x) (v := v) h
    exact .inr ⟨x, t, rfl, e⟩
theorem keyIs_int (i : Int) (t : Tok) : keyIs (.inl i) (.int i t) = true := by simp [keyIs, Value.isInt]
theorem keyIs_str (x : Str) (t : Tok) : keyIs (.inr x) (.str x t) = true := by simp [keyIs, Value.isStrOf]
theorem key_ll (a b : Int) : decide ((Sum.inl a : Key) = Sum.inl b) = (a == b) := by
  by_cases e : a = b
  · subst e; simp
  · have h : ¬ (Sum.inl a : Key) = Sum.inl b := fun q => e (Sum.inl.inj q)
    rw [decide_eq_false h]
    exact (beq_eq_false_iff_ne.mpr e).symm
theorem key_rr (a b : Str) : decide ((Sum.inr a : Key) = Sum.inr b) = decide (a = b) := by
  by_cases e : a = b
  · subst e; simp
  · have h : ¬ (Sum.inr a : Key) = Sum.inr b := fun q => e (Sum.inr.inj q)
    rw [decide_eq_false h, decide_eq_false e]
theorem key_lr (a : Int) (b : Str) : decide ((Sum.inl a : Key) = Sum.inr b) = false := decide_eq_false (fun q => nomatch q)
theorem key_rl (a : Str) (b : Int) : decide ((Sum.inr a : Key) = Sum.inl b) = false := decide_eq_false (fun q => nomatch q)

def mixKind (prog : Program) (w : World) : PySem.KeyKind prog w Key where
  is := keyIs
  hash := keyH w
  inj := fun v a b ha hb => by
    rcases keyIs_shape ha with ⟨i, t, rfl, rfl⟩ | ⟨x, t, rfl, rfl⟩
    · rcases keyIs_shape hb with ⟨j, u, rfl, e⟩ | ⟨y, u, rfl, e⟩
      · injection e with e1 _; rw [e1]
      · exact nomatch e
    · rcases keyIs_shape hb with ⟨j, u, rfl, e⟩ | ⟨y, u, rfl, e⟩
      · exact nomatch e
      · injection e with e1 _; rw [e1]
  byValue := fun k v h => by
    rcases keyIs_shape h with ⟨i, t, rfl, rfl⟩ | ⟨x, t, rfl, rfl⟩ <;> rfl
  pyHash := fun hv h => by
    rcases keyIs_shape hv with ⟨i, t, rfl, rfl⟩ | ⟨x, t, rfl, rfl⟩
    · exact wpAny_pyHash_int h
    · exact wpAny_pyHash_str h
  eqBool := fun hu hv h => by
    rcases keyIs_shape hu with ⟨i, t, rfl, rfl⟩ | ⟨x, t, rfl, rfl⟩
    · rcases keyIs_shape hv with ⟨j, u, rfl, rfl⟩ | ⟨y, u, rfl, rfl⟩
      · rw [key_ll] at h; exact wpAny_eqBool_int h
      · rw [key_lr] at h; exact SeqAt.EqAt.int_str i t y u _ _ _ _ h
    · rcases keyIs_shape hv with ⟨j, u, rfl, rfl⟩ | ⟨y, u, rfl, rfl⟩
      · rw [key_rl] at h; exact SeqAt.EqAt.str_int x t j u _ _ _ _ h
      · rw [key_rr] at h; exact wpAny_eqBool_str h
  «strs» := fun k x t v h => by
    rcases keyIs_shape h with ⟨i, u, rfl, e⟩ | ⟨y, u, rfl, e⟩
    · exact nomatch e
    · injection e with e1 _
      subst e1
      cases v <;> rfl

theorem mixKind_is (prog : Program) (w : World) (k : Key) (v : Value) : (mixKind prog w).is k v = keyIs k v := rfl
theorem mixKind_int (prog : Program) (w : World) (i : Int) (t : Tok) : (mixKind prog w).is (.inl i) (.int i t) = true := keyIs_int i t
theorem mixKind_str (prog : Program) (w : World) (x : Str) (t : Tok) : (mixKind prog w).is (.inr x) (.str x t) = true := keyIs_str x t
end L2

namespace L2
open PySem PySem.Spec PyProof.Rows

/-- a value, without the heap -/
inductive V where
  | non | bl (b : Bool) | int (i : Int) | str (x : Str) | byt (b : Array UInt8) | flt (b : UInt64) | ref (a : Addr) | ty (n : String)
  deriving DecidableEq

def RelV : V → Value → Prop
  | .non, u => u = Value.none
  | .bl b, u => u = Value.bool b
  | .int i, u => ∃ t, u = Value.int i t
  | .str x, u => ∃ t, u = Value.str x t
  | .byt b, u => ∃ t, u = Value.bytes b t
  | .flt b, u => ∃ t, u = Value.float b t
  | .ref a, u => u = Value.ref a
  | .ty n, u => u = Value.type n

abbrev Vals : List V → List Value → Prop := Paired RelV
theorem Vals.length {xs : List V} {us : List Value} (r : Vals xs us) : xs.length = us.length := Paired.length r
theorem Vals.get : ∀ {xs : List V} {us : List Value} {i : Nat} {x : V}, Vals xs us → xs[i]? = some x → ∃ u, us[i]? = some u ∧ RelV x u
  | _, _, _, _, .nil, e => by simp at e
  | _, _, 0, _, .cons r _, e => by simp at e; subst e; exact ⟨_, rfl, r⟩
  | _, _, i + 1, x, .cons _ t, e => by
    obtain ⟨u, h1, h2⟩ := Vals.get (i := i) (x := x) t (by simpa using e)
    exact ⟨u, by simpa using h1, h2⟩
theorem Vals.set {x : V} {u : Value} (r : RelV x u) : ∀ {xs : List V} {us : List Value} (i : Nat), Vals xs us → Vals (xs.set i x) (us.set i u)
  | _, _, _, .nil => .nil
  | _, _, 0, .cons _ t => .cons r t
  | _, _, i + 1, .cons q t => .cons q (Vals.set r i t)
theorem Vals.append : ∀ {xs ys : List V} {us ws : List Value}, Vals xs us → Vals ys ws → Vals (xs ++ ys) (us ++ ws)
  | _, _, _, _, .nil, s => s
  | _, _, _, _, .cons r t, s => .cons r (Vals.append t s)
theorem Vals.take : ∀ {xs : List V} {us : List Value} (n : Nat), Vals xs us → Vals (xs.take n) (us.take n)
  | _, _, 0, _ => .nil
  | _, _, _ + 1, .nil => .nil
  | _, _, n + 1, .cons r t => .cons r (Vals.take n t)
theorem Vals.drop : ∀ {xs : List V} {us : List Value} (n : Nat), Vals xs us → Vals (xs.drop n) (us.drop n)
  | _, _, 0, r => r
  | _, _, _ + 1, .nil => .nil
  | _, _, n + 1, .cons _ t => Vals.drop n t
theorem Vals.none_of : ∀ {xs : List V} {us : List Value} {i : Nat}, Vals xs us → xs[i]? = none → us[i]? = none := fun {xs us i} r e => by
  have h1 := r.length
  have h2 : xs.length ≤ i := List.getElem?_eq_none_iff.mp e
  exact List.getElem?_eq_none_iff.mpr (by omega)

def RelO : Option V → Option Value → Prop
  | some v, some u => RelV v u
  | none, none => True
  | _, _ => False
def KV {κ : Type} : List (κ × V) → List (κ × Value) → Prop := Paired fun (p : κ × V) (q : κ × Value) => p.1 = q.1 ∧ RelV p.2 q.2

/-- a key of a dict (00_mix): an int or a text -/
def kV : Key → V
  | .inl i => .int i
  | .inr x => .str x

/-- what stands at a tracked address -/
inductive HO where
  /-- a list -/
  | lst (xs : List V)
  /-- a tuple (never changes) -/
  | tup (xs : List V)
  /-- a dict whose keys are ints and texts; one whose keys are tuples of ints and texts (the empty one is both) -/
  | dK (kvs : List (Key × V)) | dT (kvs : List (List Key × V))
  /-- a set of ints: its members, its size -/
  | set (S : Int → Bool) (n : Nat)
  /-- an instance of the class at C, its dict at dx, its attributes -/
  | ins (C dx : Addr) (fs : List (Str × V))
  /-- the dict of the instance at x -/
  | own (x : Addr)
  /-- the dict of an exception -/
  | xd (fs : List (Str × V))
  /-- a bound method, f of x -/
  | met (f x : Addr)
  /-- a range object lo, lo + 1, .. below hi -/
  | rng (lo hi : Int)
  /-- a thing that is known to the object (the script; a dict while a loop walks it): read, never written while it is so -/
  | frz (o : Obj) (u : HO)
  /-- a code object's table -/
  | tbl (ps : Array Value)
  /-- any other thing, by what is true of its one object (a def of one's own: SetO a S n := HO.ext fun h => ..) -/
  | ext (φ : Heap → Prop)

abbrev Hp := Addr → Option HO
def upd (H : Hp) (a : Addr) (o : HO) : Hp := fun b => if b = a then some o else H b
theorem upd_same {H : Hp} {a : Addr} {o : HO} : upd H a o a = some o := by unfold upd; rw [if_pos rfl]
theorem upd_ne {H : Hp} {a b : Addr} {o : HO} (h : b ≠ a) : upd H a o b = H b := by unfold upd; rw [if_neg h]
theorem upd_upd {H : Hp} {a : Addr} {o u : HO} : upd (upd H a o) a u = upd H a u := by
  funext b; unfold upd; split <;> rfl
/-- two objects of different content stand apart -/
theorem ne_of {H : Hp} {a b : Addr} {o u : HO} (h : H a = some o) (h' : H b = some u) (d : o ≠ u) : a ≠ b := by
  intro e; subst e; rw [h] at h'; exact d (Option.some.inj h')
theorem ne_of_none {H : Hp} {a b : Addr} {o : HO} (h : H a = some o) (h' : H b = none) : a ≠ b := by
  intro e; subst e; rw [h] at h'; cases h'

section
variable (P : Program) (w : World)
def ObjOk (H : Hp) (h : Heap) (a : Addr) : HO → Prop
  | .lst xs => xs.length ≤ sizeLine ∧ ∃ (its : List Value) (n : Nat), Vals xs its ∧ h.get? a = some { cls := .type "list", data := .seq its.toArray n }
  | .tup xs => xs.length ≤ sizeLine ∧ ∃ its : List Value, Vals xs its ∧ IsTup h a its.toArray
  | .dK kvs => kvs.length ≤ sizeLine ∧ (a == sysModules) = false ∧ ∃ vs, KV kvs vs ∧ h.DictOf (mixKind P w) a vs
  | .dT kvs => kvs.length ≤ sizeLine ∧ (a == sysModules) = false ∧ ∃ xs : List (List Key × Addr × Value),
      Paired (fun (p : List Key × V) (q : List Key × Addr × Value) => p.1 = q.1 ∧ H q.2.1 = some (.tup (p.1.map kV)) ∧ RelV p.2 q.2.2) kvs xs ∧
      ∃ o es ep, h.get? a = some o ∧ o.ExactDict ∧ o.data = .dict es ep ∧ es.toList = xs.map (entryOfKey (tupleKind (mixKind P w))) ∧ (xs.map (·.1)).Nodup
  | .set S n => h.SetOf (intKind P w) a S n
  | .ins C dx fs => H dx = some (.own a) ∧ fs.length ≤ 1000 ∧ dx ≠ a ∧ h.get? a = some (PySem.W.instObj C dx) ∧
      ∃ mA, h.Ns1 dx mA ∧ (∀ f, RelO (fs.lookup f) (mA f)) ∧ PySem.Within mA (fs.map (·.1))
  | .own _ => ∃ o, h.get? a = some o
  | .xd fs => ∃ mA, h.Ns1 a mA ∧ ∀ f, RelO (fs.lookup f) (mA f)
  | .rng lo hi => ∃ t u v, h.get? a = some { cls := .type "range", data := .fields #[.int lo t, .int hi u, .int 1 v] }
  | .frz o u => h.get? a = some o ∧ ObjOk H h a u
  | .tbl ps => h.get? a = some { cls := .none, data := .fields ps }
  | .met f x => h.get? a = some (PySem.W.methodObj (.ref f) (.ref x))
  | .ext φ => φ h ∧ (∃ o, h.get? a = some o) ∧ ∀ h1 h2 : Heap, φ h1 → (∀ o, h1.get? a = some o → h2.get? a = some o) → φ h2
/-- the abstract heap is held -/
def HOk (H : Hp) (h : Heap) : Prop := ∀ a o, H a = some o → ObjOk P w H h a o
end

section
variable {P : Program} {w : World} {H H' : Hp} {h h' : Heap} {a : Addr} {o : HO}
theorem ObjOk.lt (x : ObjOk P w H h a o) : a < h.objs.size := by
  cases o with
  | lst xs => obtain ⟨_, _, _, _, e⟩ := x; exact Heap.lt_size e
  | tup xs => obtain ⟨_, _, _, p⟩ := x; exact p.lt
  | dK kvs => obtain ⟨_, _, _, _, o, _, _, e, _⟩ := x; exact Heap.lt_size e
  | dT kvs => obtain ⟨_, _, _, _, o, _, _, e, _⟩ := x; exact Heap.lt_size e
  | set S n => obtain ⟨o, _, _, _, e, _⟩ := x; exact Heap.lt_size e
  | ins C dx fs => obtain ⟨_, _, _, e, _⟩ := x; exact Heap.lt_size e
  | own y => obtain ⟨_, e⟩ := x; exact Heap.lt_size e
  | xd fs => obtain ⟨_, ⟨_, _, _, e, _⟩, _⟩ := x; exact Heap.lt_size e
  | rng lo hi => obtain ⟨_, _, _, e⟩ := x; exact Heap.lt_size e
  | frz ob u => obtain ⟨e, _⟩ := x; exact Heap.lt_size e
  | tbl ps => exact Heap.lt_size (show h.get? a = some _ from x)
  | met f y => exact Heap.lt_size (show h.get? a = some _ from x)
  | ext φ => obtain ⟨_, ⟨_, e⟩, _⟩ := x; exact Heap.lt_size e
theorem Paired.mapP {α β : Type} {F G : α → β → Prop} : ∀ {l₁ : List α} {l₂ : List β}, Paired F l₁ l₂ → (∀ a b, F a b → G a b) → Paired G l₁ l₂
  | _, _, .nil, _ => .nil
  | _, _, .cons r t, f => .cons (f _ _ r) (Paired.mapP t f)
theorem Paired.imp' {α β : Type} {F G : α → β → Prop} (f : ∀ a b, F a b → G a b) {l₁ : List α} {l₂ : List β} (r : Paired F l₁ l₂) : Paired G l₁ l₂ := Paired.mapP r f
/-- what an object's description leans on: its own object, its own dict, the tuples -/
theorem ObjOk.stay (x : ObjOk P w H h a o) (k : ∀ b u, (b = a ∨ H b = some (.own a)) → h.get? b = some u → h'.get? b = some u)
    (ho : ∀ b, H b = some (.own a) → H' b = some (.own a)) (ht : ∀ b xs, H b = some (.tup xs) → H' b = some (.tup xs)) : ObjOk P w H' h' a o := by
  induction o with
  | lst xs => obtain ⟨z, its, n, r, e⟩ := x; exact ⟨z, its, n, r, k _ _ (.inl rfl) e⟩
  | tup xs => obtain ⟨z, its, r, ob, e, c⟩ := x; exact ⟨z, its, r, ob, k _ _ (.inl rfl) e, c⟩
  | dK kvs => obtain ⟨z, y, vs, r, ob, es, ep, e, c⟩ := x; exact ⟨z, y, vs, r, ob, es, ep, k _ _ (.inl rfl) e, c⟩
  | dT kvs =>
    obtain ⟨z, y, xs, r, ob, es, ep, e, c⟩ := x
    exact ⟨z, y, xs, Paired.mapP r fun p q z => ⟨z.1, ht _ _ z.2.1, z.2.2⟩, ob, es, ep, k _ _ (.inl rfl) e, c⟩
  | set S n => obtain ⟨ob, es, ep, t, e, c⟩ := x; exact ⟨ob, es, ep, t, k _ _ (.inl rfl) e, c⟩
  | ins C dx fs =>
    obtain ⟨d, z, ne, e, mA, ⟨od, es, ep, e2, c⟩, r⟩ := x
    exact ⟨ho _ d, z, ne, k _ _ (.inl rfl) e, mA, ⟨od, es, ep, k _ _ (.inr d) e2, c⟩, r⟩
  | own y => obtain ⟨ob, e⟩ := x; exact ⟨ob, k _ _ (.inl rfl) e⟩
  | xd fs => obtain ⟨mA, ⟨od, es, ep, e, c⟩, r⟩ := x; exact ⟨mA, ⟨od, es, ep, k _ _ (.inl rfl) e, c⟩, r⟩
  | rng lo hi => obtain ⟨t, u, v, e⟩ := x; exact ⟨t, u, v, k _ _ (.inl rfl) e⟩
  | frz ob u ih => obtain ⟨e, q⟩ := x; exact ⟨k _ _ (.inl rfl) e, ih q⟩
  | tbl ps =>
    have e : h.get? a = some { cls := .none, data := .fields ps } := x
    show h'.get? a = some { cls := .none, data := .fields ps }
    exact k a _ (.inl rfl) e
  | met f y =>
    have e : h.get? a = some (PySem.W.methodObj (.ref f) (.ref y)) := x
    show h'.get? a = some (PySem.W.methodObj (.ref f) (.ref y))
    exact k a _ (.inl rfl) e
  | ext φ => obtain ⟨p, ⟨o, e⟩, st⟩ := x; exact ⟨st _ _ p fun o q => k _ _ (.inl rfl) q, ⟨o, k _ _ (.inl rfl) e⟩, st⟩
theorem HOk.lt (x : HOk P w H h) (e : H a = some o) : a < h.objs.size := (x a o e).lt
theorem HOk.fresh (x : HOk P w H h) (e : h.objs.size ≤ a) : H a = none := by
  cases q : H a with
  | none => rfl
  | some u => exact absurd (Nat.lt_of_lt_of_le (x.lt q) e) (Nat.lt_irrefl _)
/-- every object of the heap is kept -/
theorem HOk.kept (x : HOk P w H h) (k : ∀ b u, h.get? b = some u → h'.get? b = some u) : HOk P w H h' := fun a o e =>
  (x a o e).stay (fun b u _ q => k b u q) (fun _ q => q) fun _ _ q => q
/-- a new object is laid and tracked -/
theorem HOk.laid (x : HOk P w H h) (k : ∀ b u, h.get? b = some u → h'.get? b = some u) (hp : h.objs.size ≤ a) (new : ObjOk P w (upd H a o) h' a o) : HOk P w (upd H a o) h' := fun b u e => by
  have hn := x.fresh hp
  by_cases hb : b = a
  · subst hb; rw [upd_same] at e; cases e; exact new
  · rw [upd_ne hb] at e
    exact (x b u e).stay (fun c v _ q => k c v q) (fun c q => by rw [upd_ne (ne_of_none q hn)]; exact q) fun c xs q => by rw [upd_ne (ne_of_none q hn)]; exact q
end

/-- what may be read as u: it is u, or a known u -/
def Rd (H : Hp) (a : Addr) (u : HO) : Prop := H a = some u ∨ ∃ o, H a = some (.frz o u)
theorem Rd.of {H : Hp} {a : Addr} {u : HO} (h : H a = some u) : Rd H a u := .inl h
theorem Rd.ok {P : Program} {w : World} {H : Hp} {h : Heap} {a : Addr} {u : HO} (r : Rd H a u) (x : HOk P w H h) : ObjOk P w H h a u := by
  rcases r with r | ⟨o, r⟩
  · exact x a u r
  · obtain ⟨_, q⟩ := x a _ r
    exact q
/-- what may be written -/
def Mut : Option HO → Prop
  | some (.lst _) => True
  | some (.dK _) => True
  | some (.dT _) => True
  | some (.set _ _) => True
  | some (.ins _ _ _) => True
  | some (.ext _) => True
  | _ => False
section
variable {P : Program} {w : World} {H : Hp} {h h' : Heap} {x e : Addr} {o' : HO}
/-- the object at e is changed: x itself, or the dict of the instance x -/
theorem HOk.write (ok : HOk P w H h) (mu : Mut (H x)) (he : e = x ∨ H e = some (.own x)) (k : ∀ b u, b ≠ e → h.get? b = some u → h'.get? b = some u) (heo : ∃ u, h'.get? e = some u)
    (new : ObjOk P w (upd H x o') h' x o') : HOk P w (upd H x o') h' := fun b u q => by
  have nown : ∀ c y, H c = some (.own y) → c ≠ x := fun c y r z => by subst z; rw [r] at mu; exact mu
  have ntup : ∀ c xs, H c = some (.tup xs) → c ≠ x := fun c xs r z => by subst z; rw [r] at mu; exact mu
  by_cases hb : b = x
  · subst hb; rw [upd_same] at q; cases q; exact new
  · rw [upd_ne hb] at q
    by_cases hbe : b = e
    · have q' : H b = some (.own x) := by
        rcases he with z | z
        · exact absurd (hbe.trans z) hb
        · rw [hbe]; exact z
      rw [q] at q'; cases q'
      obtain ⟨v, hv⟩ := heo
      exact ⟨v, by rw [hbe]; exact hv⟩
    · refine (ok b u q).stay (fun c v hc r => k c v ?_ r) (fun c r => by rw [upd_ne (nown c b r)]; exact r) fun c xs r => by rw [upd_ne (ntup c xs r)]; exact r
      rcases hc with rfl | hc
      · exact hbe
      · rintro rfl
        rcases he with z | z
        · exact nown c b hc z
        · rw [hc] at z; cases z; exact hb rfl
end

/-! ### kept unless tracked; of the frames at fs (the callers') the slots may change (an exception that passes writes there); of the records at ex (iterators) nothing is said -/
structure Un (fs ex : List Addr) (H H' : Hp) (h h' : Heap) : Prop where
  keep : ∀ b o, h.get? b = some o → H b = none → b ∉ fs → b ∉ ex → h'.get? b = some o
  slot : ∀ b o, h.get? b = some o → H b = none → b ∈ fs → b ∉ ex → ∃ sl, h'.get? b = some { o with slots := sl }
  free : ∀ b o, h.get? b = some o → H b = none → b ∉ ex → H' b = none
  there : ∀ b o, h.get? b = some o → b ∉ ex → ∃ o', h'.get? b = some o'
  tups : ∀ b xs, H b = some (.tup xs) → H' b = some (.tup xs)
  frzs : ∀ b o u, H b = some (.frz o u) → H' b = some (.frz o u)
  tbls : ∀ b ps, H b = some (.tbl ps) → ∃ more, H' b = some (.tbl (ps ++ more))
section
variable {fs fs' ex ex' : List Addr} {H H1 H2 : Hp} {h h1 h2 h' : Heap} {a x e : Addr} {o : HO}
theorem Un.any (u : Un fs ex H H1 h h1) {b : Addr} {ob : Obj} (q : h.get? b = some ob) (n : H b = none) (hx : b ∉ ex) : ∃ sl, h1.get? b = some { ob with slots := sl } := by
  by_cases hb : b ∈ fs
  · exact u.slot b ob q n hb hx
  · exact ⟨ob.slots, u.keep b ob q n hb hx⟩
theorem Un.trans (a : Un fs ex H H1 h h1) (b : Un fs ex H1 H2 h1 h2) : Un fs ex H H2 h h2 where
  keep := fun c ob q n hc hx => b.keep c ob (a.keep c ob q n hc hx) (a.free c ob q n hx) hc hx
  slot := fun c ob q n hc hx => by
    obtain ⟨sl, e1⟩ := a.slot c ob q n hc hx
    obtain ⟨sl', e2⟩ := b.slot c _ e1 (a.free c ob q n hx) hc hx
    exact ⟨sl', e2⟩
  free := fun c ob q n hx => by
    obtain ⟨o', e1⟩ := a.there c ob q hx
    exact b.free c o' e1 (a.free c ob q n hx) hx
  there := fun c ob q hx => by
    obtain ⟨o', e1⟩ := a.there c ob q hx
    exact b.there c o' e1 hx
  tups := fun c xs q => b.tups c xs (a.tups c xs q)
  frzs := fun c ob xs q => b.frzs c ob xs (a.frzs c ob xs q)
  tbls := fun c ps q => by
    obtain ⟨m1, e1⟩ := a.tbls c ps q
    obtain ⟨m2, e2⟩ := b.tbls c _ e1
    exact ⟨m1 ++ m2, by rw [e2, Array.append_assoc]⟩
theorem Un.kept (k : ∀ b u, h.get? b = some u → h'.get? b = some u) : Un fs ex H H h h' :=
  ⟨fun b ob q _ _ _ => k b ob q, fun b ob q _ _ _ => ⟨ob.slots, k b ob q⟩, fun _ _ _ n _ => n, fun b ob q _ => ⟨ob, k b ob q⟩, fun _ _ q => q, fun _ _ _ q => q, fun _ ps q => ⟨#[], by rw [q]; simp⟩⟩
theorem Un.refl : Un fs ex H H h h := Un.kept fun _ _ q => q
theorem Un.laid (k : ∀ b u, h.get? b = some u → h'.get? b = some u) (hp : h.objs.size ≤ a) (hn : H a = none) : Un fs ex H (upd H a o) h h' where
  keep := fun b u q _ _ _ => k b u q
  slot := fun b u q _ _ _ => ⟨u.slots, k b u q⟩
  free := fun b u q n _ => by rw [upd_ne (Nat.ne_of_lt (Nat.lt_of_lt_of_le (Heap.lt_size q) hp))]; exact n
  there := fun b u q _ => ⟨u, k b u q⟩
  tups := fun b xs q => by rw [upd_ne (ne_of_none q hn)]; exact q
  frzs := fun b u xs q => by rw [upd_ne (ne_of_none q hn)]; exact q
  tbls := fun b ps q => ⟨#[], by rw [upd_ne (ne_of_none q hn), q]; simp⟩
theorem Un.write (mu : Mut (H x)) (he : e = x ∨ H e = some (.own x)) (k : ∀ b u, b ≠ e → h.get? b = some u → h'.get? b = some u) (heo : ∃ u, h'.get? e = some u) : Un fs ex H (upd H x o) h h' := by
  have hx : ∀ b, H b = none → b ≠ x := fun b n z => by subst z; rw [n] at mu; exact mu
  have hb : ∀ b, H b = none → b ≠ e := fun b n z => by
    subst z
    rcases he with r | r
    · exact hx b n r
    · rw [n] at r; cases r
  have hm : ∀ b u, H b = some u → ¬ Mut (some u) → b ≠ x := fun b u q nm z => by subst z; rw [q] at mu; exact nm mu
  refine ⟨fun b u q n _ _ => k b u (hb b n) q, fun b u q n _ _ => ⟨u.slots, k b u (hb b n) q⟩, fun b u q n _ => by rw [upd_ne (hx b n)]; exact n, fun b u q _ => ?_,
    fun b xs q => by rw [upd_ne (hm b _ q fun z => z)]; exact q, fun b u xs q => by rw [upd_ne (hm b _ q fun z => z)]; exact q, fun b ps q => ⟨#[], by rw [upd_ne (hm b _ q fun z => z), q]; simp⟩⟩
  by_cases hbe : b = e
  · subst hbe; exact heo
  · exact ⟨u, k b u hbe q⟩
theorem Un.mono (u : Un fs ex H H1 h h1) (hs : ∀ b ∈ fs, b ∈ fs') (hx : ∀ b ∈ ex, b ∈ ex') : Un fs' ex' H H1 h h1 :=
  ⟨fun b ob q n hb he => u.keep b ob q n (fun z => hb (hs b z)) fun z => he (hx b z), fun _ _ q n _ he => u.any q n fun z => he (hx _ z), fun b ob q n he => u.free b ob q n fun z => he (hx b z), fun b ob q he => u.there b ob q fun z => he (hx b z), u.tups, u.frzs, u.tbls⟩
end

/-! ### the heap without what is tracked -/
def trk (h : Heap) (H : Hp) : List Addr := (List.range h.objs.size).filter fun a => (H a).isSome
def hidT (h : Heap) (H : Hp) : Heap := PySem.W.hideAll h (trk h H)
theorem hidT_size (h : Heap) (H : Hp) : (hidT h H).objs.size = h.objs.size := PySem.W.hideAll_size _ _
theorem hidT_get {h : Heap} {H : Hp} {b : Addr} {o : Obj} (e : h.get? b = some o) (n : H b = none) : (hidT h H).get? b = some o :=
  PySem.W.hideAll_get _ e fun hm => by
    have q : (H b).isSome = true := (List.mem_filter.mp hm).2
    rw [n] at q; simp at q
theorem of_hidT {h : Heap} {H : Hp} {b : Addr} {o : Obj} (e : (hidT h H).get? b = some o) : h.get? b = some o ∧ H b = none := by
  have e' : h.get? b = some o := PySem.W.of_hideAll (trk h H) e
  refine ⟨e', ?_⟩
  cases q : H b with
  | none => rfl
  | some x =>
    have hm : b ∈ trk h H := List.mem_filter.mpr ⟨List.mem_range.mpr (Heap.lt_size e'), by simp [q]⟩
    have z : (hidT h H).get? b = none := PySem.W.hideAll_none (trk h H) hm
    rw [z] at e; cases e

/-! ### OpenK's ledger, filled with every new object but one -/
def allNews (g h : Heap) (L : Addr) : List (Addr × Obj) := (List.range h.objs.size).filterMap fun a => if a = L ∨ (g.get? a).isSome = true then none else (h.get? a).map fun o => (a, o)
theorem mem_allNews {g h : Heap} {L a : Addr} {o : Obj} (h1 : a ≠ L) (h2 : g.get? a = none) (h3 : h.get? a = some o) : (a, o) ∈ allNews g h L :=
  List.mem_filterMap.mpr ⟨a, List.mem_range.mpr (Heap.lt_size h3), by simp [h1, h2, h3]⟩
theorem of_mem_allNews {g h : Heap} {L : Addr} {p : Addr × Obj} (hp : p ∈ allNews g h L) : p.1 ≠ L ∧ g.get? p.1 = none ∧ h.get? p.1 = some p.2 := by
  obtain ⟨b, _, e⟩ := List.mem_filterMap.mp hp
  split at e
  · cases e
  · rename_i hn
    cases q : h.get? b with
    | none => rw [q] at e; simp at e
    | some u =>
      rw [q] at e
      simp only [Option.map_some, Option.some.injEq] at e
      subst e
      refine ⟨fun z => hn (.inl z), ?_, q⟩
      show g.get? b = none
      cases r : g.get? b with
      | none => rfl
      | some v => exact (hn (.inr (by simp [r]))).elim
def rest (g h : Heap) (L d : Addr) : List (Addr × Obj) := (allNews g h L).filter fun p => decide (p.1 ≠ d)
theorem rest_ne {g h : Heap} {L d : Addr} : ∀ p ∈ rest g h L d, p.1 ≠ d := fun p hp => of_decide_eq_true (List.mem_filter.mp hp).2
theorem mem_rest {g h : Heap} {L d a : Addr} {o : Obj} (h1 : a ≠ L) (h2 : g.get? a = none) (h3 : h.get? a = some o) (h4 : a ≠ d) : (a, o) ∈ rest g h L d :=
  List.mem_filter.mpr ⟨mem_allNews h1 h2 h3, decide_eq_true h4⟩
theorem news_all {g h : Heap} {L : Addr} : News g L h (allNews g h L) := fun p hp => let ⟨a, b, c⟩ := of_mem_allNews hp; ⟨c, a, b⟩
theorem news_at {g h : Heap} {L d : Addr} {o : Obj} (h1 : d ≠ L) (h2 : g.get? d = none) (h3 : h.get? d = some o) : News g L h ((d, o) :: rest g h L d) := fun p hp => by
  rcases List.mem_cons.mp hp with rfl | hp
  · exact ⟨h3, h1, h2⟩
  · exact news_all p (List.mem_filter.mp hp).1
/-- behind a rule that changed d alone: all else but the frame is kept -/
theorem kept_of_news {g h h' : Heap} {L d : Addr} {m : Str → Option Value} (k : ∀ b o, g.get? b = some o → h.get? b = some o) (F : Fr g L h' m) (N : News g L h' (rest g h L d)) :
    ∀ b o, b ≠ L → b ≠ d → h.get? b = some o → h'.get? b = some o := fun b o h1 h2 e => by
  cases q : g.get? b with
  | some u =>
    have := k b u q
    rw [e] at this; cases this
    exact F.keep b _ q
  | none => exact (N (b, o) (mem_rest h1 q e h2)).1
end L2

namespace L2
open PySem PySem.Spec PyProof.Rows

/-- the module's facts, over the base: the heap at the law's entry without what is tracked there -/
structure Mod (K : PySem.W.Frag) (mg : Str → Option Value) (base : Heap) : Prop where
  kin : K.In base
  glob : base.Ns mainGlobals mg
  blt : ∃ mb, base.Ns builtinsNs mb ∧ ∀ x : Str, x ≠ "__name__" → mb x = bootBuiltins x
  nolimit : base.NoLimit

/-- the context: a def's body (or a comprehension's block) running. base: fixed through the whole law; s₀, H₀: the entry; outer: the frames whose slots others may change (a def's callers); stack: all frames that run;
   ex: iterators that were made ahead of the entry and are walked here (a comprehension's); fn: the names whose cells were made at the entry (a def: all; a comprehension's block: its own); calm: not within an except suite; pn: pins that every state bears; xe: what is wanted of an exception that leaves the code -/
structure Cx where
  prog : Program
  w : World
  K : PySem.W.Frag
  mg : Str → Option Value
  base : Heap
  A : Around
  N : List Str
  s₀ : Shared
  H₀ : Hp
  env : Env
  outer : List Env
  stack : List Env
  ex : List Addr
  fn : Str → Bool
  calm : Bool
  pn : List (Addr × Obj)
  xe : Value → Shared → Prop
/-- the callers' frames -/
def frs (l : List Env) : List Addr := l.filterMap (·.frame)
abbrev Cx.fs (X : Cx) : List Addr := frs X.outer

def Vis (sc : Scope) (x : Str) : Prop := sc.names.lookup x = some .local ∨ sc.names.lookup x = some .cell ∨ sc.names.lookup x = some .free
def Loc (sc : Scope) (x : Str) : Prop := sc.names.lookup x = some .local ∨ sc.names.lookup x = some .cell
def Look (env : Env) (h : Heap) (m : Str → Option Value) (x : Str) (u : Value) : Prop :=
  (env.kindOf x = some .local ∧ m x = some u) ∨ ((env.kindOf x = some .cell ∨ env.kindOf x = some .free) ∧ ∃ c, env.cells.lookup x = some c ∧ h.IsCell c (some u))

structure Cx.Ok (X : Cx) : Prop where
  mod : Mod X.K X.mg X.base
  kind : X.env.scope.kind = .function
  glob : X.env.globals = mainGlobals
  blt : X.env.builtins = builtinsNs
  above : X.s₀.heap.objs.size ≤ X.env.locals
  inj : ∀ x y c, X.env.cells.lookup x = some c → X.env.cells.lookup y = some c → x = y
  has : ∀ x, (X.env.kindOf x = some .cell ∨ X.env.kindOf x = some .free) → ∃ c, X.env.cells.lookup x = some c
  cab : ∀ x c, X.fn x = true → X.env.cells.lookup x = some c → X.s₀.heap.objs.size ≤ c
  hd : X.calm = true → X.A.handled = none
  frames : X.A.frames = some X.stack
  stk : X.stack = X.outer ∨ (X.stack = X.env :: X.outer ∧ X.env.frame = some X.env.locals)
  exf : ∀ b ∈ X.ex, b ≠ X.env.locals ∧ ∀ x c, X.env.cells.lookup x = some c → c ≠ b
  bs : ∀ b o, X.base.get? b = some o → X.s₀.heap.get? b = some o ∧ X.H₀ b = none
  bsz : X.base.objs.size ≤ X.s₀.heap.objs.size
  noex : ∀ b o, X.base.get? b = some o → b ∉ X.ex
  exfs : ∀ b ∈ X.ex, b ∉ X.fs
  funs : X.s₀.heap.FunFrames X.base X.outer
  frf : ∀ b ∈ X.fs, X.H₀ b = none

structure Inv (X : Cx) (pins : List (Addr × Obj)) (σ : List (Option V)) (H : Hp) (s : Shared) : Prop where
  ok : X.Ok
  os : s.os = X.s₀.os
  bare : AllBare s.gens
  base : Un X.fs X.ex X.H₀ H X.s₀.heap s.heap
  loc : ∃ m, s.heap.Ns X.env.locals m ∧ ∀ (i : Nat) (x : Str) (v : V), X.N[i]? = some x → σ[i]? = some (some v) → Vis X.env.scope x → ∃ u, RelV v u ∧ Look X.env s.heap m x u
  cell : ∀ x c, X.env.cells.lookup x = some c → ∃ v, s.heap.IsCell c v
  free : H X.env.locals = none
  freeC : ∀ x c, X.env.cells.lookup x = some c → H c = none
  pin : ∀ p ∈ X.pn ++ pins, s.heap.get? p.1 = some p.2 ∧ H p.1 = none ∧ p.1 ≠ X.env.locals ∧ p.1 ∉ X.fs ∧ ∀ v, p.2.data ≠ .cell v
  hok : HOk X.prog X.w H s.heap
  len : σ.length = X.N.length

section
variable {X : Cx} {pins : List (Addr × Obj)} {σ : List (Option V)} {H H' : Hp} {s : Shared} {h' : Heap}

theorem Cx.Ok.nofr (ok : X.Ok) {b : Addr} {o : Obj} (e : X.base.get? b = some o) : b ∉ X.fs := fun hb => by
  have := (ok.funs.mem hb).1
  rw [e] at this; cases this
theorem Inv.bs (I : Inv X pins σ H s) : ∀ b o, X.base.get? b = some o → s.heap.get? b = some o ∧ H b = none := fun b o e =>
  ⟨I.base.keep b o (I.ok.bs b o e).1 (I.ok.bs b o e).2 (I.ok.nofr e) (I.ok.noex b o e), I.base.free b o (I.ok.bs b o e).1 (I.ok.bs b o e).2 (I.ok.noex b o e)⟩
theorem Inv.bk (I : Inv X pins σ H s) : ∀ b o, X.base.get? b = some o → s.heap.get? b = some o := fun b o e => (I.bs b o e).1
theorem Inv.mod (I : Inv X pins σ H s) : Mod X.K X.mg X.base := I.ok.mod
theorem Inv.kIn (I : Inv X pins σ H s) : X.K.In s.heap := I.ok.mod.kin.keeps I.bk
theorem Inv.nolimit (I : Inv X pins σ H s) : s.heap.NoLimit := I.ok.mod.nolimit.keeps I.bk
/-- the frame over the base: for OpenK's rules (K.In X.base is I.mod.kin) -/
theorem Inv.fr (I : Inv X pins σ H s) : ∃ m, Fr X.base X.env.locals s.heap m :=
  let ⟨m, hn, _⟩ := I.loc
  ⟨m, hn, I.bk, Nat.le_trans I.ok.bsz I.ok.above⟩
theorem Inv.lt (I : Inv X pins σ H s) : X.env.locals < s.heap.objs.size := let ⟨_, hn, _⟩ := I.loc; hn.lt
theorem Inv.sz (I : Inv X pins σ H s) : X.s₀.heap.objs.size ≤ s.heap.objs.size := Nat.le_trans I.ok.above (Nat.le_of_lt I.lt)
theorem Inv.nofs (I : Inv X pins σ H s) {a : Addr} (h : s.heap.objs.size ≤ a) : a ∉ X.fs := fun hb => by
  obtain ⟨_, o, ho, _⟩ := I.ok.funs.mem hb
  exact absurd (Nat.lt_of_lt_of_le (Heap.lt_size ho) (Nat.le_trans I.sz h)) (Nat.lt_irrefl _)
theorem Inv.cne (I : Inv X pins σ H s) : ∀ x c, X.env.cells.lookup x = some c → c ≠ X.env.locals := fun x c e z => by
  obtain ⟨v, o, ho, hd⟩ := I.cell x c e
  obtain ⟨m, ⟨o', es, ep, ho', hd', _⟩, _⟩ := I.loc
  rw [z, ho'] at ho; cases ho; rw [hd'] at hd; cases hd
theorem Inv.funs (I : Inv X pins σ H s) : s.heap.FunFrames X.base X.outer := by
  have all : ∀ (l : List Env), (∀ b ∈ frs l, b ∈ X.fs) → X.s₀.heap.FunFrames X.base l → s.heap.FunFrames X.base l := by
    intro l
    induction l with
    | nil => intro _ _; trivial
    | cons env r ih =>
      intro hs hl
      obtain ⟨hk, ⟨L, o, hf, hn, ho, hd⟩, hr⟩ := hl
      have hL : L ∈ X.fs := hs L (by unfold frs; rw [List.filterMap_cons, hf]; exact List.mem_cons_self)
      obtain ⟨sl, e⟩ := I.base.slot L o ho (I.ok.frf L hL) hL fun z => I.ok.exfs L z hL
      exact ⟨hk, ⟨L, _, hf, hn, e, hd⟩, ih (fun b hb => hs b (by unfold frs; rw [List.filterMap_cons, hf]; exact List.mem_cons_of_mem _ hb)) hr⟩
  exact all X.outer (fun _ hb => hb) I.ok.funs

/-- the frames that run, for a call -/
theorem Inv.stack (I : Inv X pins σ H s) : s.heap.FunFrames X.base X.stack := by
  rcases I.ok.stk with e | ⟨e, hf⟩
  · rw [e]; exact I.funs
  · rw [e]
    obtain ⟨m, hn, _⟩ := I.loc
    refine .cons (by rw [I.ok.kind]; decide) hf hn ?_ I.funs
    exact Heap.get?_none_of_le (Nat.le_trans I.ok.bsz I.ok.above)
theorem Inv.stkSub (I : Inv X pins σ H s) : ∀ b ∈ frs X.stack, b ∈ X.env.locals :: X.fs := fun b hb => by
  rcases I.ok.stk with e | ⟨e, hf⟩
  · rw [e] at hb; exact List.mem_cons_of_mem _ hb
  · rw [e] at hb
    unfold frs at hb
    rw [List.filterMap_cons, hf] at hb
    exact hb
theorem Inv.stkFree (I : Inv X pins σ H s) : ∀ b ∈ frs X.stack, H b = none := fun b hb => by
  rcases List.mem_cons.mp (I.stkSub b hb) with e | hb
  · rw [e]; exact I.free
  · obtain ⟨_, o, ho, _⟩ := I.ok.funs.mem hb
    exact I.base.free b o ho (I.ok.frf b hb) fun z => I.ok.exfs b z hb

/-- THE STEP: the untracked objects but the frame and the records at ch are kept (the callers' frames up to slots), the frame's map is kept, the new abstract heap is held -/
theorem Inv.step {g' : Array GenState} {t' : Nat} {d' : Drawn} {ch : List Addr} (I : Inv X pins σ H s)
    (hch : ∀ b ∈ ch, (b ∈ X.ex ∨ X.s₀.heap.objs.size ≤ b) ∧ b ≠ X.env.locals ∧ (∀ x c, X.env.cells.lookup x = some c → c ≠ b) ∧ ∀ p ∈ X.pn ++ pins, p.1 ≠ b)
    (keep : ∀ b o, b ≠ X.env.locals → b ∉ X.fs → b ∉ ch → s.heap.get? b = some o → H b = none → h'.get? b = some o)
    (slot : ∀ b o, b ≠ X.env.locals → b ∈ X.fs → b ∉ ch → s.heap.get? b = some o → H b = none → ∃ sl, h'.get? b = some { o with slots := sl }) (free : ∀ b o, b ∉ ch → s.heap.get? b = some o → H b = none → H' b = none)
    (there : ∀ b o, b ∉ ch → s.heap.get? b = some o → ∃ o', h'.get? b = some o')
    (tups : ∀ b xs, H b = some (.tup xs) → H' b = some (.tup xs)) (frzs : ∀ b o u, H b = some (.frz o u) → H' b = some (.frz o u)) (tbls : ∀ b ps, H b = some (.tbl ps) → ∃ more, H' b = some (.tbl (ps ++ more)))
    (ns : ∀ m, s.heap.Ns X.env.locals m → h'.Ns X.env.locals m) (hok : HOk X.prog X.w H' h') (hg : AllBare g') :
    Inv X pins σ H' { s with heap := h', gens := g', drawn := d', toks := t' } := by
  have neL : ∀ b o, X.s₀.heap.get? b = some o → b ≠ X.env.locals := fun b o e => Nat.ne_of_lt (Nat.lt_of_lt_of_le (Heap.lt_size e) I.ok.above)
  have neC : ∀ b o, X.s₀.heap.get? b = some o → b ∉ X.ex → b ∉ ch := fun b o e hx hb => by
    rcases (hch b hb).1 with z | z
    · exact hx z
    · exact absurd (Nat.lt_of_lt_of_le (Heap.lt_size e) z) (Nat.lt_irrefl _)
  have cellK : ∀ x c, X.env.cells.lookup x = some c → ∀ v, s.heap.IsCell c v → h'.IsCell c v := fun x c e v ⟨o, ho, hd⟩ => by
    have nch : c ∉ ch := fun z => (hch c z).2.2.1 x c e rfl
    by_cases hc : c ∈ X.fs
    · obtain ⟨sl, q⟩ := slot c o (I.cne x c e) hc nch ho (I.freeC x c e)
      exact ⟨_, q, hd⟩
    · exact ⟨o, keep c o (I.cne x c e) hc nch ho (I.freeC x c e), hd⟩
  refine ⟨I.ok, I.os, hg, ⟨fun b o e n hb hx => ?_, fun b o e n hb hx => ?_, fun b o e n hx => ?_, fun b o e hx => ?_, fun b xs e => tups b xs (I.base.tups b xs e), fun b o xs e => frzs b o xs (I.base.frzs b o xs e), fun b ps e => ?_⟩, ?_, fun x c e => ?_, ?_, fun x c e => ?_, fun p hp => ?_, hok, I.len⟩
  · exact keep b o (neL b o e) hb (neC b o e hx) (I.base.keep b o e n hb hx) (I.base.free b o e n hx)
  · obtain ⟨sl, e1⟩ := I.base.slot b o e n hb hx
    obtain ⟨sl', e2⟩ := slot b _ (neL b o e) hb (neC b o e hx) e1 (I.base.free b o e n hx)
    exact ⟨sl', e2⟩
  · obtain ⟨o', e1⟩ := I.base.there b o e hx
    exact free b o' (neC b o e hx) e1 (I.base.free b o e n hx)
  · obtain ⟨o', e1⟩ := I.base.there b o e hx
    exact there b o' (neC b o e hx) e1
  · obtain ⟨m1, e1⟩ := I.base.tbls b ps e
    obtain ⟨m2, e2⟩ := tbls b _ e1
    exact ⟨m1 ++ m2, by rw [e2, Array.append_assoc]⟩
  · obtain ⟨m, hn, hl⟩ := I.loc
    refine ⟨m, ns m hn, fun i x v e1 e2 e3 => ?_⟩
    obtain ⟨u, r, l⟩ := hl i x v e1 e2 e3
    refine ⟨u, r, ?_⟩
    rcases l with l | ⟨k, c, e, z⟩
    · exact .inl l
    · exact .inr ⟨k, c, e, cellK x c e _ z⟩
  · obtain ⟨v, z⟩ := I.cell x c e
    exact ⟨v, cellK x c e v z⟩
  · obtain ⟨m, ⟨o, _, _, ho, _⟩, _⟩ := I.loc
    exact free _ o (fun z => (hch _ z).2.1 rfl) ho I.free
  · obtain ⟨v, o, ho, hd⟩ := I.cell x c e
    exact free c o (fun z => (hch c z).2.2.1 x c e rfl) ho (I.freeC x c e)
  · obtain ⟨e, n, ne, nf, d⟩ := I.pin p hp
    have nch : p.1 ∉ ch := fun z => (hch p.1 z).2.2.2 p hp rfl
    exact ⟨keep p.1 p.2 ne nf nch e n, free p.1 p.2 nch e n, ne, nf, d⟩
/-- .. where the frame's own object is kept too -/
theorem Inv.un {t' : Nat} (I : Inv X pins σ H s) (u : Un X.fs [] H H' s.heap h') (hok : HOk X.prog X.w H' h') : Inv X pins σ H' { s with heap := h', toks := t' } := by
  obtain ⟨m, ⟨o, es, ep, ho, r⟩, _⟩ := id I.loc
  obtain ⟨sl, hL⟩ := u.any ho I.free (by simp)
  exact I.step (g' := s.gens) (d' := s.drawn) (ch := []) (fun _ z => nomatch z) (fun b o _ hb _ e n => u.keep b o e n hb (by simp)) (fun b o _ hb _ e n => u.slot b o e n hb (by simp)) (fun b o _ e n => u.free b o e n (by simp)) (fun b o _ e => u.there b o e (by simp)) u.tups u.frzs u.tbls (fun m' hm => by
    obtain ⟨o', es', ep', ho', r'⟩ := hm
    rw [ho] at ho'; cases ho'
    exact ⟨_, es', ep', hL, r'⟩) hok I.bare
/-- behind a call (or a comprehension's block): the slots of this frame may have changed too, the records at ch may have turned -/
theorem Inv.call {g' : Array GenState} {t' : Nat} {d' : Drawn} {ch : List Addr} (I : Inv X pins σ H s) (u : Un (frs X.stack) ch H H' s.heap h') (hok : HOk X.prog X.w H' h') (hg : AllBare g')
    (hch : ∀ b ∈ ch, (b ∈ X.ex ∨ X.s₀.heap.objs.size ≤ b) ∧ b ≠ X.env.locals ∧ (∀ x c, X.env.cells.lookup x = some c → c ≠ b) ∧ ∀ p ∈ X.pn ++ pins, p.1 ≠ b) :
    Inv X pins σ H' { s with heap := h', gens := g', drawn := d', toks := t' } := by
  obtain ⟨m, ⟨o, es, ep, ho, r⟩, _⟩ := id I.loc
  obtain ⟨sl, hL⟩ := u.any ho I.free fun z => (hch _ z).2.1 rfl
  exact I.step (ch := ch) hch (fun b o hL hb hc e n => u.keep b o e n (fun z => (List.mem_cons.mp (I.stkSub b z)).elim hL hb) hc) (fun b o _ _ hc e n => u.any e n hc) (fun b o hc e n => u.free b o e n hc) (fun b o hc e => u.there b o e hc) u.tups u.frzs u.tbls (fun m' hm => by
    obtain ⟨o', es', ep', ho', r'⟩ := hm
    rw [ho] at ho'; cases ho'
    exact ⟨_, es', ep', hL, r'⟩) hok hg
/-- an untracked record of ours (an iterator) has turned -/
theorem Inv.turned {t' : Nat} {it : Addr} (I : Inv X pins σ H s) (k : ∀ b o, b ≠ it → s.heap.get? b = some o → h'.get? b = some o) (hn : H it = none) (hL : it ≠ X.env.locals)
    (h1 : it ∈ X.ex ∨ X.s₀.heap.objs.size ≤ it) (h2 : ∀ x c, X.env.cells.lookup x = some c → c ≠ it) (h3 : ∀ p ∈ X.pn ++ pins, p.1 ≠ it) : Inv X pins σ H { s with heap := h', toks := t' } := by
  have nit : ∀ b u, H b = some u → b ≠ it := fun b u e z => by rw [z, hn] at e; cases e
  refine I.step (g' := s.gens) (d' := s.drawn) (ch := [it]) (fun b hb => ?_) (fun b o _ _ hc e _ => k b o (fun z => hc (by simp [z])) e) (fun b o _ _ hc e _ => ⟨o.slots, k b o (fun z => hc (by simp [z])) e⟩) (fun _ _ _ _ n => n)
    (fun b o hc e => ⟨o, k b o (fun z => hc (by simp [z])) e⟩) (fun _ _ e => e) (fun _ _ _ e => e) (fun b ps e => ⟨#[], by rw [e]; simp⟩) (fun m hm => ?_) (fun b u e => ?_) I.bare
  · have e : b = it := by simpa using hb
    subst e
    exact ⟨h1, hL, h2, h3⟩
  · obtain ⟨o, es, ep, ho, r⟩ := hm
    exact ⟨o, es, ep, k _ o (Ne.symm hL) ho, r⟩
  · refine (I.hok b u e).stay (fun c v hc q => k c v ?_ q) (fun _ q => q) fun _ _ q => q
    rcases hc with z | z
    · rw [z]; exact nit b u e
    · exact nit c _ z
theorem Inv.tok (I : Inv X pins σ H s) (t : Nat) : Inv X pins σ H { s with toks := t } := I.un (h' := s.heap) (t' := t) Un.refl I.hok
/-- all objects kept -/
theorem Inv.kept {t' : Nat} (I : Inv X pins σ H s) (k : ∀ b u, s.heap.get? b = some u → h'.get? b = some u) : Inv X pins σ H { s with heap := h', toks := t' } := I.un (Un.kept k) (I.hok.kept k)
/-- a new object laid and tracked -/
theorem Inv.laid {a : Addr} {o : HO} {t' : Nat} (I : Inv X pins σ H s) (k : ∀ b u, s.heap.get? b = some u → h'.get? b = some u) (hp : s.heap.objs.size ≤ a) (new : ObjOk X.prog X.w (upd H a o) h' a o) :
    Inv X pins σ (upd H a o) { s with heap := h', toks := t' } := I.un (Un.laid k hp (I.hok.fresh hp)) (I.hok.laid k hp new)
/-- an object written -/
theorem Inv.write {x e : Addr} {o : HO} {t' : Nat} (I : Inv X pins σ H s) (mu : Mut (H x)) (he : e = x ∨ H e = some (.own x)) (k : ∀ b u, b ≠ e → s.heap.get? b = some u → h'.get? b = some u) (heo : ∃ u, h'.get? e = some u)
    (new : ObjOk X.prog X.w (upd H x o) h' x o) : Inv X pins σ (upd H x o) { s with heap := h', toks := t' } := I.un (Un.write mu he k heo) (I.hok.write mu he k heo new)
/-- forgetting slots, pins -/
theorem Inv.weak {σ' : List (Option V)} (I : Inv X pins σ H s) (hl : σ'.length = σ.length) (w : ∀ (i : Nat) v, σ'[i]? = some (some v) → σ[i]? = some (some v)) : Inv X pins σ' H s :=
  ⟨I.ok, I.os, I.bare, I.base, let ⟨m, hn, hl'⟩ := I.loc; ⟨m, hn, fun i x v e1 e2 e3 => hl' i x v e1 (w i v e2) e3⟩, I.cell, I.free, I.freeC, I.pin, I.hok, hl.trans I.len⟩
theorem Inv.pins_of {pins' : List (Addr × Obj)} (I : Inv X pins σ H s) (h : ∀ p ∈ pins', s.heap.get? p.1 = some p.2 ∧ H p.1 = none ∧ p.1 ≠ X.env.locals ∧ p.1 ∉ X.fs ∧ ∀ v, p.2.data ≠ .cell v) : Inv X pins' σ H s :=
  ⟨I.ok, I.os, I.bare, I.base, I.loc, I.cell, I.free, I.freeC, fun p hp => (List.mem_append.mp hp).elim (fun z => I.pin p (List.mem_append_left _ z)) (h p), I.hok, I.len⟩

theorem nodup_ix {N : List Str} (hN : N.Nodup) {i j : Nat} {x : Str} (a : N[i]? = some x) (b : N[j]? = some x) : i = j := by
  obtain ⟨h1, e1⟩ := List.getElem?_eq_some_iff.mp a
  obtain ⟨h2, e2⟩ := List.getElem?_eq_some_iff.mp b
  exact (List.getElem_inj hN).mp (e1.trans e2.symm)

/-- a name is stored; what changed -/
theorem store_ok2 {M : Model} {A : Around} {E : Value → Shared → Prop} {i : Nat} {x : Str} {v : V} {u : Value} {Q : Unit → Shared → Prop} (I : Inv X pins σ H s) (hN : X.N.Nodup) (hi : X.N[i]? = some x) (hx : Loc X.env.scope x) (r : RelV v u)
    (h : ∀ s', Inv X pins (σ.set i (some v)) H s' → (∃ a, Heap.SameBut a s.heap s'.heap ∧ (a = X.env.locals ∨ X.env.cells.lookup x = some a)) → Q () s') (hf : X.fn x = true ∨ X.env.scope.names.lookup x = some .local := by first | exact .inl rfl | exact .inr rfl | assumption) : wpAny M A (storeName X.env x u) Q E s := by
  obtain ⟨m, hn, hl⟩ := id I.loc
  have hcls : (X.env.scope.kind == .class || (X.env.scope.kind == .module && X.env.locals != X.env.globals)) = false := by rw [I.ok.kind]; rfl
  have hiσ : i < σ.length := by rw [I.len]; exact (List.getElem?_eq_some_iff.mp hi).1
  have cne := I.cne
  have tracked : ∀ {a : Addr} {h' : Heap}, (∃ o, s.heap.get? a = some o ∧ H a = none) → Heap.SameBut a s.heap h' → HOk X.prog X.w H h' := fun {a h'} ha hs b ob e => by
    obtain ⟨_, _, hfree⟩ := ha
    refine (I.hok b ob e).stay (fun c w' hc q => (hs.2 c ?_).trans q) (fun _ q => q) fun _ _ q => q
    rintro rfl
    rcases hc with rfl | hc
    · rw [hfree] at e; cases e
    · rw [hfree] at hc; cases hc
  rcases hx with hk | hk
  · refine wpAny_storeName_local hk hn (fun h' hn' hs => ?_) hcls
    obtain ⟨oL, _, _, hoL, _⟩ := id hn
    refine h _ ⟨I.ok, I.os, I.bare, ⟨fun b o e n hb hx => ?_, fun b o e n hb hx => ?_, I.base.free, fun b o e hx => ?_, I.base.tups, I.base.frzs, I.base.tbls⟩, ⟨_, hn', fun j y v' e1 e2 e3 => ?_⟩, fun y c e => ?_, I.free, I.freeC, fun p hp => ?_, tracked ⟨oL, hoL, I.free⟩ hs, by simpa using I.len⟩ ⟨_, hs, .inl rfl⟩
    · exact (hs.2 b (Nat.ne_of_lt (Nat.lt_of_lt_of_le (Heap.lt_size e) I.ok.above))).trans (I.base.keep b o e n hb hx)
    · obtain ⟨sl, e1⟩ := I.base.slot b o e n hb hx
      exact ⟨sl, (hs.2 b (Nat.ne_of_lt (Nat.lt_of_lt_of_le (Heap.lt_size e) I.ok.above))).trans e1⟩
    · obtain ⟨o', e1⟩ := I.base.there b o e hx
      exact ⟨o', (hs.2 b (Nat.ne_of_lt (Nat.lt_of_lt_of_le (Heap.lt_size e) I.ok.above))).trans e1⟩
    · by_cases hj : j = i
      · subst hj
        rw [hi] at e1; cases e1
        rw [List.getElem?_set_self hiσ] at e2
        cases e2
        exact ⟨u, r, .inl ⟨hk, by simp⟩⟩
      · rw [List.getElem?_set_ne (Ne.symm hj)] at e2
        obtain ⟨u', r', q⟩ := hl j y v' e1 e2 e3
        refine ⟨u', r', ?_⟩
        rcases q with ⟨k, e⟩ | ⟨k, c, e, z⟩
        · refine .inl ⟨k, ?_⟩
          have : y ≠ x := fun e => hj (nodup_ix hN e1 (e ▸ hi))
          simp [this, e]
        · exact .inr ⟨k, c, e, z.sameBut hs (cne y c e)⟩
    · obtain ⟨w', z⟩ := I.cell y c e
      exact ⟨w', z.sameBut hs (cne y c e)⟩
    · obtain ⟨e, n, ne, nf, d⟩ := I.pin p hp
      exact ⟨(hs.2 p.1 ne).trans e, n, ne, nf, d⟩
  · have hfn : X.fn x = true := by
      rcases hf with z | z
      · exact z
      · rw [z] at hk; cases hk
    obtain ⟨c, hc⟩ := I.ok.has x (.inl hk)
    obtain ⟨w', z⟩ := I.cell x c hc
    refine wpAny_storeName_cell I.ok.kind hk hc z (fun h' hc' hs => ?_)
    obtain ⟨oc, hoc, hocd⟩ := id z
    refine h { s with heap := h' } ⟨I.ok, I.os, I.bare, ⟨fun b o e n hb hx => ?_, fun b o e n hb hx => ?_, I.base.free, fun b o e hx => ?_, I.base.tups, I.base.frzs, I.base.tbls⟩, ⟨m, hn.sameBut hs (Ne.symm (cne x c hc)), fun j y v' e1 e2 e3 => ?_⟩, fun y c' e => ?_, I.free, I.freeC, fun p hp => ?_, tracked ⟨oc, hoc, I.freeC x c hc⟩ hs, by simpa using I.len⟩ ⟨c, hs, .inr hc⟩
    · exact (hs.2 b (Nat.ne_of_lt (Nat.lt_of_lt_of_le (Heap.lt_size e) (I.ok.cab x c hfn hc)))).trans (I.base.keep b o e n hb hx)
    · obtain ⟨sl, e1⟩ := I.base.slot b o e n hb hx
      exact ⟨sl, (hs.2 b (Nat.ne_of_lt (Nat.lt_of_lt_of_le (Heap.lt_size e) (I.ok.cab x c hfn hc)))).trans e1⟩
    · obtain ⟨o', e1⟩ := I.base.there b o e hx
      exact ⟨o', (hs.2 b (Nat.ne_of_lt (Nat.lt_of_lt_of_le (Heap.lt_size e) (I.ok.cab x c hfn hc)))).trans e1⟩
    · by_cases hj : j = i
      · subst hj
        rw [hi] at e1; cases e1
        rw [List.getElem?_set_self hiσ] at e2
        cases e2
        exact ⟨u, r, .inr ⟨.inl hk, c, hc, hc'⟩⟩
      · rw [List.getElem?_set_ne (Ne.symm hj)] at e2
        obtain ⟨u', r', q⟩ := hl j y v' e1 e2 e3
        refine ⟨u', r', ?_⟩
        rcases q with q | ⟨k, c', e, z'⟩
        · exact .inl q
        · refine .inr ⟨k, c', e, z'.sameBut hs ?_⟩
          rintro rfl
          exact hj (nodup_ix hN e1 (I.ok.inj _ _ _ e hc ▸ hi))
    · by_cases hcc : c' = c
      · subst hcc; exact ⟨_, hc'⟩
      · obtain ⟨w2, z2⟩ := I.cell y c' e
        exact ⟨w2, z2.sameBut hs hcc⟩
    · obtain ⟨e, n, ne, nf, d⟩ := I.pin p hp
      refine ⟨(hs.2 p.1 ?_).trans e, n, ne, nf, d⟩
      intro q
      rw [q, hoc] at e
      have q' : oc = p.2 := Option.some.inj e
      exact d w' (by rw [← q']; exact hocd)
theorem store_ok {M : Model} {A : Around} {E : Value → Shared → Prop} {i : Nat} {x : Str} {v : V} {u : Value} {Q : Unit → Shared → Prop} (I : Inv X pins σ H s) (hN : X.N.Nodup) (hi : X.N[i]? = some x) (hx : Loc X.env.scope x) (r : RelV v u)
    (h : ∀ s', Inv X pins (σ.set i (some v)) H s' → Q () s') (hf : X.fn x = true ∨ X.env.scope.names.lookup x = some .local := by first | exact .inl rfl | exact .inr rfl | assumption) : wpAny M A (storeName X.env x u) Q E s :=
  store_ok2 I hN hi hx r (fun s' I' _ => h s' I') hf
/-- behind a call or a block, the state as it is -/
theorem Inv.call' {s' : Shared} {ch : List Addr} (I : Inv X pins σ H s) (ho : s'.os = s.os) (u : Un (frs X.stack) ch H H' s.heap s'.heap) (hok : HOk X.prog X.w H' s'.heap) (hg : AllBare s'.gens)
    (hch : ∀ b ∈ ch, (b ∈ X.ex ∨ X.s₀.heap.objs.size ≤ b) ∧ b ≠ X.env.locals ∧ (∀ x c, X.env.cells.lookup x = some c → c ≠ b) ∧ ∀ p ∈ X.pn ++ pins, p.1 ≠ b) : Inv X pins σ H' s' := by
  obtain ⟨h', g', d', t', o'⟩ := s'
  have e : o' = s.os := ho
  subst e
  exact I.call (g' := g') (t' := t') (d' := d') u hok hg hch
end

/-! ### the judgements -/
/-- an exception: its class, its own dict's address (where it has one), the abstract heap behind it -/
abbrev XK := Value → Option Addr → Hp → Prop
abbrev St := List (Option V)
abbrev VK := V → Hp → Prop
/-- an expression's reading; a test's; an argument list's -/
abbrev TE := St → Hp → VK → Prop
abbrev TT := St → Hp → (Bool → Hp → Prop) → Prop
abbrev TA := St → Hp → (List V → Hp → Prop) → Prop
/-- what is wanted behind a statement -/
structure Ends where
  nx : St → Hp → Prop
  rt : VK
  bk : St → Hp → Prop := fun _ _ => False
  ct : St → Hp → Prop := fun _ _ => False
abbrev TS := Ends → St → Hp → Prop

def EP (X : Cx) (pins : List (Addr × Obj)) (σ : St) (Q : VK) (u : Value) (s' : Shared) : Prop := ∃ v H', Inv X pins σ H' s' ∧ RelV v u ∧ Q v H'
def TP (X : Cx) (pins : List (Addr × Obj)) (σ : St) (Q : Bool → Hp → Prop) (b : Bool) (s' : Shared) : Prop := ∃ H', Inv X pins σ H' s' ∧ Q b H'
def AP (X : Cx) (pins : List (Addr × Obj)) (σ : St) (Q : List V → Hp → Prop) (us : List Value) (s' : Shared) : Prop := ∃ vs H', Inv X pins σ H' s' ∧ Vals vs us ∧ Q vs H'
def SP (X : Cx) (pins : List (Addr × Obj)) (D : Ends) (f : Flow) (s' : Shared) : Prop :=
  match f with
  | .next => ∃ σ' H', Inv X pins σ' H' s' ∧ D.nx σ' H'
  | .brk => ∃ σ' H', Inv X pins σ' H' s' ∧ D.bk σ' H'
  | .cont => ∃ σ' H', Inv X pins σ' H' s' ∧ D.ct σ' H'
  | .ret u => ∃ v σ' H', Inv X pins σ' H' s' ∧ RelV v u ∧ D.rt v H'

def PE (X : Cx) (e : Expr) (t : TE) : Prop :=
  ∀ (pins : List (Addr × Obj)) (s : Shared) (σ : St) (H : Hp) (Q : VK), Inv X pins σ H s → t σ H Q → wpAny (model X.prog X.w) X.A (eval e X.env) (EP X pins σ Q) X.xe s
def PT (X : Cx) (e : Expr) (t : TT) : Prop :=
  ∀ (pins : List (Addr × Obj)) (s : Shared) (σ : St) (H : Hp) (Q : Bool → Hp → Prop), Inv X pins σ H s → t σ H Q → wpAny (model X.prog X.w) X.A (isTrue e X.env (eval e X.env)) (TP X pins σ Q) X.xe s
/-- a test whatever its 'whole' is (and, or) -/
def PW (X : Cx) (e : Expr) (t : TT) : Prop :=
  ∀ (whole : Sem Value) (pins : List (Addr × Obj)) (s : Shared) (σ : St) (H : Hp) (Q : Bool → Hp → Prop), Inv X pins σ H s → t σ H Q → wpAny (model X.prog X.w) X.A (isTrue e X.env whole) (TP X pins σ Q) X.xe s
theorem PW.pt {X : Cx} {e : Expr} {t : TT} (h : PW X e t) : PT X e t := h _
/-- an argument list (no star), from the left -/
def PA (X : Cx) (es : List Expr) (t : TA) : Prop :=
  ∀ (pos : Pos) (pins : List (Addr × Obj)) (s : Shared) (σ : St) (H : Hp) (Q : List V → Hp → Prop), Inv X pins σ H s → t σ H Q → wpAny (model X.prog X.w) X.A (spliced (backTo pos (starEach es X.env))) (AP X pins σ Q) X.xe s
def PS (X : Cx) (st : Stmt) (t : TS) : Prop :=
  ∀ (pins : List (Addr × Obj)) (s : Shared) (σ : St) (H : Hp) (D : Ends), Inv X pins σ H s → t D σ H → wpAny (model X.prog X.w) X.A (exec st X.env) (SP X pins D) X.xe s
def PSs (X : Cx) (st : List Stmt) (t : TS) : Prop :=
  ∀ (pins : List (Addr × Obj)) (s : Shared) (σ : St) (H : Hp) (D : Ends), Inv X pins σ H s → t D σ H → wpAny (model X.prog X.w) X.A (execs st X.env) (SP X pins D) X.xe s
/-- weaken the end -/
theorem thn {α : Type} {t : Sem α} {Q Q' : α → Shared → Prop} {M : Model} {A : Around} {E : Value → Shared → Prop} {s : Shared} (h : wpAny M A t Q E s) (hQ : ∀ a s, Q a s → Q' a s) : wpAny M A t Q' E s := wpAny_mono h hQ fun _ _ x => x
end L2

namespace L2
open PySem PySem.Spec PyProof.Rows
section
variable {X : Cx}

/-- two expressions in a row -/
theorem bin {a b : Expr} {ta tb : TE} (ha : PE X a ta) (hb : PE X b tb) {pins : List (Addr × Obj)} {s : Shared} {σ : St} {H : Hp} {R : V → V → Hp → Prop} (I : Inv X pins σ H s) (h : ta σ H fun x H1 => tb σ H1 fun y H2 => R x y H2)
    {α : Type} {Q : α → Shared → Prop} {f : Value → Value → Sem α}
    (hf : ∀ v u s2 x y H2, Inv X pins σ H2 s2 → RelV x v → RelV y u → R x y H2 → wpAny (model X.prog X.w) X.A (f v u) Q X.xe s2) :
    wpAny (model X.prog X.w) X.A (eval a X.env) (fun v s₁ => wpAny (model X.prog X.w) X.A (eval b X.env) (fun u s₂ => wpAny (model X.prog X.w) X.A (f v u) Q X.xe s₂) X.xe s₁) X.xe s := by
  refine thn (ha pins s σ H _ I h) fun v s1 ⟨x, H1, I1, r1, q1⟩ => ?_
  refine thn (hb pins s1 σ H1 _ I1 q1) fun u s2 ⟨y, H2, I2, r2, q2⟩ => ?_
  exact hf v u s2 x y H2 I2 r1 r2 q2

/-! ### names and constants -/
def tVar (i : Nat) : TE := fun σ H Q => ∃ v, σ[i]? = some (some v) ∧ Q v H
def tC (v : V) : TE := fun _ H Q => Q v H
theorem pe_var {i : Nat} {x : Str} {pos : Pos} (hN : X.N[i]? = some x) (hv : Vis X.env.scope x) (hd : (x == ("__debug__" : Str)) = false := by decide) (hcd : (x == ("__classdict__" : Str)) = false := by decide) : PE X (.Name x pos) (tVar i) := by
  intro pins s σ H Q I h
  obtain ⟨v, e, h⟩ := h
  obtain ⟨m, hn, hl⟩ := I.loc
  obtain ⟨u, r, l⟩ := hl i x v hN e hv
  have fin : EP X pins σ Q u s := ⟨v, H, I, r, h⟩
  rcases l with ⟨hk, hm⟩ | ⟨hk, c, hc, hcell⟩
  · exact wpAny_Name (wpAny_loadName_local I.ok.kind hk hn hm fin) hd
  · rcases hk with hk | hk
    · exact wpAny_Name (wpAny_loadName_cell I.ok.kind hk hc hcell fin) hd
    · exact wpAny_Name (wpAny_loadName_free I.ok.kind hk hc hcell fin hcd) hd
theorem pe_int {i j pos} : PE X (.Constant (.int i) j pos) (tC (.int i)) := fun _ _ _ H _ I h => wpAny_Constant_int ⟨.int i, H, I.tok _, ⟨_, rfl⟩, h⟩
theorem pe_bl {b j pos} : PE X (.Constant (.bool b) j pos) (tC (.bl b)) := fun _ _ _ H _ I h => Constant_bool ⟨.bl b, H, I, rfl, h⟩
theorem pe_non {j pos} : PE X (.Constant .none j pos) (tC .non) := fun _ _ _ H _ I h => Constant_none ⟨.non, H, I, rfl, h⟩
theorem pe_str {x j pos} : PE X (.Constant (.str x) j pos) (tC (.str x)) := fun _ _ _ H _ I h => Calls.Constant_str ⟨.str x, H, I.tok _, ⟨_, rfl⟩, h⟩

/-- a global name of the def -/
def Gl (X : Cx) (x : Str) : Prop := X.env.kindOf x = some .globalImplicit
theorem ld_glob {E : Value → Shared → Prop} {pins : List (Addr × Obj)} {s : Shared} {σ : St} {H : Hp} {x : Str} {u : Value} {pos : Pos} {Q : Value → Shared → Prop} (I : Inv X pins σ H s) (hg : Gl X x) (hm : X.mg x = some u) (h : Q u s)
    (hd : (x == ("__debug__" : Str)) = false := by decide) : wpAny (model X.prog X.w) X.A (eval (.Name x pos) X.env) Q E s :=
  Calls.Name_function_global I.ok.kind hg (Calls.loadGlobal_global (by rw [I.ok.glob]; exact I.mod.glob.keeps I.bk) hm h) hd
theorem ld_blt {E : Value → Shared → Prop} {pins : List (Addr × Obj)} {s : Shared} {σ : St} {H : Hp} {x : Str} {u : Value} {pos : Pos} {Q : Value → Shared → Prop} (I : Inv X pins σ H s) (hg : Gl X x) (hm : X.mg x = none) (hv : bootBuiltins x = some u) (h : Q u s)
    (hn : x ≠ "__name__" := by decide) (hd : (x == ("__debug__" : Str)) = false := by decide) : wpAny (model X.prog X.w) X.A (eval (.Name x pos) X.env) Q E s := by
  obtain ⟨mb, h1, h2⟩ := I.mod.blt
  exact Calls.Name_function_global I.ok.kind hg (Calls.loadGlobal_builtin (by rw [I.ok.glob]; exact I.mod.glob.keeps I.bk) hm (by rw [I.ok.blt]; exact h1.keeps I.bk) ((h2 x hn).trans hv) h) hd
/-- a module's constant, a class, a function, as a value -/
theorem pe_glob {x : Str} {v : V} {u : Value} {pos : Pos} (hg : Gl X x) (hm : X.mg x = some u) (r : RelV v u) (hd : (x == ("__debug__" : Str)) = false := by decide) : PE X (.Name x pos) (tC v) :=
  fun _ _ _ H _ I h => ld_glob I hg hm ⟨v, H, I, r, h⟩ hd
theorem pe_bltn {x : Str} {v : V} {u : Value} {pos : Pos} (hg : Gl X x) (hm : X.mg x = none) (hv : bootBuiltins x = some u) (r : RelV v u) (hn : x ≠ "__name__" := by decide) (hd : (x == ("__debug__" : Str)) = false := by decide) : PE X (.Name x pos) (tC v) :=
  fun _ _ _ H _ I h => ld_blt I hg hm hv ⟨v, H, I, r, h⟩ hn hd

/-! ### arithmetic -/
/-- two ints -/
def t2I (ta tb : TE) (k : Int → Int → Hp → Prop) : St → Hp → Prop := fun σ H => ta σ H fun x H1 => tb σ H1 fun y H2 => ∃ i j, x = .int i ∧ y = .int j ∧ k i j H2
def tAdd (ta tb : TE) : TE := fun σ H Q => t2I ta tb (fun i j H2 => Q (.int (i + j)) H2) σ H
def tSub (ta tb : TE) : TE := fun σ H Q => t2I ta tb (fun i j H2 => Q (.int (i - j)) H2) σ H
/-- the left factor below 2^64 -/
def tMul (ta tb : TE) : TE := fun σ H Q => t2I ta tb (fun i j H2 => (-(2 ^ 64) < i ∧ i < 2 ^ 64) ∧ Q (.int (i * j)) H2) σ H
variable {a b : Expr} {ta tb : TE} {pos : Pos}
theorem pe_add (ha : PE X a ta) (hb : PE X b tb) : PE X (.BinOp a .Add b pos) (tAdd ta tb) := by
  intro pins s σ H Q I h
  refine wpAny_BinOp (bin ha hb I h fun v u s2 x y H2 I2 rx ry q => ?_)
  obtain ⟨i, j, rfl, rfl, q⟩ := q
  obtain ⟨t, rfl⟩ := rx
  obtain ⟨t', rfl⟩ := ry
  exact add_int ⟨.int _, H2, I2.tok _, ⟨_, rfl⟩, q⟩
theorem pe_sub (ha : PE X a ta) (hb : PE X b tb) : PE X (.BinOp a .Sub b pos) (tSub ta tb) := by
  intro pins s σ H Q I h
  refine wpAny_BinOp (bin ha hb I h fun v u s2 x y H2 I2 rx ry q => ?_)
  obtain ⟨i, j, rfl, rfl, q⟩ := q
  obtain ⟨t, rfl⟩ := rx
  obtain ⟨t', rfl⟩ := ry
  exact sub_int ⟨.int _, H2, I2.tok _, ⟨_, rfl⟩, q⟩
theorem pe_mul (ha : PE X a ta) (hb : PE X b tb) : PE X (.BinOp a .Mult b pos) (tMul ta tb) := by
  intro pins s σ H Q I h
  refine wpAny_BinOp (bin ha hb I h fun v u s2 x y H2 I2 rx ry q => ?_)
  obtain ⟨i, j, rfl, rfl, ⟨q1, q2⟩, q⟩ := q
  obtain ⟨t, rfl⟩ := rx
  obtain ⟨t', rfl⟩ := ry
  exact mul_int ⟨.int _, H2, I2.tok _, ⟨_, rfl⟩, q⟩ (.of_left (intBits_le_64 q1 q2))

/-! ### comparisons -/
def PC (X : Cx) (op : CmpOp) (a b : Expr) (t : TE) : Prop :=
  ∀ (pins : List (Addr × Obj)) (s : Shared) (σ : St) (H : Hp) (Q : VK), Inv X pins σ H s → t σ H Q →
    wpAny (model X.prog X.w) X.A (eval a X.env) (fun v s₁ => wpAny (model X.prog X.w) X.A (eval b X.env) (fun u s₂ => wpAny (model X.prog X.w) X.A (compareOp op v u) (EP X pins σ Q) X.xe s₂) X.xe s₁) X.xe s
theorem nobehind (b : Expr) {op : CmpOp} (h : op ≠ .In) (h2 : op ≠ .NotIn) : behindInMarks op b = false := by
  have e1 : (op == CmpOp.In) = false := by cases op <;> first | rfl | exact absurd rfl h
  have e2 : (op == CmpOp.NotIn) = false := by cases op <;> first | rfl | exact absurd rfl h2
  cases b <;> simp [behindInMarks, e1, e2]
def tCmp (p : Int → Int → Bool) (ta tb : TE) : TE := fun σ H Q => t2I ta tb (fun i j H2 => Q (.bl (p i j)) H2) σ H
abbrev tLt : TE → TE → TE := tCmp fun i j => decide (i < j)
abbrev tLe : TE → TE → TE := tCmp fun i j => decide (i ≤ j)
abbrev tGt : TE → TE → TE := tCmp fun i j => decide (j < i)
abbrev tGe : TE → TE → TE := tCmp fun i j => decide (j ≤ i)
abbrev tEqI : TE → TE → TE := tCmp fun i j => decide (i = j)
abbrev tNeI : TE → TE → TE := tCmp fun i j => !decide (i = j)
/-- a comparison of two ints, by its rule -/
theorem pc_int {op : CmpOp} {p : Int → Int → Bool} (ha : PE X a ta) (hb : PE X b tb)
    (rule : ∀ (i j : Int) (t u : Tok) (Q : Value → Shared → Prop) (s : Shared), Q (.bool (p i j)) s → wpAny (model X.prog X.w) X.A (compareOp op (.int i t) (.int j u)) Q X.xe s) : PC X op a b (tCmp p ta tb) := by
  intro pins s σ H Q I h
  refine bin ha hb I h fun v u s2 x y H2 I2 rx ry q => ?_
  obtain ⟨i, j, rfl, rfl, q⟩ := q
  obtain ⟨t, rfl⟩ := rx
  obtain ⟨t', rfl⟩ := ry
  exact rule i j t t' _ s2 ⟨.bl _, H2, I2, rfl, q⟩
theorem pc_lt (ha : PE X a ta) (hb : PE X b tb) : PC X .Lt a b (tLt ta tb) := pc_int ha hb fun _ _ _ _ _ _ h => lt_int h
theorem pc_le (ha : PE X a ta) (hb : PE X b tb) : PC X .LtE a b (tLe ta tb) := pc_int ha hb fun _ _ _ _ _ _ h => le_int h
theorem pc_gt (ha : PE X a ta) (hb : PE X b tb) : PC X .Gt a b (tGt ta tb) := pc_int ha hb fun _ _ _ _ _ _ h => gt_int h
theorem pc_ge (ha : PE X a ta) (hb : PE X b tb) : PC X .GtE a b (tGe ta tb) := pc_int ha hb fun _ _ _ _ _ _ h => ge_int h
theorem pc_eqI (ha : PE X a ta) (hb : PE X b tb) : PC X .Eq a b (tEqI ta tb) := pc_int ha hb fun _ _ _ _ _ _ h => eq_int (by rw [Bool.beq_eq_decide_eq]; exact h)
theorem pc_neI (ha : PE X a ta) (hb : PE X b tb) : PC X .NotEq a b (tNeI ta tb) := pc_int ha hb fun _ _ _ _ _ _ h => ne_int (by rw [bne, Bool.beq_eq_decide_eq]; exact h)
/-- is None -/
def tIsN (ta : TE) : TE := fun σ H Q => ta σ H fun x H1 => Q (.bl (decide (x = .non))) H1
def tNotN (ta : TE) : TE := fun σ H Q => ta σ H fun x H1 => Q (.bl (!decide (x = .non))) H1
theorem RelV.none_iff {x : V} {v : Value} (r : RelV x v) : (v == Value.none) = decide (x = .non) := by
  cases x with
  | non => cases r; rfl
  | bl _ => cases r; rfl
  | int _ => obtain ⟨t, rfl⟩ := r; rfl
  | str _ => obtain ⟨t, rfl⟩ := r; rfl
  | byt _ => obtain ⟨t, rfl⟩ := r; rfl
  | flt _ => obtain ⟨t, rfl⟩ := r; rfl
  | ref _ => cases r; rfl
  | ty _ => cases r; rfl
theorem pc_isN {j pos'} (ha : PE X a ta) : PC X .Is a (.Constant .none j pos') (tIsN ta) := by
  intro pins s σ H Q I h
  refine thn (ha pins s σ H _ I h) fun v s1 ⟨x, H1, I1, r1, q1⟩ => ?_
  exact Constant_none (is_none_gen ⟨.bl _, H1, I1, by rw [r1.none_iff]; rfl, q1⟩)
theorem pc_notN {j pos'} (ha : PE X a ta) : PC X .IsNot a (.Constant .none j pos') (tNotN ta) := by
  intro pins s σ H Q I h
  refine thn (ha pins s σ H _ I h) fun v s1 ⟨x, H1, I1, r1, q1⟩ => ?_
  exact Constant_none (isnot_none_gen ⟨.bl _, H1, I1, by rw [r1.none_iff]; rfl, q1⟩)
/-- a comparison as a value, as a test -/
def tB (t : TE) : TT := fun σ H Q => t σ H fun x H1 => ∃ c, x = .bl c ∧ Q c H1
theorem pe_cmp {op : CmpOp} {t : TE} (h : PC X op a b t) (h1 : behindInMarks op b = false := by first | exact nobehind _ (by decide) (by decide) | rfl) : PE X (.Compare a [op] [b] pos) t := fun pins s σ H Q I hw => wpAny_Compare1 (h pins s σ H Q I hw) h1
theorem pt_cmp {op : CmpOp} {t : TE} (h : PC X op a b t) (h1 : behindInMarks op b = false := by first | exact nobehind _ (by decide) (by decide) | rfl) : PT X (.Compare a [op] [b] pos) (tB t) := by
  intro pins s σ H Q I hw
  refine wpAny_isTrue_Compare1 (thn (h pins s σ H _ I hw) fun v s1 h1 => thn h1 fun u s2 h2 => thn h2 fun c s3 ⟨x, H1, I1, r1, q1⟩ => ?_) h1
  obtain ⟨d, rfl, q⟩ := q1
  cases r1
  exact wpAny_truthy_bool ⟨H1, I1, q⟩
/-- an expression whose value is a bool, as a test -/
theorem pt_val {e : Expr} {t : TE} (h : PE X e t) (he : ∀ whole, isTrue e X.env whole = (do let v ← whole; standAt e.pos; holding [v] (truthy v)) := by intro _; rfl) : PT X e (tB t) := by
  intro pins s σ H Q I hw
  refine isTrue_plain (thn (h pins s σ H _ I hw) fun v s1 ⟨x, H1, I1, r1, q1⟩ => ?_) (he _)
  obtain ⟨d, rfl, q⟩ := q1
  cases r1
  exact wpAny_truthy_bool ⟨H1, I1, q⟩

/-! ### and, or, not -/
variable {tA tB' : TT} {rest : List Expr}
def tAnd (t u : TT) : TT := fun σ H Q => t σ H fun c H1 => if c = true then u σ H1 Q else Q false H1
def tOr (t u : TT) : TT := fun σ H Q => t σ H fun c H1 => if c = true then Q true H1 else u σ H1 Q
def tNot (t : TT) : TT := fun σ H Q => t σ H fun c H1 => Q (!c) H1
theorem pw_and1 (ha : PT X a tA) : PW X (.BoolOp .And [a] pos) tA := by
  intro wh pins s σ H Q I h
  refine isTrue_and (thn (ha pins s σ H Q I h) fun c s1 e => ?_)
  cases c with
  | true => exact isTrue_and_nil e
  | false => exact e
theorem pw_or1 (ha : PT X a tA) : PW X (.BoolOp .Or [a] pos) tA := by
  intro wh pins s σ H Q I h
  refine isTrue_or (thn (ha pins s σ H Q I h) fun c s1 e => ?_)
  cases c with
  | false => exact isTrue_or_nil e
  | true => exact e
theorem pw_and (ha : PT X a tA) (hb : PW X (.BoolOp .And (b :: rest) pos) tB') : PW X (.BoolOp .And (a :: b :: rest) pos) (tAnd tA tB') := by
  intro wh pins s σ H Q I h
  refine isTrue_and (thn (ha pins s σ H _ I h) fun c s1 ⟨H1, I1, q1⟩ => ?_)
  cases c with
  | true => exact hb wh pins s1 σ H1 Q I1 q1
  | false => exact ⟨H1, I1, q1⟩
theorem pw_or (ha : PT X a tA) (hb : PW X (.BoolOp .Or (b :: rest) pos) tB') : PW X (.BoolOp .Or (a :: b :: rest) pos) (tOr tA tB') := by
  intro wh pins s σ H Q I h
  refine isTrue_or (thn (ha pins s σ H _ I h) fun c s1 ⟨H1, I1, q1⟩ => ?_)
  cases c with
  | true => exact ⟨H1, I1, q1⟩
  | false => exact hb wh pins s1 σ H1 Q I1 q1
theorem pt_not (ha : PT X a tA) : PT X (.UnaryOp .Not a pos) (tNot tA) := by
  intro pins s σ H Q I h
  exact isTrue_not (ha pins s σ H (fun c H1 => Q (!c) H1) I h)
/-- .. as values (bools) -/
def tAndV (ta tb : TE) : TE := fun σ H Q => ta σ H fun x H1 => ∃ c, x = .bl c ∧ if c = true then tb σ H1 Q else Q (.bl false) H1
def tOrV (ta tb : TE) : TE := fun σ H Q => ta σ H fun x H1 => ∃ c, x = .bl c ∧ if c = true then Q (.bl true) H1 else tb σ H1 Q
def tNotV (ta : TE) : TE := fun σ H Q => ta σ H fun x H1 => ∃ c, x = .bl c ∧ Q (.bl (!c)) H1
theorem pe_one {op} {t : TE} (h : PE X a t) : PE X (.BoolOp op [a] pos) t := fun pins s σ H Q I hw => BoolOp_one (h pins s σ H Q I hw)
theorem pe_and (ha : PE X a ta) (hb : PE X (.BoolOp .And (b :: rest) pos) tb) : PE X (.BoolOp .And (a :: b :: rest) pos) (tAndV ta tb) := by
  intro pins s σ H Q I h
  refine BoolOp_and (thn (ha pins s σ H _ I h) fun v s1 ⟨x, H1, I1, r1, q1⟩ => ?_)
  obtain ⟨c, rfl, q1⟩ := q1
  cases r1
  refine wpAny_truthy_bool ?_
  cases c with
  | true => exact hb pins s1 σ H1 Q I1 q1
  | false => exact ⟨.bl false, H1, I1, rfl, q1⟩
theorem pe_or (ha : PE X a ta) (hb : PE X (.BoolOp .Or (b :: rest) pos) tb) : PE X (.BoolOp .Or (a :: b :: rest) pos) (tOrV ta tb) := by
  intro pins s σ H Q I h
  refine BoolOp_or (thn (ha pins s σ H _ I h) fun v s1 ⟨x, H1, I1, r1, q1⟩ => ?_)
  obtain ⟨c, rfl, q1⟩ := q1
  cases r1
  refine wpAny_truthy_bool ?_
  cases c with
  | false => exact hb pins s1 σ H1 Q I1 q1
  | true => exact ⟨.bl true, H1, I1, rfl, q1⟩
theorem pe_not (ha : PE X a ta) : PE X (.UnaryOp .Not a pos) (tNotV ta) := by
  intro pins s σ H Q I h
  refine UnaryOp_ (thn (ha pins s σ H _ I h) fun v s1 ⟨x, H1, I1, r1, q1⟩ => ?_)
  obtain ⟨c, rfl, q1⟩ := q1
  cases r1
  exact not_of (wpAny_truthy_bool ⟨.bl (!c), H1, I1, rfl, q1⟩)
/-- a if t else b -/
def tIf (t : TT) (ta tb : TE) : TE := fun σ H Q => t σ H fun c H1 => if c = true then ta σ H1 Q else tb σ H1 Q
theorem pe_ifExp {c : Expr} (hc : PT X c tA) (ha : PE X a ta) (hb : PE X b tb) : PE X (.IfExp c a b pos) (tIf tA ta tb) := by
  intro pins s σ H Q I h
  refine wpAny_IfExp (thn (hc pins s σ H _ I h) fun d s1 ⟨H1, I1, q1⟩ => ?_)
  cases d with
  | true => exact ha pins s1 σ H1 Q I1 q1
  | false => exact hb pins s1 σ H1 Q I1 q1
end
end L2

namespace L2
open PySem PySem.Spec PyProof.Rows

/-! ### a list, a tuple that is read: tracked, frozen, or an object of the module -/
def SqL (K : PySem.W.Frag) (H : Hp) (a : Addr) (xs : List V) : Prop :=
  Rd H a (.lst xs) ∨
    ∃ (o : Obj) (its : Array Value) (n : Nat), K.lookup a = some o ∧ o.cls = .type "list" ∧ o.dict = none ∧ o.data = .seq its n ∧ its.size ≤ sizeLine ∧ Vals xs its.toList
def SqT (K : PySem.W.Frag) (H : Hp) (a : Addr) (xs : List V) : Prop :=
  Rd H a (.tup xs) ∨
    ∃ (o : Obj) (its : Array Value) (n : Nat), K.lookup a = some o ∧ o.cls = .type "tuple" ∧ o.data = .seq its n ∧ its.size ≤ sizeLine ∧ Vals xs its.toList
def absV : Value → Option V
  | .none => some .non
  | .bool b => some (.bl b)
  | .int i _ => some (.int i)
  | .str x _ => some (.str x)
  | .bytes b _ => some (.byt b)
  | .float b _ => some (.flt b)
  | .ref a => some (.ref a)
  | .type n => some (.ty n)
  | _ => none
theorem RelV.abs {x : V} {u : Value} (r : RelV x u) : absV u = some x := by
  cases x with
  | non => cases r; rfl
  | bl _ => cases r; rfl
  | int _ => obtain ⟨t, rfl⟩ := r; rfl
  | str _ => obtain ⟨t, rfl⟩ := r; rfl
  | byt _ => obtain ⟨t, rfl⟩ := r; rfl
  | flt _ => obtain ⟨t, rfl⟩ := r; rfl
  | ref _ => cases r; rfl
  | ty _ => cases r; rfl
theorem RelV.inj {x y : V} {u : Value} (r : RelV x u) (q : RelV y u) : x = y := Option.some.inj (r.abs.symm.trans q.abs)
theorem Vals.inj : ∀ {xs ys : List V} {us : List Value}, Vals xs us → Vals ys us → xs = ys
  | _, _, _, .nil, .nil => rfl
  | _, _, _, .cons r t, .cons r' t' => by rw [r.inj r', Vals.inj t t']
section
variable {X : Cx} {pins : List (Addr × Obj)} {σ : St} {H : Hp} {s : Shared} {a : Addr} {xs ys : List V}
theorem SqL.of {K : PySem.W.Frag} (h : H a = some (.lst xs)) : SqL K H a xs := .inl (.inl h)
theorem SqT.of {K : PySem.W.Frag} (h : H a = some (.tup xs)) : SqT K H a xs := .inl (.inl h)
theorem Inv.list (I : Inv X pins σ H s) (h : SqL X.K H a xs) : ∃ its : List Value, Vals xs its ∧ PlainL s.heap a its.toArray ∧ xs.length ≤ sizeLine := by
  rcases h with h | ⟨o, its, n, hk, hc, hd, hs, hz, r⟩
  · obtain ⟨z, its, n, r, e⟩ := h.ok I.hok
    exact ⟨its, r, ⟨_, n, e, rfl, rfl, rfl⟩, z⟩
  · refine ⟨its.toList, r, ⟨o, n, I.kIn a o hk, hc, hd, by simpa using hs⟩, ?_⟩
    have e := r.length
    simp only [Array.length_toList] at e
    omega
theorem Inv.tuple (I : Inv X pins σ H s) (h : SqT X.K H a xs) : ∃ its : List Value, Vals xs its ∧ IsTup s.heap a its.toArray ∧ xs.length ≤ sizeLine := by
  rcases h with h | ⟨o, its, n, hk, hc, hs, hz, r⟩
  · obtain ⟨z, its, r, p⟩ := h.ok I.hok
    exact ⟨its, r, p, z⟩
  · refine ⟨its.toList, r, ⟨o, I.kIn a o hk, hc, n, by simpa using hs⟩, ?_⟩
    have e := r.length
    simp only [Array.length_toList] at e
    omega
theorem Inv.list_inj (I : Inv X pins σ H s) (h : SqL X.K H a xs) (h' : SqL X.K H a ys) : xs = ys := by
  obtain ⟨its, r, ⟨o, n, e, _, _, d⟩, _⟩ := I.list h
  obtain ⟨its', r', ⟨o', n', e', _, _, d'⟩, _⟩ := I.list h'
  rw [e] at e'; cases e'
  rw [d] at d'
  injection d' with d1 _
  have : its = its' := by simpa using congrArg Array.toList d1
  subst this
  exact r.inj r'
theorem Inv.tuple_inj (I : Inv X pins σ H s) (h : SqT X.K H a xs) (h' : SqT X.K H a ys) : xs = ys := by
  obtain ⟨its, r, ⟨o, e, _, n, d⟩, _⟩ := I.tuple h
  obtain ⟨its', r', ⟨o', e', _, n', d'⟩, _⟩ := I.tuple h'
  rw [e] at e'; cases e'
  rw [d] at d'
  injection d' with d1 _
  have : its = its' := by simpa using congrArg Array.toList d1
  subst this
  exact r.inj r'
end

/-! ### another wish about exceptions -/
abbrev Cx.wish (X : Cx) (E : Value → Shared → Prop) : Cx := { X with xe := E }
/-- no exception leaves -/
abbrev Cx.nox (X : Cx) : Cx := X.wish fun _ _ => False
theorem Cx.Ok.wish {X : Cx} (ok : X.Ok) (E : Value → Shared → Prop) : (X.wish E).Ok :=
  ⟨ok.mod, ok.kind, ok.glob, ok.blt, ok.above, ok.inj, ok.has, ok.cab, ok.hd, ok.frames, ok.stk, ok.exf, ok.bs, ok.bsz, ok.noex, ok.exfs, ok.funs, ok.frf⟩
theorem Cx.Ok.unwish {X : Cx} {E : Value → Shared → Prop} (ok : (X.wish E).Ok) : X.Ok :=
  ⟨ok.mod, ok.kind, ok.glob, ok.blt, ok.above, ok.inj, ok.has, ok.cab, ok.hd, ok.frames, ok.stk, ok.exf, ok.bs, ok.bsz, ok.noex, ok.exfs, ok.funs, ok.frf⟩
section
variable {X : Cx} {pins : List (Addr × Obj)} {σ : St} {H : Hp} {s : Shared} {E : Value → Shared → Prop}
theorem Inv.wish (I : Inv X pins σ H s) (E : Value → Shared → Prop) : Inv (X.wish E) pins σ H s := ⟨I.ok.wish E, I.os, I.bare, I.base, I.loc, I.cell, I.free, I.freeC, I.pin, I.hok, I.len⟩
theorem Inv.unwish (I : Inv (X.wish E) pins σ H s) : Inv X pins σ H s := ⟨I.ok.unwish, I.os, I.bare, I.base, I.loc, I.cell, I.free, I.freeC, I.pin, I.hok, I.len⟩
theorem SP.unwish {D : Ends} {f : Flow} {s' : Shared} (h : SP (X.wish E) pins D f s') : SP X pins D f s' := by
  cases f with
  | next => obtain ⟨σ', H', I, q⟩ := h; exact ⟨σ', H', I.unwish, q⟩
  | brk => obtain ⟨σ', H', I, q⟩ := h; exact ⟨σ', H', I.unwish, q⟩
  | cont => obtain ⟨σ', H', I, q⟩ := h; exact ⟨σ', H', I.unwish, q⟩
  | ret u => obtain ⟨v, σ', H', I, r, q⟩ := h; exact ⟨v, σ', H', I.unwish, r, q⟩
theorem PE.nox {e : Expr} {t : TE} (h : PE X.nox e t) : PE X e t := fun pins s σ H Q I hw =>
  wpAny_mono (h pins s σ H Q (I.wish _) hw) (fun _ _ ⟨v, H', I', r, q⟩ => ⟨v, H', I'.unwish, r, q⟩) fun _ _ z => False.elim z
theorem PT.nox {e : Expr} {t : TT} (h : PT X.nox e t) : PT X e t := fun pins s σ H Q I hw =>
  wpAny_mono (h pins s σ H Q (I.wish _) hw) (fun _ _ ⟨H', I', q⟩ => ⟨H', I'.unwish, q⟩) fun _ _ z => False.elim z
theorem PSs.nox {st : List Stmt} {t : TS} (h : PSs X.nox st t) : PSs X st t := fun pins s σ H D I hw =>
  wpAny_mono (h pins s σ H D (I.wish _) hw) (fun _ _ q => q.unwish) fun _ _ z => False.elim z
end

/-! ### blocks and small statements -/
section
variable {X : Cx} {st : Stmt} {rest : List Stmt} {t u : TS} {e : Expr} {te : TE} {pos : Pos}
def tNext : TS := fun D σ H => D.nx σ H
def tSeq (t u : TS) : TS := fun D σ H => t { D with nx := u D } σ H
theorem pss_nil : PSs X [] tNext := fun _ _ σ H _ I h => wpAny_execs_nil ⟨σ, H, I, h⟩
theorem pss_cons (h1 : PS X st t) (h2 : PSs X rest u) : PSs X (st :: rest) (tSeq t u) := by
  intro pins s σ H D I h
  refine wpAny_execs_cons (thn (h1 pins s σ H { D with nx := u D } I h) fun f s1 q => ?_)
  cases f with
  | next =>
    obtain ⟨σ', H', I', q⟩ := q
    exact h2 pins s1 σ' H' D I' q
  | ret v => exact q
  | brk => exact q
  | cont => exact q
theorem pss_one (h1 : PS X st t) : PSs X [st] t := by
  intro pins s σ H D I h
  refine wpAny_execs_cons (thn (h1 pins s σ H D I h) fun f s1 q => ?_)
  cases f with
  | next => exact wpAny_execs_nil q
  | ret v => exact q
  | brk => exact q
  | cont => exact q
def tBreak : TS := fun D σ H => D.bk σ H
def tCont : TS := fun D σ H => D.ct σ H
theorem ps_pass : PS X (.Pass pos) tNext := fun _ _ σ H _ I h => wpAny_Pass ⟨σ, H, I, h⟩
theorem ps_break : PS X (.Break pos) tBreak := fun _ _ σ H _ I h => wpAny_Break ⟨σ, H, I, h⟩
theorem ps_continue : PS X (.Continue pos) tCont := fun _ _ σ H _ I h => wpAny_Continue ⟨σ, H, I, h⟩
/-- in a def's body nothing is shown -/
theorem Inv.quiet {pins : List (Addr × Obj)} {σ : St} {H : Hp} {s : Shared} (I : Inv X pins σ H s) : interactive X.env = false := by simp [interactive, I.ok.kind]
/-- a docstring -/
theorem ps_doc {x j pos pos'} : PS X (.Expr (.Constant (.str x) j pos) pos') tNext := fun _ s σ H _ I h => wpAny_Expr (Calls.Constant_str (show SP X _ _ .next { s with toks := s.toks + 1 } from ⟨σ, H, I.tok _, h⟩)) I.quiet
/-- an expression whose value is dropped -/
def tDrop (te : TE) : TS := fun D σ H => te σ H fun _ H1 => D.nx σ H1
theorem ps_expr (he : PE X e te) (hs : swapsWith e none pos.line X.env = pure false := by rfl) : PS X (.Expr e pos) (tDrop te) := by
  intro pins s σ H D I h
  exact wpAny_Expr_any (thn (he pins s σ H _ I h) fun v s1 ⟨x, H1, I1, r1, q1⟩ => ⟨σ, H1, I1, q1⟩) I.quiet hs
def tRet (te : TE) : TS := fun D σ H => te σ H D.rt
theorem ps_ret (he : PE X e te) : PS X (.Return (some e) pos) (tRet te) := by
  intro pins s σ H D I h
  exact wpAny_Return_some (thn (he pins s σ H _ I h) fun v s1 ⟨x, H1, I1, r1, q1⟩ => ⟨x, σ, H1, I1, r1, q1⟩)
def tRetN : TS := fun D _ H => D.rt .non H
theorem ps_retN : PS X (.Return none pos) tRetN := fun _ _ σ H _ I h => wpAny_Return_none ⟨.non, σ, H, I, rfl, h⟩
def tIfS (c : TT) (t u : TS) : TS := fun D σ H => c σ H fun b H1 => if b = true then t D σ H1 else u D σ H1
theorem ps_if {c : Expr} {a b : List Stmt} {tc : TT} (hc : PT X c tc) (ha : PSs X a t) (hb : PSs X b u) : PS X (.If c a b pos) (tIfS tc t u) := by
  intro pins s σ H D I h
  refine wpAny_If (thn (hc pins s σ H _ I h) fun d s1 ⟨H1, I1, q1⟩ => ?_)
  cases d with
  | true => exact ha pins s1 σ H1 D I1 q1
  | false => exact hb pins s1 σ H1 D I1 q1
/-- code that the proof never comes to -/
def tNever : TS := fun _ _ _ => False
theorem ps_never : PS X st tNever := fun _ _ _ _ _ _ h => h.elim
theorem pss_never {sts : List Stmt} : PSs X sts tNever := fun _ _ _ _ _ _ h => h.elim
end

/-! ### targets -/
abbrev TG := V → St → Hp → (St → Hp → Prop) → Prop
abbrev TGs := List V → St → Hp → (St → Hp → Prop) → Prop
def PG (X : Cx) (target : Expr) (t : TG) : Prop :=
  ∀ (pins : List (Addr × Obj)) (s : Shared) (σ : St) (H : Hp) (v : V) (u : Value) (Q : St → Hp → Prop), Inv X pins σ H s → RelV v u → t v σ H Q →
    wpAny (model X.prog X.w) X.A (assign target X.env u) (fun _ s' => ∃ σ' H', Inv X pins σ' H' s' ∧ Q σ' H') X.xe s
/-- several targets, one after another -/
def PGs (X : Cx) (ts : List Expr) (t : TGs) : Prop :=
  ∀ (pins : List (Addr × Obj)) (s : Shared) (σ : St) (H : Hp) (vs : List V) (us : List Value) (Q : St → Hp → Prop), Inv X pins σ H s → Vals vs us → t vs σ H Q →
    wpAny (model X.prog X.w) X.A (assignInOrder ((assignEach ts X.env).map (·.2)) us) (fun _ s' => ∃ σ' H', Inv X pins σ' H' s' ∧ Q σ' H') X.xe s
/-- o[i] = v, by values -/
abbrev TSet := V → V → V → Hp → (Hp → Prop) → Prop
def PSet (X : Cx) (t : TSet) : Prop :=
  ∀ (pins : List (Addr × Obj)) (s : Shared) (σ : St) (H : Hp) (o i v : V) (ov iv u : Value) (Q : Hp → Prop), Inv X pins σ H s → RelV o ov → RelV i iv → RelV v u → t o i v H Q →
    wpAny (model X.prog X.w) X.A (setItem ov iv u) (fun _ s' => ∃ H', Inv X pins σ H' s' ∧ Q H') X.xe s
/-- a op= b, by values -/
abbrev TIp := V → V → Hp → VK → Prop
def PIp (X : Cx) (op : Operator) (t : TIp) : Prop :=
  ∀ (pins : List (Addr × Obj)) (s : Shared) (σ : St) (H : Hp) (x y : V) (v u : Value) (Q : VK), Inv X pins σ H s → RelV x v → RelV y u → t x y H Q →
    wpAny (model X.prog X.w) X.A (inplaceOp op v u) (EP X pins σ Q) X.xe s
section
variable {X : Cx} {pos : Pos}
def gName (i : Nat) : TG := fun v σ H Q => Q (σ.set i (some v)) H
theorem pg_name {i : Nat} {x : Str} (hN : X.N.Nodup) (hi : X.N[i]? = some x) (hx : Loc X.env.scope x) (hf : X.fn x = true ∨ X.env.scope.names.lookup x = some .local := by first | exact .inl rfl | exact .inr rfl | assumption) : PG X (.Name x pos) (gName i) := by
  intro pins s σ H v u Q I r h
  exact wpAny_assign_Name (store_ok I hN hi hx r (fun s' I' => ⟨_, H, I', h⟩) hf)
def gNil : TGs := fun vs σ H Q => vs = [] ∧ Q σ H
def gCons (t : TG) (u : TGs) : TGs := fun vs σ H Q => ∃ v r, vs = v :: r ∧ t v σ H fun σ' H' => u r σ' H' Q
theorem pgs_nil : PGs X [] gNil := by
  intro pins s σ H vs us Q I r h
  obtain ⟨e, h⟩ := h
  subst e
  cases r
  exact assignInOrder_nil ⟨σ, H, I, h⟩
theorem pgs_cons {e : Expr} {es : List Expr} {t : TG} {u : TGs} (h1 : PG X e t) (h2 : PGs X es u)
    (hs : (assignEach (e :: es) X.env).map (·.2) = assign e X.env :: (assignEach es X.env).map (·.2) := by rfl) : PGs X (e :: es) (gCons t u) := by
  intro pins s σ H vs us Q I r h
  obtain ⟨v, vr, e1, h⟩ := h
  subst e1
  cases r with
  | cons r rr =>
    rw [hs]
    refine assignInOrder_cons (thn (h1 pins s σ H _ _ _ I r h) fun _ s1 ⟨σ1, H1, I1, q1⟩ => ?_)
    exact h2 pins s1 σ1 H1 _ _ Q I1 rr q1
/-- (a, b, ..) = a tuple of that length -/
def gTup (K : PySem.W.Frag) (n : Nat) (t : TGs) : TG := fun v σ H Q => ∃ a xs, v = .ref a ∧ SqT K H a xs ∧ xs.length = n ∧ t xs σ H Q
theorem pg_tup {es : List Expr} {k : Nat} {t : TGs} {n : Nat} (hc : X.calm = true) (h : PGs X es t)
    (hn : (assignEach es X.env).length = n := by rfl) (hst : (assignEach es X.env).findIdx? (·.1) = none := by rfl) : PG X (.Tuple es k pos) (gTup X.K n t) := by
  intro pins s σ H v u Q I r hw
  obtain ⟨a, xs, e1, hq, hl, hw⟩ := hw
  subst e1
  cases r
  obtain ⟨its, rv, ht, hz⟩ := I.tuple hq
  refine assign_Tuple_tuple (I.ok.hd hc) ht (by simp [hn, ← hl, rv.length]) hst fun h' hx => ?_
  have I1 : Inv X pins σ H { s with heap := h' } := I.kept (t' := s.toks) fun b o e => hx b o (Nat.ne_of_lt (Heap.lt_size e)) e
  exact h pins _ σ H xs _ Q I1 (by simpa using rv) hw
/-- o[i] = .. -/
def gSub (to ti : TE) (t : TSet) : TG := fun v σ H Q => to σ H fun o H1 => ti σ H1 fun i H2 => t o i v H2 fun H3 => Q σ H3
theorem pg_sub {o i : Expr} {to ti : TE} {t : TSet} (ho : PE X o to) (hi : PE X i ti) (hs : PSet X t)
    (ha : ∀ v, assign (.Subscript o i pos) X.env v = (do
      let ov ← holding [v] (eval o X.env)
      let iv ← holding [v, ov] (eval i X.env)
      standAt pos
      holding [v, ov, iv] (setItem ov iv v)
      release [v, ov, iv] []) := by intro _; rfl) : PG X (.Subscript o i pos) (gSub to ti t) := by
  intro pins s σ H v u Q I r h
  rw [ha]
  refine wpAny_bind (wpAny_holding (thn (ho pins s σ H _ I h) fun ov s1 ⟨x, H1, I1, r1, q1⟩ => ?_))
  refine wpAny_bind (wpAny_holding (thn (hi pins s1 σ H1 _ I1 q1) fun iv s2 ⟨y, H2, I2, r2, q2⟩ => ?_))
  refine wpAny_bind (wpAny_standAt (wpAny_bind (wpAny_holding (thn (hs pins s2 σ H2 x y v ov iv u _ I2 r1 r2 r q2) fun _ s3 ⟨H3, I3, q3⟩ => ?_))))
  exact wpAny_release ⟨σ, H3, I3, q3⟩
/-- target = value -/
def tAsg (te : TE) (g : TG) : TS := fun D σ H => te σ H fun x H1 => g x σ H1 D.nx
theorem ps_asg {tg e : Expr} {te : TE} {g : TG} (he : PE X e te) (hg : PG X tg g) (hs : swapsWithSole [tg] e pos.line X.env = pure false := by rfl) (hw : swappedStores [tg] e X.env = pure none := by rfl)
    (h1 : (assignEach [tg] X.env).map (·.2) = [assign tg X.env] := by rfl) : PS X (.Assign [tg] e pos) (tAsg te g) := by
  intro pins s σ H D I h
  refine wpAny_Assign_stores (thn (he pins s σ H _ I h) fun v s1 ⟨x, H1, I1, r1, q1⟩ => ?_) hs hw
  rw [h1]
  exact thn (hg pins s1 σ H1 x v _ I1 r1 q1) fun _ s2 q => q
/-- name = value -/
theorem ps_set {i : Nat} {x : Str} {e : Expr} {te : TE} {pos' : Pos} (hN : X.N.Nodup) (hi : X.N[i]? = some x) (hx : Loc X.env.scope x) (he : PE X e te) (hs : swapsWith e (some (.Name x pos')) pos.line X.env = pure false := by rfl) (hf : X.fn x = true ∨ X.env.scope.names.lookup x = some .local := by first | exact .inl rfl | exact .inr rfl | assumption) :
    PS X (.Assign [.Name x pos'] e pos) (tAsg te (gName i)) := by
  intro pins s σ H D I h
  refine wpAny_Assign_Name (thn (he pins s σ H _ I h) fun v s1 ⟨y, H1, I1, r1, q1⟩ => ?_) hs
  exact store_ok I1 hN hi hx r1 (fun s2 I2 => ⟨_, H1, I2, q1⟩) hf
/-- a, b = x, y with plain local names: stored from the right; the pair itself is not tracked (the opening rows as in PyProof/Rows/TupAssign.lean:23) -/
def tPar (i j : Nat) (ta : TA) : TS := fun D σ H => ta σ H fun vs H1 => ∃ v w, vs = [v, w] ∧ D.nx ((σ.set i (some v)).set j (some w)) H1
theorem ps_par {i j : Nat} {x y : Str} {a b : Expr} {ta : TA} {px py pt : Pos} {kt k2 pt2} (hc : X.calm = true) (hN : X.N.Nodup) (hi : X.N[i]? = some x) (hj : X.N[j]? = some y) (hij : i ≠ j)
    (hx : X.env.scope.names.lookup x = some .local) (hy : X.env.scope.names.lookup y = some .local) (ha : PA X [a, b] ta)
    (hw : swappedStores [.Tuple [.Name x px, .Name y py] kt pt] (.Tuple [a, b] k2 pt2) X.env = pure (some [x, y]))
    (hs : swapsWithSole [.Tuple [.Name x px, .Name y py] kt pt] (.Tuple [a, b] k2 pt2) pos.line X.env = pure false := by rfl) :
    PS X (.Assign [.Tuple [.Name x px, .Name y py] kt pt] (.Tuple [a, b] k2 pt2) pos) (tPar i j ta) := by
  intro pins s σ H D I h
  rw [exec_Assign_arm]
  refine wpAny_bind (wpAny_standAt ?_)
  rw [hs]
  refine wpAny_bind (wpAny_pure ?_)
  rw [if_neg (by decide)]
  refine wpAny_bind (Tuple_ (thn (ha _ pins s σ H _ I h) fun us s1 ⟨vs, H1, I1, r1, q1⟩ => ?_))
  obtain ⟨v, w, e1, q1⟩ := q1
  subst e1
  obtain ⟨u1, u2, rfl, rv, rw'⟩ : ∃ u1 u2, us = [u1, u2] ∧ RelV v u1 ∧ RelV w u2 := by
    cases r1 with
    | cons p q =>
      cases q with
      | cons p' q' =>
        cases q'
        exact ⟨_, _, rfl, p, p'⟩
  refine wpAny_newObj_type ?_ (by show 2 ≤ sizeLine; decide)
  have I2 : Inv X pins σ H1 { s1 with heap := s1.heap.push { cls := .type "tuple", data := .seq [u1, u2].toArray } } := I1.kept (t' := s1.toks) fun b o e => Heap.get?_push_of_some _ e
  rw [hw]
  refine wpAny_bind (wpAny_pure ?_)
  show wpAny (model X.prog X.w) X.A (do rule "assign.swapped-stores"; let items ← unpackItems (.ref s1.heap.objs.size) 2 none; assignInOrder [fun v => bindName X.env y v, fun v => bindName X.env x v] items.reverse; pure Flow.next) _ _ _
  refine wpAny_bind (wpAny_rule (wpAny_bind (unpackItems_tuple (items := #[u1, u2]) (I.ok.hd hc) (IsTup.new s1.heap _) fun h' hx' => ?_)))
  have I3 := I2.kept (h' := h') (t' := s1.toks) fun b o e => hx' b o (Nat.ne_of_lt (Heap.lt_size e)) e
  show wpAny _ _ (assignInOrder [fun v => bindName X.env y v, fun v => bindName X.env x v] [u2, u1] >>= fun _ => pure Flow.next) _ _ _
  refine wpAny_bind (assignInOrder_cons (wpAny_bindName (store_ok I3 hN hj (.inl hy) rw' (fun s2 I4 => ?_) (.inr hy))))
  refine assignInOrder_cons (wpAny_bindName (store_ok I4 hN hi (.inl hx) rv (fun s3 I5 => assignInOrder_nil (wpAny_pure ?_)) (.inr hx)))
  rw [List.set_comm _ _ (Ne.symm hij)] at I5
  exact ⟨_, H1, I5, q1⟩
/-- name op= e -/
def tAug (i : Nat) (te : TE) (ti : TIp) : TS := fun D σ H => ∃ x, σ[i]? = some (some x) ∧ te σ H fun y H1 => ti x y H1 fun z H2 => D.nx (σ.set i (some z)) H2
theorem ps_aug {i : Nat} {x : Str} {e : Expr} {te : TE} {op : Operator} {ti : TIp} {pos' : Pos} (hN : X.N.Nodup) (hi : X.N[i]? = some x) (hx : Loc X.env.scope x) (he : PE X e te) (ho : PIp X op ti) (hf : X.fn x = true ∨ X.env.scope.names.lookup x = some .local := by first | exact .inl rfl | exact .inr rfl | assumption) :
    PS X (.AugAssign (.Name x pos') op e pos) (tAug i te ti) := by
  intro pins s σ H D I h
  obtain ⟨v, e1, h⟩ := h
  obtain ⟨m, hn, hl⟩ := I.loc
  have vis : Vis X.env.scope x := by rcases hx with k | k; exact .inl k; exact .inr (.inl k)
  obtain ⟨u, r, l⟩ := hl i x v hi e1 vis
  refine wpAny_AugAssign_Name ?_
  have go : wpAny (model X.prog X.w) X.A (eval e X.env) (fun w s₂ => wpAny (model X.prog X.w) X.A (inplaceOp op u w) (fun r s₃ => wpAny (model X.prog X.w) X.A (storeName X.env x r) (fun _ => SP X pins D .next) X.xe s₃) X.xe s₂) X.xe s := by
    refine thn (he pins s σ H _ I h) fun w s1 ⟨y, H1, I1, r1, q1⟩ => ?_
    refine thn (ho pins s1 σ H1 v y u w _ I1 r r1 q1) fun z s2 ⟨zv, H2, I2, r2, q2⟩ => ?_
    exact store_ok I2 hN hi hx r2 (fun s3 I3 => ⟨_, H2, I3, q2⟩) hf
  rcases l with ⟨hk, hm⟩ | ⟨hk, c, hc, hcell⟩
  · exact wpAny_loadName_local I.ok.kind hk hn hm go
  · rcases hk with hk | hk
    · exact wpAny_loadName_cell I.ok.kind hk hc hcell go
    · rcases hx with k | k
      · have : X.env.scope.names.lookup x = some .free := hk
        rw [k] at this; cases this
      · have : X.env.scope.names.lookup x = some .free := hk
        rw [k] at this; cases this
/-- o[i] op= e -/
def tAugS (to ti te : TE) (tget : V → V → Hp → VK → Prop) (tip : TIp) (tset : TSet) : TS := fun D σ H => to σ H fun o H1 => ti σ H1 fun i H2 => tget o i H2 fun x H3 => te σ H3 fun y H4 => tip x y H4 fun z H5 => tset o i z H5 fun H6 => D.nx σ H6
/-- o[i], by values -/
def PGet (X : Cx) (t : V → V → Hp → VK → Prop) : Prop :=
  ∀ (pins : List (Addr × Obj)) (s : Shared) (σ : St) (H : Hp) (o i : V) (ov iv : Value) (Q : VK), Inv X pins σ H s → RelV o ov → RelV i iv → t o i H Q →
    wpAny (model X.prog X.w) X.A (getItem ov iv) (EP X pins σ Q) X.xe s
theorem ps_augS {o i e : Expr} {to ti te : TE} {tget : V → V → Hp → VK → Prop} {tip : TIp} {tset : TSet} {op : Operator} {tpos : Pos} (ho : PE X o to) (hi : PE X i ti) (hg : PGet X tget) (he : PE X e te) (hp : PIp X op tip) (hs : PSet X tset)
    (ha : ∀ ov iv new, augStore i ov iv new = (do holding [new, ov, iv] (setItem ov iv new); release [new, ov, iv] []; pure .next) := by intros; rfl) : PS X (.AugAssign (.Subscript o i tpos) op e pos) (tAugS to ti te tget tip tset) := by
  intro pins s σ H D I h
  refine wpAny_AugAssign_SubscriptAny (thn (ho pins s σ H _ I h) fun ov s1 ⟨x1, H1, I1, r1, q1⟩ => ?_) ha
  refine thn (hi pins s1 σ H1 _ I1 q1) fun iv s2 ⟨x2, H2, I2, r2, q2⟩ => ?_
  refine thn (hg pins s2 σ H2 x1 x2 ov iv _ I2 r1 r2 q2) fun old s3 ⟨x3, H3, I3, r3, q3⟩ => ?_
  refine thn (he pins s3 σ H3 _ I3 q3) fun v s4 ⟨x4, H4, I4, r4, q4⟩ => ?_
  refine thn (hp pins s4 σ H4 x3 x4 old v _ I4 r3 r4 q4) fun new s5 ⟨x5, H5, I5, r5, q5⟩ => ?_
  exact thn (hs pins s5 σ H5 x1 x2 x5 ov iv new _ I5 r1 r2 r5 q5) fun _ s6 ⟨H6, I6, q6⟩ => ⟨σ, H6, I6, q6⟩
/-- ints -/
def ipI (f : Int → Int → Int) : TIp := fun x y H Q => ∃ i j, x = .int i ∧ y = .int j ∧ Q (.int (f i j)) H
theorem ip_add : PIp X .Add (ipI fun i j => i + j) := by
  intro pins s σ H x y v u Q I r1 r2 h
  obtain ⟨i, j, e1, e2, q⟩ := h
  subst e1; subst e2
  obtain ⟨t, rfl⟩ := r1
  obtain ⟨t', rfl⟩ := r2
  exact iadd_int ⟨.int _, H, I.tok _, ⟨_, rfl⟩, q⟩
theorem ip_sub : PIp X .Sub (ipI fun i j => i - j) := by
  intro pins s σ H x y v u Q I r1 r2 h
  obtain ⟨i, j, e1, e2, q⟩ := h
  subst e1; subst e2
  obtain ⟨t, rfl⟩ := r1
  obtain ⟨t', rfl⟩ := r2
  exact isub_int ⟨.int _, H, I.tok _, ⟨_, rfl⟩, q⟩
end

/-! ### while -/
section
variable {X : Cx} {pos : Pos}
/-- the invariant W with its measure -/
def tWhile (c : TT) (tb : TS) : TS := fun D σ H => ∃ W : Nat → St → Hp → Prop, (∃ m, W m σ H) ∧ ∀ m σ H, W m σ H →
  c σ H fun b H1 => if b = true then ∃ N : St → Hp → Prop, (∀ σ' H', N σ' H' → ∃ m', m' < m ∧ W m' σ' H') ∧ tb { D with nx := N, ct := N, bk := D.nx } σ H1 else D.nx σ H1
theorem ps_while {c : Expr} {body : List Stmt} {tc : TT} {tb : TS} (hp : PassesOwn (model X.prog X.w) X.A X.env X.xe) (hc : PT X c tc) (hb : PSs X body tb) : PS X (.While c body [] pos) (tWhile tc tb) := by
  intro pins s σ H D I h
  obtain ⟨W, ⟨m0, w0⟩, turn⟩ := h
  refine wpAny_While (codeAny_whileLoop (fun n s' => ∃ σ' H', Inv X pins σ' H' s' ∧ W n σ' H') ?_ m0 ⟨σ, H, I, w0⟩)
  rintro n s1 ⟨σ1, H1, I1, w1⟩
  refine wpAny_passesOwn hp (thn (hc pins s1 σ1 H1 _ I1 (turn n σ1 H1 w1)) fun b s2 ⟨H2, I2, q2⟩ => ?_)
  cases b with
  | true =>
    obtain ⟨N, hN, q2⟩ := q2
    rw [if_pos rfl]
    refine wpAny_passesOwn hp (thn (hb pins s2 σ1 H2 _ I2 q2) fun f s3 q3 => ?_)
    cases f with
    | next =>
      obtain ⟨σ3, H3, I3, n3⟩ := q3
      obtain ⟨m', hm, w3⟩ := hN σ3 H3 n3
      exact ⟨m', hm, σ3, H3, I3, w3⟩
    | cont =>
      obtain ⟨σ3, H3, I3, n3⟩ := q3
      obtain ⟨m', hm, w3⟩ := hN σ3 H3 n3
      exact ⟨m', hm, σ3, H3, I3, w3⟩
    | brk => exact q3
    | ret v => exact q3
  | false =>
    rw [if_neg Bool.false_ne_true]
    exact wpAny_execs_nil ⟨σ1, H2, I2, q2⟩
end

/-! ### what a loop or a comprehension walks -/
/-- at turn i: it yields x (the heap may grow), or it stops -/
structure It where
  go : Nat → Hp → Prop
  yld : Nat → Hp → V → Hp → Prop
  stop : Nat → Hp → Prop
/-- the iterator's own objects may turn: they are not the frame's, not pinned, younger than the entry (or a comprehension's own) -/
def FpOk (X : Cx) (pins : List (Addr × Obj)) (H : Hp) (b : Addr) : Prop :=
  H b = none ∧ b ≠ X.env.locals ∧ b ∉ X.fs ∧ (b ∈ X.ex ∨ X.s₀.heap.objs.size ≤ b) ∧ (∀ x c, X.env.cells.lookup x = some c → c ≠ b) ∧ ∀ p ∈ X.pn ++ pins, p.1 ≠ b
theorem Inv.fpOk {X : Cx} {pins : List (Addr × Obj)} {σ : St} {H H' : Hp} {s : Shared} {b : Addr} (I : Inv X pins σ H s) (hb : s.heap.objs.size ≤ b) (hn : H' b = none) : FpOk X pins H' b := by
  refine ⟨hn, Nat.ne_of_gt (Nat.lt_of_lt_of_le I.lt hb), I.nofs hb, .inr (Nat.le_trans I.sz hb), fun x c e z => ?_, fun p hp z => ?_⟩
  · obtain ⟨v, q⟩ := I.cell x c e
    exact absurd (Nat.lt_of_lt_of_le q.lt (by rw [z]; exact hb)) (Nat.lt_irrefl _)
  · exact absurd (Nat.lt_of_lt_of_le (Heap.lt_size (I.pin p hp).1) (by rw [z]; exact hb)) (Nat.lt_irrefl _)
structure Turn (P : Program) (w : World) (K : PySem.W.Frag) (tg : Expr) (J : It) (fp : List Addr) (it : Addr) (tn : Nat → Heap → Prop) : Prop where
  mem : it ∈ fp
  obj : ∀ i h, tn i h → ∀ b ∈ fp, ∃ o, h.get? b = some o ∧ ∀ v, o.data ≠ .cell v
  keep : ∀ i h h', tn i h → (∀ b ∈ fp, ∀ o, h.get? b = some o → h'.get? b = some o) → tn i h'
  item : ∀ (X : Cx), X.prog = P → X.w = w → X.K = K → X.calm = true → ∀ (i : Nat) (pins : List (Addr × Obj)) (s : Shared) (σ : St) (H : Hp) (E : Value → Shared → Prop), Inv X pins σ H s → (∀ b ∈ fp, FpOk X pins H b) → tn i s.heap → J.go i H →
    wpAny (model P w) X.A (pyNext (.ref it)) (fun r s1 => ∃ u, r = some u ∧
      wpAny (model P w) X.A (letOwnedTupleGo tg (.ref it) u) (fun _ s2 => ∃ x H', Inv X pins σ H' s2 ∧ RelV x u ∧ J.yld i H x H' ∧ tn (i + 1) s2.heap ∧ ∀ b ∈ fp, H' b = none) E s1) E s
  done : ∀ (X : Cx), X.prog = P → X.w = w → X.K = K → X.calm = true → ∀ (i : Nat) (pins : List (Addr × Obj)) (s : Shared) (σ : St) (H : Hp) (E : Value → Shared → Prop), Inv X pins σ H s → (∀ b ∈ fp, FpOk X pins H b) → tn i s.heap → J.stop i H →
    wpAny (model P w) X.A (pyNext (.ref it)) (fun r s1 => r = none ∧ Inv X pins σ H s1) E s
  self : ∀ (A : Around) (i : Nat) (s : Shared) (Q : Value → Shared → Prop) (E : Value → Shared → Prop), tn i s.heap → Q (.ref it) s → wpAny (model P w) A (pyIter (.ref it)) Q E s
abbrev TI := St → Hp → (It → Hp → Prop) → Prop
/-- an iterator has come -/
def PIE (X : Cx) (pins : List (Addr × Obj)) (σ : St) (tg : Expr) (R : It → Hp → Prop) (itv : Value) (s2 : Shared) : Prop :=
  ∃ (it : Addr) (fp : List Addr) (tn : Nat → Heap → Prop) (J : It) (H' : Hp), itv = .ref it ∧ Inv X pins σ H' s2 ∧ Turn X.prog X.w X.K tg J fp it tn ∧ tn 0 s2.heap ∧ (∀ b ∈ fp, FpOk X pins H' b) ∧ R J H'
def PI (X : Cx) (tg iter : Expr) (wi : TI) : Prop :=
  ∀ (pins : List (Addr × Obj)) (s : Shared) (σ : St) (H : Hp) (R : It → Hp → Prop), Inv X pins σ H s → wi σ H R →
    wpAny (model X.prog X.w) X.A (eval iter X.env) (fun v s1 => wpAny (model X.prog X.w) X.A (pyIter v) (PIE X pins σ tg R) X.xe s1) X.xe s

/-- the step ahead of the store is nothing for an iterator that keeps no tuple -/
theorem go_of {M : Model} {A : Around} {E : Value → Shared → Prop} {s : Shared} {tg : Expr} {it : Addr} {u : Value} {o : Obj} {n : String} {vs : Array Value} {Q : Unit → Shared → Prop} (ho : s.heap.get? it = some o) (hc : o.cls = .type n) (hd : o.data = .fields vs)
    (hn : ["enumerate", "zip", "dict_itemiterator", "dict_reverseitemiterator", "odict_iterator", "itertools.zip_longest", "itertools.pairwise"].contains n = false) (hQ : Q () s) : wpAny M A (letOwnedTupleGo tg (.ref it) u) Q E s := by
  unfold letOwnedTupleGo
  cases tg <;> first
    | exact wpAny_pure hQ
    | (cases u <;> first
        | exact wpAny_pure hQ
        | (refine wpAny_bind (wpAny_load ho ?_)
           rw [hc, hd]
           show wpAny M A (if (["enumerate", "zip", "dict_itemiterator", "dict_reverseitemiterator", "odict_iterator", "itertools.zip_longest", "itertools.pairwise"].contains n && vs[0]? == some (rawInt _)) = true then _ else _) Q E s
           rw [if_neg (by intro h; rw [hn, Bool.false_and] at h; cases h)]
           exact wpAny_pure hQ))

/-- the list at a, as it stands at each turn (a loop may append to it) -/
def Itl (K : PySem.W.Frag) (a : Addr) : It :=
  ⟨fun i H => ∃ xs x, SqL K H a xs ∧ xs[i]? = some x, fun i H x H' => H' = H ∧ ∀ xs, SqL K H a xs → xs[i]? = some x, fun i H => ∃ xs, SqL K H a xs ∧ xs.length ≤ i⟩
def Itt (K : PySem.W.Frag) (a : Addr) : It :=
  ⟨fun i H => ∃ xs x, SqT K H a xs ∧ xs[i]? = some x, fun i H x H' => H' = H ∧ ∀ xs, SqT K H a xs → xs[i]? = some x, fun i H => ∃ xs, SqT K H a xs ∧ xs.length ≤ i⟩
/-- lo, lo + 1, .. (n of them) -/
def Itr (lo : Int) (n : Nat) : It := ⟨fun i _ => i < n, fun i H x H' => H' = H ∧ x = .int (lo + i), fun i _ => n ≤ i⟩
theorem turn_list {P : Program} {w : World} {K : PySem.W.Frag} {tg : Expr} (a it : Addr) : Turn P w K tg (Itl K a) [it] it (fun i h => h.IsListIter it a i) where
  mem := by simp
  obj := fun i h st b hb => by
    have e : b = it := by simpa using hb
    subst e
    obtain ⟨o, e, c, d⟩ := st
    exact ⟨o, e, fun v z => by rw [d] at z; cases z⟩
  keep := fun i h h' st k => st.at fun o e => k it (by simp) o e
  item := by
    intro X hP hw hK hc i pins s σ H E I hf st hg
    subst hP hw hK
    obtain ⟨xs, x, hq, hx⟩ := hg
    obtain ⟨its, rv, p, hz⟩ := I.list hq
    obtain ⟨u, hu, ru⟩ := rv.get hx
    obtain ⟨f0, f1, f2, f3, f4, f5⟩ := hf it (by simp)
    refine wpAny_pyNext_list_item st p.isList (x := u) (by simpa using hu) fun h' st' sb => ?_
    have I1 : Inv X pins σ H { s with heap := h' } := I.turned (t' := s.toks) (fun b o hb e => (sb.2 b hb).trans e) f0 f1 f3 f4 f5
    obtain ⟨o, e, c, d⟩ := id st'
    exact ⟨u, rfl, go_of (s := { s with heap := h' }) e c d (by decide) ⟨x, H, I1, ru, ⟨rfl, fun ys hy => by rw [I.list_inj hy hq]; exact hx⟩, st', fun b hb => (hf b hb).1⟩⟩
  done := by
    intro X hP hw hK hc i pins s σ H E I hf st hg
    subst hP hw hK
    obtain ⟨xs, hq, hx⟩ := hg
    obtain ⟨its, rv, p, hz⟩ := I.list hq
    obtain ⟨f0, f1, f2, f3, f4, f5⟩ := hf it (by simp)
    have hl := rv.length
    exact wpAny_pyNext_list_end (I.ok.hd hc) st p.isList (by simp; omega) fun h' eb => ⟨rfl, I.turned (t' := s.toks) (fun b o hb e => eb b o hb e) f0 f1 f3 f4 f5⟩
  self := fun _ _ _ _ _ st h => wpAny_pyIter_listiter st h
theorem turn_tuple {P : Program} {w : World} {K : PySem.W.Frag} {tg : Expr} (a it : Addr) : Turn P w K tg (Itt K a) [it] it (fun i h => h.IsTupleIter it a i) where
  mem := by simp
  obj := fun i h st b hb => by
    have e : b = it := by simpa using hb
    subst e
    obtain ⟨o, e, c, d⟩ := st
    exact ⟨o, e, fun v z => by rw [d] at z; cases z⟩
  keep := fun i h h' st k => st.at fun o e => k it (by simp) o e
  item := by
    intro X hP hw hK hc i pins s σ H E I hf st hg
    subst hP hw hK
    obtain ⟨xs, x, hq, hx⟩ := hg
    obtain ⟨its, rv, p, hz⟩ := I.tuple hq
    obtain ⟨u, hu, ru⟩ := rv.get hx
    obtain ⟨f0, f1, f2, f3, f4, f5⟩ := hf it (by simp)
    refine wpAny_pyNext_tuple_item st (show s.heap.IsTuple a its.toArray from p) (x := u) (by simpa using hu) fun h' st' sb => ?_
    have I1 : Inv X pins σ H { s with heap := h' } := I.turned (t' := s.toks) (fun b o hb e => (sb.2 b hb).trans e) f0 f1 f3 f4 f5
    obtain ⟨o, e, c, d⟩ := id st'
    exact ⟨u, rfl, go_of (s := { s with heap := h' }) e c d (by decide) ⟨x, H, I1, ru, ⟨rfl, fun ys hy => by rw [I.tuple_inj hy hq]; exact hx⟩, st', fun b hb => (hf b hb).1⟩⟩
  done := by
    intro X hP hw hK hc i pins s σ H E I hf st hg
    subst hP hw hK
    obtain ⟨xs, hq, hx⟩ := hg
    obtain ⟨its, rv, p, hz⟩ := I.tuple hq
    obtain ⟨f0, f1, f2, f3, f4, f5⟩ := hf it (by simp)
    have hl := rv.length
    exact wpAny_pyNext_tuple_end (I.ok.hd hc) st (show s.heap.IsTuple a its.toArray from p) (by simp; omega) fun h' eb => ⟨rfl, I.turned (t' := s.toks) (fun b o hb e => eb b o hb e) f0 f1 f3 f4 f5⟩
  self := fun _ _ _ _ _ st h => wpAny_pyIter_tupleiter st h
theorem turn_range {P : Program} {w : World} {K : PySem.W.Frag} {tg : Expr} (it : Addr) (lo : Int) (n : Nat) : Turn P w K tg (Itr lo n) [it] it (fun i h => IsRangeIter h it (lo + (i : Nat) * 1) ((n : Int) - (i : Nat)) 1) where
  mem := by simp
  obj := fun i h st b hb => by
    have e : b = it := by simpa using hb
    subst e
    exact ⟨_, st, fun v z => by
      have z' : Data.fields _ = Data.cell v := z
      cases z'⟩
  keep := fun i h h' st k => k it (by simp) _ st
  item := by
    intro X hP hw hK hc i pins s σ H E I hf st hg
    subst hP hw hK
    obtain ⟨f0, f1, f2, f3, f4, f5⟩ := hf it (by simp)
    have W := Walks.range (prog := X.prog) (w := X.w) (I.ok.hd hc) it lo 1 n
    refine W.item i s _ _ hg st fun v h' tk hv st' kk => ?_
    obtain ⟨t, rfl⟩ := hv
    have I1 : Inv X pins σ H { s with heap := h', toks := tk } := I.turned (fun b o hb e => kk b o (by simpa using hb) e) f0 f1 f3 f4 f5
    refine ⟨_, rfl, go_of (s := { s with heap := h', toks := tk }) (n := "range_iterator") st' rfl rfl (by decide) ⟨.int (lo + i), H, I1, ⟨t, ?_⟩, ⟨rfl, rfl⟩, st', fun b hb => (hf b hb).1⟩⟩
    rw [Int.mul_one]
  done := by
    intro X hP hw hK hc i pins s σ H E I hf st hg
    subst hP hw hK
    obtain ⟨f0, f1, f2, f3, f4, f5⟩ := hf it (by simp)
    exact wpAny_pyNext_range_end (I.ok.hd hc) st (by have : n ≤ i := hg; omega) fun h' eb => ⟨rfl, I.turned (t' := s.toks) (fun b o hb e => eb b o hb e) f0 f1 f3 f4 f5⟩
  self := fun _ _ _ _ _ st h => wpAny_pyIter_rangeiter st h
end L2

namespace L2
open PySem PySem.Spec PyProof.Rows
section
variable {X : Cx} {tg : Expr}
def iList (K : PySem.W.Frag) (tl : TE) : TI := fun σ H R => tl σ H fun x H1 => ∃ a, x = .ref a ∧ (∃ xs, SqL K H1 a xs) ∧ R (Itl K a) H1
def iTup (K : PySem.W.Frag) (tl : TE) : TI := fun σ H R => tl σ H fun x H1 => ∃ a, x = .ref a ∧ (∃ xs, SqT K H1 a xs) ∧ R (Itt K a) H1
theorem pi_list {l : Expr} {tl : TE} (hl : PE X l tl) : PI X tg l (iList X.K tl) := by
  intro pins s σ H R I h
  refine thn (hl pins s σ H _ I h) fun v s1 ⟨x, H1, I1, r1, q1⟩ => ?_
  obtain ⟨a, e, ⟨xs, hq⟩, q⟩ := q1
  subst e
  cases r1
  obtain ⟨its, rv, p, hz⟩ := I1.list hq
  refine wpAny_pyIter_list p.isList ?_
  refine ⟨s1.heap.objs.size, [s1.heap.objs.size], _, _, H1, rfl, I1.kept (t' := s1.toks) fun b o e => Heap.get?_push_of_some _ e, turn_list a _, ⟨_, Heap.get?_push_size _ rfl, rfl, rfl⟩, fun b hb => ?_, q⟩
  have e : b = s1.heap.objs.size := by simpa using hb
  subst e
  exact I1.fpOk (Nat.le_refl _) (I1.hok.fresh (Nat.le_refl _))
theorem pi_tup {l : Expr} {tl : TE} (hl : PE X l tl) : PI X tg l (iTup X.K tl) := by
  intro pins s σ H R I h
  refine thn (hl pins s σ H _ I h) fun v s1 ⟨x, H1, I1, r1, q1⟩ => ?_
  obtain ⟨a, e, ⟨xs, hq⟩, q⟩ := q1
  subst e
  cases r1
  obtain ⟨its, rv, p, hz⟩ := I1.tuple hq
  refine wpAny_pyIter_tuple (show s1.heap.IsTuple a its.toArray from p) ?_
  refine ⟨s1.heap.objs.size, [s1.heap.objs.size], _, _, H1, rfl, I1.kept (t' := s1.toks) fun b o e => Heap.get?_push_of_some _ e, turn_tuple a _, ⟨_, Heap.get?_push_size _ rfl, rfl, rfl⟩, fun b hb => ?_, q⟩
  have e : b = s1.heap.objs.size := by simpa using hb
  subst e
  exact I1.fpOk (Nat.le_refl _) (I1.hok.fresh (Nat.le_refl _))
/-- a range object just made, walked -/
theorem range_it {pins : List (Addr × Obj)} {σ : St} {H : Hp} {s : Shared} {R : It → Hp → Prop} {E : Value → Shared → Prop} {lo hi : Int} {t u v : Tok} {tk : Nat} (I : Inv X pins σ H s) (h1 : -(2 ^ 62) ≤ lo) (h2 : lo < 2 ^ 62) (h3 : -(2 ^ 62) ≤ hi) (h4 : hi < 2 ^ 62)
    (q : R (Itr lo (hi - lo).toNat) H) : wpAny (model X.prog X.w) X.A (pyIter (.ref s.heap.objs.size)) (PIE X pins σ tg R) E { s with heap := s.heap.push { cls := .type "range", data := .fields #[.int lo t, .int hi u, .int 1 v] }, toks := tk } := by
  refine wpAny_pyIter_range (IsRange.new ..) (small_one h1 h2 h3 h4) ?_
  have I1 : Inv X pins σ H { s with heap := s.heap.push { cls := .type "range", data := .fields #[.int lo t, .int hi u, .int 1 v] }, toks := tk } := I.kept fun b o e => Heap.get?_push_of_some _ e
  refine ⟨(s.heap.push { cls := .type "range", data := .fields #[.int lo t, .int hi u, .int 1 v] }).objs.size, [(s.heap.push { cls := .type "range", data := .fields #[.int lo t, .int hi u, .int 1 v] }).objs.size], _, _, H, rfl,
    I1.kept (t' := tk) fun b o e => Heap.get?_push_of_some _ e, turn_range _ lo (hi - lo).toNat, ?_, fun b hb => ?_, q⟩
  · have e1 : lo + ((0 : Nat) : Int) * 1 = lo := by simp
    have e2 : (((hi - lo).toNat : Nat) : Int) - ((0 : Nat) : Int) = Builtin.Range.rangeSize lo hi 1 := by rw [rangeSize_one]; split <;> omega
    show IsRangeIter _ _ (lo + ((0 : Nat) : Int) * 1) ((((hi - lo).toNat : Nat) : Int) - ((0 : Nat) : Int)) 1
    rw [e1, e2]
    exact Heap.get?_push_size _ rfl
  · have e : b = (s.heap.push { cls := .type "range", data := .fields #[.int lo t, .int hi u, .int 1 v] }).objs.size := by simpa using hb
    subst e
    exact I1.fpOk (Nat.le_refl _) (I1.hok.fresh (Nat.le_refl _))
def iRng1 (ta : TA) : TI := fun σ H R => ta σ H fun vs H1 => ∃ j : Int, vs = [.int j] ∧ -(2 ^ 62) ≤ j ∧ j < 2 ^ 62 ∧ R (Itr 0 j.toNat) H1
def iRng2 (ta : TA) : TI := fun σ H R => ta σ H fun vs H1 => ∃ i j : Int, vs = [.int i, .int j] ∧ (-(2 ^ 62) ≤ i ∧ i < 2 ^ 62 ∧ -(2 ^ 62) ≤ j ∧ j < 2 ^ 62) ∧ R (Itr i (j - i).toNat) H1
theorem pi_range1 {a : Expr} {ta : TA} {p pos : Pos} (hg : Gl X "range") (hm : X.mg "range" = none) (ha : PA X [a] ta) (hs : starEach [a] X.env = [(false, eval a X.env)] := by rfl) : PI X tg (.Call (.Name "range" p) [a] [] pos) (iRng1 ta) := by
  intro pins s σ H R I h
  refine Call_ (ld_blt I hg hm boot_range (PyProof.Rows.callWith_type1 (thn (ha pos pins s σ H _ I h) fun us s1 ⟨vs, H1, I1, r1, q1⟩ => ?_) hs rfl))
  obtain ⟨j, e, q1, q2, q⟩ := q1
  subst e
  cases r1 with
  | cons r rr =>
    cases rr
    obtain ⟨t, rfl⟩ := r
    exact call_range_1 (range_it I1 (by omega) (by omega) q1 q2 (by simpa using q))
theorem pi_range2 {a b : Expr} {ta : TA} {p pos : Pos} (hg : Gl X "range") (hm : X.mg "range" = none) (ha : PA X [a, b] ta) (hs : starEach [a, b] X.env = [(false, eval a X.env), (false, eval b X.env)] := by rfl) (hs2 : starEach [b] X.env = [(false, eval b X.env)] := by rfl) :
    PI X tg (.Call (.Name "range" p) [a, b] [] pos) (iRng2 ta) := by
  intro pins s σ H R I h
  refine Call_ (ld_blt I hg hm boot_range (PyProof.Rows.callWith_type1 (thn (ha pos pins s σ H _ I h) fun us s1 ⟨vs, H1, I1, r1, q1⟩ => ?_) (by rw [hs, hs2]) (by rw [hs2]; rfl)))
  obtain ⟨i, j, e, ⟨q1, q2, q3, q4⟩, q⟩ := q1
  subst e
  cases r1 with
  | cons r rr =>
    cases rr with
    | cons r' rr =>
      cases rr
      obtain ⟨t, rfl⟩ := r
      obtain ⟨t', rfl⟩ := r'
      exact call_range_2 (range_it I1 q1 q2 q3 q4 q)

/-! ### for -/
/-- W: the invariant by the turn and a measure; N: what the body is to reach -/
def tFor (wi : TI) (g : TG) (tb : TS) : TS := fun D σ H => wi σ H fun J H1 => ∃ W : Nat → Nat → St → Hp → Prop, (∃ m, W 0 m σ H1) ∧ ∀ i m σ H, W i m σ H →
  (J.stop i H ∧ D.nx σ H) ∨ (J.go i H ∧ ∃ N : St → Hp → Prop, (∀ σ' H', N σ' H' → ∃ m', m' < m ∧ W (i + 1) m' σ' H') ∧ ∀ x H', J.yld i H x H' → g x σ H' fun σ2 H2 => tb { D with nx := N, ct := N, bk := D.nx } σ2 H2)
/-- the records at fp as they stand -/
def pinsAt (fp : List Addr) (h : Heap) : List (Addr × Obj) := fp.filterMap fun b => (h.get? b).map fun o => (b, o)
theorem mem_pinsAt {fp : List Addr} {h : Heap} {b : Addr} {o : Obj} (hb : b ∈ fp) (e : h.get? b = some o) : (b, o) ∈ pinsAt fp h := List.mem_filterMap.mpr ⟨b, hb, by rw [e]; rfl⟩
theorem of_pinsAt {fp : List Addr} {h : Heap} {p : Addr × Obj} (hp : p ∈ pinsAt fp h) : p.1 ∈ fp ∧ h.get? p.1 = some p.2 := by
  obtain ⟨b, hb, e⟩ := List.mem_filterMap.mp hp
  cases q : h.get? b with
  | none => rw [q] at e; cases e
  | some o =>
    rw [q] at e
    have e' : (b, o) = p := Option.some.inj e
    subst e'
    exact ⟨hb, q⟩
theorem Inv.pinned {pins : List (Addr × Obj)} {σ : St} {H : Hp} {s : Shared} {fp : List Addr} (I : Inv X pins σ H s) (hf : ∀ b ∈ fp, FpOk X pins H b) (ho : ∀ b ∈ fp, ∃ o, s.heap.get? b = some o ∧ ∀ v, o.data ≠ .cell v) : Inv X (pins ++ pinsAt fp s.heap) σ H s :=
  I.pins_of fun p hp => (List.mem_append.mp hp).elim (fun z => I.pin p (List.mem_append_right _ z)) fun z => by
    obtain ⟨hb, e⟩ := of_pinsAt z
    obtain ⟨f0, f1, f2, _⟩ := hf p.1 hb
    obtain ⟨o, e', d⟩ := ho p.1 hb
    rw [e] at e'; cases e'
    exact ⟨e, f0, f1, f2, d⟩
theorem Inv.unpinned {pins pl : List (Addr × Obj)} {σ : St} {H : Hp} {s : Shared} (I : Inv X (pins ++ pl) σ H s) : Inv X pins σ H s := I.pins_of fun p hp => I.pin p (List.mem_append_right _ (List.mem_append_left _ hp))
theorem ps_for {iter : Expr} {body : List Stmt} {wi : TI} {g : TG} {tb : TS} {pos : Pos} (hp : PassesOwn (model X.prog X.w) X.A X.env X.xe) (hc : X.calm = true) (hi : PI X tg iter wi) (hg : PG X tg g) (hb : PSs X body tb)
    (hs : ∀ x, foldedSetIterable iter X.env x = pure x := by intro _; rfl) : PS X (.For tg iter body [] pos) (tFor wi g tb) := by
  intro pins s σ H D I h
  refine wpAny_For (thn (hi pins s σ H _ I h) fun v s1 h1 => thn h1 fun itv s2 h2 => ?_) hs
  obtain ⟨it, fp, tn, J, H2, e, I2, T, st2, f2, W, ⟨m0, w0⟩, turn⟩ := h2
  subst e
  -- what stays true of the iterator's objects through the loop
  have stat : ∀ {H' : Hp}, (∀ b ∈ fp, H' b = none) → ∀ b ∈ fp, FpOk X pins H' b := fun hn b hb => ⟨hn b hb, (f2 b hb).2⟩
  refine codeAny_forLoop_any (fun n s' => ∃ i σ' H', Inv X pins σ' H' s' ∧ tn i s'.heap ∧ (∀ b ∈ fp, H' b = none) ∧ W i n σ' H') ?_ m0 ⟨0, σ, H2, I2, st2, fun b hb => (f2 b hb).1, w0⟩
  rintro n s3 ⟨i, σ3, H3, I3, st3, fr3, w3⟩
  rcases turn i n σ3 H3 w3 with ⟨stop, qn⟩ | ⟨go, N, hN, step⟩
  · refine wpAny_passesOwn hp (thn (T.done X rfl rfl rfl hc i pins s3 σ3 H3 X.xe I3 (stat fr3) st3 stop) fun r s4 ⟨hr, I4⟩ => ?_)
    subst hr
    exact wpAny_execs_nil ⟨σ3, H3, I4, qn⟩
  · refine wpAny_passesOwn hp (thn (T.item X rfl rfl rfl hc i pins s3 σ3 H3 X.xe I3 (stat fr3) st3 go) fun r s4 ⟨u, hr, h4⟩ => ?_)
    subst hr
    refine wpAny_passesOwn hp (thn h4 fun _ s5 ⟨x, H5, I5, r5, y5, st5, fr5⟩ => ?_)
    have I5' := I5.pinned (stat fr5) (T.obj _ _ st5)
    refine wpAny_passesOwn hp (thn (hg _ s5 σ3 H5 x u _ I5' r5 (step x H5 y5)) fun _ s6 ⟨σ6, H6, I6, q6⟩ => ?_)
    refine wpAny_passesOwn hp (thn (hb _ s6 σ6 H6 _ I6 q6) fun f s7 q7 => ?_)
    have again : ∀ {σ7 : St} {H7 : Hp}, Inv X (pins ++ pinsAt fp s5.heap) σ7 H7 s7 → N σ7 H7 → ∃ m, m < n ∧ ∃ i σ' H', Inv X pins σ' H' s7 ∧ tn i s7.heap ∧ (∀ b ∈ fp, H' b = none) ∧ W i m σ' H' := fun {σ7 H7} I7 n7 => by
      obtain ⟨m', hm, w7⟩ := hN σ7 H7 n7
      refine ⟨m', hm, i + 1, σ7, H7, I7.unpinned, T.keep _ _ _ st5 fun b hb o e => (I7.pin (b, o) (List.mem_append_right _ (List.mem_append_right _ (mem_pinsAt hb e)))).1, fun b hb => ?_, w7⟩
      obtain ⟨o, e, d⟩ := T.obj _ _ st5 b hb
      exact (I7.pin (b, o) (List.mem_append_right _ (List.mem_append_right _ (mem_pinsAt hb e)))).2.1
    cases f with
    | next => obtain ⟨σ7, H7, I7, n7⟩ := q7; exact again I7 n7
    | cont => obtain ⟨σ7, H7, I7, n7⟩ := q7; exact again I7 n7
    | brk => obtain ⟨σ7, H7, I7, q7⟩ := q7; exact ⟨σ7, H7, I7.unpinned, q7⟩
    | ret v => obtain ⟨x7, σ7, H7, I7, r7, q7⟩ := q7; exact ⟨x7, σ7, H7, I7.unpinned, r7, q7⟩
end

/-! ### the forms one uses -/
/-- over a list that the body leaves as it is -/
theorem for_list {K : PySem.W.Frag} {a : Addr} {xs : List V} {g : TG} {tb : TS} {D : Ends} {σ : St} {H : Hp} (Pv : Nat → St → Hp → Prop) (h0 : Pv 0 σ H) (hl : ∀ i σ H, i ≤ xs.length → Pv i σ H → SqL K H a xs)
    (hs : ∀ i x σ H, xs[i]? = some x → Pv i σ H → g x σ H fun σ2 H2 => tb { D with nx := Pv (i + 1), ct := Pv (i + 1), bk := D.nx } σ2 H2) (hd : ∀ σ H, Pv xs.length σ H → D.nx σ H) :
    ∃ W : Nat → Nat → St → Hp → Prop, (∃ m, W 0 m σ H) ∧ ∀ i m σ H, W i m σ H →
      ((Itl K a).stop i H ∧ D.nx σ H) ∨ ((Itl K a).go i H ∧ ∃ N : St → Hp → Prop, (∀ σ' H', N σ' H' → ∃ m', m' < m ∧ W (i + 1) m' σ' H') ∧ ∀ x H', (Itl K a).yld i H x H' → g x σ H' fun σ2 H2 => tb { D with nx := N, ct := N, bk := D.nx } σ2 H2) := by
  refine ⟨fun i m σ H => m = xs.length - i ∧ i ≤ xs.length ∧ Pv i σ H, ⟨xs.length, by simp, Nat.zero_le _, h0⟩, ?_⟩
  rintro i m σ H ⟨rfl, hi, p⟩
  have q := hl i σ H hi p
  by_cases hlt : i < xs.length
  · refine .inr ⟨⟨xs, xs[i], q, by simp [hlt]⟩, Pv (i + 1), fun σ' H' p' => ⟨xs.length - (i + 1), by omega, rfl, hlt, p'⟩, fun x H' y => ?_⟩
    obtain ⟨e, y⟩ := y
    subst e
    exact hs i x σ _ (y xs q) p
  · have e : i = xs.length := by omega
    subst e
    exact .inl ⟨⟨xs, q, Nat.le_refl _⟩, hd σ H p⟩
theorem for_tup {K : PySem.W.Frag} {a : Addr} {xs : List V} {g : TG} {tb : TS} {D : Ends} {σ : St} {H : Hp} (Pv : Nat → St → Hp → Prop) (h0 : Pv 0 σ H) (hl : ∀ i σ H, i ≤ xs.length → Pv i σ H → SqT K H a xs)
    (hs : ∀ i x σ H, xs[i]? = some x → Pv i σ H → g x σ H fun σ2 H2 => tb { D with nx := Pv (i + 1), ct := Pv (i + 1), bk := D.nx } σ2 H2) (hd : ∀ σ H, Pv xs.length σ H → D.nx σ H) :
    ∃ W : Nat → Nat → St → Hp → Prop, (∃ m, W 0 m σ H) ∧ ∀ i m σ H, W i m σ H →
      ((Itt K a).stop i H ∧ D.nx σ H) ∨ ((Itt K a).go i H ∧ ∃ N : St → Hp → Prop, (∀ σ' H', N σ' H' → ∃ m', m' < m ∧ W (i + 1) m' σ' H') ∧ ∀ x H', (Itt K a).yld i H x H' → g x σ H' fun σ2 H2 => tb { D with nx := N, ct := N, bk := D.nx } σ2 H2) := by
  refine ⟨fun i m σ H => m = xs.length - i ∧ i ≤ xs.length ∧ Pv i σ H, ⟨xs.length, by simp, Nat.zero_le _, h0⟩, ?_⟩
  rintro i m σ H ⟨rfl, hi, p⟩
  have q := hl i σ H hi p
  by_cases hlt : i < xs.length
  · refine .inr ⟨⟨xs, xs[i], q, by simp [hlt]⟩, Pv (i + 1), fun σ' H' p' => ⟨xs.length - (i + 1), by omega, rfl, hlt, p'⟩, fun x H' y => ?_⟩
    obtain ⟨e, y⟩ := y
    subst e
    exact hs i x σ _ (y xs q) p
  · have e : i = xs.length := by omega
    subst e
    exact .inl ⟨⟨xs, q, Nat.le_refl _⟩, hd σ H p⟩
theorem for_range {lo : Int} {n : Nat} {g : TG} {tb : TS} {D : Ends} {σ : St} {H : Hp} (Pv : Nat → St → Hp → Prop) (h0 : Pv 0 σ H)
    (hs : ∀ i σ H, i < n → Pv i σ H → g (.int (lo + i)) σ H fun σ2 H2 => tb { D with nx := Pv (i + 1), ct := Pv (i + 1), bk := D.nx } σ2 H2) (hd : ∀ σ H, Pv n σ H → D.nx σ H) :
    ∃ W : Nat → Nat → St → Hp → Prop, (∃ m, W 0 m σ H) ∧ ∀ i m σ H, W i m σ H →
      ((Itr lo n).stop i H ∧ D.nx σ H) ∨ ((Itr lo n).go i H ∧ ∃ N : St → Hp → Prop, (∀ σ' H', N σ' H' → ∃ m', m' < m ∧ W (i + 1) m' σ' H') ∧ ∀ x H', (Itr lo n).yld i H x H' → g x σ H' fun σ2 H2 => tb { D with nx := N, ct := N, bk := D.nx } σ2 H2) := by
  refine ⟨fun i m σ H => m = n - i ∧ i ≤ n ∧ Pv i σ H, ⟨n, by simp, Nat.zero_le _, h0⟩, ?_⟩
  rintro i m σ H ⟨rfl, hi, p⟩
  by_cases hlt : i < n
  · refine .inr ⟨hlt, Pv (i + 1), fun σ' H' p' => ⟨n - (i + 1), by omega, rfl, hlt, p'⟩, fun x H' y => ?_⟩
    obtain ⟨e, y⟩ := y
    subst e y
    exact hs i σ _ hlt p
  · have e : i = n := by omega
    subst e
    exact .inl ⟨Nat.le_refl _, hd σ H p⟩
/-- while, by a word and a measure of the state -/
theorem while_by {c : TT} {tb : TS} {D : Ends} {σ : St} {H : Hp} (Pv : St → Hp → Prop) (μ : St → Hp → Nat) (h0 : Pv σ H)
    (hs : ∀ σ H, Pv σ H → c σ H fun b H1 => if b = true then tb { D with nx := fun σ' H' => Pv σ' H' ∧ μ σ' H' < μ σ H, ct := fun σ' H' => Pv σ' H' ∧ μ σ' H' < μ σ H, bk := D.nx } σ H1 else D.nx σ H1)
    (mono : ∀ σ H Q Q', (∀ b H1, Q b H1 → Q' b H1) → c σ H Q → c σ H Q') : tWhile c tb D σ H := by
  refine ⟨fun m σ H => m = μ σ H ∧ Pv σ H, ⟨_, rfl, h0⟩, ?_⟩
  rintro m σ H ⟨rfl, p⟩
  refine mono σ H _ _ (fun b H1 q => ?_) (hs σ H p)
  cases b with
  | true => exact ⟨_, fun σ' H' ⟨p', l⟩ => ⟨_, l, rfl, p'⟩, q⟩
  | false => exact q
end L2

namespace L2
open PySem PySem.Spec PyProof.Rows

abbrev R2 := V → V → Hp → VK → Prop
/-- a two-place operation on values: f is binaryOp op, inplaceOp op or compareOp op -/
def OpR (X : Cx) (f : Value → Value → Sem Value) (r : R2) : Prop :=
  ∀ (pins : List (Addr × Obj)) (s : Shared) (σ : St) (H : Hp) (x y : V) (v u : Value) (Q : VK), Inv X pins σ H s → RelV x v → RelV y u → r x y H Q →
    wpAny (model X.prog X.w) X.A (f v u) (EP X pins σ Q) X.xe s
/-- a one-place operation -/
def UnR (X : Cx) (f : Value → Sem Value) (r : V → Hp → VK → Prop) : Prop :=
  ∀ (pins : List (Addr × Obj)) (s : Shared) (σ : St) (H : Hp) (x : V) (v : Value) (Q : VK), Inv X pins σ H s → RelV x v → r x H Q →
    wpAny (model X.prog X.w) X.A (f v) (EP X pins σ Q) X.xe s
/-- a call of a value that is known (a builtin, a type) with values -/
def CallR (X : Cx) (f : Value) (r : List V → Hp → VK → Prop) : Prop :=
  ∀ (pins : List (Addr × Obj)) (s : Shared) (σ : St) (H : Hp) (xs : List V) (us : List Value) (Q : VK), Inv X pins σ H s → Vals xs us → r xs H Q →
    wpAny (model X.prog X.w) X.A (call f us) (EP X pins σ Q) X.xe s
/-- a value's truth -/
def TruR (X : Cx) (r : V → Hp → (Bool → Hp → Prop) → Prop) : Prop :=
  ∀ (pins : List (Addr × Obj)) (s : Shared) (σ : St) (H : Hp) (x : V) (v : Value) (Q : Bool → Hp → Prop), Inv X pins σ H s → RelV x v → r x H Q →
    wpAny (model X.prog X.w) X.A (truthy v) (TP X pins σ Q) X.xe s

def tOp (r : R2) (ta tb : TE) : TE := fun σ H Q => ta σ H fun x H1 => tb σ H1 fun y H2 => r x y H2 Q
def tUn (r : V → Hp → VK → Prop) (ta : TE) : TE := fun σ H Q => ta σ H fun x H1 => r x H1 Q
/-- ints in, under C, and a value out -/
def rI (C : Int → Int → Prop) (g : Int → Int → V) : R2 := fun x y H Q => ∃ i j, x = .int i ∧ y = .int j ∧ C i j ∧ Q (g i j) H
def rI0 (g : Int → Int → V) : R2 := fun x y H Q => ∃ i j, x = .int i ∧ y = .int j ∧ Q (g i j) H
def rU (g : Int → V) : V → Hp → VK → Prop := fun x H Q => ∃ i, x = .int i ∧ Q (g i) H

section
variable {X : Cx} {a b c : Expr} {ta tb tc : TE} {pos : Pos}

theorem binT (ha : PE X a ta) (hb : PE X b tb) {pins : List (Addr × Obj)} {s : Shared} {σ : St} {H : Hp} {R : V → V → Hp → Prop} (I : Inv X pins σ H s)
    (h : ta σ H fun x H1 => tb σ H1 fun y H2 => R x y H2) {Q : Value → Shared → Prop} {f : Value → Value → Sem Value}
    (hf : ∀ v u s2 x y H2, Inv X pins σ H2 s2 → RelV x v → RelV y u → R x y H2 → wpAny (model X.prog X.w) X.A (f v u) Q X.xe s2) :
    wpAny (model X.prog X.w) X.A (eval a X.env) (fun v s₁ => wpAny (model X.prog X.w) X.A (eval b X.env) (fun u s₂ => wpAny (model X.prog X.w) X.A (f v u) Q X.xe s₂) X.xe s₁) X.xe s := by
  refine thn (ha pins s σ H _ I h) fun v s1 ⟨x, H1, I1, r1, q1⟩ => ?_
  refine thn (hb pins s1 σ H1 _ I1 q1) fun u s2 ⟨y, H2, I2, r2, q2⟩ => ?_
  exact hf v u s2 x y H2 I2 r1 r2 q2

theorem pe_op {op : Operator} {r : R2} (ho : OpR X (binaryOp op) r) (ha : PE X a ta) (hb : PE X b tb) : PE X (.BinOp a op b pos) (tOp r ta tb) := by
  intro pins s σ H Q I h
  exact wpAny_BinOp (binT ha hb I h fun v u s2 x y H2 I2 rx ry q => ho pins s2 σ H2 x y v u Q I2 rx ry q)
theorem pe_un {op : UnaryOp} {r : V → Hp → VK → Prop} (ho : UnR X (unaryOp op) r) (ha : PE X a ta) : PE X (.UnaryOp op a pos) (tUn r ta) := by
  intro pins s σ H Q I h
  exact UnaryOp_ (thn (ha pins s σ H _ I h) fun v s1 ⟨x, H1, I1, r1, q1⟩ => ho pins s1 σ H1 x v Q I1 r1 q1)
/-- a op= e at a name: the name's slot i -/
theorem augR {op : Operator} {r : R2} (ho : OpR X (inplaceOp op) r) {pins : List (Addr × Obj)} {s : Shared} {σ : St} {H : Hp} {x y : V} {v u : Value} {Q : VK} (I : Inv X pins σ H s)
    (rx : RelV x v) (ry : RelV y u) (q : r x y H Q) : wpAny (model X.prog X.w) X.A (inplaceOp op v u) (EP X pins σ Q) X.xe s := ho pins s σ H x y v u Q I rx ry q

/-! ### ints -/
theorem opI {f : Value → Value → Sem Value} {C : Int → Int → Prop} {g : Int → Int → Int}
    (rule : ∀ (i j : Int) (t u : Tok) (s : Shared) (Q : Value → Shared → Prop) (E : Value → Shared → Prop), C i j → Q (.int (g i j) s.toks) { s with toks := s.toks + 1 } → wpAny (model X.prog X.w) X.A (f (.int i t) (.int j u)) Q E s) :
    OpR X f (rI C fun i j => .int (g i j)) := by
  intro pins s σ H x y v u Q I rx ry h
  obtain ⟨i, j, rfl, rfl, hc, q⟩ := h
  obtain ⟨t, rfl⟩ := rx
  obtain ⟨t', rfl⟩ := ry
  exact rule i j t t' s _ _ hc ⟨.int (g i j), H, I.tok _, ⟨_, rfl⟩, q⟩
theorem opI0 {f : Value → Value → Sem Value} {g : Int → Int → Int}
    (rule : ∀ (i j : Int) (t u : Tok) (s : Shared) (Q : Value → Shared → Prop) (E : Value → Shared → Prop), Q (.int (g i j) s.toks) { s with toks := s.toks + 1 } → wpAny (model X.prog X.w) X.A (f (.int i t) (.int j u)) Q E s) :
    OpR X f (rI0 fun i j => .int (g i j)) := by
  intro pins s σ H x y v u Q I rx ry h
  obtain ⟨i, j, rfl, rfl, q⟩ := h
  obtain ⟨t, rfl⟩ := rx
  obtain ⟨t', rfl⟩ := ry
  exact rule i j t t' s _ _ ⟨.int (g i j), H, I.tok _, ⟨_, rfl⟩, q⟩
theorem opB0 {f : Value → Value → Sem Value} {g : Int → Int → Bool}
    (rule : ∀ (i j : Int) (t u : Tok) (s : Shared) (Q : Value → Shared → Prop) (E : Value → Shared → Prop), Q (.bool (g i j)) s → wpAny (model X.prog X.w) X.A (f (.int i t) (.int j u)) Q E s) :
    OpR X f (rI0 fun i j => .bl (g i j)) := by
  intro pins s σ H x y v u Q I rx ry h
  obtain ⟨i, j, rfl, rfl, q⟩ := h
  obtain ⟨t, rfl⟩ := rx
  obtain ⟨t', rfl⟩ := ry
  exact rule i j t t' s _ _ ⟨.bl (g i j), H, I, rfl, q⟩

def CDiv (i j : Int) : Prop := 0 < j ∧ j < 1073741824
def CDivN (i j : Int) : Prop := j ≠ 0 ∧ j.natAbs < 1073741824
def CPow (i j : Int) : Prop := 0 ≤ j ∧ j ≤ 1000000 ∧ i.natAbs < 2 ^ 64
def CMul (i j : Int) : Prop := (-(2 ^ 64) < i ∧ i < 2 ^ 64) ∨ (-(2 ^ 64) < j ∧ j < 2 ^ 64)
theorem CMul.ok {i j : Int} (h : CMul i j) : IntMulOk i j := by
  rcases h with ⟨h1, h2⟩ | ⟨h1, h2⟩
  · exact .of_left (intBits_le_64 h1 h2)
  · exact .of_right (intBits_le_64 h1 h2)
theorem two_pow_nn (k : Nat) : (0 : Int) ≤ 2 ^ k := by
  rw [two_pow_cast]
  exact Int.natCast_nonneg _

theorem op_add : OpR X (binaryOp .Add) (rI0 fun i j => .int (i + j)) := opI0 fun _ _ _ _ _ _ _ q => add_int q
theorem op_sub : OpR X (binaryOp .Sub) (rI0 fun i j => .int (i - j)) := opI0 fun _ _ _ _ _ _ _ q => sub_int q
theorem op_mul : OpR X (binaryOp .Mult) (rI CMul fun i j => .int (i * j)) := opI fun _ _ _ _ _ _ _ hc q => mul_int q hc.ok
/-- // by a positive divisor -/
theorem op_fdiv : OpR X (binaryOp .FloorDiv) (rI CDiv fun i j => .int (i / j)) := opI fun i j _ _ _ _ _ hc q => by
  have h1 : (0 : Int) < j := hc.1
  have h2 : j < 1073741824 := hc.2
  exact floordiv_int (by omega) (by rw [Int.fdiv_eq_ediv_of_nonneg i (by omega)]; exact q) (.inl (PyProof.noPylong_small (by omega)))
theorem op_fdivN : OpR X (binaryOp .FloorDiv) (rI CDivN fun i j => .int (i.fdiv j)) := opI fun _ _ _ _ _ _ _ hc q => floordiv_int hc.1 q (.inl (PyProof.noPylong_small hc.2))
/-- % by a positive divisor of any size -/
theorem op_mod : OpR X (binaryOp .Mod) (rI (fun _ j => 0 < j) fun i j => .int (i % j)) := opI fun i j _ _ _ _ _ hc q => by
  have h1 : (0 : Int) < j := hc
  exact mod_int' (by omega) (by rw [Int.fmod_eq_emod_of_nonneg i (by omega)]; exact q)
theorem op_modN : OpR X (binaryOp .Mod) (rI (fun _ j => j ≠ 0) fun i j => .int (i.fmod j)) := opI fun _ _ _ _ _ _ _ hc q => mod_int' hc q
theorem op_pow : OpR X (binaryOp .Pow) (rI CPow fun i j => .int (i ^ j.toNat)) := opI fun _ _ _ _ _ _ _ hc q => pow_int_small hc.1 hc.2.1 hc.2.2 q
theorem op_shl : OpR X (binaryOp .LShift) (rI CPow fun i j => .int (i * 2 ^ j.toNat)) := opI fun _ _ _ _ _ _ _ hc q => lshift_int_small hc.1 hc.2.1 hc.2.2 q
theorem op_shr : OpR X (binaryOp .RShift) (rI (fun _ j => 0 ≤ j) fun i j => .int (i / 2 ^ j.toNat)) := opI fun i j _ _ _ _ _ hc q =>
  rshift_int hc (by rw [Int.fdiv_eq_ediv_of_nonneg i (two_pow_nn _)]; exact q)
theorem op_and : OpR X (binaryOp .BitAnd) (rI0 fun i j => .int (Builtin.bitAnd i j)) := opI0 fun _ _ _ _ _ _ _ q => and_int q
theorem op_or : OpR X (binaryOp .BitOr) (rI0 fun i j => .int (Builtin.bitOr i j)) := opI0 fun _ _ _ _ _ _ _ q => or_int q
theorem op_xor : OpR X (binaryOp .BitXor) (rI0 fun i j => .int (Builtin.bitXor i j)) := opI0 fun _ _ _ _ _ _ _ q => xor_int q

theorem iop_add : OpR X (inplaceOp .Add) (rI0 fun i j => .int (i + j)) := opI0 fun _ _ _ _ _ _ _ q => iadd_int q
theorem iop_sub : OpR X (inplaceOp .Sub) (rI0 fun i j => .int (i - j)) := opI0 fun _ _ _ _ _ _ _ q => isub_int q
theorem iop_mul : OpR X (inplaceOp .Mult) (rI CMul fun i j => .int (i * j)) := opI fun _ _ _ _ _ _ _ hc q => imul_int q hc.ok
theorem iop_fdiv : OpR X (inplaceOp .FloorDiv) (rI CDiv fun i j => .int (i / j)) := opI fun i j _ _ _ _ _ hc q => by
  have h1 : (0 : Int) < j := hc.1
  have h2 : j < 1073741824 := hc.2
  exact ifloordiv_int (by omega) (by rw [Int.fdiv_eq_ediv_of_nonneg i (by omega)]; exact q) (.inl (PyProof.noPylong_small (by omega)))
theorem iop_mod : OpR X (inplaceOp .Mod) (rI (fun _ j => 0 < j) fun i j => .int (i % j)) := opI fun i j _ _ _ _ _ hc q => by
  have h1 : (0 : Int) < j := hc
  exact imod_int (by omega) (by rw [Int.fmod_eq_emod_of_nonneg i (by omega)]; exact q)
theorem iop_shl : OpR X (inplaceOp .LShift) (rI CPow fun i j => .int (i * 2 ^ j.toNat)) := opI fun _ _ _ _ _ _ _ hc q => ilshift_int_small hc.1 hc.2.1 hc.2.2 q
theorem iop_shr : OpR X (inplaceOp .RShift) (rI (fun _ j => 0 ≤ j) fun i j => .int (i / 2 ^ j.toNat)) := opI fun i j _ _ _ _ _ hc q =>
  irshift_int hc (by rw [Int.fdiv_eq_ediv_of_nonneg i (two_pow_nn _)]; exact q)
theorem iop_and : OpR X (inplaceOp .BitAnd) (rI0 fun i j => .int (Builtin.bitAnd i j)) := opI0 fun _ _ _ _ _ _ _ q => iand_int q
theorem iop_or : OpR X (inplaceOp .BitOr) (rI0 fun i j => .int (Builtin.bitOr i j)) := opI0 fun _ _ _ _ _ _ _ q => ior_int q
theorem iop_xor : OpR X (inplaceOp .BitXor) (rI0 fun i j => .int (Builtin.bitXor i j)) := opI0 fun _ _ _ _ _ _ _ q => ixor_int q

theorem unI {f : Value → Sem Value} {g : Int → Int}
    (rule : ∀ (i : Int) (t : Tok) (s : Shared) (Q : Value → Shared → Prop) (E : Value → Shared → Prop), Q (.int (g i) s.toks) { s with toks := s.toks + 1 } → wpAny (model X.prog X.w) X.A (f (.int i t)) Q E s) :
    UnR X f (rU fun i => .int (g i)) := by
  intro pins s σ H x v Q I rx h
  obtain ⟨i, rfl, q⟩ := h
  obtain ⟨t, rfl⟩ := rx
  exact rule i t s _ _ ⟨.int (g i), H, I.tok _, ⟨_, rfl⟩, q⟩
theorem un_neg : UnR X (unaryOp .USub) (rU fun i => .int (-i)) := unI fun _ _ _ _ _ q => neg_int q
theorem un_inv : UnR X (unaryOp .Invert) (rU fun i => .int (Builtin.bitNot i)) := unI fun _ _ _ _ _ q => invert_int q

/-! ### bools among ints: n += (a < b) -/
theorem op_add_ib : OpR X (binaryOp .Add) (fun x y H Q => ∃ i k, x = .int i ∧ y = .bl k ∧ Q (.int (i + b2i k)) H) := by
  intro pins s σ H x y v u Q I rx ry h
  obtain ⟨i, k, rfl, rfl, q⟩ := h
  obtain ⟨t, rfl⟩ := rx
  cases ry
  exact add_int_bool ⟨.int (i + b2i k), H, I.tok _, ⟨_, rfl⟩, q⟩
end

/-! ### comparisons -/
/-- the scalars that == tells apart as data does -/
def scal : V → V → Bool
  | .non, .non => true | .non, .int _ => true | .int _, .non => true | .non, .bl _ => true | .bl _, .non => true | .non, .str _ => true | .str _, .non => true
  | .int _, .int _ => true | .bl _, .bl _ => true | .str _, .str _ => true | .byt _, .byt _ => true
  | .int _, .str _ => true | .str _, .int _ => true | .bl _, .str _ => true | .str _, .bl _ => true
  | _, _ => false
def rEq : R2 := fun x y H Q => scal x y = true ∧ Q (.bl (decide (x = y))) H
def rNe : R2 := fun x y H Q => scal x y = true ∧ Q (.bl (!decide (x = y))) H

theorem dec_int {i j : Int} : decide (V.int i = V.int j) = (i == j) := by
  rw [Bool.eq_iff_iff]
  simp
theorem dec_bl {i j : Bool} : decide (V.bl i = V.bl j) = (i == j) := by
  rw [Bool.eq_iff_iff]
  simp
theorem dec_str {i j : Str} : decide (V.str i = V.str j) = (i == j) := by
  rw [Bool.eq_iff_iff]
  simp
theorem dec_byt {i j : Array UInt8} : decide (V.byt i = V.byt j) = (i.toList == j.toList) := by
  rw [Bool.eq_iff_iff]
  cases i
  cases j
  simp

section
variable {X : Cx} {a b c : Expr} {ta tb tc : TE} {pos : Pos}
theorem fin_bl {pins : List (Addr × Obj)} {σ : St} {H : Hp} {s : Shared} {Q : VK} {k k' : Bool} (I : Inv X pins σ H s) (q : Q (.bl k) H) (e : k = k') : EP X pins σ Q (.bool k') s := by
  subst e
  exact ⟨.bl k, H, I, rfl, q⟩
theorem op_eq : OpR X (compareOp .Eq) rEq := by
  intro pins s σ H x y v u Q I rx ry h
  obtain ⟨hs, q⟩ := h
  cases x with
  | non =>
    cases rx
    cases y with
    | non => cases ry; exact PySem.EqNone.eq_none_none (fin_bl I q (by simp))
    | bl j => cases ry; exact PySem.EqNone.eq_none_bool (fin_bl I q (by simp))
    | int j => obtain ⟨t', rfl⟩ := ry; exact PySem.EqNone.eq_none_int (fin_bl I q (by simp))
    | str j => obtain ⟨t', rfl⟩ := ry; exact PySem.EqNone.eq_none_str (fin_bl I q (by simp))
    | _ => exact absurd (show false = true from hs) Bool.false_ne_true
  | bl i =>
    cases rx
    cases y with
    | non => cases ry; exact PySem.EqNone.eq_bool_none (fin_bl I q (by simp))
    | bl j => cases ry; exact eq_bool (fin_bl I q dec_bl)
    | str j => obtain ⟨t', rfl⟩ := ry; exact PySem.EqMixed.eq_bool_str (fin_bl I q (by simp))
    | _ => exact absurd (show false = true from hs) Bool.false_ne_true
  | int i =>
    obtain ⟨t, rfl⟩ := rx
    cases y with
    | non => cases ry; exact PySem.EqNone.eq_int_none (fin_bl I q (by simp))
    | int j => obtain ⟨t', rfl⟩ := ry; exact eq_int (fin_bl I q dec_int)
    | str j => obtain ⟨t', rfl⟩ := ry; exact PySem.EqMixed.eq_int_str (fin_bl I q (by simp))
    | _ => exact absurd (show false = true from hs) Bool.false_ne_true
  | str i =>
    obtain ⟨t, rfl⟩ := rx
    cases y with
    | non => cases ry; exact PySem.EqNone.eq_str_none (fin_bl I q (by simp))
    | bl j => cases ry; exact PySem.EqMixed.eq_str_bool (fin_bl I q (by simp))
    | int j => obtain ⟨t', rfl⟩ := ry; exact PySem.EqMixed.eq_str_int (fin_bl I q (by simp))
    | str j => obtain ⟨t', rfl⟩ := ry; exact eq_str (fin_bl I q dec_str)
    | _ => exact absurd (show false = true from hs) Bool.false_ne_true
  | byt i =>
    obtain ⟨t, rfl⟩ := rx
    cases y with
    | byt j => obtain ⟨t', rfl⟩ := ry; exact PySem.W.eq_bytes (fin_bl I q dec_byt)
    | _ => exact absurd (show false = true from hs) Bool.false_ne_true
  | _ => cases y <;> exact absurd (show false = true from hs) Bool.false_ne_true
theorem op_ne : OpR X (compareOp .NotEq) rNe := by
  intro pins s σ H x y v u Q I rx ry h
  obtain ⟨hs, q⟩ := h
  cases x with
  | non =>
    cases rx
    cases y with
    | non => cases ry; exact PySem.EqNone.ne_none_none (fin_bl I q (by simp))
    | bl j => cases ry; exact PySem.EqNone.ne_none_bool (fin_bl I q (by simp))
    | int j => obtain ⟨t', rfl⟩ := ry; exact PySem.EqNone.ne_none_int (fin_bl I q (by simp))
    | str j => obtain ⟨t', rfl⟩ := ry; exact PySem.EqNone.ne_none_str (fin_bl I q (by simp))
    | _ => exact absurd (show false = true from hs) Bool.false_ne_true
  | bl i =>
    cases rx
    cases y with
    | non => cases ry; exact PySem.EqNone.ne_bool_none (fin_bl I q (by simp))
    | bl j => cases ry; exact ne_bool (fin_bl I q (congrArg not dec_bl))
    | str j => obtain ⟨t', rfl⟩ := ry; exact PySem.EqMixed.ne_bool_str (fin_bl I q (by simp))
    | _ => exact absurd (show false = true from hs) Bool.false_ne_true
  | int i =>
    obtain ⟨t, rfl⟩ := rx
    cases y with
    | non => cases ry; exact PySem.EqNone.ne_int_none (fin_bl I q (by simp))
    | int j => obtain ⟨t', rfl⟩ := ry; exact ne_int (fin_bl I q (congrArg not dec_int))
    | str j => obtain ⟨t', rfl⟩ := ry; exact PySem.EqMixed.ne_int_str (fin_bl I q (by simp))
    | _ => exact absurd (show false = true from hs) Bool.false_ne_true
  | str i =>
    obtain ⟨t, rfl⟩ := rx
    cases y with
    | non => cases ry; exact PySem.EqNone.ne_str_none (fin_bl I q (by simp))
    | bl j => cases ry; exact PySem.EqMixed.ne_str_bool (fin_bl I q (by simp))
    | int j => obtain ⟨t', rfl⟩ := ry; exact PySem.EqMixed.ne_str_int (fin_bl I q (by simp))
    | str j => obtain ⟨t', rfl⟩ := ry; exact ne_str (fin_bl I q (congrArg not dec_str))
    | _ => exact absurd (show false = true from hs) Bool.false_ne_true
  | byt i =>
    obtain ⟨t, rfl⟩ := rx
    cases y with
    | byt j => obtain ⟨t', rfl⟩ := ry; exact PySem.W.ne_bytes (fin_bl I q (congrArg not dec_byt))
    | _ => exact absurd (show false = true from hs) Bool.false_ne_true
  | _ => cases y <;> exact absurd (show false = true from hs) Bool.false_ne_true

theorem op_lt : OpR X (compareOp .Lt) (rI0 fun i j => .bl (decide (i < j))) := opB0 fun _ _ _ _ _ _ _ q => lt_int q
theorem op_le : OpR X (compareOp .LtE) (rI0 fun i j => .bl (decide (i ≤ j))) := opB0 fun _ _ _ _ _ _ _ q => le_int q
theorem op_gt : OpR X (compareOp .Gt) (rI0 fun i j => .bl (decide (j < i))) := opB0 fun _ _ _ _ _ _ _ q => gt_int q
theorem op_ge : OpR X (compareOp .GtE) (rI0 fun i j => .bl (decide (j ≤ i))) := opB0 fun _ _ _ _ _ _ _ q => ge_int q
theorem op_lt_str : OpR X (compareOp .Lt) (fun x y H Q => ∃ i j, x = .str i ∧ y = .str j ∧ Q (.bl (decide (i.cps.toList < j.cps.toList))) H) := by
  intro pins s σ H x y v u Q I rx ry h
  obtain ⟨i, j, rfl, rfl, q⟩ := h
  obtain ⟨t, rfl⟩ := rx
  obtain ⟨t', rfl⟩ := ry
  exact lt_str (fin_bl I q rfl)
/-- the one string within the other -/
theorem op_in_str : OpR X (compareOp .In) (fun x y H Q => ∃ i j, x = .str i ∧ y = .str j ∧ Q (.bl (!(Builtin.Str.occurrences j i 0 j.length 1).isEmpty)) H) := by
  intro pins s σ H x y v u Q I rx ry h
  obtain ⟨i, j, rfl, rfl, q⟩ := h
  obtain ⟨t, rfl⟩ := rx
  obtain ⟨t', rfl⟩ := ry
  exact in_str (fin_bl I q rfl)

/-- is None, is not None: the right side a value none -/
theorem op_isN : OpR X (compareOp .Is) (fun x y H Q => y = .non ∧ Q (.bl (decide (x = .non))) H) := by
  intro pins s σ H x y v u Q I rx ry h
  obtain ⟨rfl, q⟩ := h
  cases ry
  refine is_none_gen (fin_bl I q ?_)
  cases x <;> first
    | (cases rx; rfl)
    | (obtain ⟨t, rfl⟩ := rx; rfl)
theorem op_notN : OpR X (compareOp .IsNot) (fun x y H Q => y = .non ∧ Q (.bl (!decide (x = .non))) H) := by
  intro pins s σ H x y v u Q I rx ry h
  obtain ⟨rfl, q⟩ := h
  cases ry
  refine isnot_none_gen (fin_bl I q ?_)
  cases x <;> first
    | (cases rx; rfl)
    | (obtain ⟨t, rfl⟩ := rx; rfl)

theorem op_notin_str : OpR X (compareOp .NotIn) (fun x y H Q => ∃ i j, x = .str i ∧ y = .str j ∧ Q (.bl (!(!(Builtin.Str.occurrences j i 0 j.length 1).isEmpty))) H) := by
  intro pins s σ H x y v u Q I rx ry h
  obtain ⟨i, j, rfl, rfl, q⟩ := h
  obtain ⟨t, rfl⟩ := rx
  obtain ⟨t', rfl⟩ := ry
  exact notIn_str (fin_bl I q rfl)
/-- is, is not of two objects that are tracked lists or instances -/
def isObj : HO → Bool
  | .lst _ => true
  | .ins _ _ _ => true
  | _ => false
theorem obj_there {pins : List (Addr × Obj)} {s : Shared} {σ : St} {H : Hp} {a : Addr} {o : HO} (I : Inv X pins σ H s) (h : H a = some o) (p : isObj o = true) : ∃ ob, s.heap.get? a = some ob ∧ ob.cls ≠ .type "tuple" := by
  cases o with
  | lst xs =>
    obtain ⟨_, its, n, _, e⟩ : xs.length ≤ sizeLine ∧ ∃ (its : List Value) (n : Nat), Vals xs its ∧ s.heap.get? a = some { cls := .type "list", data := .seq its.toArray n } := I.hok a _ h
    exact ⟨_, e, (by show Value.type "list" ≠ .type "tuple"; decide +kernel)⟩
  | ins C dx fs =>
    have x := I.hok a _ h
    obtain ⟨_, _, _, e, _⟩ := x
    exact ⟨_, e, (by show Value.ref C ≠ .type "tuple"; exact fun z => by cases z)⟩
  | _ => exact absurd (show false = true from p) Bool.false_ne_true
theorem op_is_ref : OpR X (compareOp .Is) (fun x y H Q => ∃ a b oa ob, x = .ref a ∧ y = .ref b ∧ H a = some oa ∧ isObj oa = true ∧ H b = some ob ∧ isObj ob = true ∧ Q (.bl (decide (a = b))) H) := by
  intro pins s σ H x y v u Q I rx ry h
  obtain ⟨a, b, oa, ob, rfl, rfl, ha, pa, hb, pb, q⟩ := h
  cases rx
  cases ry
  obtain ⟨o1, e1, n1⟩ := obj_there I ha pa
  obtain ⟨o2, e2, _⟩ := obj_there I hb pb
  by_cases z : a = b
  · subst z
    exact wpAny_is_ref_self (fin_bl I q (by simp))
  · exact wpAny_is_ref_other z e1 e2 n1 (fin_bl I q (by simp [z]))
theorem op_isnot_ref : OpR X (compareOp .IsNot) (fun x y H Q => ∃ a b oa ob, x = .ref a ∧ y = .ref b ∧ H a = some oa ∧ isObj oa = true ∧ H b = some ob ∧ isObj ob = true ∧ Q (.bl (!decide (a = b))) H) := by
  intro pins s σ H x y v u Q I rx ry h
  obtain ⟨a, b, oa, ob, rfl, rfl, ha, pa, hb, pb, q⟩ := h
  cases rx
  cases ry
  obtain ⟨o1, e1, n1⟩ := obj_there I ha pa
  obtain ⟨o2, e2, _⟩ := obj_there I hb pb
  by_cases z : a = b
  · subst z
    exact wpAny_isNot_ref_self (fin_bl I q (by simp))
  · exact wpAny_isNot_ref_other z e1 e2 n1 (fin_bl I q (by simp [z]))

/-- two rules for one operation: by cases -/
theorem OpR.or {f : Value → Value → Sem Value} {r r' : R2} (h : OpR X f r) (h' : OpR X f r') : OpR X f (fun x y H Q => r x y H Q ∨ r' x y H Q) := by
  intro pins s σ H x y v u Q I rx ry q
  rcases q with q | q
  · exact h pins s σ H x y v u Q I rx ry q
  · exact h' pins s σ H x y v u Q I rx ry q

theorem nomark (b : Expr) {op : CmpOp} (h : op ≠ .In := by decide) (h2 : op ≠ .NotIn := by decide) : behindInMarks op b = false := by
  have e1 : (op == CmpOp.In) = false := by cases op <;> first | rfl | exact absurd rfl h
  have e2 : (op == CmpOp.NotIn) = false := by cases op <;> first | rfl | exact absurd rfl h2
  cases b <;> simp [behindInMarks, e1, e2]
/-- a comparison as a value; hm: nomark b, or (for in, not in) by with_unfolding_all rfl -/
theorem pe_cmpR {op : CmpOp} {r : R2} (ho : OpR X (compareOp op) r) (ha : PE X a ta) (hb : PE X b tb) (hm : behindInMarks op b = false) : PE X (.Compare a [op] [b] pos) (tOp r ta tb) := by
  intro pins s σ H Q I h
  exact wpAny_Compare1 (binT ha hb I h fun v u s2 x y H2 I2 rx ry q => ho pins s2 σ H2 x y v u Q I2 rx ry q) hm
/-- a reading of a value as a test -/
def tTest (t : TE) : TT := fun σ H Q => t σ H fun x H' => ∃ k, x = .bl k ∧ Q k H'
theorem pt_cmpR {op : CmpOp} {r : R2} (ho : OpR X (compareOp op) r) (ha : PE X a ta) (hb : PE X b tb) (hm : behindInMarks op b = false) : PT X (.Compare a [op] [b] pos) (tTest (tOp r ta tb)) := by
  intro pins s σ H Q I h
  refine wpAny_isTrue_Compare1 (thn (ha pins s σ H _ I h) fun v s1 ⟨x, H1, I1, r1, q1⟩ => thn (hb pins s1 σ H1 _ I1 q1) fun u s2 ⟨y, H2, I2, r2, q2⟩ =>
    thn (ho pins s2 σ H2 x y v u _ I2 r1 r2 q2) fun c s3 ⟨z, H3, I3, r3, k, e, q3⟩ => ?_) hm
  subst e
  cases r3
  exact wpAny_truthy_bool ⟨H3, I3, q3⟩
/-- a op1 b op2 c -/
def tChain (r r' : R2) (ta tb tc : TE) : TE := fun σ H Q => ta σ H fun x H1 => tb σ H1 fun y H2 => r x y H2 fun z H3 => ∃ k, z = .bl k ∧
  (if k = true then tc σ H3 fun w' H4 => r' y w' H4 Q else Q (.bl false) H3)
theorem pe_chain {op op' : CmpOp} {r r' : R2} (ho : OpR X (compareOp op) r) (ho' : OpR X (compareOp op') r') (ha : PE X a ta) (hb : PE X b tb) (hc : PE X c tc)
    (hm : lastMarks [op, op'] [b, c] = false := by with_unfolding_all rfl) : PE X (.Compare a [op, op'] [b, c] pos) (tChain r r' ta tb tc) := by
  intro pins s σ H Q I h
  refine Compare_chain (thn (ha pins s σ H _ I h) fun v s1 ⟨x, H1, I1, r1, q1⟩ => chain_link (thn (hb pins s1 σ H1 _ I1 q1) fun u s2 ⟨y, H2, I2, r2, q2⟩ =>
    thn (ho pins s2 σ H2 x y v u _ I2 r1 r2 q2) fun d s3 ⟨z, H3, I3, r3, k, e, q3⟩ => ?_)) hm
  subst e
  cases r3
  refine wpAny_truthy_bool ?_
  cases k with
  | false => exact ite_ff ⟨.bl false, H3, I3, rfl, q3⟩
  | true => exact ite_tt (chain_last (thn (hc pins s3 σ H3 _ I3 q3) fun w' s4 ⟨z', H4, I4, r4, q4⟩ => ho' pins s4 σ H4 y z' u w' Q I4 r2 r4 q4))
theorem pt_chain {op op' : CmpOp} {r r' : R2} (ho : OpR X (compareOp op) r) (ho' : OpR X (compareOp op') r') (ha : PE X a ta) (hb : PE X b tb) (hc : PE X c tc)
    (hm : lastMarks [op, op'] [b, c] = false := by with_unfolding_all rfl) : PT X (.Compare a [op, op'] [b, c] pos) (tTest (tChain r r' ta tb tc)) := by
  intro pins s σ H Q I h
  refine isTrue_chain (thn (ha pins s σ H _ I h) fun v s1 ⟨x, H1, I1, r1, q1⟩ => test_link (thn (hb pins s1 σ H1 _ I1 q1) fun u s2 ⟨y, H2, I2, r2, q2⟩ =>
    thn (ho pins s2 σ H2 x y v u _ I2 r1 r2 q2) fun d s3 ⟨z, H3, I3, r3, k, e, q3⟩ => ?_)) hm
  subst e
  cases r3
  refine wpAny_truthy_bool ?_
  cases k with
  | false =>
    obtain ⟨k', e', q'⟩ := q3
    cases e'
    exact ite_ff ⟨H3, I3, q'⟩
  | true =>
    refine ite_tt (test_last (thn (hc pins s3 σ H3 _ I3 q3) fun w' s4 ⟨z', H4, I4, r4, q4⟩ => thn (ho' pins s4 σ H4 y z' u w' _ I4 r2 r4 q4) fun d' s5 ⟨z2, H5, I5, r5, k2, e2, q5⟩ => ?_))
    subst e2
    cases r5
    exact wpAny_truthy_bool ⟨H5, I5, q5⟩

/-! ### truth -/
/-- a value's truth by the abstract heap -/
def TruV (K : PySem.W.Frag) (x : V) (H : Hp) (k : Bool) : Prop :=
  match x with
  | .non => k = false
  | .bl b => k = b
  | .int i => k = (i != 0)
  | .str y => y.length ≤ sizeLine ∧ k = ((y.length : Int) != 0)
  | .byt y => y.size ≤ sizeLine ∧ k = ((y.size : Int) != 0)
  | .ref p => (∃ xs, SqL K H p xs ∧ k = !xs.isEmpty) ∨ (∃ xs, SqT K H p xs ∧ k = !xs.isEmpty) ∨ ∃ kvs, H p = some (.dK kvs) ∧ k = !kvs.isEmpty
  | _ => False
theorem isEmpty_kv {κ : Type} {kvs : List (κ × V)} {vs : List (κ × Value)} (r : KV kvs vs) : (!vs.isEmpty) = !kvs.isEmpty := by
  cases r <;> rfl
theorem isEmpty_of {xs : List V} {its : List Value} (r : Vals xs its) : (!its.toArray.isEmpty) = !xs.isEmpty := by
  cases r <;> simp
theorem line63 : (sizeLine : Nat) < 2 ^ 63 := by rw [sizeLine_eq]; decide
theorem tru_ok : TruR X (fun x H Q => ∃ k, TruV X.K x H k ∧ Q k H) := by
  intro pins s σ H x v Q I rx h
  obtain ⟨k, e, q⟩ := h
  have hl := line63
  have hs : sizeLine = 16777216 := sizeLine_eq
  cases x with
  | non =>
    cases rx
    have e' : k = false := e
    subst e'
    exact truthy_none ⟨H, I, q⟩
  | bl b =>
    cases rx
    have e' : k = b := e
    subst e'
    exact wpAny_truthy_bool ⟨H, I, q⟩
  | int i =>
    obtain ⟨t, rfl⟩ := rx
    have e' : k = (i != 0) := e
    subst e'
    exact PySem.P.truthy_int ⟨H, I, q⟩
  | str y =>
    obtain ⟨t, rfl⟩ := rx
    obtain ⟨hy, e'⟩ : y.length ≤ sizeLine ∧ k = ((y.length : Int) != 0) := e
    subst e'
    exact PySem.P.truthy_str (by omega) ⟨H, I.tok _, q⟩
  | byt y =>
    obtain ⟨t, rfl⟩ := rx
    obtain ⟨hy, e'⟩ : y.size ≤ sizeLine ∧ k = ((y.size : Int) != 0) := e
    subst e'
    exact PySem.W.truthy_bytes (by omega) ⟨H, I.tok _, q⟩
  | ref p =>
    cases rx
    have e' : (∃ xs, SqL X.K H p xs ∧ k = !xs.isEmpty) ∨ (∃ xs, SqT X.K H p xs ∧ k = !xs.isEmpty) ∨ ∃ kvs, H p = some (.dK kvs) ∧ k = !kvs.isEmpty := e
    rcases e' with ⟨xs, hx, e'⟩ | ⟨xs, hx, e'⟩ | ⟨kvs, hx, e'⟩
    · subst e'
      obtain ⟨its, r, pl, hz⟩ := I.list hx
      have hlen := r.length
      exact wpAny_truthy_list pl.isList (by simp only [List.size_toArray]; omega) ⟨H, I.tok _, by rw [isEmpty_of r]; exact q⟩
    · subst e'
      obtain ⟨its, r, pl, hz⟩ := I.tuple hx
      have hlen := r.length
      exact truthy_tuple pl (by simp only [List.size_toArray]; omega) ⟨H, I.tok _, by rw [isEmpty_of r]; exact q⟩
    · subst e'
      obtain ⟨hz, hS, vs, r, m⟩ : kvs.length ≤ sizeLine ∧ (p == sysModules) = false ∧ ∃ vs, KV kvs vs ∧ s.heap.DictOf (mixKind X.prog X.w) p vs := I.hok p _ hx
      have hlen : kvs.length = vs.length := Paired.length r
      exact wpAny_truthy_dict hS m (by omega) ⟨H, I.tok _, by rw [isEmpty_kv r]; exact q⟩
  | _ => exact (show False from e).elim
/-- any expression whose test is its value's truth (a name, a call, a subscript, a field ..: he by fun _ => rfl) -/
theorem pt_truth (ha : PE X a ta) (he : ∀ whole, isTrue a X.env whole = (do let v ← whole; standAt a.pos; holding [v] (truthy v))) :
    PT X a (fun σ H Q => ta σ H fun x H' => ∃ k, TruV X.K x H' k ∧ Q k H') := by
  intro pins s σ H Q I h
  exact isTrue_plain (thn (ha pins s σ H _ I h) fun v s1 ⟨x, H1, I1, r1, q1⟩ => tru_ok pins s1 σ H1 x v Q I1 r1 q1) (he _)

/-! ### strs and bytes -/
theorem pe_byt {x : List UInt8} {k : Nat} : PE X (.Constant (.bytes x) k pos) (fun _ H Q => Q (.byt x.toArray) H) := fun _ _ _ H _ I h => PySem.W.Constant_bytes ⟨.byt x.toArray, H, I.tok _, ⟨_, rfl⟩, h⟩
theorem op_add_str : OpR X (binaryOp .Add) (fun x y H Q => ∃ i j, x = .str i ∧ y = .str j ∧ i.length + j.length ≤ sizeLine ∧ Q (.str (i ++ j)) H) := by
  intro pins s σ H x y v u Q I rx ry h
  obtain ⟨i, j, rfl, rfl, hz, q⟩ := h
  obtain ⟨t, rfl⟩ := rx
  obtain ⟨t', rfl⟩ := ry
  exact add_str (fun t' tk => ⟨.str (i ++ j), H, I.tok _, ⟨_, rfl⟩, q⟩) hz
theorem iop_add_str : OpR X (inplaceOp .Add) (fun x y H Q => ∃ i j, x = .str i ∧ y = .str j ∧ i.length + j.length ≤ sizeLine ∧ Q (.str (i ++ j)) H) := by
  intro pins s σ H x y v u Q I rx ry h
  obtain ⟨i, j, rfl, rfl, hz, q⟩ := h
  obtain ⟨t, rfl⟩ := rx
  obtain ⟨t', rfl⟩ := ry
  exact iadd_str (fun t' tk => ⟨.str (i ++ j), H, I.tok _, ⟨_, rfl⟩, q⟩) hz
theorem op_add_byt : OpR X (binaryOp .Add) (fun x y H Q => ∃ i j, x = .byt i ∧ y = .byt j ∧ i.size + j.size ≤ 16777216 ∧ Q (.byt (i ++ j)) H) := by
  intro pins s σ H x y v u Q I rx ry h
  obtain ⟨i, j, rfl, rfl, hz, q⟩ := h
  obtain ⟨t, rfl⟩ := rx
  obtain ⟨t', rfl⟩ := ry
  exact PySem.W.KBy.add_bytes hz (fun t' tk => ⟨.byt (i ++ j), H, I.tok _, ⟨_, rfl⟩, q⟩)

def PlainIxT (b : Expr) : Prop := ∀ o i, subscripted b false o i = operate [o, i] (getItem o i)
/-- s[i], 0 ≤ i < len -/
theorem pe_item_str (ha : PE X a ta) (hb : PE X b tb) (hs : PlainIxT b) :
    PE X (.Subscript a b pos) (tOp (fun x y H Q => ∃ z i c, x = .str z ∧ y = .int i ∧ 0 ≤ i ∧ i < 2 ^ 63 ∧ i < z.length ∧ z.cps[i.toNat]? = some c ∧ Q (.str ⟨#[c]⟩) H) ta tb) := by
  intro pins s σ H Q I h
  refine Subscript_ (binT ha hb I h fun v u s2 x y H2 I2 rx ry q => ?_)
  obtain ⟨z, i, c, rfl, rfl, h0, h63, h1, hc, q⟩ := q
  obtain ⟨t, rfl⟩ := rx
  obtain ⟨t', rfl⟩ := ry
  have e : seqIndex? i z.length = some i.toNat := PySem.StrLaws.seqIndex_nonneg h0 h1
  exact tail_any (typeIs_str s2 z t) slot_str_getitem.lookup (getItem_str (c := c) (by
    have e1 : decide (i < -(2 ^ 63 : Int)) = false := decide_eq_false (by omega)
    have e2 : decide (i ≥ 2 ^ 63) = false := decide_eq_false (by omega)
    rw [e1, e2] <;> rfl) (by rw [e]; exact hc) ⟨.str ⟨#[c]⟩, H2, I2.tok _, ⟨_, rfl⟩, q⟩) (hs _ _)
/-- b[i], 0 ≤ i < len -/
theorem pe_item_byt (ha : PE X a ta) (hb : PE X b tb) (hs : PlainIxT b) :
    PE X (.Subscript a b pos) (tOp (fun x y H Q => ∃ (z : List UInt8) (i : Int), x = .byt z.toArray ∧ y = .int i ∧ z.length ≤ sizeLine ∧ 0 ≤ i ∧ i < z.length ∧ Q (.int ((z.getD i.toNat 0).toNat : Nat)) H) ta tb) := by
  intro pins s σ H Q I h
  refine Subscript_ (binT ha hb I h fun v u s2 x y H2 I2 rx ry q => ?_)
  obtain ⟨z, i, rfl, rfl, hz, h0, h1, q⟩ := q
  obtain ⟨t, rfl⟩ := rx
  obtain ⟨t', rfl⟩ := ry
  have hl : sizeLine = 16777216 := sizeLine_eq
  exact tail_any (PySem.W.typeIs_bytes s2 z.toArray t) PySem.W.FB.slot_bytes_getitem.lookup (PySem.W.getItem_bytes (by omega) h0 h1 ⟨.int ((z.getD i.toNat 0).toNat : Nat), H2, I2.tok _, ⟨_, rfl⟩, q⟩) (hs _ _)

/-! ### scalar builtins, by CallR -/
theorem vals1 {x : V} {us : List Value} (r : Vals [x] us) : ∃ u, us = [u] ∧ RelV x u := by
  cases r with
  | cons r1 r2 => cases r2; exact ⟨_, rfl, r1⟩
theorem vals2 {x y : V} {us : List Value} (r : Vals [x, y] us) : ∃ u w', us = [u, w'] ∧ RelV x u ∧ RelV y w' := by
  cases r with
  | cons r1 r2 =>
    cases r2 with
    | cons r3 r4 => cases r4; exact ⟨_, _, rfl, r1, r3⟩
theorem call_abs : CallR X (.builtin "abs") (fun xs H Q => ∃ i, xs = [.int i] ∧ Q (.int (if i < 0 then -i else i)) H) := by
  intro pins s σ H xs us Q I r h
  obtain ⟨i, rfl, q⟩ := h
  obtain ⟨u, rfl, t, rfl⟩ := vals1 r
  exact call_abs_int fun u tk => ⟨.int (if i < 0 then -i else i), H, I.tok _, ⟨_, rfl⟩, q⟩
theorem call_max2 (hc : X.calm = true) : CallR X (.builtin "max") (fun xs H Q => ∃ i j, xs = [.int i, .int j] ∧ Q (.int (if j > i then j else i)) H) := by
  intro pins s σ H xs us Q I r h
  obtain ⟨i, j, rfl, q⟩ := h
  obtain ⟨u, w', rfl, ⟨t, rfl⟩, ⟨t', rfl⟩⟩ := vals2 r
  refine max_two_ints (I.ok.hd hc) fun h' tk k => ⟨_, H, I.kept k, ?_, q⟩
  by_cases hj : j > i
  · rw [if_pos hj, if_pos hj]; exact ⟨_, rfl⟩
  · rw [if_neg hj, if_neg hj]; exact ⟨_, rfl⟩
theorem call_min2 (hc : X.calm = true) : CallR X (.builtin "min") (fun xs H Q => ∃ i j, xs = [.int i, .int j] ∧ Q (.int (if j < i then j else i)) H) := by
  intro pins s σ H xs us Q I r h
  obtain ⟨i, j, rfl, q⟩ := h
  obtain ⟨u, w', rfl, ⟨t, rfl⟩, ⟨t', rfl⟩⟩ := vals2 r
  refine min_two_ints (I.ok.hd hc) fun h' tk k => ⟨_, H, I.kept k, ?_, q⟩
  by_cases hj : j < i
  · rw [if_pos hj, if_pos hj]; exact ⟨_, rfl⟩
  · rw [if_neg hj, if_neg hj]; exact ⟨_, rfl⟩
theorem call_int1 : CallR X (.type "int") (fun xs H Q => (∃ i, xs = [.int i] ∧ Q (.int i) H) ∨ ∃ k, xs = [.bl k] ∧ Q (.int (if k then 1 else 0)) H) := by
  intro pins s σ H xs us Q I r h
  rcases h with ⟨i, rfl, q⟩ | ⟨k, rfl, q⟩
  · obtain ⟨u, rfl, t, rfl⟩ := vals1 r
    exact call_int_int ⟨.int i, H, I, ⟨_, rfl⟩, q⟩
  · obtain ⟨u, rfl, r1⟩ := vals1 r
    cases r1
    exact call_int_bool ⟨.int (if k then 1 else 0), H, I.tok _, ⟨_, rfl⟩, q⟩
theorem call_bool1 : CallR X (.type "bool") (fun xs H Q => (∃ i, xs = [.int i] ∧ Q (.bl (i != 0)) H) ∨ ∃ k, xs = [.bl k] ∧ Q (.bl k) H) := by
  intro pins s σ H xs us Q I r h
  rcases h with ⟨i, rfl, q⟩ | ⟨k, rfl, q⟩
  · obtain ⟨u, rfl, t, rfl⟩ := vals1 r
    exact call_bool_int ⟨.bl (i != 0), H, I, rfl, q⟩
  · obtain ⟨u, rfl, r1⟩ := vals1 r
    cases r1
    exact call_bool_bool ⟨.bl k, H, I, rfl, q⟩
theorem call_str_int : CallR X (.type "str") (fun xs H Q => ∃ i, xs = [.int i] ∧ i.natAbs.log2 < 1920 ∧ Q (.str (toString i)) H) := by
  intro pins s σ H xs us Q I r h
  obtain ⟨i, rfl, hz, q⟩ := h
  obtain ⟨u, rfl, t, rfl⟩ := vals1 r
  exact PySem.P.str_of_int hz ⟨.str _, H, I.tok _, ⟨_, rfl⟩, q⟩
theorem call_ord : CallR X (.builtin "ord") (fun xs H Q => ∃ x, xs = [.str x] ∧ x.length = 1 ∧ Q (.int (x.cps.getD 0 0 : Nat)) H) := by
  intro pins s σ H xs us Q I r h
  obtain ⟨x, rfl, hz, q⟩ := h
  obtain ⟨u, rfl, t, rfl⟩ := vals1 r
  exact ord_of_one hz ⟨.int _, H, I.tok _, ⟨_, rfl⟩, q⟩
theorem call_chr : CallR X (.builtin "chr") (fun xs H Q => ∃ i, xs = [.int i] ∧ 0 ≤ i ∧ i ≤ 1114111 ∧ Q (.str ⟨#[i.toNat]⟩) H) := by
  intro pins s σ H xs us Q I r h
  obtain ⟨i, rfl, h0, h1, q⟩ := h
  obtain ⟨u, rfl, t, rfl⟩ := vals1 r
  exact chr_of_range h0 h1 ⟨.str _, H, I.tok _, ⟨_, rfl⟩, q⟩
/-- len of a str, a bytes, a list, a tuple -/
def LenV (K : PySem.W.Frag) (x : V) (H : Hp) (n : Nat) : Prop :=
  match x with
  | .str y => y.length ≤ sizeLine ∧ n = y.length
  | .byt y => y.size ≤ sizeLine ∧ n = y.size
  | .ref p => (∃ xs, SqL K H p xs ∧ n = xs.length) ∨ ∃ xs, SqT K H p xs ∧ n = xs.length
  | _ => False
theorem call_len : CallR X (.builtin "len") (fun xs H Q => ∃ x n, xs = [x] ∧ LenV X.K x H n ∧ Q (.int n) H) := by
  intro pins s σ H xs us Q I r h
  obtain ⟨x, n, rfl, e, q⟩ := h
  obtain ⟨u, rfl, rx⟩ := vals1 r
  have hl := line63
  have hs : sizeLine = 16777216 := sizeLine_eq
  cases x with
  | str y =>
    obtain ⟨t, rfl⟩ := rx
    obtain ⟨hy, e'⟩ : y.length ≤ sizeLine ∧ n = y.length := e
    subst e'
    exact len_str (by omega) ⟨.int _, H, I.tok _, ⟨_, rfl⟩, q⟩
  | byt y =>
    obtain ⟨t, rfl⟩ := rx
    obtain ⟨hy, e'⟩ : y.size ≤ sizeLine ∧ n = y.size := e
    subst e'
    exact PySem.W.len_bytes (by omega) ⟨.int _, H, I.tok _, ⟨_, rfl⟩, q⟩
  | ref p =>
    cases rx
    have e' : (∃ xs, SqL X.K H p xs ∧ n = xs.length) ∨ ∃ xs, SqT X.K H p xs ∧ n = xs.length := e
    rcases e' with ⟨xs, hx, e'⟩ | ⟨xs, hx, e'⟩
    · subst e'
      obtain ⟨its, r', pl, hz⟩ := I.list hx
      have hlen := r'.length
      exact Calls.call_len_list pl.isList (by simp only [List.size_toArray]; omega) ⟨.int xs.length, H, I.tok _, ⟨_, by simp only [List.size_toArray]; rw [hlen]⟩, q⟩
    · subst e'
      obtain ⟨its, r', pl, hz⟩ := I.tuple hx
      have hlen := r'.length
      exact len_tuple pl (by simp only [List.size_toArray]; omega) ⟨.int xs.length, H, I.tok _, ⟨_, by simp only [List.size_toArray]; rw [hlen]⟩, q⟩
  | _ => exact (show False from e).elim
/-- divmod: a new tuple -/
theorem call_divmod : CallR X (.builtin "divmod") (fun xs H Q => ∃ i j, xs = [.int i, .int j] ∧ CDiv i j ∧ ∀ p, H p = none → Q (.ref p) (upd H p (.tup [.int (i / j), .int (i % j)]))) := by
  intro pins s σ H xs us Q I r h
  obtain ⟨i, j, rfl, ⟨h1, h2⟩, q⟩ := h
  obtain ⟨u, w', rfl, ⟨t, rfl⟩, ⟨t', rfl⟩⟩ := vals2 r
  refine divmod_int (by omega) ?_ (.inl (PyProof.noPylong_small (by omega)))
  rw [Int.fdiv_eq_ediv_of_nonneg i (by omega), Int.fmod_eq_emod_of_nonneg i (by omega)]
  have hn : H s.heap.objs.size = none := I.hok.fresh (Nat.le_refl _)
  refine ⟨.ref s.heap.objs.size, _, ?_, rfl, q _ hn⟩
  refine I.laid (fun b o e => Heap.get?_push_of_some _ e) (Nat.le_refl _) ⟨by simp only [List.length_cons, List.length_nil]; rw [sizeLine_eq]; decide, [.int (i / j) s.toks, .int (i % j) (s.toks + 1)], .cons ⟨_, rfl⟩ (.cons ⟨_, rfl⟩ .nil), ?_⟩
  exact ⟨_, Heap.get?_push_size s.heap rfl, rfl, 0, rfl⟩
end
end L2

namespace L2
open PySem PySem.Spec PyProof.Rows

/-! ### an instance, its attributes a map -/
structure ObjM (h : Heap) (x dx C : Addr) (mA : Str → Option Value) : Prop where
  obj : h.get? x = some (PySem.W.instObj C dx)
  ns : h.Ns1 dx mA
  ne : dx ≠ x

theorem lookIn_ns {h : Heap} {dx : Addr} {mA : Str → Option Value} (n : h.Ns1 dx mA) : ∃ od, h.get? dx = some od ∧ ∀ name, PySem.W.lookIn name od = some (mA name) := by
  obtain ⟨o, es, ep, ho, hd, hk, _, hm⟩ := n
  refine ⟨o, ho, fun name => ?_⟩
  have e := hm name
  unfold nsFind findBy at e
  rw [← Array.find?_toList] at e
  unfold PySem.W.lookIn
  rw [hd]
  dsimp only
  split
  · rename_i y q
    rw [q] at e
    exact congrArg some e
  · rename_i q
    rw [q] at e
    have a : es.toList.any (·.refKey) = false := by
      rw [List.any_eq_false]
      intro y hy
      obtain ⟨z, t, hkey⟩ := hk y (Array.mem_toList_iff.mp hy)
      simp [DictEntry.refKey, hkey]
    have a' : ¬ es.toList.any (·.refKey) = true := by rw [a]; exact Bool.false_ne_true
    rw [if_neg a']
    exact congrArg some e

theorem ObjM.look {h : Heap} {x dx C : Addr} {mA : Str → Option Value} (I : ObjM h x dx C mA) : ∃ od, PySem.W.InstAt h x (PySem.W.instObj C dx) C (some od) ∧ ∀ name, PySem.W.lookIn name od = some (mA name) :=
  let ⟨od, ho, hl⟩ := lookIn_ns I.ns
  ⟨od, ⟨I.obj, rfl, rfl, ho⟩, hl⟩

section
variable {prog : Program} {w : World} {A : Around} {E : Value → Shared → Prop} {s : Shared} {K : PySem.W.Frag} {x dx C f : Addr} {mA : Str → Option Value} {name : Str} {v : Value}

theorem get_map {expr : Bool} {Q : Value → Shared → Prop} (X : K.In s.heap) (I : ObjM s.heap x dx C mA) (hg : PySem.W.plainGet K C name = true) (hh : PySem.W.hasDictIn K C = true)
    (ha : PySem.W.findIn K (.ref C) name = some none) (hv : mA name = some v) (hv' : PySem.W.handedIn v = true) (h : Q v { s with toks := s.toks + 1 }) :
    wpAny (model prog w) A (getAttr (.ref x) name expr) Q E s := by
  obtain ⟨od, J, hl⟩ := I.look
  exact PySem.W.get_value X J (PySem.W.plainGet_of hg).1 (PySem.W.findObj_own hh ha rfl (by rw [hl, hv])) hv' h

theorem get_const {expr : Bool} {a : Value} {Q : Value → Shared → Prop} (X : K.In s.heap) (I : ObjM s.heap x dx C mA) (hg : PySem.W.plainGet K C name = true) (hh : PySem.W.hasDictIn K C = true)
    (ha : PySem.W.findIn K (.ref C) name = some (some a)) (hn : PySem.W.specialIn K a "__get__" = some none) (hc : PySem.W.copiedNames.contains name = false) (hv : mA name = none) (hv' : PySem.W.handedIn a = true)
    (h : Q a { s with toks := s.toks + 1 }) : wpAny (model prog w) A (getAttr (.ref x) name expr) Q E s := by
  obtain ⟨od, J, hl⟩ := I.look
  exact PySem.W.get_value X J (PySem.W.plainGet_of hg).1 (PySem.W.findObj_cls hh ha hn hv' hc (by rw [hl, hv])) hv' h

theorem get_meth {pl : Sem Bool} {Q : Value × List Value → Shared → Prop} (X : K.In s.heap) (I : ObjM s.heap x dx C mA) (hg : PySem.W.plainGet K C name = true)
    (hf : PySem.W.findIn K (.ref C) name = some (some (.ref f))) (ht : PySem.W.isFn K (.ref f) = true) (hv : mA name = none) (h : Q (.ref f, [.ref x]) s) :
    wpAny (model prog w) A (getMethod (.ref x) name pl) Q E s := by
  obtain ⟨od, J, hl⟩ := I.look
  exact PySem.W.method_fn X J (PySem.W.plainGet_of hg).1 (PySem.W.plainGet_of hg).2 hf (beq_iff_eq.mp ht) (by show (PySem.W.lookIn name od).map (·.isSome) = some false; rw [hl, hv]; rfl) h

theorem set_map {ns : List Str} {Q : Unit → Shared → Prop} (X : K.In s.heap) (I : ObjM s.heap x dx C mA)
    (hs : PySem.W.findIn K (.ref C) "__setattr__" = some (some (.builtin "object.__setattr__"))) (hp : PySem.W.plainOver K C = true) (ht : PySem.W.takerIn K C name = some none) (hh : PySem.W.hasDictIn K C = true)
    (hw : PySem.Within mA ns) (hsz : ns.length ≤ sizeLine)
    (h : ∀ h', ObjM h' x dx C (fun y => if y = name then some v else mA y) → Heap.SameBut dx s.heap h' → Q () { s with heap := h', toks := s.toks + 2 }) :
    wpAny (model prog w) A (setAttr (.ref x) name v) Q E s := by
  obtain ⟨od, J, hl⟩ := I.look
  refine PySem.W.set_plain X J hs (PySem.W.osa_open (s := { s with toks := s.toks + 1 }) (r := none) X J hp ht fun b => ?_)
  obtain ⟨cd, hc, hd'⟩ := PySem.W.any_some hh
  have hx : s.heap.get? x = some ⟨.ref C, some dx, .plain, #[]⟩ := I.obj
  refine wpAny_bind (wpAny_pure (wpAny_bind (wpAny_bind (wpAny_loadPart hx (wpAny_bind (PySem.W.Looks.here (s := { s with toks := s.toks + 1 }) (PySem.W.looks_clsIn X hc) ?_))))))
  rw [hd']
  refine wpAny_pure (a := some dx) (wpAny_bind (wpAny_pure (wpAny_bind ?_)))
  refine wpAny_nsSet1 (s := { s with toks := s.toks + 1 }) I.ns fun h' hn2 hs2 => ?_
  obtain ⟨oD, esD, epD, hoD, hdD, hcD⟩ := hn2.count (PySem.Within.cons name v hw)
  refine wpAny_bind (wpAny_lookBehind hoD (by rw [hdD]; exact pastItsLine_dict (Nat.le_trans hcD (by rw [List.length_cons]; omega))) ?_)
  exact wpAny_pure (h _ ⟨(hs2.2 _ (Ne.symm I.ne)).trans I.obj, hn2, I.ne⟩ hs2)

/-- C(..): the dict at the heap's end, the instance behind it; then its __init__ -/
theorem make_map {R : Result → Shared → Prop} {vs : List Value} {kw : List (Str × Value)} (X : K.In s.heap) (hm : PySem.W.makesIn K C = true)
    (hi : PySem.W.findIn K (.ref C) "__init__" = some (some (.ref f))) (hf : PySem.W.typeIn K (.ref f) = some (.type "function"))
    (h : codeAny (model prog w) (A.under (.builtin "type.__call__" ⟨.ref C :: vs, kw⟩)) (.call (.ref f) ⟨.ref (s.heap.objs.size + 1) :: vs, kw⟩) (PySem.W.InitBack (s.heap.objs.size + 1) R)
      { s with heap := (s.heap.push PySem.W.emptyDict).push (PySem.W.instObj C s.heap.objs.size) }) :
    codeAny (model prog w) A (.call (.ref C) ⟨vs, kw⟩) R s := by
  obtain ⟨hh, g, d, t, os⟩ := s
  exact PySem.W.make_core (PySem.W.makes_of X hm) (PySem.W.looks_findIn X hi) (fun self => PySem.W.bind_fn X self hf) (.inl rfl) h
/-- C() where there is no __init__ but object's -/
theorem make_map0 {R : Result → Shared → Prop} (X : K.In s.heap) (hm : PySem.W.makesIn K C = true)
    (hi : PySem.W.findIn K (.ref C) "__init__" = some (some (.builtin "object.__init__")))
    (hb : ∀ self, PySem.W.Looks (model prog w) s.heap (bindSpecial (.builtin "object.__init__") self) (.builtin "object.__init__", [self]))
    (h : codeAny (model prog w) (A.under (.builtin "type.__call__" ⟨[.ref C], []⟩)) (.call (.builtin "object.__init__") ⟨[.ref (s.heap.objs.size + 1)], []⟩) (PySem.W.InitBack (s.heap.objs.size + 1) R)
      { s with heap := (s.heap.push PySem.W.emptyDict).push (PySem.W.instObj C s.heap.objs.size) }) :
    codeAny (model prog w) A (.call (.ref C) ⟨[], []⟩) R s := by
  obtain ⟨hh, g, d, t, os⟩ := s
  exact PySem.W.make_core (PySem.W.makes_of X hm) (PySem.W.looks_findIn X hi) hb (.inr ⟨rfl, rfl⟩) h
end

/-! ### the attributes as a list of pairs -/
def putF (f : Str) (v : V) : List (Str × V) → List (Str × V)
  | [] => [(f, v)]
  | (g, x) :: r => if g = f then (g, v) :: r else (g, x) :: putF f v r
theorem lookup_putF (f g : Str) (v : V) : ∀ fs : List (Str × V), (putF f v fs).lookup g = if g = f then some v else fs.lookup g
  | [] => by
    show List.lookup g [(f, v)] = _
    by_cases h : g = f
    · have hb : (g == f) = true := beq_iff_eq.mpr h
      simp only [List.lookup, hb, if_pos h]
    · have hb : (g == f) = false := beq_eq_false_iff_ne.mpr h
      simp only [List.lookup, hb, if_neg h]
  | (k, x) :: r => by
    have ih := lookup_putF f g v r
    rw [show putF f v ((k, x) :: r) = (if k = f then (k, v) :: r else (k, x) :: putF f v r) from rfl]
    by_cases hk : k = f
    · rw [if_pos hk]
      by_cases h : g = k
      · have hb : (g == k) = true := beq_iff_eq.mpr h
        simp only [List.lookup, hb, if_pos (h.trans hk)]
      · have hb : (g == k) = false := beq_eq_false_iff_ne.mpr h
        simp only [List.lookup, hb, if_neg (fun e : g = f => h (e.trans hk.symm))]
    · rw [if_neg hk]
      by_cases h : g = k
      · have hb : (g == k) = true := beq_iff_eq.mpr h
        simp only [List.lookup, hb, if_neg (fun e : g = f => hk (h.symm.trans e))]
      · have hb : (g == k) = false := beq_eq_false_iff_ne.mpr h
        simp only [List.lookup, hb]
        exact ih
theorem keys_putF (f : Str) (v : V) : ∀ fs : List (Str × V), f ∈ (putF f v fs).map (·.1) ∧ ∀ g, g ∈ fs.map (·.1) → g ∈ (putF f v fs).map (·.1)
  | [] => ⟨by simp [putF], fun g h => by simp at h⟩
  | (k, x) :: r => by
    obtain ⟨i1, i2⟩ := keys_putF f v r
    rw [show putF f v ((k, x) :: r) = (if k = f then (k, v) :: r else (k, x) :: putF f v r) from rfl]
    by_cases hk : k = f
    · rw [if_pos hk]
      subst hk
      exact ⟨by simp, fun g h => by simpa using h⟩
    · rw [if_neg hk]
      refine ⟨?_, fun g h => ?_⟩
      · rw [List.map_cons]
        exact List.mem_cons_of_mem _ i1
      · rw [List.map_cons] at h ⊢
        rcases List.mem_cons.mp h with e | e
        · exact List.mem_cons.mpr (.inl e)
        · exact List.mem_cons_of_mem _ (i2 g e)
theorem length_putF (f : Str) (v : V) : ∀ fs : List (Str × V), (putF f v fs).length ≤ fs.length + 1
  | [] => by simp [putF]
  | (k, x) :: r => by
    have ih := length_putF f v r
    rw [show putF f v ((k, x) :: r) = (if k = f then (k, v) :: r else (k, x) :: putF f v r) from rfl]
    by_cases hk : k = f
    · rw [if_pos hk, List.length_cons, List.length_cons]; omega
    · rw [if_neg hk, List.length_cons, List.length_cons]; omega

theorem RelO.some_of {v : V} {o : Option Value} (r : RelO (some v) o) : ∃ u, o = some u ∧ RelV v u := by
  cases o with
  | none => exact (show False from r).elim
  | some u => exact ⟨u, rfl, r⟩
theorem RelO.none_of {o : Option Value} (r : RelO none o) : o = none := by
  cases o with
  | none => rfl
  | some u => exact (show False from r).elim
theorem handed_of {v : V} {u : Value} (r : RelV v u) : PySem.W.handedIn u = true := by
  cases v with
  | non => cases (show u = Value.none from r); rfl
  | bl b => cases (show u = Value.bool b from r); rfl
  | int i => obtain ⟨t, e⟩ := (show ∃ t, u = Value.int i t from r); cases e; rfl
  | str x => obtain ⟨t, e⟩ := (show ∃ t, u = Value.str x t from r); cases e; rfl
  | byt b => obtain ⟨t, e⟩ := (show ∃ t, u = Value.bytes b t from r); cases e; rfl
  | flt b => obtain ⟨t, e⟩ := (show ∃ t, u = Value.float b t from r); cases e; rfl
  | ref a => cases (show u = Value.ref a from r); rfl
  | ty n => cases (show u = Value.type n from r); rfl

section
variable {P : Program} {w : World} {H H' : Hp} {h h' : Heap} {a C dx : Addr} {fs fs' : List (Str × V)}
theorem ins_get (hok : HOk P w H h) (e : H a = some (.ins C dx fs)) : ∃ mA, ObjM h a dx C mA ∧ (∀ f, RelO (fs.lookup f) (mA f)) ∧ PySem.Within mA (fs.map (·.1)) ∧ fs.length ≤ 1000 ∧ H dx = some (.own a) := by
  obtain ⟨d, z, ne, ob, mA, n, r, q⟩ := (show ObjOk P w H h a (.ins C dx fs) from hok a _ e)
  exact ⟨mA, ⟨ob, n, ne⟩, r, q, z, d⟩
end

/-! ### what of the text a class must have -/
structure Cls (K : PySem.W.Frag) (C : Addr) : Prop where
  pg : PySem.W.plainGet K C Str.empty = true
  hd : PySem.W.hasDictIn K C = true
  po : PySem.W.plainOver K C = true
  sa : PySem.W.findIn K (.ref C) "__setattr__" = some (some (.builtin "object.__setattr__"))
theorem Cls.get {K : PySem.W.Frag} {C : Addr} (c : Cls K C) (f : Str) : PySem.W.plainGet K C f = true := c.pg
/-- no class of it has the name -/
def NoAttr (K : PySem.W.Frag) (C : Addr) (f : Str) : Prop := PySem.W.findIn K (.ref C) f = some none
theorem NoAttr.taker {K : PySem.W.Frag} {C : Addr} {f : Str} (n : NoAttr K C f) : PySem.W.takerIn K C f = some none := by
  unfold PySem.W.takerIn
  rw [show PySem.W.findIn K (.ref C) f = some none from n]
  rfl
/-- a constant of the class -/
structure Con (K : PySem.W.Frag) (C : Addr) (f : Str) (v : V) (u : Value) : Prop where
  at_ : PySem.W.findIn K (.ref C) f = some (some u)
  rel : RelV v u
  get : PySem.W.specialIn K u "__get__" = some none
  cp : PySem.W.copiedNames.contains f = false
/-- a method: a plain def of the class or of one above it -/
structure Meth (K : PySem.W.Frag) (C : Addr) (m : Str) (f : Addr) : Prop where
  at_ : PySem.W.findIn K (.ref C) m = some (some (.ref f))
  fn : PySem.W.isFn K (.ref f) = true
  kp : PySem.W.keepIn K (.ref f) = true

section
variable {X : Cx} {pins : List (Addr × Obj)} {σ : St} {H : Hp} {s : Shared} {a C dx : Addr} {fs : List (Str × V)} {f : Str} {v : V} {A : Around} {E : Value → Shared → Prop}

theorem getattr_ok {b : Bool} {Q : Value → Shared → Prop} (I : Inv X pins σ H s) (e : H a = some (.ins C dx fs)) (c : Cls X.K C) (n : NoAttr X.K C f) (l : fs.lookup f = some v)
    (h : ∀ u s', Inv X pins σ H s' → RelV v u → Q u s') : wpAny (model X.prog X.w) A (getAttr (.ref a) f b) Q E s := by
  obtain ⟨mA, O, r, _, _, _⟩ := ins_get I.hok e
  obtain ⟨u, hu, ru⟩ := RelO.some_of (v := v) (o := mA f) (by rw [← l]; exact r f)
  exact get_map I.kIn O (c.get f) c.hd n hu (handed_of ru) (h u _ (I.tok _) ru)

theorem getcon_ok {b : Bool} {u : Value} {Q : Value → Shared → Prop} (I : Inv X pins σ H s) (e : H a = some (.ins C dx fs)) (c : Cls X.K C) (k : Con X.K C f v u) (l : fs.lookup f = none)
    (h : ∀ s', Inv X pins σ H s' → Q u s') : wpAny (model X.prog X.w) A (getAttr (.ref a) f b) Q E s := by
  obtain ⟨mA, O, r, _, _, _⟩ := ins_get I.hok e
  have hn : mA f = none := RelO.none_of (by rw [← l]; exact r f)
  exact get_const I.kIn O (c.get f) c.hd k.at_ k.get k.cp hn (handed_of k.rel) (h _ (I.tok _))

theorem getmeth_ok {m : Str} {g : Addr} {pl : Sem Bool} {Q : Value × List Value → Shared → Prop} (I : Inv X pins σ H s) (e : H a = some (.ins C dx fs)) (c : Cls X.K C) (k : Meth X.K C m g) (l : fs.lookup m = none)
    (h : Q (.ref g, [.ref a]) s) : wpAny (model X.prog X.w) A (getMethod (.ref a) m pl) Q E s := by
  obtain ⟨mA, O, r, _, _, _⟩ := ins_get I.hok e
  have hn : mA m = none := RelO.none_of (by rw [← l]; exact r m)
  exact get_meth I.kIn O (c.get m) k.at_ k.fn hn h

theorem setattr_ok {y : V} {u : Value} {Q : Unit → Shared → Prop} (I : Inv X pins σ H s) (e : H a = some (.ins C dx fs)) (c : Cls X.K C) (n : NoAttr X.K C f) (hl : fs.length < 1000) (ry : RelV y u)
    (h : ∀ s', Inv X pins σ (upd H a (.ins C dx (putF f y fs))) s' → Q () s') : wpAny (model X.prog X.w) A (setAttr (.ref a) f u) Q E s := by
  obtain ⟨mA, O, r, wi, _, ho⟩ := ins_get I.hok e
  have hz : (fs.map (·.1)).length ≤ sizeLine := by rw [List.length_map, sizeLine_eq]; omega
  refine set_map I.kIn O c.sa c.po n.taker c.hd wi hz fun h' O' sb => h _ ?_
  have hd : ∃ o, h'.get? dx = some o := let ⟨o, _, _, e', _⟩ := O'.ns; ⟨o, e'⟩
  refine I.write (x := a) (e := dx) (by rw [e]; exact True.intro) (.inr ho) (fun b q hb z => (sb.2 b hb).trans z) hd ?_
  refine ⟨by rw [upd_ne O.ne]; exact ho, ?_, O.ne, O'.obj, _, O'.ns, fun g => ?_, fun g hg => ?_⟩
  · have := length_putF f y fs; omega
  · show RelO ((putF f y fs).lookup g) (if g = f then some u else mA g)
    rw [lookup_putF]
    by_cases q : g = f
    · rw [if_pos q, if_pos q]; exact ry
    · rw [if_neg q, if_neg q]; exact r g
  · by_cases q : g = f
    · rw [q]; exact (keys_putF f y fs).1
    · refine (keys_putF f y fs).2 g (wi g fun z => hg ?_)
      show (if g = f then some u else mA g) = none
      rw [if_neg q]; exact z

/-- a new instance, tracked, without attributes -/
theorem Inv.made (I : Inv X pins σ H s) : Inv X pins σ (upd (upd H s.heap.objs.size (.own (s.heap.objs.size + 1))) (s.heap.objs.size + 1) (.ins C s.heap.objs.size []))
    { s with heap := (s.heap.push PySem.W.emptyDict).push (PySem.W.instObj C s.heap.objs.size) } := by
  have e1 : (s.heap.push PySem.W.emptyDict).get? s.heap.objs.size = some PySem.W.emptyDict := Heap.get?_push_size s.heap rfl
  have e2 : ((s.heap.push PySem.W.emptyDict).push (PySem.W.instObj C s.heap.objs.size)).get? (s.heap.objs.size + 1) = some (PySem.W.instObj C s.heap.objs.size) := by
    have := Heap.get?_push_size (s.heap.push PySem.W.emptyDict) (o := PySem.W.instObj C s.heap.objs.size) rfl
    rwa [Heap.size_push] at this
  have e3 : (s.heap.push PySem.W.emptyDict).Ns s.heap.objs.size (fun _ => none) := ⟨PySem.W.emptyDict, #[], _, e1, rfl, (fun e he => absurd he (by simp)), fun _ => rfl⟩
  have I1 := I.laid (a := s.heap.objs.size) (o := .own (s.heap.objs.size + 1)) (h' := s.heap.push PySem.W.emptyDict) (t' := s.toks) (fun b u q => Heap.get?_push_of_some _ q) (Nat.le_refl _) ⟨_, e1⟩
  refine I1.laid (a := s.heap.objs.size + 1) (o := .ins C s.heap.objs.size []) (t' := s.toks) (fun b u q => Heap.get?_push_of_some _ q) (Nat.le_of_eq (Heap.size_push _ _)) ?_
  have ne : s.heap.objs.size ≠ s.heap.objs.size + 1 := Nat.ne_of_lt (Nat.lt_succ_self _)
  refine ⟨by rw [upd_ne ne, upd_same], Nat.zero_le _, ne, e2, fun _ => none, (Heap.Ns1.of_empty e3).at fun o q => Heap.get?_push_of_some _ q, fun _ => True.intro, fun y hy => absurd rfl hy⟩

/-- e.f where nothing but the object is asked: through attributeBase (super) and the last hold -/
theorem attr_of {prog : Program} {w : World} {env : Env} {e : Expr} {f : Str} {pos : Pos} {s : Shared} {Q : Value → Shared → Prop} (hb : attributeBase e f env (eval e env) = eval e env)
    (h : wpAny (model prog w) A (eval e env) (fun o s₁ => wpAny (model prog w) A (getAttr o f true) Q E s₁) E s) : wpAny (model prog w) A (eval (.Attribute e f pos) env) Q E s :=
  Attribute_any_ h (by rw [arm_eval_Attribute, hb])
end

/-! ### readings and rules -/
/-- e.f, an attribute of the instance -/
def tFld (K : PySem.W.Frag) (ta : TE) (f : Str) : TE := fun σ H Q => ta σ H fun x H1 => ∃ a C dx fs v, x = .ref a ∧ H1 a = some (.ins C dx fs) ∧ Cls K C ∧ NoAttr K C f ∧ fs.lookup f = some v ∧ Q v H1
/-- e.f, a constant of the class -/
def tCon (K : PySem.W.Frag) (ta : TE) (f : Str) : TE := fun σ H Q => ta σ H fun x H1 => ∃ a C dx fs v u, x = .ref a ∧ H1 a = some (.ins C dx fs) ∧ Cls K C ∧ Con K C f v u ∧ fs.lookup f = none ∧ Q v H1
/-- e.f = value -/
def sFld (K : PySem.W.Frag) (ta tv : TE) (f : Str) : TS := fun D σ H => tv σ H fun y H1 => ta σ H1 fun x H2 => ∃ a C dx fs, x = .ref a ∧ H2 a = some (.ins C dx fs) ∧ Cls K C ∧ NoAttr K C f ∧ fs.length < 1000 ∧
  D.nx σ (upd H2 a (.ins C dx (putF f y fs)))
/-- an augmented operator on two values -/
def InOp (X : Cx) (op : Operator) (rd : V → V → Hp → VK → Prop) : Prop :=
  ∀ (pins : List (Addr × Obj)) (s : Shared) (σ : St) (H : Hp) (x y : V) (u v : Value) (Q : VK), Inv X pins σ H s → RelV x u → RelV y v → rd x y H Q → wpAny (model X.prog X.w) X.A (inplaceOp op u v) (EP X pins σ Q) X.xe s
/-- e.f op= value -/
def sFldAug (K : PySem.W.Frag) (ta tv : TE) (rd : V → V → Hp → VK → Prop) (f : Str) : TS := fun D σ H => ta σ H fun x H1 => ∃ a C dx fs v, x = .ref a ∧ H1 a = some (.ins C dx fs) ∧ Cls K C ∧ NoAttr K C f ∧ fs.lookup f = some v ∧
  tv σ H1 fun y H2 => rd v y H2 fun z H3 => ∃ dx' fs', H3 a = some (.ins C dx' fs') ∧ fs'.length < 1000 ∧ D.nx σ (upd H3 a (.ins C dx' (putF f z fs')))

section
variable {X : Cx} {o e value : Expr} {f : Str} {pos pos' tpos : Pos} {ta tv : TE}
theorem pe_fld (he : PE X e ta) (hb : attributeBase e f X.env (eval e X.env) = eval e X.env) : PE X (.Attribute e f pos) (tFld X.K ta f) := by
  intro pins s σ H Q I h
  refine attr_of hb (thn (he pins s σ H _ I h) fun u s1 ⟨x, H1, I1, rx, a, C, dx, fs, v, ex, ea, c, n, l, q⟩ => ?_)
  subst ex
  obtain rfl : u = Value.ref a := rx
  exact getattr_ok I1 ea c n l fun u' s2 I2 ru => ⟨v, H1, I2, ru, q⟩
theorem pe_con (he : PE X e ta) (hb : attributeBase e f X.env (eval e X.env) = eval e X.env) : PE X (.Attribute e f pos) (tCon X.K ta f) := by
  intro pins s σ H Q I h
  refine attr_of hb (thn (he pins s σ H _ I h) fun u s1 ⟨x, H1, I1, rx, a, C, dx, fs, v, u0, ex, ea, c, k, l, q⟩ => ?_)
  subst ex
  obtain rfl : u = Value.ref a := rx
  exact getcon_ok I1 ea c k l fun s2 I2 => ⟨v, H1, I2, k.rel, q⟩
theorem ps_fld (ha : PE X o ta) (hv : PE X value tv) (hs : swapsWith value (some (.Attribute o f pos')) pos.line X.env = pure false) : PS X (.Assign [.Attribute o f pos'] value pos) (sFld X.K ta tv f) := by
  intro pins s σ H D I h
  refine plainObj_wpAny_Assign_Attribute (thn (hv pins s σ H _ I h) fun u s1 ⟨y, H1, I1, ry, q⟩ => thn (ha pins s1 σ H1 _ I1 q) fun ov s2 ⟨x, H2, I2, rx, a, C, dx, fs, ex, ea, c, n, l, q2⟩ => ?_) hs
  subst ex
  obtain rfl : ov = Value.ref a := rx
  exact setattr_ok I2 ea c n l ry fun s3 I3 => ⟨σ, _, I3, q2⟩
theorem ps_fldaug {op : Operator} {rd : V → V → Hp → VK → Prop} (ha : PE X o ta) (hv : PE X value tv) (hop : InOp X op rd) : PS X (.AugAssign (.Attribute o f tpos) op value pos) (sFldAug X.K ta tv rd f) := by
  intro pins s σ H D I h
  refine wpAny_AugAssign_AttributeAny (thn (ha pins s σ H _ I h) fun ov s1 ⟨x, H1, I1, rx, a, C, dx, fs, v, ex, ea, c, n, l, q⟩ => ?_)
  subst ex
  obtain rfl : ov = Value.ref a := rx
  refine getattr_ok I1 ea c n l fun u s2 I2 ru => thn (hv pins s2 σ H1 _ I2 q) fun w3 s3 ⟨y, H2, I3, ry, q3⟩ => thn (hop pins s3 σ H2 v y u w3 _ I3 ru ry q3) fun w4 s4 ⟨z, H3, I4, rz, dx', fs', ea', l', q4⟩ => ?_
  exact setattr_ok I4 ea' c n l' rz fun s5 I5 => ⟨σ, _, I5, q4⟩
def rAdd : V → V → Hp → VK → Prop := fun x y H Q => ∃ i j, x = .int i ∧ y = .int j ∧ Q (.int (i + j)) H
def rSub : V → V → Hp → VK → Prop := fun x y H Q => ∃ i j, x = .int i ∧ y = .int j ∧ Q (.int (i - j)) H
theorem in_add : InOp X .Add rAdd := by
  rintro pins s σ H x y u v Q I rx ry ⟨i, j, rfl, rfl, q⟩
  obtain ⟨t, rfl⟩ := (show ∃ t, u = Value.int i t from rx)
  obtain ⟨t', rfl⟩ := (show ∃ t', v = Value.int j t' from ry)
  exact PyProof.Rows.iadd_int ⟨.int (i + j), H, I.tok _, ⟨_, rfl⟩, q⟩
theorem in_sub : InOp X .Sub rSub := by
  rintro pins s σ H x y u v Q I rx ry ⟨i, j, rfl, rfl, q⟩
  obtain ⟨t, rfl⟩ := (show ∃ t, u = Value.int i t from rx)
  obtain ⟨t', rfl⟩ := (show ∃ t', v = Value.int j t' from ry)
  exact PyProof.Rows.isub_int ⟨.int (i - j), H, I.tok _, ⟨_, rfl⟩, q⟩

/-- what is between an instance and its method: the tree of a method call -/
theorem methcall_of {pl : Sem Bool} {m : Str} {apos : Pos} {args : List Expr} {pins : List (Addr × Obj)} {s : Shared} {σ : St} {H : Hp} {Q : Value → Shared → Prop} {te : TE} (he : PE X e te) (I : Inv X pins σ H s)
    (h : te σ H fun x H1 => ∃ a C dx fs g, x = .ref a ∧ H1 a = some (.ins C dx fs) ∧ Cls X.K C ∧ Meth X.K C m g ∧ fs.lookup m = none ∧
      ∀ s1, Inv X pins σ H1 s1 → wpAny (model X.prog X.w) X.A (callWith pos (.ref g) [.ref a] (backTo pos (starEach args X.env)) (backToKw pos (keywordEach [] X.env))) Q X.xe s1)
    (ht : eval (.Call (.Attribute e m apos) args [] pos) X.env = (do
      let ov ← eval e X.env
      standAt apos.atName
      let (f, first) ← holding [ov] (getMethod ov m pl)
      callWith pos f first (backTo pos (starEach args X.env)) (backToKw pos (keywordEach [] X.env)))) :
    wpAny (model X.prog X.w) X.A (eval (.Call (.Attribute e m apos) args [] pos) X.env) Q X.xe s := by
  refine PySem.W.methodCall_KW (pl := pl) (thn (he pins s σ H _ I h) fun u s1 ⟨x, H1, I1, rx, a, C, dx, fs, g, ex, ea, c, k, l, q⟩ => ?_) ht
  subst ex
  obtain rfl : u = Value.ref a := rx
  exact getmeth_ok I1 ea c k l (q s1 I1)
end

/-! ### isinstance -/
section
variable {X : Cx} {pins : List (Addr × Obj)} {σ : St} {H : Hp} {s : Shared} {A : Around} {E : Value → Shared → Prop} {Q : Value → Shared → Prop} {c : Value} {b : Bool}
/-- the type of a value, as the fragment's deciders take it; for an instance its class -/
inductive TyOf (K : PySem.W.Frag) (H : Hp) : V → Value → Prop where
  | non : TyOf K H .non (.type "NoneType")
  | bl (x : Bool) : TyOf K H (.bl x) (.type "bool")
  | int (i : Int) : TyOf K H (.int i) (.type "int")
  | str (x : Str) : TyOf K H (.str x) (.type "str")
  | flt (x : UInt64) : TyOf K H (.flt x) (.type "float")
  | lst {a : Addr} {xs : List V} (e : H a = some (.lst xs)) : TyOf K H (.ref a) (.type "list")
  | frz {a : Addr} {o : Obj} {xs : List V} (e : H a = some (.frz o (.lst xs))) : TyOf K H (.ref a) (.type "list")
  | tup {a : Addr} {xs : List V} (e : H a = some (.tup xs)) : TyOf K H (.ref a) (.type "tuple")
  | dK {a : Addr} {kvs : List (Key × V)} (e : H a = some (.dK kvs)) : TyOf K H (.ref a) (.type "dict")
  | dT {a : Addr} {kvs : List (List Key × V)} (e : H a = some (.dT kvs)) : TyOf K H (.ref a) (.type "dict")
  | ins {a C dx : Addr} {fs : List (Str × V)} (e : H a = some (.ins C dx fs)) (cl : Cls K C) (ha : PySem.W.findIn K (.ref C) "__class__" = some (some (.builtin "object.__class__")))
      (hn : PySem.W.specialIn K (.builtin "object.__class__") "__get__" = some (some (.builtin "getset_descriptor.__get__"))) (htk : PySem.W.takesIn K (.builtin "object.__class__") = some true)
      (hm : PySem.W.mroIn K C (.type "object") = some true) : TyOf K H (.ref a) (.ref C)
/-- isinstance(x, c) for one class c, a built-in or an own one: kitOne's answer -/
theorem isinst_ok {x : V} {u t : Value} (I : Inv X pins σ H s) (rx : RelV x u) (ty : TyOf X.K H x t) (e : PySem.W.kitOne X.K t c = some b) (h : ∀ tk, Q (.bool b) { s with toks := tk }) :
    wpAny (model X.prog X.w) A (call (.builtin "isinstance") [u, c]) Q E s := by
  cases ty with
  | non => cases (show u = Value.none from rx); exact PySem.W.kia_one PySem.W.kitx_none I.kIn True.intro e (fun z => nomatch z) h
  | bl y => cases (show u = Value.bool y from rx); exact PySem.W.kia_one PySem.W.kitx_bool I.kIn True.intro e (fun z => nomatch z) h
  | int i => obtain ⟨t, q⟩ := (show ∃ t, u = Value.int i t from rx); cases q; exact PySem.W.kia_one PySem.W.kitx_int I.kIn True.intro e (fun z => nomatch z) h
  | str y => obtain ⟨t, q⟩ := (show ∃ t, u = Value.str y t from rx); cases q; exact PySem.W.kia_one PySem.W.kitx_str I.kIn True.intro e (fun z => nomatch z) h
  | flt y => obtain ⟨t, q⟩ := (show ∃ t, u = Value.float y t from rx); cases q; exact PySem.W.kia_one PySem.W.kitx_float I.kIn True.intro e (fun z => nomatch z) h
  | @lst a xs ea =>
    cases (show u = Value.ref a from rx)
    obtain ⟨_, _, n, _, h1⟩ := (show ObjOk X.prog X.w H s.heap a (.lst xs) from I.hok a _ ea)
    exact PySem.W.kia_one PySem.W.kitx_list I.kIn ⟨_, h1, rfl⟩ e (fun z => nomatch z) h
  | @frz a ob xs ea =>
    cases (show u = Value.ref a from rx)
    obtain ⟨_, _, _, n, _, h1⟩ := (show ObjOk X.prog X.w H s.heap a (.frz ob (.lst xs)) from I.hok a _ ea)
    exact PySem.W.kia_one PySem.W.kitx_list I.kIn ⟨_, h1, rfl⟩ e (fun z => nomatch z) h
  | @tup a xs ea =>
    cases (show u = Value.ref a from rx)
    obtain ⟨_, _, _, p⟩ := (show ObjOk X.prog X.w H s.heap a (.tup xs) from I.hok a _ ea)
    obtain ⟨o, h1, h2, _⟩ := p
    exact PySem.W.kia_one PySem.W.kitx_tuple I.kIn ⟨o, h1, h2⟩ e (fun z => nomatch z) h
  | @dK a kvs ea =>
    cases (show u = Value.ref a from rx)
    obtain ⟨_, _, vs, _, p⟩ := (show ObjOk X.prog X.w H s.heap a (.dK kvs) from I.hok a _ ea)
    obtain ⟨o, es, ep, h1, h2, _⟩ := p
    exact PySem.W.kia_one PySem.W.kitx_dict I.kIn ⟨o, h1, h2.1⟩ e (fun z => nomatch z) h
  | @dT a kvs ea =>
    cases (show u = Value.ref a from rx)
    obtain ⟨_, _, xs, _, o, es, ep, h1, h2, _⟩ := (show ObjOk X.prog X.w H s.heap a (.dT kvs) from I.hok a _ ea)
    exact PySem.W.kia_one PySem.W.kitx_dict I.kIn ⟨o, h1, h2.1⟩ e (fun z => nomatch z) h
  | @ins a C dx fs ea cl ha hn htk hm =>
    cases (show u = Value.ref a from rx)
    obtain ⟨mA, O, _⟩ := ins_get I.hok ea
    obtain ⟨od, J, _⟩ := O.look
    exact PySem.W.kia_one (PySem.W.kitx_own (cl.get _) cl.hd ha hn htk hm) I.kIn J e (fun z => nomatch z) h
end
end L2

namespace L2
open PySem PySem.Spec PyProof.Rows

/-! ### room -/
structure Room (k : Nat) (A : Around) : Prop where
  hd : A.handled = none
  dp : A.depth + 3 * k + 5 < recursionLimit
  un : A.units + 16 * k + 200 < cLine
theorem Room.mono {j k : Nat} {A : Around} (r : Room k A) (h : j ≤ k) : Room j A := ⟨r.hd, by have := r.dp; omega, by have := r.un; omega⟩
theorem Room.deeper {k : Nat} {A : Around} (r : Room (k + 1) A) (env : Env) : Room k (A.deeper env) :=
  ⟨r.hd, by have := r.dp; show A.depth + 1 + 3 * k + 5 < _; omega, by have := r.un; show A.units + 3 + 16 * k + 200 < _; omega⟩
theorem Room.in1 {k : Nat} {A : Around} (r : Room (k + 1) A) : Room k A.in1 :=
  ⟨r.hd, by have := r.dp; show A.depth + 3 * k + 5 < _; omega, by have := r.un; show A.units + 1 + 16 * k + 200 < _; omega⟩
theorem make_depth {A : Around} {C : Addr} {us : List Value} {kw : List (Str × Value)} : (A.under (.builtin "type.__call__" ⟨.ref C :: us, kw⟩)).depth = A.depth + 1 := by
  first | rfl | simp [Around.under, Code.weight, Code.isCreation, Code.isGuard, Code.isCaller, Code.frames, Code.isFrame, guardIds]
theorem make_units {A : Around} {C : Addr} {us : List Value} {kw : List (Str × Value)} : (A.under (.builtin "type.__call__" ⟨.ref C :: us, kw⟩)).units = A.units + 1 := by
  first | rfl | simp [Around.under, Code.cUnits, Code.frames, Code.isFrame]
theorem Room.make {k : Nat} {A : Around} (r : Room (k + 1) A) (C : Addr) (us : List Value) (kw : List (Str × Value)) : Room k (A.under (.builtin "type.__call__" ⟨.ref C :: us, kw⟩)) :=
  ⟨r.hd, by have := r.dp; rw [make_depth]; omega, by have := r.un; rw [make_units]; omega⟩
theorem Room.depth {k : Nat} {A : Around} (r : Room k A) : A.depth < recursionLimit := by have := r.dp; omega
theorem Room.units {k : Nat} {A : Around} (r : Room k A) : A.units + 64 < cLine := by have := r.un; omega
theorem Room.units0 {k : Nat} {A : Around} (r : Room k A) : A.units < cLine := by have := r.un; omega

/-! ### argument lists and displays -/
def tNil : TA := fun _ H Q => Q [] H
def tCons (ta : TE) (tr : TA) : TA := fun σ H Q => ta σ H fun x H1 => tr σ H1 fun xs H2 => Q (x :: xs) H2
section
variable {X : Cx} {e : Expr} {es : List Expr} {te : TE} {t : TA} {pos : Pos}
theorem pa_nil : PA X [] tNil := fun _ _ _ _ H Q I h => Calls.spliced_nil ⟨[], H, I, .nil, h⟩
theorem pa_cons (ha : PE X e te) (hr : PA X es t) (hs : starEach (e :: es) X.env = (false, eval e X.env) :: starEach es X.env := by rfl) : PA X (e :: es) (tCons te t) := by
  intro pos pins s σ H Q I h
  rw [hs]
  show wpAny _ _ (spliced ((false, eval e X.env) :: backTo pos (starEach es X.env))) _ _ s
  refine Calls.spliced_cons (thn (ha pins s σ H _ I h) fun u s1 ⟨x, H1, I1, r1, q1⟩ => ?_)
  exact thn (hr pos pins s1 σ H1 _ I1 q1) fun us s2 ⟨xs, H2, I2, r2, q2⟩ => ⟨x :: xs, H2, I2, .cons r1 r2, q2⟩

/-- a tuple, a list of written items -/
def tTup (t : TA) : TE := fun σ H Q => t σ H fun xs H1 => xs.length ≤ sizeLine ∧ ∀ p, H1 p = none → Q (.ref p) (upd H1 p (.tup xs))
def tLst (t : TA) : TE := fun σ H Q => t σ H fun xs H1 => xs.length ≤ sizeLine ∧ ∀ p, H1 p = none → Q (.ref p) (upd H1 p (.lst xs))
theorem pe_tup {x1} (h : PA X es t) : PE X (.Tuple es x1 pos) (tTup t) := by
  intro pins s σ H Q I hq
  refine wpAny_Tuple_spliced (thn (h pos pins s σ H _ I hq) fun us s1 ⟨xs, H1, I1, r, z, q⟩ => ⟨by rw [← r.length]; exact z, ?_⟩)
  have hf : H1 s1.heap.objs.size = none := I1.hok.fresh (Nat.le_refl _)
  refine ⟨.ref s1.heap.objs.size, upd H1 s1.heap.objs.size (.tup xs), I1.laid (t' := s1.toks) (fun b u e => Heap.get?_push_of_some _ e) (Nat.le_refl _) ?_, rfl, q _ hf⟩
  exact ⟨z, us, r, ⟨_, Heap.get?_push_size _ rfl, rfl, _, rfl⟩⟩
theorem pe_lst (h : PA X es t) : PE X (.List es pos) (tLst t) := by
  intro pins s σ H Q I hq
  refine wpAny_List_spliced (thn (h pos pins s σ H _ I hq) fun us s1 ⟨xs, H1, I1, r, z, q⟩ => ⟨by rw [← r.length]; exact z, ?_⟩)
  have hf : H1 s1.heap.objs.size = none := I1.hok.fresh (Nat.le_refl _)
  refine ⟨.ref s1.heap.objs.size, upd H1 s1.heap.objs.size (.lst xs), I1.laid (t' := s1.toks) (fun b u e => Heap.get?_push_of_some _ e) (Nat.le_refl _) ?_, rfl, q _ hf⟩
  exact ⟨z, us, 0, r, Heap.get?_push_size _ rfl⟩
end

/-! ### what a def promises -/
/-- a def's promise: the bound arguments in the parameters' order, the heap, the wanted end, the wanted exception -/
abbrev Sp := List V → Hp → VK → XK → Prop
/-- how an exception lies behind a call (file 08 gives it): the callers' frames, abstract heap and state ahead of the call, the wish, the exception, the state -/
abbrev CXT := List Env → Hp → Shared → XK → Value → Shared → Prop

/-- the state at a call -/
structure Env0 (P : Program) (w : World) (K : PySem.W.Frag) (mg : Str → Option Value) (base : Heap) (A : Around) (outer : List Env) (s : Shared) (H : Hp) : Prop where
  frames : A.frames = some outer
  mod : Mod K mg base
  bs : ∀ b o, base.get? b = some o → s.heap.get? b = some o ∧ H b = none
  bsz : base.objs.size ≤ s.heap.objs.size
  funs : s.heap.FunFrames base outer
  frf : ∀ b ∈ frs outer, H b = none
  hok : HOk P w H s.heap
  bare : AllBare s.gens
/-- a call's end -/
def CE (outer : List Env) (P : Program) (w : World) (H : Hp) (s : Shared) (Q : VK) (u : Value) (s' : Shared) : Prop :=
  ∃ v H', s'.os = s.os ∧ AllBare s'.gens ∧ Un (frs outer) [] H H' s.heap s'.heap ∧ HOk P w H' s'.heap ∧ RelV v u ∧ Q v H'
def CR (CX : CXT) (outer : List Env) (P : Program) (w : World) (H : Hp) (s : Shared) (Q : VK) (E : XK) (r : Result) (s' : Shared) : Prop :=
  match r with
  | .ok (.ret u) => CE outer P w H s Q u s'
  | .ok _ => False
  | .error e => CX outer H s E e s'
structure FnOk (P : Program) (w : World) (K : PySem.W.Frag) (mg : Str → Option Value) (base : Heap) (CX : CXT) (k : Nat) (f : Addr) (fd : FuncData) (ps : List Str) (sp : Sp) : Prop where
  len : ∀ vs H Q E, sp vs H Q E → vs.length = ps.length
  run : ∀ (A : Around) (outer : List Env) (s : Shared) (H : Hp) (args : Args) (us : List Value) (vs : List V) (Q : VK) (E : XK), Room k A → Env0 P w K mg base A outer s H → BindsTo s fd args (ps.zip us) → Vals vs us → sp vs H Q E →
    codeAny (model P w) A (.call (.ref f) args) (CR CX outer P w H s Q E) s
theorem FnOk.mono {P : Program} {w : World} {K : PySem.W.Frag} {mg : Str → Option Value} {base : Heap} {CX : CXT} {j k : Nat} {f : Addr} {fd : FuncData} {ps : List Str} {sp : Sp} (F : FnOk P w K mg base CX j f fd ps sp) (h : j ≤ k) :
    FnOk P w K mg base CX k f fd ps sp := ⟨F.len, fun A outer s H args us vs Q E hr => F.run A outer s H args us vs Q E (hr.mono h)⟩
/-- a weaker promise -/
theorem FnOk.imp {P : Program} {w : World} {K : PySem.W.Frag} {mg : Str → Option Value} {base : Heap} {CX : CXT} {k : Nat} {f : Addr} {fd : FuncData} {ps : List Str} {sp sp' : Sp} (F : FnOk P w K mg base CX k f fd ps sp)
    (h : ∀ vs H Q E, sp' vs H Q E → sp vs H Q E) : FnOk P w K mg base CX k f fd ps sp' :=
  ⟨fun vs H Q E q => F.len vs H Q E (h _ _ _ _ q), fun A outer s H args us vs Q E hr he hb hv hs => F.run A outer s H args us vs Q E hr he hb hv (h _ _ _ _ hs)⟩

theorem Env0.make {P : Program} {w : World} {K : PySem.W.Frag} {mg : Str → Option Value} {base : Heap} {A : Around} {outer : List Env} {s : Shared} {H : Hp} (e : Env0 P w K mg base A outer s H) (C : Addr) (us : List Value) (kw : List (Str × Value)) :
    Env0 P w K mg base (A.under (.builtin "type.__call__" ⟨.ref C :: us, kw⟩)) outer s H := ⟨by first | exact e.frames | (simpa [Around.under, Code.envs, Code.isFrame, pushEnvs] using e.frames), e.mod, e.bs, e.bsz, e.funs, e.frf, e.hok, e.bare⟩
theorem Env0.in1 {P : Program} {w : World} {K : PySem.W.Frag} {mg : Str → Option Value} {base : Heap} {A : Around} {outer : List Env} {s : Shared} {H : Hp} (e : Env0 P w K mg base A outer s H) :
    Env0 P w K mg base A.in1 outer s H := ⟨e.frames, e.mod, e.bs, e.bsz, e.funs, e.frf, e.hok, e.bare⟩

section
variable {X : Cx} {pins : List (Addr × Obj)} {σ : St} {H : Hp} {s s' : Shared}
/-- from a body: what a callee wants -/
theorem Inv.env0 (I : Inv X pins σ H s) : Env0 X.prog X.w X.K X.mg X.base X.A X.stack s H :=
  ⟨I.ok.frames, I.ok.mod, I.bs, Nat.le_trans I.ok.bsz I.sz, I.stack, I.stkFree, I.hok, I.bare⟩
/-- behind a call -/
theorem Inv.after {Q : VK} {u : Value} (I : Inv X pins σ H s) (h : CE X.stack X.prog X.w H s Q u s') : EP X pins σ Q u s' := by
  obtain ⟨v, H', os, bare, un, hok, r, q⟩ := h
  obtain ⟨hh, g, d, t, os'⟩ := s'
  obtain rfl : os' = s.os := os
  exact ⟨v, H', I.call (h' := hh) (g' := g) (d' := d) (t' := t) (ch := []) un hok bare (fun b z => absurd z (by simp)), r, q⟩
end

/-! ### calls -/
/-- f(..): the written arguments, then the defaults dvs; E: what is wanted of an exception -/
def tCall (sp : Sp) (dvs : List V) (E : XK) (t : TA) : TE := fun σ H Q => t σ H fun vs H1 => sp (vs ++ dvs) H1 Q E
/-- o.m(..) of an instance of the class at C -/
def tMeth (C : Addr) (m : Str) (sp : Sp) (dvs : List V) (E : XK) (ta : TE) (t : TA) : TE := fun σ H Q => ta σ H fun x H1 => ∃ a dx fs, x = .ref a ∧ H1 a = some (.ins C dx fs) ∧ fs.lookup m = none ∧
  t σ H1 fun vs H2 => sp (x :: (vs ++ dvs)) H2 Q E
/-- C(..): a new instance and its dict, then __init__ -/
def tMake (C : Addr) (sp : Sp) (dvs : List V) (E : XK) (t : TA) : TE := fun σ H Q => t σ H fun vs H1 => ∀ x dx, H1 x = none → H1 dx = none → dx ≠ x →
  sp (.ref x :: (vs ++ dvs)) (upd (upd H1 dx (.own x)) x (.ins C dx [])) (fun v H2 => v = .non ∧ Q (.ref x) H2) E

/-- how the parameters are bound: us the positional arguments, kw the keywords' values by name, ds the defaults that fill up -/
def Binds (K : PySem.W.Frag) (fd : FuncData) (ps : List Str) (ds : List Value) : Prop :=
  ∀ (s : Shared) (us : List Value), K.In s.heap → (us ++ ds).length = ps.length → BindsTo s fd ⟨us, []⟩ (ps.zip (us ++ ds))
/-- every parameter is given -/
theorem Binds.all {K : PySem.W.Frag} {fd : FuncData} {ps : List Str} (h : ∀ us : List Value, us.length = ps.length → bindArgs fd ⟨us, []⟩ = pure (ps.zip us)) : Binds K fd ps [] := fun s us _ hl => by
  rw [List.append_nil] at hl ⊢
  exact .of_eq (h us hl)

/-- an exception of a callee reaches what this body wants of exceptions -/
def Passes (CX : CXT) (X : Cx) (E : XK) : Prop := ∀ (pins : List (Addr × Obj)) (σ : St) (H : Hp) (s : Shared) (e : Value) (s' : Shared), Inv X pins σ H s → CX X.stack H s E e s' → X.xe e s'

section
variable {X : Cx} {CX : CXT} {k : Nat} {f C : Addr} {fd : FuncData} {ps : List Str} {sp : Sp} {dvs : List V} {ds : List Value} {E : XK} {x m : Str} {p pos apos : Pos} {e o : Expr} {es : List Expr} {ta : TE} {t : TA}

/-- the callee runs -/
theorem run_fn {pins : List (Addr × Obj)} {σ : St} {H : Hp} {s : Shared} {Q : VK} {us : List Value} {vs : List V} (F : FnOk X.prog X.w X.K X.mg X.base CX k f fd ps sp) (hr : Room k X.A) (hb : Binds X.K fd ps ds) (hd : Vals dvs ds) (hx : Passes CX X E)
    (I : Inv X pins σ H s) (r : Vals vs us) (h : sp (vs ++ dvs) H Q E) : wpAny (model X.prog X.w) X.A (call (.ref f) us) (EP X pins σ Q) X.xe s := by
  have r2 : Vals (vs ++ dvs) (us ++ ds) := r.append hd
  have hl : (us ++ ds).length = ps.length := by rw [← r2.length]; exact F.len _ _ _ _ h
  refine wpAny_call (codeAny_mono (F.run X.A X.stack s H ⟨us, []⟩ (us ++ ds) (vs ++ dvs) Q E hr I.env0 (hb s us I.kIn hl) r2 h) fun r s' hq => ?_)
  cases r with
  | error e => exact hx pins σ H s e s' I hq
  | ok fl =>
    cases fl with
    | ret u => exact I.after hq
    | next => exact False.elim hq
    | brk => exact False.elim hq
    | cont => exact False.elim hq

theorem pe_call (F : FnOk X.prog X.w X.K X.mg X.base CX k f fd ps sp) (hr : Room k X.A) (hg : Gl X x) (hm : X.mg x = some (.ref f)) (hk : PySem.W.keepIn X.K (.ref f) = true) (hb : Binds X.K fd ps ds) (hd : Vals dvs ds) (hx : Passes CX X E)
    (ha : PA X (e :: es) t) (hdb : (x == ("__debug__" : Str)) = false := by decide) (he : starEach (e :: es) X.env = (false, eval e X.env) :: starEach es X.env := by rfl) (hpl : (backTo pos (starEach es X.env)).any (·.1) = false := by rfl) :
    PE X (.Call (.Name x p) (e :: es) [] pos) (tCall sp dvs E t) := by
  intro pins s σ H Q I h
  refine wpAny_Call_Name_kw (ld_glob I hg hm ?_ hdb)
  refine PySem.W.callWith_K (h₀ := X.base) I.ok.mod.kin hk (thn (ha pos pins s σ H _ I h) fun us s1 ⟨vs, H1, I1, r, q⟩ => ⟨I1.kIn, ?_⟩) he hpl
  exact run_fn F hr hb hd hx I1 r q
theorem pe_call0 (F : FnOk X.prog X.w X.K X.mg X.base CX k f fd ps sp) (hr : Room k X.A) (hg : Gl X x) (hm : X.mg x = some (.ref f)) (hk : PySem.W.keepIn X.K (.ref f) = true) (hb : Binds X.K fd ps ds) (hd : Vals dvs ds) (hx : Passes CX X E)
    (hdb : (x == ("__debug__" : Str)) = false := by decide) : PE X (.Call (.Name x p) [] [] pos) (tCall sp dvs E tNil) := by
  intro pins s σ H Q I h
  refine wpAny_Call_Name_kw (ld_glob I hg hm ?_ hdb)
  exact PySem.W.callWith_K0 I.kIn hk (run_fn (us := []) F hr hb hd hx I .nil h)

/-- o.m(e, ..) -/
theorem pe_meth {pl : Sem Bool} (he : PE X o ta) (c : Cls X.K C) (hm : Meth X.K C m f) (F : FnOk X.prog X.w X.K X.mg X.base CX k f fd ps sp) (hr : Room k X.A) (hb : Binds X.K fd ps ds) (hd : Vals dvs ds) (hx : Passes CX X E) (ha : PA X (e :: es) t)
    (hst : starEach (e :: es) X.env = (false, eval e X.env) :: starEach es X.env := by rfl) (hpl : (backTo pos (starEach es X.env)).any (·.1) = false := by rfl)
    (ht : eval (.Call (.Attribute o m apos) (e :: es) [] pos) X.env = (do
      let ov ← eval o X.env
      standAt apos.atName
      let (f, first) ← holding [ov] (getMethod ov m pl)
      callWith pos f first (backTo pos (starEach (e :: es) X.env)) (backToKw pos (keywordEach [] X.env))) := by rfl) :
    PE X (.Call (.Attribute o m apos) (e :: es) [] pos) (tMeth C m sp dvs E ta t) := by
  intro pins s σ H Q I h
  refine PySem.W.methodCall_KW (pl := pl) (thn (he pins s σ H _ I h) fun u s1 ⟨x, H1, I1, rx, a, dx, fs, ex, ea, l, q⟩ => ?_) ht
  subst ex
  obtain rfl : u = Value.ref a := rx
  refine getmeth_ok I1 ea c hm l ?_
  refine PySem.W.callWith_K (first := [.ref a]) (h₀ := X.base) I.ok.mod.kin hm.kp (thn (ha pos pins s1 σ H1 _ I1 q) fun us s2 ⟨vs, H2, I2, r, q2⟩ => ⟨I2.kIn, ?_⟩) hst hpl
  exact run_fn (us := .ref a :: us) (vs := .ref a :: vs) F hr hb hd hx I2 (.cons rfl r) q2
/-- o.m() -/
theorem pe_meth0 {pl : Sem Bool} (he : PE X o ta) (c : Cls X.K C) (hm : Meth X.K C m f) (F : FnOk X.prog X.w X.K X.mg X.base CX k f fd ps sp) (hr : Room k X.A) (hb : Binds X.K fd ps ds) (hd : Vals dvs ds) (hx : Passes CX X E)
    (ht : eval (.Call (.Attribute o m apos) [] [] pos) X.env = (do
      let ov ← eval o X.env
      standAt apos.atName
      let (f, first) ← holding [ov] (getMethod ov m pl)
      callWith pos f first (backTo pos (starEach [] X.env)) (backToKw pos (keywordEach [] X.env))) := by rfl) :
    PE X (.Call (.Attribute o m apos) [] [] pos) (tMeth C m sp dvs E ta tNil) := by
  intro pins s σ H Q I h
  refine PySem.W.methodCall_KW (pl := pl) (thn (he pins s σ H _ I h) fun u s1 ⟨x, H1, I1, rx, a, dx, fs, ex, ea, l, q⟩ => ?_) ht
  subst ex
  obtain rfl : u = Value.ref a := rx
  refine getmeth_ok I1 ea c hm l ?_
  exact PySem.W.callWith_K0 (first := [.ref a]) I1.kIn hm.kp (run_fn (us := [.ref a]) (vs := [.ref a]) F hr hb hd hx I1 (.cons rfl .nil) q)

/-- what a class must have to be made -/
structure Mk (K : PySem.W.Frag) (C f : Addr) : Prop where
  makes : PySem.W.makesIn K C = true
  init : PySem.W.findIn K (.ref C) "__init__" = some (some (.ref f))
  fn : PySem.W.isFn K (.ref f) = true
  kp : PySem.W.keepIn K (.ref C) = true

theorem run_make {pins : List (Addr × Obj)} {σ : St} {H : Hp} {s : Shared} {Q : VK} {us : List Value} {vs : List V} (M : Mk X.K C f) (F : FnOk X.prog X.w X.K X.mg X.base CX k f fd ps sp) (hr : Room (k + 1) X.A) (hb : Binds X.K fd ps ds) (hd : Vals dvs ds)
    (hx : Passes CX X E) (I : Inv X pins σ H s) (r : Vals vs us)
    (h : ∀ x dx, H x = none → H dx = none → dx ≠ x → sp (.ref x :: (vs ++ dvs)) (upd (upd H dx (.own x)) x (.ins C dx [])) (fun v H2 => v = .non ∧ Q (.ref x) H2) E) :
    wpAny (model X.prog X.w) X.A (call (.ref C) us) (EP X pins σ Q) X.xe s := by
  have hq := h (s.heap.objs.size + 1) s.heap.objs.size (I.hok.fresh (Nat.le_succ _)) (I.hok.fresh (Nat.le_refl _)) (Nat.ne_of_lt (Nat.lt_succ_self _))
  have I2 := Inv.made (C := C) I
  have r2 : Vals (V.ref (s.heap.objs.size + 1) :: (vs ++ dvs)) (Value.ref (s.heap.objs.size + 1) :: (us ++ ds)) := .cons rfl (r.append hd)
  have hl : (Value.ref (s.heap.objs.size + 1) :: us ++ ds).length = ps.length := by
    have e := r2.length
    rw [F.len _ _ _ _ hq] at e
    exact e.symm
  refine wpAny_call (make_map (f := f) I.kIn M.makes M.init (beq_iff_eq.mp M.fn) (codeAny_mono (F.run _ X.stack _ _ ⟨Value.ref (s.heap.objs.size + 1) :: us, []⟩ (Value.ref (s.heap.objs.size + 1) :: (us ++ ds)) _ _ E (hr.make C us [])
    (I2.env0.make C us []) (hb _ (Value.ref (s.heap.objs.size + 1) :: us) I2.kIn hl) r2 hq) fun r s' hq' => ?_))
  cases r with
  | error e => exact hx pins σ _ _ e s' I2 hq'
  | ok fl =>
    cases fl with
    | ret u =>
      obtain ⟨v, H', I3, rv, ev, q3⟩ := I2.after hq'
      subst ev
      exact ⟨rv, ⟨V.ref (s.heap.objs.size + 1), H', I3, rfl, q3⟩⟩
    | next => exact False.elim hq'
    | brk => exact False.elim hq'
    | cont => exact False.elim hq'
theorem pe_make (M : Mk X.K C f) (F : FnOk X.prog X.w X.K X.mg X.base CX k f fd ps sp) (hr : Room (k + 1) X.A) (hg : Gl X x) (hm : X.mg x = some (.ref C)) (hb : Binds X.K fd ps ds) (hd : Vals dvs ds) (hx : Passes CX X E)
    (ha : PA X (e :: es) t) (hdb : (x == ("__debug__" : Str)) = false := by decide) (he : starEach (e :: es) X.env = (false, eval e X.env) :: starEach es X.env := by rfl) (hpl : (backTo pos (starEach es X.env)).any (·.1) = false := by rfl) :
    PE X (.Call (.Name x p) (e :: es) [] pos) (tMake C sp dvs E t) := by
  intro pins s σ H Q I h
  refine wpAny_Call_Name_kw (ld_glob I hg hm ?_ hdb)
  refine PySem.W.callWith_K (h₀ := X.base) I.ok.mod.kin M.kp (thn (ha pos pins s σ H _ I h) fun us s1 ⟨vs, H1, I1, r, q⟩ => ⟨I1.kIn, ?_⟩) he hpl
  exact run_make M F hr hb hd hx I1 r q
theorem pe_make0 (M : Mk X.K C f) (F : FnOk X.prog X.w X.K X.mg X.base CX k f fd ps sp) (hr : Room (k + 1) X.A) (hg : Gl X x) (hm : X.mg x = some (.ref C)) (hb : Binds X.K fd ps ds) (hd : Vals dvs ds) (hx : Passes CX X E)
    (hdb : (x == ("__debug__" : Str)) = false := by decide) : PE X (.Call (.Name x p) [] [] pos) (tMake C sp dvs E tNil) := by
  intro pins s σ H Q I h
  refine wpAny_Call_Name_kw (ld_glob I hg hm ?_ hdb)
  exact PySem.W.callWith_K0 I.kIn M.kp (run_make (us := []) M F hr hb hd hx I .nil h)
end

/-! ### keywords -/
/-- the values of the keywords, from the left -/
def PK (X : Cx) (kws : List Keyword) (t : TA) : Prop :=
  ∀ (pos : Pos) (pins : List (Addr × Obj)) (s : Shared) (σ : St) (H : Hp) (Q : List V → Hp → Prop), Inv X pins σ H s → t σ H Q → wpAny (model X.prog X.w) X.A (evalAll ((backToKw pos (keywordEach kws X.env)).map (·.2))) (AP X pins σ Q) X.xe s
section
variable {X : Cx} {CX : CXT} {k : Nat} {f C : Addr} {fd : FuncData} {ps ks : List Str} {sp : Sp} {E : XK} {x m : Str} {p pos apos kpos : Pos} {e o : Expr} {es : List Expr} {kws : List Keyword} {te ta : TE} {t tk : TA} {nm : Option Str}
theorem pk_nil : PK X [] tNil := fun _ _ _ _ H Q I h => wpAny_evalAll_nil ⟨[], H, I, .nil, h⟩
theorem pk_cons (ha : PE X e te) (hr : PK X kws t) : PK X (⟨nm, e, kpos⟩ :: kws) (tCons te t) := by
  intro pos pins s σ H Q I h
  show wpAny _ _ (evalAll ((do let v ← eval e X.env; standAt pos; pure v) :: (backToKw pos (keywordEach kws X.env)).map (·.2))) _ _ s
  refine wpAny_evalAll_cons (wpAny_bind (thn (ha pins s σ H _ I h) fun u s1 ⟨x, H1, I1, r1, q1⟩ => wpAny_bind (wpAny_standAt (wpAny_pure ?_))))
  exact thn (hr pos pins s1 σ H1 _ I1 q1) fun us s2 ⟨xs, H2, I2, r2, q2⟩ => ⟨x :: xs, H2, I2, .cons r1 r2, q2⟩

/-- how a call with keywords binds: g puts the positional values us and the keywords' values ws (names ks) in the parameters' order, defaults among them -/
structure KBinds (K : PySem.W.Frag) (fd : FuncData) (ps ks : List Str) (g : List Value → List Value → List Value) (gV : List V → List V → List V) : Prop where
  to : ∀ (s : Shared) (us ws : List Value), K.In s.heap → (g us ws).length = ps.length → BindsTo s fd ⟨us, ks.zip ws⟩ (ps.zip (g us ws))
  rel : ∀ {vs : List V} {us : List Value} {zs : List V} {ws : List Value}, Vals vs us → Vals zs ws → Vals (gV vs zs) (g us ws)
def tCallK (sp : Sp) (gV : List V → List V → List V) (E : XK) (t tk : TA) : TE := fun σ H Q => t σ H fun vs H1 => tk σ H1 fun zs H2 => sp (gV vs zs) H2 Q E
variable {g : List Value → List Value → List Value} {gV : List V → List V → List V}
theorem run_fnk {pins : List (Addr × Obj)} {σ : St} {H : Hp} {s : Shared} {Q : VK} {us ws : List Value} {vs zs : List V} (F : FnOk X.prog X.w X.K X.mg X.base CX k f fd ps sp) (hr : Room k X.A) (hb : KBinds X.K fd ps ks g gV) (hx : Passes CX X E)
    (I : Inv X pins σ H s) (r : Vals vs us) (rz : Vals zs ws) (h : sp (gV vs zs) H Q E) : wpAny (model X.prog X.w) X.A (call (.ref f) us (ks.zip ws)) (EP X pins σ Q) X.xe s := by
  have r2 := hb.rel r rz
  have hl : (g us ws).length = ps.length := by rw [← r2.length]; exact F.len _ _ _ _ h
  refine wpAny_call (codeAny_mono (F.run X.A X.stack s H ⟨us, ks.zip ws⟩ (g us ws) (gV vs zs) Q E hr I.env0 (hb.to s us ws I.kIn hl) r2 h) fun r s' hq => ?_)
  cases r with
  | error e => exact hx pins σ H s e s' I hq
  | ok fl =>
    cases fl with
    | ret u => exact I.after hq
    | next => exact False.elim hq
    | brk => exact False.elim hq
    | cont => exact False.elim hq
/-- f(e, .., k = v, ..) -/
theorem pe_callK (F : FnOk X.prog X.w X.K X.mg X.base CX k f fd ps sp) (hr : Room k X.A) (hg : Gl X x) (hm : X.mg x = some (.ref f)) (hk : PySem.W.keepIn X.K (.ref f) = true) (hb : KBinds X.K fd ps ks g gV) (hx : Passes CX X E)
    (ha : PA X (e :: es) t) (hkw : PK X kws tk) (hall : (backToKw pos (keywordEach kws X.env)).all (·.1.isSome) = true := by rfl) (hks : (backToKw pos (keywordEach kws X.env)).filterMap (·.1) = ks := by rfl)
    (hdb : (x == ("__debug__" : Str)) = false := by decide) (he : starEach (e :: es) X.env = (false, eval e X.env) :: starEach es X.env := by rfl)
    (hpl : ((backTo pos (starEach (e :: es) X.env)).any (·.1) || (backToKw pos (keywordEach kws X.env)).any (·.1.isNone)) = false := by rfl) :
    PE X (.Call (.Name x p) (e :: es) kws pos) (tCallK sp gV E t tk) := by
  intro pins s σ H Q I h
  refine wpAny_Call_Name_kw (ld_glob I hg hm ?_ hdb)
  refine PySem.W.callWith_KW (h₀ := X.base) I.ok.mod.kin hk hall (thn (ha pos pins s σ H _ I h) fun us s1 ⟨vs, H1, I1, r, q⟩ => ?_) hpl he
  refine thn (hkw pos pins s1 σ H1 _ I1 q) fun ws s2 ⟨zs, H2, I2, rz, q2⟩ => ⟨I2.kIn, ?_⟩
  rw [hks]
  exact run_fnk F hr hb hx I2 r rz q2
end

/-! ### a def's body keeps its promise -/
/-- names: the parameters first -/
structure FnScope (N P : List Str) (sc : Scope) : Prop where
  kind : sc.kind = .function
  co : sc.isCoroutine = false
  gen : sc.isGenerator = false
  nd : N.Nodup
  pre : N.take P.length = P
  par : ∀ x ∈ P, sc.names.lookup x = some .local ∨ sc.names.lookup x = some .cell
  nofree : ∀ y ∈ sc.names, y.2 ≠ .free

theorem bindL_out {kindOf : Str → Option NameKind} {x : Str} : ∀ {binds : List (Str × Value)} {m : Str → Option Value}, (∀ v, (x, v) ∉ binds) → bindL kindOf binds m x = m x
  | [], _, _ => rfl
  | (n, v) :: r, m, h => by
    unfold bindL
    rw [bindL_out fun w hw => h w (List.mem_cons_of_mem _ hw)]
    split
    · have : x ≠ n := by rintro rfl; exact h v List.mem_cons_self
      simp [this]
    · rfl
theorem bindC_out {kindOf : Str → Option NameKind} {x : Str} : ∀ {binds : List (Str × Value)} {m : Str → Option Value}, (∀ v, (x, v) ∉ binds) → bindC kindOf binds m x = m x
  | [], _, _ => rfl
  | (n, v) :: r, m, h => by
    unfold bindC
    rw [bindC_out fun w hw => h w (List.mem_cons_of_mem _ hw)]
    split
    · rfl
    · have : x ≠ n := by rintro rfl; exact h v List.mem_cons_self
      simp [this]
theorem bindL_get {kindOf : Str → Option NameKind} {x : Str} {v : Value} : ∀ {P : List Str} {vs : List Value} {i : Nat} {m : Str → Option Value}, P.Nodup → P[i]? = some x → vs[i]? = some v → kindOf x = some .local →
    bindL kindOf (P.zip vs) m x = some v
  | [], _, _, _, _, h, _, _ => by simp at h
  | _ :: _, [], _, _, _, _, h, _ => by simp at h
  | p :: P, w :: vs, 0, m, nd, h1, h2, hk => by
    simp at h1 h2; subst h1; subst h2
    show bindL kindOf ((p, w) :: P.zip vs) m p = _
    unfold bindL
    rw [bindL_out fun v hv => (List.nodup_cons.mp nd).1 (List.of_mem_zip hv).1, if_pos hk]
    simp
  | p :: P, w :: vs, i + 1, m, nd, h1, h2, hk => by
    show bindL kindOf ((p, w) :: P.zip vs) m x = _
    unfold bindL
    exact bindL_get (i := i) (List.nodup_cons.mp nd).2 (by simpa using h1) (by simpa using h2) hk
theorem bindC_get {kindOf : Str → Option NameKind} {x : Str} {v : Value} : ∀ {P : List Str} {vs : List Value} {i : Nat} {m : Str → Option Value}, P.Nodup → P[i]? = some x → vs[i]? = some v → kindOf x ≠ some .local →
    bindC kindOf (P.zip vs) m x = some v
  | [], _, _, _, _, h, _, _ => by simp at h
  | _ :: _, [], _, _, _, _, h, _ => by simp at h
  | p :: P, w :: vs, 0, m, nd, h1, h2, hk => by
    simp at h1 h2; subst h1; subst h2
    show bindC kindOf ((p, w) :: P.zip vs) m p = _
    unfold bindC
    rw [bindC_out fun v hv => (List.nodup_cons.mp nd).1 (List.of_mem_zip hv).1, if_neg hk]
    simp
  | p :: P, w :: vs, i + 1, m, nd, h1, h2, hk => by
    show bindC kindOf ((p, w) :: P.zip vs) m x = _
    unfold bindC
    exact bindC_get (i := i) (List.nodup_cons.mp nd).2 (by simpa using h1) (by simpa using h2) hk

/-- the names' values at the entry -/
def start (N : List Str) (vs : List V) : St := vs.map some ++ List.replicate (N.length - vs.length) none

/-- the context of a def's body, at its entry; an exception leaves the frame, then lies as CX says -/
def cxOf (CX : CXT) (P : Program) (w : World) (K : PySem.W.Frag) (mg : Str → Option Value) (base : Heap) (N : List Str) (qual : Str) (scope : Scope) (f : Addr) (cd : Value) (A : Around) (outer : List Env) (s : Shared) (H : Hp) (E : XK) : Cx where
  prog := P
  w := w
  K := K
  mg := mg
  base := base
  A := A.deeper (envOfC qual scope s.heap.objs.size f cd)
  N := N
  s₀ := s
  H₀ := H
  env := envOfC qual scope s.heap.objs.size f cd
  outer := outer
  stack := envOfC qual scope s.heap.objs.size f cd :: outer
  ex := []
  calm := true
  fn := fun _ => true
  pn := []
  xe := fun e s' => wpAny (model P w) (A.deeper (envOfC qual scope s.heap.objs.size f cd)) (leaving (envOfC qual scope s.heap.objs.size f cd) e) (fun _ s'' => CX outer H s E e s'') (fun e' s'' => CX outer H s E e' s'') s'

theorem cell_has {sc : Scope} {n : Nat} {x : Str} (h : sc.names.lookup x = some .cell) : ∃ c, (cellsFrom n sc.names []).lookup x = some c := by
  have q := PySem.W.cellsFrom_some sc.names n [] (.inl h)
  exact Option.isSome_iff_exists.mp q

theorem inv_start {CX : CXT} {P : Program} {w : World} {K : PySem.W.Frag} {mg : Str → Option Value} {base : Heap} {N ps : List Str} {qual : Str} {scope : Scope} {f : Addr} {cd : Value} {A : Around} {outer : List Env} {s s1 : Shared} {H : Hp} {E : XK} {us : List Value} {vs : List V}
    (S : FnScope N ps scope) (hd : A.handled = none) (e0 : Env0 P w K mg base A outer s H) (hl : vs.length = ps.length) (r : Vals vs us)
    (x : InCallC s s.heap.objs.size (bindL (envOfC qual scope s.heap.objs.size f cd).kindOf (ps.zip us) fun _ => none) (cellsFrom (s.heap.objs.size + 1) scope.names []) (bindC (envOfC qual scope s.heap.objs.size f cd).kindOf (ps.zip us) fun _ => none) s1) :
    Inv (cxOf CX P w K mg base N qual scope f cd A outer s H E) [] (start N vs) H s1 := by
  have hpl : ps.length ≤ N.length := by have := congrArg List.length S.pre; rw [List.length_take] at this; omega
  obtain ⟨h1, tk, rfl, hk⟩ := x.done
  have noA : ∀ b : Addr, b ∉ (cxOf CX P w K mg base N qual scope f cd A outer s H E).ex := fun b z => absurd (show b ∈ ([] : List Addr) from z) (by simp)
  refine ⟨⟨e0.mod, S.kind, rfl, rfl, Nat.le_refl _, fun y z c h1 h2 => ?_, fun y hy => ?_, fun y c _ h => ?_, fun _ => hd, Around.frames_deeper e0.frames, .inr ⟨rfl, rfl⟩, fun b z => absurd z (noA b), e0.bs, e0.bsz, fun b _ _ => noA b, fun b z => absurd z (noA b), e0.funs, e0.frf⟩,
    rfl, e0.bare, Un.kept hk, ⟨_, x.toInCall.ns, fun i y v h1 h2 h3 => ?_⟩, fun y c h => ⟨_, x.cell y c h⟩, e0.hok.fresh (Nat.le_refl _), fun y c h => ?_, fun p hp => absurd (show p ∈ ([] : List (Addr × Obj)) from hp) (by simp), e0.hok.kept hk, ?_⟩
  · exact name_of_addr x.apart (PySem.mem_of_lookup h1) (PySem.mem_of_lookup h2)
  · have hy : scope.names.lookup y = some .cell ∨ scope.names.lookup y = some .free := hy
    rcases hy with hy | hy
    · exact cell_has hy
    · exact absurd rfl (S.nofree _ (PySem.mem_of_lookup hy))
  · exact Nat.le_of_lt (x.above y c (PySem.mem_of_lookup h))
  · have hi : i < vs.length := by
      unfold start at h2
      by_cases hi : i < vs.length
      · exact hi
      · rw [List.getElem?_append_right (by simpa using hi)] at h2
        rw [List.getElem?_replicate] at h2
        split at h2 <;> cases h2
    have ha : vs[i]? = some v := by
      unfold start at h2
      rw [List.getElem?_append_left (by simpa using hi), List.getElem?_map] at h2
      cases e : vs[i]? with
      | none => rw [e] at h2; cases h2
      | some a => rw [e] at h2; cases h2; rfl
    obtain ⟨u, hu, rv⟩ := r.get ha
    have hp : ps[i]? = some y := by
      rw [← S.pre, List.getElem?_take_of_lt (by omega)]; exact h1
    have ndP : ps.Nodup := by rw [← S.pre]; exact S.nd.sublist (List.take_sublist _ _)
    refine ⟨u, rv, ?_⟩
    rcases S.par y (List.mem_of_getElem? hp) with k | k
    · exact .inl ⟨k, bindL_get ndP hp hu k⟩
    · obtain ⟨c, e⟩ := cell_has (n := s.heap.objs.size + 1) k
      refine .inr ⟨.inl k, c, e, ?_⟩
      have q := x.cell y c e
      rw [bindC_get ndP hp hu (by show scope.names.lookup y ≠ _; rw [k]; decide)] at q
      exact q
  · exact e0.hok.fresh (Nat.le_of_lt (x.above y c (PySem.mem_of_lookup h)))
  · unfold start
    show _ = N.length
    rw [List.length_append, List.length_map, List.length_replicate]
    omega

/-- THE RULE: a def (or a method) of the text, by its body. The body's reading t is chosen for each entry; it is run at the parameters' values -/
theorem fn_of {CX : CXT} {P : Program} {w : World} {K : PySem.W.Frag} {mg : Str → Option Value} {base : Heap} {k : Nat} {f : Addr} {name qual : Str} {params : Arguments} {body : List Stmt} {scope : Scope} {dV kV doc pm cdv ct oc : Value} {an od : Option Addr}
    {osl : Array (Option Value)} {N ps : List Str} {sp : Sp} (lk : K.lookup f = some ⟨oc, od, .func (PySem.W.fnOf name qual params body scope dV kV doc pm an cdv ct), osl⟩) (hcd : PySem.W.codeIn K cdv qual = true) (S : FnScope N ps scope)
    (len : ∀ vs H Q E, sp vs H Q E → vs.length = ps.length)
    (hbody : ∀ (A : Around) (outer : List Env) (s : Shared) (H : Hp) (vs : List V) (Q : VK) (E : XK), Room k (A.deeper (envOfC qual scope s.heap.objs.size f cdv)) → sp vs H Q E →
      ∃ t, PSs (cxOf CX P w K mg base N qual scope f cdv A outer s H E) body t ∧ t { nx := fun _ H' => Q .non H', rt := Q } (start N vs) H) :
    FnOk P w K mg base CX (k + 1) f (PySem.W.fnOf name qual params body scope dV kV doc pm an cdv ct) ps sp := by
  refine ⟨len, fun A outer s H args us vs Q E hr e0 hb r hsp => ?_⟩
  have hl := len _ _ _ _ hsp
  have KX : K.In s.heap := e0.mod.kin.keeps fun b o e => (e0.bs b o e).1
  have lim : s.heap.NoLimit := e0.mod.nolimit.keeps fun b o e => (e0.bs b o e).1
  have hkind : ∀ y ∈ ps.zip us, scope.names.lookup y.1 = some .local ∨ (scope.names.lookup y.1 = some .cell ∧ ((cellsFrom (s.heap.objs.size + 1) scope.names []).lookup y.1).isSome = true) := fun ⟨n, v⟩ hy => by
    rcases S.par n (List.of_mem_zip hy).1 with q | q
    · exact .inl q
    · exact .inr ⟨q, PySem.W.cellsFrom_some _ _ _ (.inl q)⟩
  refine codeAny_call_function hr.depth (KX _ _ lk) rfl S.co S.gen rfl (PySem.W.codeRec_of KX hcd) (hb _ _ _ _ ?_)
  refine wpAny_newFunctionEnv_cells S.kind hkind fun env he s1 x => ?_
  subst he
  refine ⟨lim.keeps x.toInCall.keep, codeAny_func ?_⟩
  obtain ⟨t, ht, hq⟩ := hbody A outer s H vs Q E (hr.deeper _) hsp
  have I : Inv (cxOf CX P w K mg base N qual scope f cdv A outer s H E) [] (start N vs) H s1 := inv_start S hr.hd e0 hl r x
  refine wpAny_mono (ht [] s1 (start N vs) H _ I hq) (fun fl s' hs => ?_) fun e s' hs => hs
  have fin : ∀ {σ' : St} {H' : Hp} {v : V} {u : Value}, Inv (cxOf CX P w K mg base N qual scope f cdv A outer s H E) [] σ' H' s' → RelV v u → Q v H' → CE outer P w H s Q u s' :=
    fun {σ' H' v u} J rv q => ⟨v, H', J.os, J.bare, J.base, J.hok, rv, q⟩
  cases fl with
  | ret u =>
    obtain ⟨v, σ', H', J, rv, q⟩ := hs
    exact fin J rv q
  | next =>
    obtain ⟨σ', H', J, q⟩ := hs
    exact fin (v := V.non) (u := Value.none) J rfl q
  | brk =>
    obtain ⟨_, _, _, q⟩ := hs
    exact False.elim q
  | cont =>
    obtain ⟨_, _, _, q⟩ := hs
    exact False.elim q
end L2

namespace L2
open PySem PySem.Spec PyProof.Rows
section
variable {X : Cx} {x : Str} {p pos : Pos} {e : Expr} {es : List Expr} {t : TA} {id T : String} {r : List V → Hp → VK → Prop}

def tCB (r : List V → Hp → VK → Prop) (t : TA) : TE := fun σ H Q => t σ H fun vs H1 => r vs H1 Q
/-- f(e, ..), f a built-in function -/
theorem pe_callB (hc : CallR X (.builtin id) r) (hg : Gl X x) (hm : X.mg x = none) (hv : bootBuiltins x = some (.builtin id)) (ha : PA X (e :: es) t) (hn : x ≠ "__name__" := by decide) (hdb : (x == ("__debug__" : Str)) = false := by decide)
    (he : starEach (e :: es) X.env = (false, eval e X.env) :: starEach es X.env := by rfl) (hpl : (backTo pos (starEach es X.env)).any (·.1) = false := by rfl) : PE X (.Call (.Name x p) (e :: es) [] pos) (tCB r t) := by
  intro pins s σ H Q I h
  refine wpAny_Call_Name_kw (ld_blt I hg hm hv ?_ hn hdb)
  exact PyProof.Rows.callWith_builtin1 (thn (ha pos pins s σ H _ I h) fun us s1 ⟨vs, H1, I1, r1, q1⟩ => hc pins s1 σ H1 vs us Q I1 r1 q1) he hpl
/-- T(e, ..), T a built-in type -/
theorem pe_callTy (hc : CallR X (.type T) r) (hg : Gl X x) (hm : X.mg x = none) (hv : bootBuiltins x = some (.type T)) (ha : PA X (e :: es) t) (hn : x ≠ "__name__" := by decide) (hdb : (x == ("__debug__" : Str)) = false := by decide)
    (he : starEach (e :: es) X.env = (false, eval e X.env) :: starEach es X.env := by rfl) (hpl : (backTo pos (starEach es X.env)).any (·.1) = false := by rfl) : PE X (.Call (.Name x p) (e :: es) [] pos) (tCB r t) := by
  intro pins s σ H Q I h
  refine wpAny_Call_Name_kw (ld_blt I hg hm hv ?_ hn hdb)
  exact PyProof.Rows.callWith_type1 (thn (ha pos pins s σ H _ I h) fun us s1 ⟨vs, H1, I1, r1, q1⟩ => hc pins s1 σ H1 vs us Q I1 r1 q1) he hpl
/-- T() -/
theorem pe_callTy0 (hc : CallR X (.type T) r) (hg : Gl X x) (hm : X.mg x = none) (hv : bootBuiltins x = some (.type T)) (hn : x ≠ "__name__" := by decide) (hdb : (x == ("__debug__" : Str)) = false := by decide) :
    PE X (.Call (.Name x p) [] [] pos) (tCB r tNil) := by
  intro pins s σ H Q I h
  refine wpAny_Call_Name_kw (ld_blt I hg hm hv ?_ hn hdb)
  exact PyProof.Rows.callWith_type0 (hc pins s σ H [] [] Q I .nil h)
end
end L2

namespace HT
open PySem PyProof.Rows

/-- t < u of tuples of ints -/
def lexLt : List Int → List Int → Bool
  | [], [] => false
  | [], _ :: _ => true
  | _ :: _, [] => false
  | x :: xs, y :: ys => if x = y then lexLt xs ys else decide (x < y)
theorem lexLt_cons (x y : Int) (xs ys : List Int) : lexLt (x :: xs) (y :: ys) = if x = y then lexLt xs ys else decide (x < y) := rfl
theorem lexLt_nil_nil : lexLt [] [] = false := rfl
theorem lexLt_nil_cons (y : Int) (ys : List Int) : lexLt [] (y :: ys) = true := rfl
theorem lexLt_cons_nil (x : Int) (xs : List Int) : lexLt (x :: xs) [] = false := rfl

theorem eqAt_int (A : Around) (s : Shared) (a : Int) (t : Tok) (c : Int) (u : Tok) : ∃ e, SeqAt.EqAt A s (.int a t) (.int c u) e ∧ (e = true ↔ a = c) :=
  ⟨(a == c), SeqAt.EqAt.int_int a t c u, by simp⟩
theorem rcLt_int (A : Around) (s : Shared) (a : Int) (t : Tok) (c : Int) (u : Tok) (prog : Program) (w : World) (E : Value → Shared → Prop) (Q : Value → Shared → Prop) (h : Q (.bool (decide (a < c))) s) :
    wpAny (model prog w) A (richCompare .Lt (.int a t) (.int c u)) Q E s :=
  (PyProof.Rows.lt_int h : wpAny (model prog w) A (compareOp .Lt (.int a t) (.int c u)) Q E s)

section
open PySem.SeqAt
open PySem.AutoSeq1 (wpAny_loadPart')
open PySem.MeetsSeq PySem.MeetsSeq2 PySem.MeetsSeq3

theorem tuple_lt_ints (l b : Addr) (items items2 : Array Value) (n n2 : Nat) (dd dd2 : Option Addr) (sl sl2 : Array (Option Value)) (ns ms : List Int) (hi : IntsAre items.toList ns) (hj : IntsAre items2.toList ms) :
    Meets (Builtin.«tuple.__lt__» ⟨[.ref l, .ref b], []⟩)
      (fun _ R s => s.heap.get? l = some { cls := .type "tuple", dict := dd, data := .seq items n, slots := sl } ∧ s.heap.get? b = some { cls := .type "tuple", dict := dd2, data := .seq items2 n2, slots := sl2 } ∧
        R (.ok (.ret (.bool (lexLt ns ms)))) s) :=
  .of_wp fun prog w A R s h => by
    obtain ⟨hp, g, d, tk, os⟩ := s; obtain ⟨hl, hb, h⟩ := h
    have f2 := AutoSeq1.sub_tuple_tuple
    have z1 : items.size = ns.length := by rw [← hi.length]; simp
    have z2 : items2.size = ms.length := by rw [← hj.length]; simp
    wp_walk using wpAny_loadPart' hl, wpAny_loadPart' hb, wpAny_forIn_list _ (fun rest b s' => b.1 = none ∧ s' = ⟨hp, g, d, tk, os⟩ ∧ ∃ (vs ws : List Value) (ns' ms' : List Int), rest = vs.zip ws ∧
      IntsAre vs ns' ∧ IntsAre ws ms' ∧ ns'.length + items2.size = ms'.length + items.size ∧ R (.ok (.ret (.bool (lexLt ns' ms')))) ⟨hp, g, d, tk, os⟩) _
    case turn =>
      rintro ⟨y, x⟩ rest b s' ⟨hb', rfl, vs, ws, ns', ms', hz, hvi, hwi, hlen, hR⟩
      cases hvi with
      | nil => rw [List.zip_nil_left] at hz; cases hz
      | cons a t hvi' =>
        cases hwi with
        | nil => rw [List.zip_nil_right] at hz; cases hz
        | cons c u hwi' =>
          rw [List.zip_cons_cons] at hz
          injection hz with hyx hrest
          injection hyx with hy hx
          subst hy hx
          rw [lexLt_cons] at hR
          simp only [List.length_cons] at hlen
          obtain ⟨e, he, hiff⟩ := eqAt_int A.in1 ⟨hp, g, d, tk, os⟩ a t c u
          refine wpAny_bind (he prog w _ _ ?_)
          cases e with
          | true =>
            rw [if_pos (hiff.mp rfl)] at hR
            wp_walk
            exact ⟨rfl, rfl, _, _, _, _, hrest, hvi', hwi', by omega, hR⟩
          | false =>
            rw [if_neg (fun q => absurd (hiff.mpr q) Bool.false_ne_true)] at hR
            have hri := rcLt_int A.in1 ⟨hp, g, d, tk, os⟩ a t c u prog w
            wp_walk using hri
            exact ⟨_, rfl, by simpa using hR⟩
    case fin =>
      rintro ⟨b1, b2⟩ s' ⟨hb', rfl, vs, ws, ns', ms', hz, hvi, hwi, hlen, hR⟩
      simp only at hb'
      subst hb'
      have hv : lexLt ns' ms' = decide (items.size < items2.size) := by
        cases hvi with
        | nil =>
          cases hwi with
          | nil =>
            simp only [List.length_nil] at hlen
            rw [lexLt_nil_nil]
            exact (decide_eq_false (by omega)).symm
          | cons c u hw =>
            simp only [List.length_nil, List.length_cons] at hlen
            rw [lexLt_nil_cons]
            exact (decide_eq_true (by omega)).symm
        | cons a t hv =>
          cases hwi with
          | nil =>
            simp only [List.length_nil, List.length_cons] at hlen
            rw [lexLt_cons_nil]
            exact (decide_eq_false (by omega)).symm
          | cons c u hw =>
            rw [List.zip_cons_cons] at hz
            cases hz
      rw [hv] at hR
      wp_walk
      exact ⟨_, rfl, by simpa [Builtin.Tuple.tupleCompareSizes] using hR⟩
    case h =>
      exact ⟨rfl, rfl, items.toList, items2.toList, ns, ms, rfl, hi, hj, by omega, h⟩
end

section
variable {prog : Program} {w : World} {A : Around} {E : Value → Shared → Prop} {s : Shared}

theorem lt_tupInts {l b : Addr} {items items2 : Array Value} {ns ms : List Int} {Q : Value → Shared → Prop} (hl : IsTup s.heap l items) (hb : IsTup s.heap b items2) (hi : IntsAre items.toList ns) (hj : IntsAre items2.toList ms)
    (hu : A.units < cLine) (h : Q (.bool (lexLt ns ms)) s) : wpAny (model prog w) A (compareOp .Lt (.ref l) (.ref b)) Q E s := by
  obtain ⟨⟨cls, dd, data, sl⟩, ho, hc, n, hd⟩ := id hl
  obtain ⟨⟨cls2, dd2, data2, sl2⟩, ho2, hc2, n2, hd2⟩ := id hb
  simp only at hc hd hc2 hd2
  subst hc hd hc2 hd2
  exact richCompare_meets_room (op := .Lt) ⟨_, ho, rfl⟩ ⟨_, ho2, rfl⟩ PySem.F.slot_tuple_lt PySem.F.entry_tuple_lt (PySem.F.args_tuple_lt_2 _ _) (tuple_lt_ints l b items items2 n n2 dd dd2 sl sl2 ns ms hi hj)
    ⟨ho, ho2, show Value.bool (lexLt ns ms) ≠ Value.notImplemented ∧ Q (.bool (lexLt ns ms)) s from ⟨(fun x => nomatch x), h⟩⟩ hu

/-- t + u, t not empty -/
theorem cat_tup {t b : Addr} {vs ws : List Value} {Q : Value → Shared → Prop} (ht : IsTup s.heap t vs.toArray) (hb : IsTup s.heap b ws.toArray) (hv : vs ≠ [])
    (h1 : ws = [] → Q (.ref t) s) (h2 : ws ≠ [] → Q (.ref s.heap.objs.size) { s with heap := s.heap.push { cls := .type "tuple", data := .seq (vs ++ ws).toArray } })
    (hsz : vs.length + ws.length ≤ sizeLine) : wpAny (model prog w) A (binaryOp .Add (.ref t) (.ref b)) Q E s := by
  obtain ⟨⟨cls, dd, data, sl⟩, ho, hc, n, hd⟩ := id ht
  obtain ⟨⟨cls2, dd2, data2, sl2⟩, ho2, hc2, n2, hd2⟩ := id hb
  simp only at hc hd hc2 hd2
  subst hc hd hc2 hd2
  have e : vs.toArray ++ ws.toArray = (vs ++ ws).toArray := by simp
  by_cases hw : ws = []
  · exact concat_meets ⟨_, ho, rfl⟩ ⟨_, ho2, rfl⟩ noFill_tuple_add seq_tuple_add PySem.F.slot_tuple_add PySem.F.entry_tuple_add (PySem.F.args_tuple_add_2 _ _)
      (tuple_addW1 t b vs.toArray ws.toArray n n2 dd dd2 sl sl2 (by simpa using hv) (by simp [hw])) ⟨ho, ho2, h1 hw⟩
  · refine concat_meets ⟨_, ho, rfl⟩ ⟨_, ho2, rfl⟩ noFill_tuple_add seq_tuple_add PySem.F.slot_tuple_add PySem.F.entry_tuple_add (PySem.F.args_tuple_add_2 _ _)
      (tuple_addW2 t b vs.toArray ws.toArray n n2 dd dd2 sl sl2 (by simpa using hv) (by simpa using hw) (by rw [List.size_toArray, List.size_toArray]; exact hsz)) ⟨ho, ho2, ?_⟩
    rw [e]
    exact h2 hw

/-! ### t[a:b], not the whole -/
/-- a slice's bound as a place among n (d where it is left out) -/
def sIx (n d : Nat) : Option Int → Nat
  | none => d
  | some v => if v < 0 then (v + (n : Int)).toNat else min v.toNat n
theorem sIx_none (n d : Nat) : sIx n d none = d := rfl
theorem sIx_nat (n d k : Nat) : sIx n d (some (k : Int)) = min k n := by
  show (if (k : Int) < 0 then ((k : Int) + (n : Int)).toNat else min (k : Int).toNat n) = min k n
  rw [if_neg (by omega), Int.toNat_natCast]
theorem sIx_le (n d : Nat) (hd : d ≤ n) (o : Option Int) : sIx n d o ≤ n := by
  cases o with
  | none => exact hd
  | some v =>
    show (if v < 0 then (v + (n : Int)).toNat else min v.toNat n) ≤ n
    by_cases hv : v < 0
    · rw [if_pos hv]; omega
    · rw [if_neg hv]; exact Nat.min_le_right _ _
theorem clip_eq (v : Int) (n d : Nat) : (if v < 0 then max (v + (n : Int)) 0 else min v (n : Int)) = ((sIx n d (some v) : Nat) : Int) := by
  show (if v < 0 then max (v + (n : Int)) 0 else min v (n : Int)) = (((if v < 0 then (v + (n : Int)).toNat else min v.toNat n) : Nat) : Int)
  by_cases hv : v < 0
  · simp only [if_pos hv]; omega
  · simp only [if_neg hv]; omega
theorem adjust_gen (lo hi : Option Int) (n : Nat) : Builtin.Slice.sliceAdjust lo hi 1 (n : Int) = (((sIx n 0 lo : Nat) : Int), ((sIx n n hi : Nat) : Int)) := by
  have h1 : ¬ ((1 : Int) < 0) := by omega
  unfold Builtin.Slice.sliceAdjust
  simp only [h1, if_false]
  refine Prod.ext ?_ ?_
  · cases lo with
    | none => rfl
    | some v => exact clip_eq v n 0
  · cases hi with
    | none => rfl
    | some v => exact clip_eq v n n
theorem places_gen (i j : Nat) : Builtin.Slice.slicePlaces (i : Int) (j : Int) 1 = j - i := by
  unfold Builtin.Slice.slicePlaces
  have h1 : (1 : Int) > 0 := by omega
  simp only [h1, if_true, Int.ediv_one]
  split <;> omega
theorem slicePart_ {v : Value} {o : Option Int} {Q : Option Int → Shared → Prop} (p : IsPart v o) (h : Q o s) : wpAny (model prog w) A (Builtin.Slice.slicePartIndex v) Q E s := by
  cases p with
  | none => exact slicePart_none h
  | int i t => exact slicePart_int h
theorem sliceApplied_gen {sl : Addr} {vl vu : Value} {lo hi : Option Int} {n : Nat} {Q : Int × Int × Nat → Shared → Prop} (hs : s.heap.IsSliceOf sl vl vu .none) (pl : IsPart vl lo) (pu : IsPart vu hi)
    (h : Q (((sIx n 0 lo : Nat) : Int), 1, sIx n n hi - sIx n 0 lo) s) : wpAny (model prog w) A (Builtin.Slice.sliceApplied (.ref sl) (pure (n : Int))) Q E s := by
  obtain ⟨os, hos, hcs, hds⟩ := id hs
  unfold Builtin.Slice.sliceApplied Builtin.Slice.sliceFields
  refine wpAny_bind (wpAny_bind (wpAny_field hos hds (x := vl) rfl (wpAny_bind (wpAny_field hos hds (x := vu) rfl (wpAny_bind (wpAny_field hos hds (x := .none) rfl (wpAny_pure ?_)))))))
  refine wpAny_bind (slicePart_none ?_)
  show wpAny _ _ (if ((1 : Int) == 0) = true then _ else _) _ _ s
  rw [if_neg (by decide)]
  refine wpAny_bind (slicePart_ pl (wpAny_bind (slicePart_ pu (wpAny_bind (wpAny_pure ?_)))))
  show wpAny _ _ (match Builtin.Slice.sliceAdjust lo hi 1 (n : Int) with | (lo, hi) => pure (lo, (1 : Int), Builtin.Slice.slicePlaces lo hi 1)) _ _ s
  rw [adjust_gen lo hi n]
  show wpAny _ _ (pure (((sIx n 0 lo : Nat) : Int), (1 : Int), Builtin.Slice.slicePlaces ((sIx n 0 lo : Nat) : Int) ((sIx n n hi : Nat) : Int) 1)) _ _ s
  rw [places_gen]
  exact wpAny_pure h
theorem pick_gen (xs : Array Value) (i k : Nat) : ((List.range k).filterMap fun (m : Nat) => xs[((i : Int) + (m : Int) * 1).toNat]?).toArray = ((xs.toList.drop i).take k).toArray := by
  have e : (fun (m : Nat) => xs[((i : Int) + (m : Int) * 1).toNat]?) = fun m => xs[i + m]? := by
    funext m
    have : ((i : Int) + (m : Int) * 1).toNat = i + m := by omega
    rw [this]
  rw [e]
  have := pick_run xs i k
  rw [List.filterMap_map] at this
  have e2 : ((fun x => xs[x]?) ∘ fun x => i + x) = fun m => xs[i + m]? := rfl
  rw [e2] at this
  rw [this]

theorem getItem_tuple_cut {t sl : Addr} {items : Array Value} {vl vu : Value} {lo hi : Option Int} {Q : Value → Shared → Prop} (ht : IsTup s.heap t items) (hs : s.heap.IsSliceOf sl vl vu .none) (pl : IsPart vl lo) (pu : IsPart vu hi)
    (hw : ¬ (sIx items.size 0 lo = 0 ∧ sIx items.size items.size hi = items.size))
    (h : Q (.ref s.heap.objs.size) { s with heap := s.heap.push { cls := .type "tuple", data := .seq ((items.toList.drop (sIx items.size 0 lo)).take (sIx items.size items.size hi - sIx items.size 0 lo)).toArray } })
    (hsz : items.size ≤ sizeLine) : wpAny (model prog w) A (getItem (.ref t) (.ref sl)) Q E s := by
  have htake : sizeOk (.seq ((items.toList.drop (sIx items.size 0 lo)).take (sIx items.size items.size hi - sIx items.size 0 lo)).toArray) := by
    show ((items.toList.drop (sIx items.size 0 lo)).take (sIx items.size items.size hi - sIx items.size 0 lo)).toArray.size ≤ sizeLine
    rw [List.size_toArray, List.length_take, List.length_drop, Array.length_toList]
    omega
  have hj : sIx items.size items.size hi ≤ items.size := sIx_le _ _ (Nat.le_refl _) hi
  obtain ⟨os, hos, hcs, hds⟩ := id hs
  have hTs : s.TypeIs (.ref sl) "slice" := ⟨os, hos, hcs⟩
  unfold getItem
  try with_reducible refine wpAny_holding ?_
  first | refine wpAny_bind (wpAny_pure ?_) | skip
  refine wpAny_bind (wpAny_sequenceKey ht.typeIs (by decide) ?_)
  refine wpAny_bind (wpAny_callSpecial?_slot (name := Str.ofString "__getitem__") ht.typeIs PyProof.Rows.slot_tuple_getitem
    (wpAny_call_entry PyProof.Rows.slot_tuple_getitem ht.typeIs entry_tuple_getitem ?_ (args_tuple_getitem _ _)))
  show wpAny _ _ (Builtin.Tuple.tupleItemsOf (.ref t) >>= _) _ _ s
  refine wpAny_bind (tupleItemsOf_ ht ?_)
  refine wpAny_bind (wpAny_typeOf hTs ?_)
  rw [if_pos (by decide)]
  refine wpAny_bind (sliceApplied_gen hs pl pu ?_)
  have hno : ¬ ((((sIx items.size 0 lo : Nat) : Int) == 0 && (1 : Int) == 1 && (sIx items.size items.size hi - sIx items.size 0 lo) == items.size) = true) := by
    intro q
    rw [Bool.and_eq_true, Bool.and_eq_true] at q
    have q1 : ((sIx items.size 0 lo : Nat) : Int) = 0 := eq_of_beq q.1.1
    have q2 : sIx items.size items.size hi - sIx items.size 0 lo = items.size := eq_of_beq q.2
    exact hw ⟨by omega, by omega⟩
  show wpAny _ _ (if (((sIx items.size 0 lo : Nat) : Int) == 0 && (1 : Int) == 1 && (sIx items.size items.size hi - sIx items.size 0 lo) == items.size) = true then _ else _) _ _ s
  rw [if_neg hno, pick_gen]
  first
    | exact wpAny_bind (m := Builtin.Tuple.tupleExact _) (wpAny_newObj_type (wpAny_pure ⟨_, rfl, wpAny_pure h⟩) htake)
    | exact wpAny_bind (m := Builtin.Tuple.tupleExact _) (wpAny_newObj_type (wpAny_bind (wpAny_pure (wpAny_pure ⟨_, rfl, wpAny_pure h⟩))) htake)
    | exact wpAny_bind (wpAny_bind (m := Builtin.Tuple.tupleExact _) (wpAny_newObj_type (wpAny_pure (wpAny_pure ⟨_, rfl, wpAny_pure h⟩)) htake))
    | exact wpAny_bind (wpAny_bind (m := Builtin.Tuple.tupleExact _) (wpAny_newObj_type (wpAny_pure ⟨_, rfl, wpAny_pure h⟩) htake))
end
end HT

namespace L2
open PySem PySem.Spec PyProof.Rows

/-! ### the parts of a slice -/
abbrev TO := St → Hp → (Option Int → Hp → Prop) → Prop
/-- a slice's part (left out, or an int) -/
def PO (X : Cx) (e : Option Expr) (t : TO) : Prop :=
  ∀ (pins : List (Addr × Obj)) (s : Shared) (σ : St) (H : Hp) (Q : Option Int → Hp → Prop), Inv X pins σ H s → t σ H Q →
    wpAny (model X.prog X.w) X.A (evalPart e X.env) (fun u s' => ∃ o H', Inv X pins σ H' s' ∧ IsPart u o ∧ Q o H') X.xe s
def tNoPart : TO := fun _ H Q => Q none H
def tPart (t : TE) : TO := fun σ H Q => t σ H fun x H1 => ∃ i, x = .int i ∧ Q (some i) H1

theorem intsAre_of {ns : List Int} : ∀ {us : List Value}, Vals (ns.map V.int) us → IntsAre us ns := by
  induction ns with
  | nil => intro us r; rw [List.map_nil] at r; cases r; exact .nil
  | cons n ns ih =>
    intro us r
    rw [List.map_cons] at r
    cases r with
    | cons r1 r2 =>
      obtain ⟨t, e⟩ := r1
      subst e
      exact .cons n t (ih r2)

section
variable {X : Cx} {e : Expr} {te : TE} {lo hi : Option Expr} {tl th : TO} {pos p2 : Pos}

theorem po_none : PO X none tNoPart := by
  intro pins s σ H Q I h
  rw [evalPart_none]
  exact wpAny_pure ⟨none, H, I, .none, h⟩
theorem po_some (h : PE X e te) : PO X (some e) (tPart te) := by
  intro pins s σ H Q I hw
  rw [evalPart_some]
  refine thn (h pins s σ H _ I hw) fun u s1 ⟨x, H1, I1, r1, q1⟩ => ?_
  obtain ⟨i, rfl, q⟩ := q1
  obtain ⟨t, rfl⟩ := r1
  exact ⟨some i, H1, I1, .int i t, q⟩

/-- what a slice of a value is, by values: the slice object stands at sl -/
def SlR (X : Cx) (r : V → Option Int → Option Int → Hp → VK → Prop) : Prop :=
  ∀ (pins : List (Addr × Obj)) (s : Shared) (σ : St) (H : Hp) (x : V) (v vl vu : Value) (lo hi : Option Int) (sl : Addr) (Q : VK), Inv X pins σ H s → RelV x v → s.heap.IsSliceOf sl vl vu .none → IsPart vl lo → IsPart vu hi → r x lo hi H Q →
    ∃ T id, typeLookup (.type T) "__getitem__" = pure (some (.builtin id)) ∧ s.TypeIs v T ∧ wpAny (model X.prog X.w) X.A (getItem v (.ref sl)) (EP X pins σ Q) X.xe s
theorem SlR.or {r r' : V → Option Int → Option Int → Hp → VK → Prop} (h : SlR X r) (h' : SlR X r') : SlR X (fun x lo hi H Q => r x lo hi H Q ∨ r' x lo hi H Q) := by
  intro pins s σ H x v vl vu lo hi sl Q I rx hs pl pu q
  rcases q with q | q
  · exact h pins s σ H x v vl vu lo hi sl Q I rx hs pl pu q
  · exact h' pins s σ H x v vl vu lo hi sl Q I rx hs pl pu q
def tSl (r : V → Option Int → Option Int → Hp → VK → Prop) (te : TE) (tl th : TO) : TE := fun σ H Q => te σ H fun x H1 => tl σ H1 fun l H2 => th σ H2 fun u H3 => r x l u H3 Q
/-- a[lo:hi], any a -/
theorem pe_slice {r : V → Option Int → Option Int → Hp → VK → Prop} (hr : SlR X r) (he : PE X e te) (hl : PO X lo tl) (hu : PO X hi th) : PE X (.Subscript e (.Slice lo hi none p2) pos) (tSl r te tl th) := by
  intro pins s σ H Q I h
  refine Subscript_ (thn (he pins s σ H _ I h) fun v s1 ⟨x, H1, I1, r1, q1⟩ => ?_)
  refine wpAny_Slice (thn (hl pins s1 σ H1 _ I1 q1) fun vl s2 ⟨l, H2, I2, pl, q2⟩ => thn (hu pins s2 σ H2 _ I2 q2) fun vu s3 ⟨u, H3, I3, pu, q3⟩ => ?_)
  rw [evalPart_none]
  refine wpAny_pure ?_
  have I4 : Inv X pins σ H3 { s3 with heap := s3.heap.push { cls := .type "slice", data := .fields #[vl, vu, .none] } } := I3.kept (t' := s3.toks) fun b ob q => Heap.get?_push_of_some _ q
  obtain ⟨T, id, hT, ht, hg⟩ := hr pins { s3 with heap := s3.heap.push { cls := .type "slice", data := .fields #[vl, vu, .none] } } σ H3 x v vl vu l u s3.heap.objs.size Q I4 r1 (Heap.IsSliceOf.new ..) pl pu q3
  show wpAny (model X.prog X.w) X.A (subscriptTail e (.Slice lo hi none p2) v (.ref s3.heap.objs.size)) (EP X pins σ Q) X.xe { s3 with heap := s3.heap.push { cls := .type "slice", data := .fields #[vl, vu, .none] } }
  exact tail_any (ops := [.ref s3.heap.objs.size, v]) ht hT hg (by with_unfolding_all rfl)

/-- the items of xs[lo:hi] -/
def cutV (xs : List V) (lo hi : Option Int) : List V := (xs.drop (HT.sIx xs.length 0 lo)).take (HT.sIx xs.length xs.length hi - HT.sIx xs.length 0 lo)
theorem cutV_length (xs : List V) (lo hi : Option Int) : (cutV xs lo hi).length ≤ xs.length := by
  unfold cutV
  rw [List.length_take, List.length_drop]
  omega
/-- t[lo:hi], not the whole of it (the whole would be t itself) -/
def rSlT (K : PySem.W.Frag) : V → Option Int → Option Int → Hp → VK → Prop := fun x lo hi H Q => ∃ a xs, x = .ref a ∧ SqT K H a xs ∧
  ¬ (HT.sIx xs.length 0 lo = 0 ∧ HT.sIx xs.length xs.length hi = xs.length) ∧ ∀ p, H p = none → Q (.ref p) (upd H p (.tup (cutV xs lo hi)))
theorem sl_tup : SlR X (rSlT X.K) := by
  intro pins s σ H x v vl vu lo hi sl Q I rx hs pl pu h
  obtain ⟨a, xs, rfl, hx, hw, q⟩ := h
  cases rx
  obtain ⟨its, r, ht, hz⟩ := I.tuple hx
  have hlen : its.toArray.size = xs.length := by rw [List.size_toArray]; exact r.length.symm
  refine ⟨"tuple", _, PyProof.Rows.slot_tuple_getitem.lookup, ht.typeIs, ?_⟩
  refine HT.getItem_tuple_cut ht hs pl pu (by rw [hlen]; exact hw) ?_ (by rw [hlen]; exact hz)
  rw [hlen]
  refine ⟨.ref s.heap.objs.size, _, I.laid (t' := s.toks) (o := .tup (cutV xs lo hi)) (fun b ob q => Heap.get?_push_of_some _ q) (Nat.le_refl _) ?_, rfl, q _ (I.hok.fresh (Nat.le_refl _))⟩
  exact ⟨Nat.le_trans (cutV_length xs lo hi) hz, _, (r.drop (HT.sIx xs.length 0 lo)).take (HT.sIx xs.length xs.length hi - HT.sIx xs.length 0 lo), IsTup.new _ _⟩

/-! ### t < u, t + u -/
def rLtT (K : PySem.W.Frag) : R2 := fun x y H Q => ∃ a b ns ms, x = .ref a ∧ y = .ref b ∧ SqT K H a (ns.map V.int) ∧ SqT K H b (ms.map V.int) ∧ Q (.bl (HT.lexLt ns ms)) H
theorem op_ltT (hu : X.A.units < cLine) : OpR X (compareOp .Lt) (rLtT X.K) := by
  intro pins s σ H x y v u Q I rx ry h
  obtain ⟨a, b, ns, ms, rfl, rfl, ha, hb, q⟩ := h
  cases rx
  cases ry
  obtain ⟨its, r1, p1, _⟩ := I.tuple ha
  obtain ⟨its2, r2, p2, _⟩ := I.tuple hb
  have i1 : IntsAre its.toArray.toList ns := intsAre_of r1
  have i2 : IntsAre its2.toArray.toList ms := intsAre_of r2
  exact HT.lt_tupInts p1 p2 i1 i2 hu ⟨.bl (HT.lexLt ns ms), H, I, rfl, q⟩
/-- t + u, t not empty: u empty gives t itself -/
def rCatT (K : PySem.W.Frag) : R2 := fun x y H Q => ∃ a b xs ys, x = .ref a ∧ y = .ref b ∧ SqT K H a xs ∧ SqT K H b ys ∧ xs ≠ [] ∧ xs.length + ys.length ≤ sizeLine ∧
  (ys = [] → Q (.ref a) H) ∧ (ys ≠ [] → ∀ p, H p = none → Q (.ref p) (upd H p (.tup (xs ++ ys))))
theorem Vals.nil_iff {xs : List V} {us : List Value} (r : Vals xs us) : us = [] ↔ xs = [] := by
  cases r with
  | nil => simp
  | cons _ _ => simp
theorem op_catT : OpR X (binaryOp .Add) (rCatT X.K) := by
  intro pins s σ H x y v u Q I rx ry h
  obtain ⟨a, b, xs, ys, rfl, rfl, ha, hb, hx, hz, q1, q2⟩ := h
  cases rx
  cases ry
  obtain ⟨its, r1, p1, _⟩ := I.tuple ha
  obtain ⟨its2, r2, p2, _⟩ := I.tuple hb
  refine HT.cat_tup p1 p2 (fun z => hx (r1.nil_iff.mp z)) (fun z => ⟨.ref a, H, I, rfl, q1 (r2.nil_iff.mp z)⟩) (fun z => ?_) (by rw [← r1.length, ← r2.length]; exact hz)
  refine ⟨.ref s.heap.objs.size, _, I.laid (t' := s.toks) (o := .tup (xs ++ ys)) (fun b ob q => Heap.get?_push_of_some _ q) (Nat.le_refl _) ?_, rfl, q2 (fun w => z (r2.nil_iff.mpr w)) _ (I.hok.fresh (Nat.le_refl _))⟩
  exact ⟨by rw [List.length_append]; exact hz, _, r1.append r2, IsTup.new _ _⟩
/-- tuple(t) -/
theorem call_tupleT : CallR X (.type "tuple") (fun xs H Q => ∃ a ys, xs = [.ref a] ∧ SqT X.K H a ys ∧ Q (.ref a) H) := by
  intro pins s σ H xs us Q I r h
  obtain ⟨a, ys, rfl, ha, q⟩ := h
  obtain ⟨u, rfl, ru⟩ := vals1 r
  cases ru
  obtain ⟨its, _, p1, _⟩ := I.tuple ha
  exact call_tuple_same (items := its.toArray) p1 ⟨.ref a, H, I, rfl, q⟩
end
end L2

namespace L2
open PySem PySem.Spec PyProof.Rows

/-! ### places -/
/-- the place that an index of any sign means -/
def ixN (n : Nat) (i : Int) : Option Nat := if 0 ≤ i then (if i < n then some i.toNat else none) else if -(n : Int) ≤ i then some (i + n).toNat else none
def atI {α : Type} (xs : List α) (i : Int) : Option α := (ixN xs.length i).bind fun j => xs[j]?
theorem ixN_seq {n : Nat} {i : Int} {j : Nat} (h : ixN n i = some j) : seqIndex? i n = some j ∧ j < n ∧ -(n : Int) ≤ i ∧ i < n := by
  unfold ixN at h
  by_cases h0 : 0 ≤ i
  · rw [if_pos h0] at h
    by_cases h1 : i < n
    · rw [if_pos h1] at h
      have e : i.toNat = j := Option.some.inj h
      exact ⟨by rw [seqIndex_of h0 h1, e], by omega, by omega, h1⟩
    · rw [if_neg h1] at h; cases h
  · rw [if_neg h0] at h
    by_cases h1 : -(n : Int) ≤ i
    · rw [if_pos h1] at h
      have e : (i + n).toNat = j := Option.some.inj h
      exact ⟨by rw [seqIndex_neg (by omega) h1, e], by omega, h1, by omega⟩
    · rw [if_neg h1] at h; cases h
theorem atI_get {α : Type} {xs : List α} {i : Int} {v : α} (h : atI xs i = some v) : ∃ j, seqIndex? i xs.length = some j ∧ xs[j]? = some v ∧ j < xs.length ∧ -(xs.length : Int) ≤ i ∧ i < xs.length := by
  unfold atI at h
  cases e : ixN xs.length i with
  | none => rw [e] at h; cases h
  | some j =>
    rw [e] at h
    obtain ⟨h1, h2, h3, h4⟩ := ixN_seq e
    exact ⟨j, h1, h, h2, h3, h4⟩
theorem atI_nat {α : Type} {xs : List α} {j : Nat} {v : α} (h : xs[j]? = some v) : atI xs (j : Int) = some v := by
  have hj : j < xs.length := (List.getElem?_eq_some_iff.mp h).1
  have e : ixN xs.length (j : Int) = some j := by
    unfold ixN
    rw [if_pos (by omega), if_pos (by omega)]; simp
  unfold atI; rw [e]; exact h
theorem atI_last {α : Type} (xs : List α) (v : α) : atI (xs ++ [v]) (-1) = some v := by
  have hl : (xs ++ [v]).length = xs.length + 1 := by simp
  have e : ixN (xs ++ [v]).length (-1) = some xs.length := by
    unfold ixN
    rw [hl, if_neg (by decide), if_pos (by omega)]
    congr 1
    omega
  unfold atI
  rw [e]
  show (xs ++ [v])[xs.length]? = some v
  simp

/-! ### what may be subscripted -/
/-- what stands as an index of a plain subscript -/
def PlainIx (b : Expr) : Prop := ∀ o i, subscripted b false o i = operate [o, i] (getItem o i)
/-- a subscript by values -/
def IxR (X : Cx) (r : R2) : Prop :=
  ∀ (value slice : Expr) (pins : List (Addr × Obj)) (s : Shared) (σ : St) (H : Hp) (x y : V) (v u : Value) (Q : VK), Inv X pins σ H s → RelV x v → RelV y u → r x y H Q →
    subscripted slice false v u = operate [v, u] (getItem v u) → wpAny (model X.prog X.w) X.A (subscriptTail value slice v u) (EP X pins σ Q) X.xe s
/-- a call of a builtin's method by values: the receiver, the arguments -/
def MtR (X : Cx) (id : String) (r : V → List V → Hp → VK → Prop) : Prop :=
  ∀ (pins : List (Addr × Obj)) (s : Shared) (σ : St) (H : Hp) (x : V) (xs : List V) (v : Value) (us : List Value) (Q : VK), Inv X pins σ H s → RelV x v → Vals xs us → r x xs H Q →
    wpAny (model X.prog X.w) X.A (call (.builtin id) (v :: us)) (EP X pins σ Q) X.xe s
section
variable {X : Cx} {a b : Expr} {ta tb : TE} {pos : Pos}
theorem IxR.or {r r' : R2} (h : IxR X r) (h' : IxR X r') : IxR X (fun x y H Q => r x y H Q ∨ r' x y H Q) := by
  intro value slice pins s σ H x y v u Q I rx ry q hs
  rcases q with q | q
  · exact h value slice pins s σ H x y v u Q I rx ry q hs
  · exact h' value slice pins s σ H x y v u Q I rx ry q hs
theorem MtR.or {id : String} {r r' : V → List V → Hp → VK → Prop} (h : MtR X id r) (h' : MtR X id r') : MtR X id (fun x xs H Q => r x xs H Q ∨ r' x xs H Q) := by
  intro pins s σ H x xs v us Q I rx rs q
  rcases q with q | q
  · exact h pins s σ H x xs v us Q I rx rs q
  · exact h' pins s σ H x xs v us Q I rx rs q
/-- a[b] -/
theorem pe_ix {r : R2} (hr : IxR X r) (ha : PE X a ta) (hb : PE X b tb) (hs : PlainIx b) : PE X (.Subscript a b pos) (tOp r ta tb) := by
  intro pins s σ H Q I h
  exact Subscript_ (binT ha hb I h fun v u s2 x y H2 I2 rx ry q => hr a b pins s2 σ H2 x y v u Q I2 rx ry q (hs _ _))

def rIxL (K : PySem.W.Frag) : R2 := fun x y H Q => ∃ p xs i v, x = .ref p ∧ y = .int i ∧ SqL K H p xs ∧ atI xs i = some v ∧ Q v H
def rIxT (K : PySem.W.Frag) : R2 := fun x y H Q => ∃ p xs i v, x = .ref p ∧ y = .int i ∧ SqT K H p xs ∧ atI xs i = some v ∧ Q v H
def rIxS : R2 := fun x y H Q => ∃ z i c, x = .str z ∧ y = .int i ∧ z.length ≤ sizeLine ∧ atI z.cps.toList i = some c ∧ Q (.str ⟨#[c]⟩) H
theorem ix_list : IxR X (rIxL X.K) := by
  intro value slice pins s σ H x y v u Q I rx ry h hs
  obtain ⟨p, xs, i, z, rfl, rfl, hq, he, q⟩ := h
  cases rx
  obtain ⟨t, rfl⟩ := ry
  obtain ⟨its, r, pl, hz⟩ := I.list hq
  obtain ⟨j, h1, h2, h3, h4, h5⟩ := atI_get he
  obtain ⟨w, ew, rw'⟩ := r.get h2
  have hl := r.length
  have hn := line63
  have fin : EP X pins σ Q w s := ⟨z, H, I, rw', q⟩
  by_cases h0 : 0 ≤ i
  · have hj : i.toNat = j := by
      rw [seqIndex_of h0 h5] at h1
      exact Option.some.inj h1
    exact item_listR pl.isList h0 (by omega) (by rw [hj]; simpa using ew) fin hs
  · have hj : (i + (its.toArray.size : Int)).toNat = j := by
      rw [seqIndex_neg (by omega) h4] at h1
      rw [List.size_toArray, ← hl]
      exact Option.some.inj h1
    exact subscriptTail_builtinR (x := w) pl.isList.typeIs slot_list_getitem.lookup
      (wpAny_getItem_list_neg (Q := fun r s' => r = w ∧ EP X pins σ Q r s') pl.isList (by omega) (by rw [List.size_toArray] <;> omega) (by omega) (by rw [hj]; simpa using ew) ⟨rfl, fin⟩) hs
theorem ix_tup : IxR X (rIxT X.K) := by
  intro value slice pins s σ H x y v u Q I rx ry h hs
  obtain ⟨p, xs, i, z, rfl, rfl, hq, he, q⟩ := h
  cases rx
  obtain ⟨t, rfl⟩ := ry
  obtain ⟨its, r, pl, hz⟩ := I.tuple hq
  obtain ⟨j, h1, h2, h3, h4, h5⟩ := atI_get he
  obtain ⟨w, ew, rw'⟩ := r.get h2
  have hl := r.length
  have hn := line63
  have fin : EP X pins σ Q w s := ⟨z, H, I, rw', q⟩
  exact subscriptTail_builtinR (x := w) pl.typeIs slot_tuple_getitem.lookup
    (getItem_tuple (j := j) (Q := fun r s' => r = w ∧ EP X pins σ Q r s') pl (by omega) (by omega) (by rw [List.size_toArray, ← hl]; exact h1) (by simpa using ew) ⟨rfl, fin⟩) hs
theorem ix_str : IxR X rIxS := by
  intro value slice pins s σ H x y v u Q I rx ry h hs
  obtain ⟨z, i, c, rfl, rfl, hz, he, q⟩ := h
  obtain ⟨t, rfl⟩ := rx
  obtain ⟨t', rfl⟩ := ry
  obtain ⟨j, h1, h2, h3, h4, h5⟩ := atI_get he
  have hl : z.cps.toList.length = z.length := by simp [Str.length]
  rw [hl] at h1 h4 h5
  have hn := line63
  exact tail_any (typeIs_str s z t) slot_str_getitem.lookup (getItem_str (c := c) (by
    have e1 : decide (i < -(2 ^ 63 : Int)) = false := decide_eq_false (by omega)
    have e2 : decide (i ≥ 2 ^ 63) = false := decide_eq_false (by omega)
    rw [e1, e2, Bool.or_false]) (by rw [h1]; simpa using h2) ⟨.str ⟨#[c]⟩, H, I.tok _, ⟨_, rfl⟩, q⟩) hs
/-- list, tuple or str -/
def rIx (K : PySem.W.Frag) : R2 := fun x y H Q => rIxL K x y H Q ∨ rIxT K x y H Q ∨ rIxS x y H Q
theorem ix_seq : IxR X (rIx X.K) := ix_list.or (ix_tup.or ix_str)

/-! ### xs[i] = v, any sign -/
/-- the list's object behind a store -/
theorem mapSeq_set (its : List Value) (n j : Nat) (u : Value) : Obj.mapSeq (·.setIfInBounds j u) { cls := .type "list", data := .seq its.toArray n } = { cls := .type "list", data := .seq (its.set j u).toArray n } := by
  simp [Obj.mapSeq]
theorem Inv.lst {pins : List (Addr × Obj)} {σ : St} {H : Hp} {s : Shared} {p : Addr} {xs : List V} (I : Inv X pins σ H s) (h : H p = some (.lst xs)) :
    ∃ (its : List Value) (n : Nat), Vals xs its ∧ s.heap.get? p = some { cls := .type "list", data := .seq its.toArray n } ∧ xs.length ≤ sizeLine := by
  obtain ⟨z, its, n, r, e⟩ := I.hok p _ h
  exact ⟨its, n, r, e, z⟩
/-- the list at p is written by an update of its object -/
theorem Inv.lstUpd {pins : List (Addr × Obj)} {σ : St} {H : Hp} {s : Shared} {p : Addr} {xs ys : List V} {its its' : List Value} {n n' : Nat} {f : Obj → Obj} (I : Inv X pins σ H s) (h : H p = some (.lst xs))
    (ho : s.heap.get? p = some { cls := .type "list", data := .seq its.toArray n }) (hf : f { cls := .type "list", data := .seq its.toArray n } = { cls := .type "list", data := .seq its'.toArray n' }) (r : Vals ys its') (hz : ys.length ≤ sizeLine) (t : Nat) :
    Inv X pins σ (upd H p (.lst ys)) { s with heap := s.heap.update p f, toks := t } := by
  have e : (s.heap.update p f).get? p = some { cls := .type "list", data := .seq its'.toArray n' } := by
    rw [Heap.get?_update_self f ho (by rw [hf] <;> rfl), hf]
  refine I.write (x := p) (e := p) (by rw [h]; trivial) (.inl rfl) (fun b u hb q => (Heap.get?_update_other _ _ (Ne.symm hb)).trans q) ⟨_, e⟩ ?_
  exact ⟨hz, its', n', r, e⟩
def rSetL : V → V → V → Hp → (Hp → Prop) → Prop := fun o i v H Q => ∃ p xs k j, o = .ref p ∧ i = .int k ∧ H p = some (.lst xs) ∧ ixN xs.length k = some j ∧ Q (upd H p (.lst (xs.set j v)))
theorem set_list : PSet X rSetL := by
  intro pins s σ H o i v ov iv u Q I ro ri rv h
  obtain ⟨p, xs, k, j, rfl, rfl, hp, hj, q⟩ := h
  cases ro
  obtain ⟨t, rfl⟩ := ri
  obtain ⟨its, n, r, ho, hz⟩ := I.lst hp
  obtain ⟨h1, h2, h3, h4⟩ := ixN_seq hj
  have hl := r.length
  have hn := line63
  have I' : Inv X pins σ (upd H p (.lst (xs.set j v))) { s with heap := s.heap.update p (Obj.mapSeq (·.setIfInBounds j u)) } :=
    I.lstUpd hp ho (mapSeq_set its n j u) (r.set rv j) (by rw [List.length_set]; exact hz) s.toks
  by_cases h0 : 0 ≤ k
  · have hk : k.toNat = j := by
      rw [seqIndex_of h0 h4] at h1
      exact Option.some.inj h1
    exact PySem.W.ki_setAt ho h0 (by omega) (by rw [List.size_toArray, ← hl]; exact h4) (by rw [hk]; exact ⟨_, I', q⟩)
  · have hk : (k + (its.toArray.size : Int)).toNat = j := by
      rw [seqIndex_neg (by omega) h3] at h1
      rw [List.size_toArray, ← hl]
      exact Option.some.inj h1
    exact PySem.W.ki_setBack ho (by omega) (by rw [List.size_toArray, ← hl]; exact h3) (by omega) (by rw [hk]; exact ⟨_, I', q⟩)

/-! ### slices -/
theorem slice_bounds (lo hi : Option Int) (n : Nat) : (sliceBounds lo hi none n).1 = ((HT.sIx n 0 lo : Nat) : Int) ∧ (sliceBounds lo hi none n).2.1 = ((HT.sIx n n hi : Nat) : Int) ∧ (sliceBounds lo hi none n).2.2 = 1 := by
  refine ⟨?_, ?_, rfl⟩
  · cases lo with
    | none => simp [sliceBounds, HT.sIx]
    | some i =>
      simp only [sliceBounds, HT.sIx, Option.getD_none, show (1 : Int) > 0 by decide, if_true]
      by_cases h : i < 0
      · simp only [h, if_true] <;> omega
      · simp only [h, if_false] <;> omega
  · cases hi with
    | none => simp [sliceBounds, HT.sIx]
    | some i =>
      simp only [sliceBounds, HT.sIx, Option.getD_none, show (1 : Int) > 0 by decide, if_true]
      by_cases h : i < 0
      · simp only [h, if_true] <;> omega
      · simp only [h, if_false] <;> omega
theorem slicePick_cut (its : List Value) (lo hi : Option Int) : slicePick its.toArray lo hi none = ((its.drop (HT.sIx its.length 0 lo)).take (HT.sIx its.length its.length hi - HT.sIx its.length 0 lo)).toArray := by
  obtain ⟨h1, h2, h3⟩ := slice_bounds lo hi its.toArray.size
  unfold slicePick
  rw [h1, h2, h3]
  simp only [sliceRange_one, pick_run, List.size_toArray] <;> rfl
/-- xs[lo:hi] of a list: a new list -/
def rSlL (K : PySem.W.Frag) : V → Option Int → Option Int → Hp → VK → Prop := fun x lo hi H Q => ∃ a xs, x = .ref a ∧ SqL K H a xs ∧ ∀ p, H p = none → Q (.ref p) (upd H p (.lst (cutV xs lo hi)))
theorem sl_list : SlR X (rSlL X.K) := by
  intro pins s σ H x v vl vu lo hi sl Q I rx hs pl pu h
  obtain ⟨a, xs, rfl, hx, q⟩ := h
  cases rx
  obtain ⟨its, r, ht, hz⟩ := I.list hx
  have hlen := r.length
  refine ⟨"list", _, slot_list_getitem.lookup, ht.isList.typeIs, ?_⟩
  refine wpAny_getItem_list_slice ht.isList hs pl pu .none (by simp) ?_ (by rw [List.size_toArray] <;> omega)
  rw [slicePick_cut, ← hlen]
  refine ⟨.ref s.heap.objs.size, _, I.laid (t' := s.toks) (o := .lst (cutV xs lo hi)) (fun b ob q => Heap.get?_push_of_some _ q) (Nat.le_refl _) ?_, rfl, q _ (I.hok.fresh (Nat.le_refl _))⟩
  exact ⟨Nat.le_trans (cutV_length xs lo hi) hz, _, 0, (r.drop (HT.sIx xs.length 0 lo)).take (HT.sIx xs.length xs.length hi - HT.sIx xs.length 0 lo), Heap.get?_push_size _ rfl⟩

/-! ### in, not in: flat items -/
def flatV : V → Bool
  | .non => true
  | .bl _ => true
  | .int _ => true
  | .str _ => true
  | _ => false
/-- == of flat values -/
def eqV : V → V → Bool
  | .non, .non => true
  | .bl a, .bl b => a == b
  | .bl a, .int b => (if a then 1 else 0) == b
  | .int a, .bl b => a == (if b then 1 else 0)
  | .int a, .int b => a == b
  | .str a, .str b => a == b
  | _, _ => false
theorem eqAt_V {A : Around} {s : Shared} {y x : V} {u v : Value} (ry : RelV y u) (rx : RelV x v) (fy : flatV y = true) (fx : flatV x = true) : SeqAt.EqAt A s u v (eqV y x) := by
  cases y with
  | non =>
    cases ry
    cases x with
    | non => cases rx; exact SeqAt.EqAt.same _
    | bl b => cases rx; exact SeqAt.EqAt.none_bool b
    | int b => obtain ⟨t, rfl⟩ := rx; exact SeqAt.EqAt.none_int b t
    | str b => obtain ⟨t, rfl⟩ := rx; exact SeqAt.EqAt.none_str b t
    | _ => exact absurd (show false = true from fx) Bool.false_ne_true
  | bl a =>
    cases ry
    cases x with
    | non => cases rx; exact SeqAt.EqAt.bool_none a
    | bl b => cases rx; exact SeqAt.EqAt.bool_bool a b
    | int b => obtain ⟨t, rfl⟩ := rx; exact SeqAt.EqAt.bool_int a b t
    | str b => obtain ⟨t, rfl⟩ := rx; exact SeqAt.EqAt.bool_str a b t
    | _ => exact absurd (show false = true from fx) Bool.false_ne_true
  | int a =>
    obtain ⟨t', rfl⟩ := ry
    cases x with
    | non => cases rx; exact SeqAt.EqAt.int_none a t'
    | bl b => cases rx; exact SeqAt.EqAt.int_bool a t' b
    | int b => obtain ⟨t, rfl⟩ := rx; exact SeqAt.EqAt.int_int a t' b t
    | str b => obtain ⟨t, rfl⟩ := rx; exact SeqAt.EqAt.int_str a t' b t
    | _ => exact absurd (show false = true from fx) Bool.false_ne_true
  | str a =>
    obtain ⟨t', rfl⟩ := ry
    cases x with
    | non => cases rx; exact SeqAt.EqAt.str_none a t'
    | bl b => cases rx; exact SeqAt.EqAt.str_bool a t' b
    | int b => obtain ⟨t, rfl⟩ := rx; exact SeqAt.EqAt.str_int a t' b t
    | str b => obtain ⟨t, rfl⟩ := rx; exact SeqAt.EqAt.str_str a t' b t
    | _ => exact absurd (show false = true from fx) Bool.false_ne_true
  | _ => exact absurd (show false = true from fy) Bool.false_ne_true
/-- the items' answers, read off the values (a value's own answer does not lean on its token) -/
def eqU (x : V) (u : Value) : Bool := match u with
  | .none => eqV .non x
  | .bool b => eqV (.bl b) x
  | .int i _ => eqV (.int i) x
  | .str z _ => eqV (.str z) x
  | _ => false
theorem eqU_of {x y : V} {u : Value} (r : RelV y u) (f : flatV y = true) : eqU x u = eqV y x := by
  cases y with
  | non => cases r; rfl
  | bl b => cases r; rfl
  | int i => obtain ⟨t, rfl⟩ := r; rfl
  | str z => obtain ⟨t, rfl⟩ := r; rfl
  | _ => exact absurd (show false = true from f) Bool.false_ne_true
theorem any_eqU {x : V} : ∀ {xs : List V} {us : List Value}, Vals xs us → xs.all flatV = true → us.any (eqU x) = xs.any fun y => eqV y x
  | _, _, .nil, _ => rfl
  | y :: xs, u :: us, .cons r t, f => by
    rw [List.all_cons, Bool.and_eq_true] at f
    rw [List.any_cons, List.any_cons, eqU_of r f.1, any_eqU t f.2]
theorem mem_eqAt {A : Around} {s : Shared} {x : V} {v : Value} (rx : RelV x v) (fx : flatV x = true) : ∀ {xs : List V} {us : List Value}, Vals xs us → xs.all flatV = true → ∀ u ∈ us, SeqAt.EqAt A s u v (eqU x u)
  | _, _, .nil, _ => fun u hu => by cases hu
  | y :: xs, u :: us, .cons r t, f => fun u' hu => by
    rw [List.all_cons, Bool.and_eq_true] at f
    rcases List.mem_cons.mp hu with rfl | hu
    · rw [eqU_of r f.1]; exact eqAt_V r rx f.1 fx
    · exact mem_eqAt rx fx t f.2 u' hu
def inV (x : V) (xs : List V) : Bool := xs.any fun y => eqV y x
/-- x in a list or tuple of flat items -/
def rIn (K : PySem.W.Frag) (neg : Bool) : R2 := fun x y H Q => ∃ p xs, y = .ref p ∧ (SqL K H p xs ∨ SqT K H p xs) ∧ flatV x = true ∧ xs.all flatV = true ∧ Q (.bl (if neg then !inV x xs else inV x xs)) H
theorem op_in_seq : OpR X (compareOp .In) (rIn X.K false) := by
  intro pins s σ H x y v u Q I rx ry h
  obtain ⟨p, xs, rfl, hq, fx, fs, q⟩ := h
  cases ry
  rcases hq with hq | hq
  · obtain ⟨its, r, pl, hz⟩ := I.list hq
    refine SeqAt.in_listAt (eqU x) pl.isList (fun w hw => mem_eqAt rx fx r fs w (by simpa using hw)) ⟨.bl _, H, I, rfl, ?_⟩
    rw [show its.toArray.any (eqU x) = its.any (eqU x) by simp, any_eqU r fs]
    exact q
  · obtain ⟨its, r, pl, hz⟩ := I.tuple hq
    refine SeqAt.in_tupleAt (eqU x) pl (fun w hw => mem_eqAt rx fx r fs w (by simpa using hw)) ⟨.bl _, H, I, rfl, ?_⟩
    rw [show its.toArray.any (eqU x) = its.any (eqU x) by simp, any_eqU r fs]
    exact q
theorem op_notIn_seq : OpR X (compareOp .NotIn) (rIn X.K true) := by
  intro pins s σ H x y v u Q I rx ry h
  obtain ⟨p, xs, rfl, hq, fx, fs, q⟩ := h
  cases ry
  rcases hq with hq | hq
  · obtain ⟨its, r, pl, hz⟩ := I.list hq
    refine SeqAt.notIn_listAt (eqU x) pl.isList (fun w hw => mem_eqAt rx fx r fs w (by simpa using hw)) ⟨.bl _, H, I, rfl, ?_⟩
    rw [show its.toArray.any (eqU x) = its.any (eqU x) by simp, any_eqU r fs]
    exact q
  · obtain ⟨its, r, pl, hz⟩ := I.tuple hq
    refine SeqAt.notIn_tupleAt (eqU x) pl (fun w hw => mem_eqAt rx fx r fs w (by simpa using hw)) ⟨.bl _, H, I, rfl, ?_⟩
    rw [show its.toArray.any (eqU x) = its.any (eqU x) by simp, any_eqU r fs]
    exact q
theorem op_notIn_str : OpR X (compareOp .NotIn) (fun x y H Q => ∃ i j, x = .str i ∧ y = .str j ∧ Q (.bl (!(!(Builtin.Str.occurrences j i 0 j.length 1).isEmpty))) H) := by
  intro pins s σ H x y v u Q I rx ry h
  obtain ⟨i, j, rfl, rfl, q⟩ := h
  obtain ⟨t, rfl⟩ := rx
  obtain ⟨t', rfl⟩ := ry
  exact notIn_str ⟨.bl _, H, I, rfl, q⟩

/-! ### len, list(x), tuple(x) of any list or tuple that is read -/
theorem call_len_seq : CallR X (.builtin "len") (fun xs H Q => ∃ p ys, xs = [.ref p] ∧ (SqL X.K H p ys ∨ SqT X.K H p ys) ∧ Q (.int ys.length) H) := by
  intro pins s σ H xs us Q I r h
  obtain ⟨p, ys, rfl, hq, q⟩ := h
  obtain ⟨u, rfl, rx⟩ := vals1 r
  cases rx
  have hn := line63
  rcases hq with hq | hq
  · obtain ⟨its, r', pl, hz⟩ := I.list hq
    have hlen := r'.length
    exact Calls.call_len_list pl.isList (by simp only [List.size_toArray] <;> omega) ⟨.int ys.length, H, I.tok _, ⟨s.toks + 1, by rw [List.size_toArray, hlen]⟩, q⟩
  · obtain ⟨its, r', pl, hz⟩ := I.tuple hq
    have hlen := r'.length
    exact len_tuple pl (by simp only [List.size_toArray] <;> omega) ⟨.int ys.length, H, I.tok _, ⟨s.toks + 1, by rw [List.size_toArray, hlen]⟩, q⟩
theorem call_len_str : CallR X (.builtin "len") (fun xs H Q => ∃ z, xs = [.str z] ∧ z.length ≤ sizeLine ∧ Q (.int z.length) H) := by
  intro pins s σ H xs us Q I r h
  obtain ⟨z, rfl, hz, q⟩ := h
  obtain ⟨u, rfl, t, rfl⟩ := vals1 r
  have hn := line63
  exact len_str (by omega) ⟨.int z.length, H, I.tok _, ⟨_, rfl⟩, q⟩
theorem CallR.or {f : Value} {r r' : List V → Hp → VK → Prop} (h : CallR X f r) (h' : CallR X f r') : CallR X f (fun xs H Q => r xs H Q ∨ r' xs H Q) := by
  intro pins s σ H xs us Q I rs q
  rcases q with q | q
  · exact h pins s σ H xs us Q I rs q
  · exact h' pins s σ H xs us Q I rs q
theorem call_list_of : CallR X (.type "list") (fun xs H Q => ∃ p ys, xs = [.ref p] ∧ (SqL X.K H p ys ∨ SqT X.K H p ys) ∧ ∀ l, H l = none → Q (.ref l) (upd H l (.lst ys))) := by
  intro pins s σ H xs us Q I r h
  obtain ⟨p, ys, rfl, hq, q⟩ := h
  obtain ⟨u, rfl, rx⟩ := vals1 r
  cases rx
  have fin : ∀ (its : List Value), Vals ys its → ys.length ≤ sizeLine → ∀ (h' : Heap) (c' : Nat), (∀ b o', s.heap.get? b = some o' → h'.get? b = some o') →
      h'.get? s.heap.objs.size = some { cls := .type "list", dict := none, data := .seq its.toArray c', slots := #[] } → EP X pins σ Q (.ref s.heap.objs.size) { s with heap := h' } := fun its r' hz h' c' kp e =>
    ⟨.ref s.heap.objs.size, _, I.laid (t' := s.toks) kp (Nat.le_refl _) (show ObjOk X.prog X.w _ h' _ (.lst ys) from ⟨hz, its, c', r', e⟩), rfl, q _ (I.hok.fresh (Nat.le_refl _))⟩
  rcases hq with hq | hq
  · obtain ⟨its, r', pl, hz⟩ := I.list hq
    have hlen := r'.length
    obtain ⟨o, ho, hc, n, hd⟩ := pl.isList
    exact call_list_seq p (.inl rfl) ho hc hd (fun h' c' kp e => fin its r' hz h' c' kp e) (by simp only [List.size_toArray] <;> omega)
  · obtain ⟨its, r', pl, hz⟩ := I.tuple hq
    have hlen := r'.length
    obtain ⟨o, ho, hc, n, hd⟩ := pl
    exact call_list_seq p (.inr rfl) ho hc hd (fun h' c' kp e => fin its r' hz h' c' kp e) (by simp only [List.size_toArray] <;> omega)
theorem call_tuple_of : CallR X (.type "tuple") (fun xs H Q => ∃ p ys, xs = [.ref p] ∧ ((SqL X.K H p ys ∧ ∀ l, H l = none → Q (.ref l) (upd H l (.tup ys))) ∨ (SqT X.K H p ys ∧ Q (.ref p) H))) := by
  intro pins s σ H xs us Q I r h
  obtain ⟨p, ys, rfl, h⟩ := h
  obtain ⟨u, rfl, rx⟩ := vals1 r
  cases rx
  rcases h with ⟨hq, q⟩ | ⟨hq, q⟩
  · obtain ⟨its, r', pl, hz⟩ := I.list hq
    have hlen := r'.length
    refine call_tuple_list pl.isList (fun h' kp => ?_) (by simp only [List.size_toArray] <;> omega)
    have I1 : Inv X pins σ H { s with heap := h' } := I.kept (t' := s.toks) kp
    have I2 : Inv X pins σ (upd H h'.objs.size (.tup ys)) { s with heap := h'.push { cls := .type "tuple", data := .seq its.toArray } } :=
      I1.laid (t' := s.toks) (fun b o e => Heap.get?_push_of_some _ e) (Nat.le_refl _) (show ObjOk X.prog X.w _ _ _ (.tup ys) from ⟨hz, its, r', IsTup.new _ _⟩)
    exact ⟨.ref h'.objs.size, _, I2, rfl, q _ (I1.hok.fresh (Nat.le_refl _))⟩
  · obtain ⟨its, r', pl, hz⟩ := I.tuple hq
    exact call_tuple_same pl ⟨.ref p, H, I, rfl, q⟩

/-! ### the call of a builtin's method: o.m(..) -/
/-- the value is of that builtin type -/
def tyV (K : PySem.W.Frag) (T : String) (x : V) (H : Hp) : Prop := match x with
  | .str _ => T = "str"
  | .int _ => T = "int"
  | .ref p => (T = "list" ∧ ∃ xs, SqL K H p xs) ∨ (T = "tuple" ∧ ∃ o, K.lookup p = some o ∧ o.cls = .type "tuple" ∧ o.dict = none) ∨
      (T = "dict" ∧ ((∃ kvs, H p = some (.dK kvs)) ∨ ∃ kvs, H p = some (.dT kvs))) ∨ (T = "set" ∧ ∃ S n, H p = some (.set S n))
  | _ => False
theorem tyV_is {pins : List (Addr × Obj)} {σ : St} {H : Hp} {s : Shared} {T : String} {x : V} {v : Value} (I : Inv X pins σ H s) (r : RelV x v) (ty : tyV X.K T x H) :
    s.TypeIs v T ∧ ∀ a, v = .ref a → ∃ ob, s.heap.get? a = some ob ∧ ob.dict = none := by
  cases x with
  | str z =>
    obtain ⟨t, rfl⟩ := r
    cases (show T = "str" from ty)
    exact ⟨typeIs_str s z t, fun _ e => nomatch e⟩
  | int i =>
    obtain ⟨t, rfl⟩ := r
    cases (show T = "int" from ty)
    exact ⟨typeIs_int s i t, fun _ e => nomatch e⟩
  | ref p =>
    cases r
    rcases ty with ⟨rfl, xs, hq⟩ | ⟨rfl, o, hk, hc, hd⟩ | ⟨rfl, hk⟩ | ⟨rfl, S, n, hk⟩
    · obtain ⟨its, _, pl, _⟩ := I.list hq
      refine ⟨pl.isList.typeIs, fun a e => ?_⟩
      cases e
      obtain ⟨o, n, e, c, hd, _⟩ := pl
      exact ⟨o, e, hd⟩
    · refine ⟨⟨o, I.kIn p o hk, hc⟩, fun a e => ?_⟩
      cases e
      exact ⟨o, I.kIn _ o hk, hd⟩
    · have z : ∃ o, s.heap.get? p = some o ∧ o.ExactDict := by
        rcases hk with ⟨kvs, hk⟩ | ⟨kvs, hk⟩
        · obtain ⟨_, _, _, _, o, _, _, e, ex, _⟩ := I.hok p _ hk
          exact ⟨o, e, ex⟩
        · obtain ⟨_, _, _, _, o, _, _, e, ex, _⟩ := I.hok p _ hk
          exact ⟨o, e, ex⟩
      obtain ⟨o, e, ex⟩ := z
      refine ⟨⟨o, e, ex.1⟩, fun a e2 => ?_⟩
      cases e2
      exact ⟨o, e, ex.2.1⟩
    · obtain ⟨o, _, _, _, e, ex, _⟩ := I.hok p _ hk
      refine ⟨⟨o, e, ex.1⟩, fun a e2 => ?_⟩
      cases e2
      exact ⟨o, e, ex.2.1⟩
  | _ => exact False.elim ty
def tBM0 (K : PySem.W.Frag) (T : String) (r : V → List V → Hp → VK → Prop) (to : TE) : TE := fun σ H Q => to σ H fun x H1 => tyV K T x H1 ∧ r x [] H1 Q
def tBM (K : PySem.W.Frag) (T : String) (r : V → List V → Hp → VK → Prop) (to : TE) (t : TA) : TE := fun σ H Q => to σ H fun x H1 => tyV K T x H1 ∧ t σ H1 fun xs H2 => r x xs H2 Q
variable {o e : Expr} {es : List Expr} {to : TE} {t : TA} {name : Str} {apos cpos : Pos} {T id : String} {r : V → List V → Hp → VK → Prop}
theorem pe_bm0 (pa : PlainAttrs T) (slot : Slot T name id) (hty : typeOf (.builtin id) = pure (.type "method_descriptor")) (hm : MtR X id r) (ho : PE X o to)
    (hbase : attributeBase o name X.env (eval o X.env) = eval o X.env := by rfl) (hline : (apos.endLine == cpos.line) = true := by rfl) : PE X (.Call (.Attribute o name apos) [] [] cpos) (tBM0 X.K T r to) := by
  intro pins s σ H Q I h
  refine wpAny_Call_method0_late hbase hline (thn (ho pins s σ H _ I h) fun v s1 ⟨x, H1, I1, r1, ty, q1⟩ => ?_)
  obtain ⟨h1, h2⟩ := tyV_is I1 r1 ty
  exact ⟨T, id, pa, slot, hty, h1, h2, Calls.callWith_builtin rfl (PySem.evalArgs_none (hm pins s1 σ H1 x [] v [] Q I1 r1 .nil q1))⟩
theorem pe_bm (pa : PlainAttrs T) (slot : Slot T name id) (hty : typeOf (.builtin id) = pure (.type "method_descriptor")) (hm : MtR X id r) (ho : PE X o to) (ha : PA X (e :: es) t)
    (hbase : attributeBase o name X.env (eval o X.env) = eval o X.env := by rfl)
    (hfew : ((backTo cpos (starEach (e :: es) X.env)).all (fun x => !x.1) && (backToKw cpos (keywordEach [] X.env)).all (fun x => x.1.isSome)
      && decide ((e :: es).length + ([] : List Keyword).length + (if ([] : List Keyword).isEmpty then 0 else 1) < 30)) = true := by rfl)
    (hline : (apos.endLine == cpos.line) = true := by rfl) (hs : starEach (e :: es) X.env = (false, eval e X.env) :: starEach es X.env := by rfl) (hplain : (backTo cpos (starEach es X.env)).any (·.1) = false := by rfl) :
    PE X (.Call (.Attribute o name apos) (e :: es) [] cpos) (tBM X.K T r to t) := by
  intro pins s σ H Q I h
  refine wpAny_Call_method_late hbase hfew hline rfl (thn (ho pins s σ H _ I h) fun v s1 ⟨x, H1, I1, r1, ty, q1⟩ => ?_)
  obtain ⟨h1, h2⟩ := tyV_is I1 r1 ty
  refine ⟨T, id, pa, slot, hty, h1, h2, ?_⟩
  have hA := ha cpos pins s1 σ H1 _ I1 q1
  rw [hs] at hA ⊢
  refine Calls.callWith_builtin (by show (false || (backTo cpos (starEach es X.env)).any (·.1)) = false; rw [hplain] <;> rfl) (Calls.evalArgs_plain ?_)
  exact thn hA fun us s2 ⟨vs, H2, I2, r2, q2⟩ => hm pins s2 σ H2 x vs v us Q I2 r1 r2 q2
/- xs.append(e), list.index on a module's tuple .. are MtR facts of 06m -/
end
end L2

namespace L2
open PySem PySem.Spec PyProof.Rows

def MtM (X : Cx) (id : String) (r : V → List V → Hp → VK → Prop) : Prop :=
  ∀ (pins : List (Addr × Obj)) (s : Shared) (σ : St) (H : Hp) (x : V) (xs : List V) (v : Value) (us : List Value) (Q : VK), Inv X pins σ H s → RelV x v → Vals xs us → r x xs H Q →
    wpAny (model X.prog X.w) X.A (call (.builtin id) (v :: us)) (EP X pins σ Q) X.xe s

/-! ### lists of values -/
theorem Vals.one : ∀ {x : V} {us : List Value}, Vals [x] us → ∃ u, us = [u] ∧ RelV x u
  | _, _, .cons r .nil => ⟨_, rfl, r⟩
theorem Vals.two : ∀ {x y : V} {us : List Value}, Vals [x, y] us → ∃ u v, us = [u, v] ∧ RelV x u ∧ RelV y v
  | _, _, _, .cons r (.cons q .nil) => ⟨_, _, rfl, r, q⟩
theorem Vals.zero : ∀ {us : List Value}, Vals [] us → us = []
  | _, .nil => rfl
theorem Vals.dropLast {xs : List V} {us : List Value} (h : Vals xs us) : Vals xs.dropLast us.dropLast := by
  induction h with
  | nil => exact .nil
  | cons r t ih =>
    cases t with
    | nil => exact .nil
    | cons q t' => exact .cons r ih
theorem Vals.eraseIdx : ∀ {xs : List V} {us : List Value} (i : Nat), Vals xs us → Vals (xs.eraseIdx i) (us.eraseIdx i)
  | _, _, _, .nil => .nil
  | _, _, 0, .cons _ t => t
  | _, _, i + 1, .cons r t => .cons r (Vals.eraseIdx i t)
theorem Vals.reverse {xs : List V} {us : List Value} (h : Vals xs us) : Vals xs.reverse us.reverse := by
  induction h with
  | nil => exact .nil
  | cons r t ih => rw [List.reverse_cons, List.reverse_cons]; exact Vals.append ih (.cons r .nil)
theorem Vals.rep {xs : List V} {us : List Value} (h : Vals xs us) : ∀ k : Nat, Vals (List.replicate k xs).flatten (List.replicate k us).flatten
  | 0 => .nil
  | k + 1 => by
    rw [List.replicate_succ, List.replicate_succ, List.flatten_cons, List.flatten_cons]
    exact Vals.append h (Vals.rep h k)
theorem erase_last {α : Type} (l : List α) : l.eraseIdx (l.length - 1) = l.dropLast := by
  induction l with
  | nil => rfl
  | cons a r ih =>
    cases r with
    | nil => rfl
    | cons b r =>
      have e : (a :: b :: r).length - 1 = ((b :: r).length - 1) + 1 := by
        have h1 : (a :: b :: r).length = r.length + 2 := rfl
        have h2 : (b :: r).length = r.length + 1 := rfl
        omega
      rw [e, List.eraseIdx_cons_succ, ih]
      all_goals rfl
theorem len_erase {α : Type} : ∀ (l : List α) (i : Nat), (l.eraseIdx i).length ≤ l.length
  | [], _ => Nat.le_refl _
  | _ :: _, 0 => Nat.le_succ _
  | _ :: r, i + 1 => Nat.succ_le_succ (len_erase r i)
theorem foldl_rep (its : List Value) : ∀ (k : Nat) (acc : List Value),
    List.foldl (fun x1 x2 => x1 ++ x2) acc.toArray (List.replicate k its.toArray) = (acc ++ (List.replicate k its).flatten).toArray
  | 0, acc => by simp
  | k + 1, acc => by
    have e : acc.toArray ++ its.toArray = (acc ++ its).toArray := by simp
    have e2 : (acc ++ its) ++ (List.replicate k its).flatten = acc ++ (List.replicate (k + 1) its).flatten := by
      rw [List.replicate_succ, List.flatten_cons, List.append_assoc]
    rw [← e2, ← foldl_rep its k (acc ++ its), ← e, List.replicate_succ, List.foldl_cons]

section
variable {X : Cx} {pins : List (Addr × Obj)} {σ : St} {H : Hp} {s : Shared} {l b : Addr} {xs ys zs : List V}

/-! ### the two steps: a tracked list is rewritten, a new list is laid -/
theorem Inv.lset {its its' : List Value} {n : Nat} {f : Array Value → Array Value} {t' : Nat} (I : Inv X pins σ H s) (hH : H l = some (.lst xs))
    (e : s.heap.get? l = some { cls := .type "list", data := .seq its.toArray n }) (hf : f its.toArray = its'.toArray) (hv : Vals ys its') (hz : ys.length ≤ sizeLine) :
    Inv X pins σ (upd H l (.lst ys)) { s with heap := s.heap.update l (Obj.mapSeq f), toks := t' } := by
  have q := PySem.IsL.update e f
  rw [hf] at q
  refine I.write (x := l) (e := l) (by rw [hH]; exact trivial) (.inl rfl) (fun b' u hb hu => (Heap.get?_update_other s.heap (Obj.mapSeq f) (Ne.symm hb)).trans hu) ⟨_, q⟩ ?_
  exact ⟨hz, its', _, hv, q⟩
theorem Inv.lnew {its : List Value} {t' : Nat} (I : Inv X pins σ H s) (hv : Vals ys its) (hz : ys.length ≤ sizeLine) :
    Inv X pins σ (upd H s.heap.objs.size (.lst ys)) { s with heap := s.heap.push { cls := .type "list", data := .seq its.toArray }, toks := t' } :=
  I.laid (fun _ _ q => Heap.get?_push_of_some _ q) (Nat.le_refl _) ⟨hz, its, 0, hv, Heap.get?_push_size _ rfl⟩
theorem Inv.fresh (I : Inv X pins σ H s) : H s.heap.objs.size = none := I.hok.fresh (Nat.le_refl _)
theorem Inv.lstM (I : Inv X pins σ H s) (hH : H l = some (.lst xs)) : xs.length ≤ sizeLine ∧ ∃ (its : List Value) (n : Nat), Vals xs its ∧ xs.length = its.length ∧ s.heap.get? l = some { cls := .type "list", data := .seq its.toArray n } := by
  obtain ⟨z, its, n, r, e⟩ := I.hok l _ hH
  exact ⟨z, its, n, r, r.length, e⟩

theorem notLongL {n : Nat} (h : n ≤ sizeLine) : Builtin.List.listTooLong n = false := by
  unfold Builtin.List.listTooLong
  exact decide_eq_false (by omega)
end

section
variable {X : Cx}

/-! ### methods -/
def rAppend : V → List V → Hp → VK → Prop := fun x vs H Q => ∃ l xs y, x = .ref l ∧ vs = [y] ∧ H l = some (.lst xs) ∧ xs.length < sizeLine ∧ Q .non (upd H l (.lst (xs ++ [y])))
theorem mt_append : MtM X "list.append" rAppend := by
  intro pins s σ H x vs v us Q I rx rv h
  obtain ⟨l, xs, y, rfl, rfl, hH, hz, q⟩ := h
  cases rx
  obtain ⟨u, rfl, ru⟩ := rv.one
  obtain ⟨z, its, n, r, hl, e⟩ := I.lstM hH
  refine call_meets F.slot_list_append ⟨_, e, rfl⟩ F.entry_list_append (F.args_list_append_2 _ _) (PySem.list_append l its.toArray n u (by rw [List.size_toArray]; omega)) ⟨e, ?_⟩
  refine ⟨.non, _, I.lset (its' := its ++ [u]) hH e (by simp) (r.append (.cons ru .nil)) ?_, rfl, q⟩
  rw [List.length_append, List.length_singleton]
  omega

def rExtend : V → List V → Hp → VK → Prop := fun x vs H Q => ∃ l b xs zs, x = .ref l ∧ vs = [.ref b] ∧ H l = some (.lst xs) ∧ H b = some (.lst zs) ∧ xs.length + zs.length ≤ sizeLine ∧ Q .non (upd H l (.lst (xs ++ zs)))
theorem mt_extend : MtM X "list.extend" rExtend := by
  intro pins s σ H x vs v us Q I rx rv h
  obtain ⟨l, b, xs, zs, rfl, rfl, hH, hB, hz, q⟩ := h
  cases rx
  obtain ⟨u, rfl, ru⟩ := rv.one
  cases ru
  obtain ⟨z, its, n, r, hl, e⟩ := I.lstM hH
  obtain ⟨z2, its2, n2, r2, hl2, e2⟩ := I.lstM hB
  have hsz : its.toArray.size + its2.toArray.size ≤ sizeLine := by rw [List.size_toArray, List.size_toArray]; omega
  have hlong : ¬ (!its.toArray.isEmpty && Builtin.List.listTooLong (its.toArray.size + its2.toArray.size)) = true := by
    rw [notLongL hsz, Bool.and_false]
    exact Bool.false_ne_true
  refine call_meets F.slot_list_extend ⟨_, e, rfl⟩ F.entry_list_extend (F.args_list_extend_2 _ _)
    (AutoSeq1.list_extend_list_list_0 l its.toArray n b its2.toArray n2 hlong (by rw [List.size_toArray]; omega) (by omega)) ⟨e, e2, ?_⟩
  refine ⟨.non, _, I.lset (its' := its ++ its2) hH e (by simp) (r.append r2) ?_, rfl, q⟩
  rw [List.length_append]
  omega

def rPop : V → List V → Hp → VK → Prop := fun x vs H Q => ∃ l xs y, x = .ref l ∧ vs = [] ∧ H l = some (.lst xs) ∧ xs[xs.length - 1]? = some y ∧ Q y (upd H l (.lst xs.dropLast))
theorem mt_pop : MtM X "list.pop" rPop := by
  intro pins s σ H x vs v us Q I rx rv h
  obtain ⟨l, xs, y, rfl, rfl, hH, hy, q⟩ := h
  cases rx
  have hus := rv.zero
  subst hus
  obtain ⟨z, its, n, r, hl, e⟩ := I.lstM hH
  obtain ⟨u, hu, ru⟩ := r.get hy
  have hy' : its.toArray[its.toArray.size - 1]? = some u := by
    show its.toArray[its.length - 1]? = some u
    rw [← Array.getElem?_toList, ← hl]
    exact hu
  refine call_meets F.slot_list_pop ⟨_, e, rfl⟩ F.entry_list_pop (F.args_list_pop_1 _) (MeetsSeq.list_pop_last l its.toArray n u hy' (by rw [List.size_toArray]; omega)) ⟨e, ?_⟩
  refine ⟨y, _, I.lset (its' := its.dropLast) hH e ?_ r.dropLast ?_, ru, q⟩
  · show its.toArray.eraseIdxIfInBounds (its.toArray.size - 1) = its.dropLast.toArray
    rw [List.size_toArray, List.eraseIdxIfInBounds_toArray, erase_last]
  · rw [List.length_dropLast]
    omega

def rPopAt : V → List V → Hp → VK → Prop := fun x vs H Q => ∃ l xs i k y, x = .ref l ∧ vs = [.int i] ∧ H l = some (.lst xs) ∧ -(2 ^ 63) ≤ i ∧ i < 2 ^ 63 ∧ seqIndex? i xs.length = some k ∧ xs[k]? = some y ∧ Q y (upd H l (.lst (xs.eraseIdx k)))
theorem mt_popAt : MtM X "list.pop" rPopAt := by
  intro pins s σ H x vs v us Q I rx rv h
  obtain ⟨l, xs, i, k, y, rfl, rfl, hH, h1, h2, hk, hy, q⟩ := h
  cases rx
  obtain ⟨u, rfl, ru⟩ := rv.one
  obtain ⟨t, rfl⟩ := ru
  obtain ⟨z, its, n, r, hl, e⟩ := I.lstM hH
  obtain ⟨w, hw, rw'⟩ := r.get hy
  refine call_meets F.slot_list_pop ⟨_, e, rfl⟩ F.entry_list_pop (F.args_list_pop_2 _ _)
    (MeetsSeq.list_pop_at l its.toArray n i t k w (fitsIndex_both h1 h2) (by rw [List.size_toArray, ← hl]; exact hk) (by rw [← Array.getElem?_toList]; exact hw) (by rw [List.size_toArray]; omega)) ⟨e, ?_⟩
  refine ⟨y, _, I.lset (its' := its.eraseIdx k) hH e ?_ (r.eraseIdx k) ?_, rw', q⟩
  · show its.toArray.eraseIdxIfInBounds k = (its.eraseIdx k).toArray
    rw [List.eraseIdxIfInBounds_toArray]
  · have := len_erase xs k
    omega

def rReverse : V → List V → Hp → VK → Prop := fun x vs H Q => ∃ l xs, x = .ref l ∧ vs = [] ∧ H l = some (.lst xs) ∧ Q .non (upd H l (.lst xs.reverse))
theorem mt_reverse : MtM X "list.reverse" rReverse := by
  intro pins s σ H x vs v us Q I rx rv h
  obtain ⟨l, xs, rfl, rfl, hH, q⟩ := h
  cases rx
  have hus := rv.zero
  subst hus
  obtain ⟨z, its, n, r, hl, e⟩ := I.lstM hH
  refine call_meets F.slot_list_reverse ⟨_, e, rfl⟩ F.entry_list_reverse (F.args_list_reverse_1 _) (AutoSeq1.list_reverse_list_0 l its.toArray n (by rw [List.size_toArray]; omega)) ⟨e, ?_⟩
  refine ⟨.non, _, I.lset (its' := its.reverse) hH e (by simp) r.reverse ?_, rfl, q⟩
  rw [List.length_reverse]
  omega

def rClear : V → List V → Hp → VK → Prop := fun x vs H Q => ∃ l xs, x = .ref l ∧ vs = [] ∧ H l = some (.lst xs) ∧ Q .non (upd H l (.lst []))
theorem mt_clear : MtM X "list.clear" rClear := by
  intro pins s σ H x vs v us Q I rx rv h
  obtain ⟨l, xs, rfl, rfl, hH, q⟩ := h
  cases rx
  have hus := rv.zero
  subst hus
  obtain ⟨z, its, n, r, hl, e⟩ := I.lstM hH
  refine call_meets F.slot_list_clear ⟨_, e, rfl⟩ F.entry_list_clear (F.args_list_clear_1 _) (AutoSeq1.list_clear_list_0 l its.toArray n (by rw [List.size_toArray]; omega)) ⟨e, ?_⟩
  exact ⟨.non, _, I.lset (its' := []) (ys := []) hH e rfl .nil (Nat.zero_le _), rfl, q⟩

/-! ### list + list, list += list, list * int -/
def rCat : R2 := fun x y H Q => ∃ l b xs zs, x = .ref l ∧ y = .ref b ∧ H l = some (.lst xs) ∧ H b = some (.lst zs) ∧ xs.length + zs.length ≤ sizeLine ∧ ∀ p, H p = none → Q (.ref p) (upd H p (.lst (xs ++ zs)))
theorem op_cat : OpR X (binaryOp .Add) rCat := by
  intro pins s σ H x y v u Q I rx ry h
  obtain ⟨l, b, xs, zs, rfl, rfl, hH, hB, hz, q⟩ := h
  cases rx
  cases ry
  obtain ⟨z, its, n, r, hl, e⟩ := I.lstM hH
  obtain ⟨z2, its2, n2, r2, hl2, e2⟩ := I.lstM hB
  refine PySem.P.add_list e e2 ?_ (by rw [List.size_toArray, List.size_toArray]; omega)
  have ea : its.toArray ++ its2.toArray = (its ++ its2).toArray := by simp
  rw [ea]
  exact ⟨.ref _, _, I.lnew (t' := s.toks) (r.append r2) (by rw [List.length_append]; omega), rfl, q _ I.fresh⟩
/-- a list times an int (a negative one is nothing) -/
def rRep : R2 := fun x y H Q => ∃ l k xs, x = .ref l ∧ y = .int k ∧ H l = some (.lst xs) ∧ -(2 ^ 63) ≤ k ∧ k < 2 ^ 63 ∧ xs.length * k.toNat ≤ sizeLine ∧
  ∀ p, H p = none → Q (.ref p) (upd H p (.lst (List.replicate k.toNat xs).flatten))
theorem len_rep {α : Type} (xs : List α) (k : Nat) : (List.replicate k xs).flatten.length = k * xs.length := by
  induction k with
  | zero => simp
  | succ k ih => rw [List.replicate_succ, List.flatten_cons, List.length_append, ih, Nat.succ_mul, Nat.add_comm]
theorem op_rep : OpR X (binaryOp .Mult) rRep := by
  intro pins s σ H x y v u Q I rx ry h
  obtain ⟨l, k, xs, rfl, rfl, hH, h1, h2, hz, q⟩ := h
  cases rx
  obtain ⟨t, rfl⟩ := ry
  obtain ⟨z, its, n, r, hl, e⟩ := I.lstM hH
  have hlen : its.toArray.size * k.toNat ≤ sizeLine := by rw [List.size_toArray, ← hl]; exact hz
  have hcap : ¬ its.toArray.size * k.toNat > (2 ^ 63 - 1) / 8 := by
    have : (sizeLine : Nat) ≤ (2 ^ 63 - 1) / 8 := by decide
    omega
  have hfit : ¬ (!Builtin.List.listFitsIndex k) = true := by
    rw [fitsIndex_both h1 h2]
    exact Bool.false_ne_true
  have hlong : ¬ Builtin.List.listTooLong (its.toArray.size * k.toNat) = true := by
    rw [notLongL hlen]
    exact Bool.false_ne_true
  have hnew : List.foldl (fun x1 x2 => x1 ++ x2) #[] (List.replicate (if its.toArray.isEmpty = true then 0 else k.toNat) its.toArray) = (List.replicate k.toNat its).flatten.toArray := by
    have f0 : ∀ m : Nat, List.foldl (fun x1 x2 => x1 ++ x2) #[] (List.replicate m its.toArray) = (List.replicate m its).flatten.toArray := fun m => by
      have := foldl_rep its m []
      rw [List.nil_append] at this
      exact this
    rw [f0]
    cases its with
    | nil => simp
    | cons a r' => rw [if_neg (by simp)]
  refine wpAny_binaryOp_repeat_ref (T := "list") (U := "int") (by decide) ⟨_, e, rfl⟩ (fun s' => typeIs_int s' k t) noFill_list_mul F.fills_int_mul F.slot_int_rmul repeat_list F.slot_int_index.lookup
    (call_meets F.slot_int_rmul (typeIs_int s k t) F.entry_int_rmul (F.args_int_rmul_2 _ _) (int___rmul___int_list k t l its.toArray n)
      ⟨e, rfl, ⟨_, e, rfl⟩, call_meets F.slot_list_mul ⟨_, e, rfl⟩ F.entry_list_mul (F.args_list_mul_2 _ _) (AutoListH.list___mul___list_int_3 l its.toArray n k t hfit hcap hlong) ⟨e, ?_⟩⟩)
  rw [hnew]
  exact ⟨.ref _, _, I.lnew (t' := s.toks) (r.rep k.toNat) (by rw [len_rep, Nat.mul_comm]; exact hz), rfl, q _ I.fresh⟩

/-! ### del xs[i] -/
theorem del_list {pins : List (Addr × Obj)} {s : Shared} {σ : St} {H : Hp} {l : Addr} {xs : List V} {i : Int} {t : Tok} {k : Nat} {Q : Unit → Shared → Prop} (I : Inv X pins σ H s) (hH : H l = some (.lst xs))
    (h1 : -(2 ^ 63) ≤ i) (h2 : i < 2 ^ 63) (hk : seqIndex? i xs.length = some k) (h : ∀ s', Inv X pins σ (upd H l (.lst (xs.eraseIdx k))) s' → Q () s') :
    wpAny (model X.prog X.w) X.A (delItem (.ref l) (.int i t)) Q X.xe s := by
  obtain ⟨z, its, n, r, hl, e⟩ := I.lstM hH
  refine PySem.P.delItem_list (k := k) e (fitsIndex_both h1 h2) (by rw [List.size_toArray, ← hl]; exact hk) (h _ ?_) (by rw [List.size_toArray]; omega)
  refine I.lset (its' := its.eraseIdx k) (t' := s.toks) hH e ?_ (r.eraseIdx k) ?_
  · show its.toArray.eraseIdxIfInBounds k = (its.eraseIdx k).toArray
    rw [List.eraseIdxIfInBounds_toArray]
  · have := len_erase xs k
    omega
end

/-! ### xs[a:b] = ys -/
section
variable {prog : Program} {w : World} {A : Around} {E : Value → Shared → Prop} {s : Shared}
theorem splice_eq (its its2 : List Value) (a c : Nat) : its.toArray.extract 0 a ++ its2.toArray ++ its.toArray.extract c its.toArray.size = (its.take a ++ its2 ++ its.drop c).toArray := by
  apply Array.toList_inj.mp
  first
    | (simp
       exact List.take_of_length_le (by simp))
    | simp [List.take_of_length_le]
    | simp
theorem bounds_run {a c n : Nat} (hac : a ≤ c) (hc : c ≤ n) : sliceBounds (some (a : Int)) (some (c : Int)) none n = ((a : Int), (c : Int), 1) := by
  simp only [sliceBounds, Option.getD_none]
  have h1 : ¬ ((a : Int) < 0) := by omega
  have h2 : ¬ ((c : Int) < 0) := by omega
  simp only [h1, h2, if_false, show (1 : Int) > 0 by decide, if_true]
  congr 1
  · omega
  · congr 1; omega
set_option maxRecDepth 100000 in
/-- list.__setitem__ with a slice of step one and another list -/
theorem setItem_slice {l b sl : Addr} {items new : Array Value} {n n2 : Nat} {vl vu : Value} {a c : Nat} {Q : Unit → Shared → Prop}
    (e : s.heap.get? l = some { cls := .type "list", data := .seq items n }) (e2 : s.heap.get? b = some { cls := .type "list", data := .seq new n2 }) (hne : l ≠ b)
    (hs : s.heap.IsSliceOf sl vl vu .none) (pl : IsPart vl (some (a : Int))) (pu : IsPart vu (some (c : Int))) (hac : a ≤ c) (hc : c ≤ items.size)
    (hsz : items.size + new.size ≤ sizeLine) (h : Q () { s with heap := s.heap.update l (Obj.mapSeq fun xs => xs.extract 0 a ++ new ++ xs.extract c xs.size) }) :
    wpAny (model prog w) A (setItem (.ref l) (.ref sl) (.ref b)) Q E s := by
  have hl : s.heap.IsList l items := PySem.IsL.isList e
  have hb : s.heap.IsList b new := PySem.IsL.isList e2
  obtain ⟨os, hos, hcs, hds⟩ := id hs
  have hTs : s.TypeIs (.ref sl) "slice" := ⟨os, hos, hcs⟩
  have hstep : ¬ ((rawPart none == rawInt 0) = true) := Bool.false_ne_true
  have hsame : Builtin.List.listSameRef (.ref l) (.ref b) = false := by
    unfold Builtin.List.listSameRef
    exact beq_eq_false_iff_ne.mpr hne
  have hmax : (max (a : Int) (c : Int)).toNat = c := by omega
  have hz' : ((fun xs : Array Value => xs.extract 0 a ++ new ++ xs.extract c xs.size) items).size ≤ sizeLine + 1 := by
    simp only [Array.size_append, Array.size_extract]
    omega
  unfold setItem
  try with_reducible refine wpAny_holding ?_
  first | refine wpAny_bind (wpAny_pure ?_) | skip
  refine wpAny_bind (wpAny_sequenceKey hl.typeIs (by decide) ?_)
  refine wpAny_bind (wpAny_callSpecial?_slot (name := Str.ofString "__setitem__") hl.typeIs slot_list_setitem
    (wpAny_call_entry slot_list_setitem hl.typeIs entry_list_setitem ?_ (args_list_setitem _ _ _)))
  show wpAny _ _ (Builtin.List.listSubscript? (.ref sl) >>= _) _ _ s
  refine wpAny_bind ?_
  unfold Builtin.List.listSubscript?
  refine wpAny_bind (wpAny_specialOf hTs slice_no_index ?_)
  simp only [Option.isNone_none, if_true]
  refine wpAny_pure ?_
  show wpAny _ _ (typeOf (.ref sl) >>= _) _ _ s
  refine wpAny_bind (wpAny_typeOf hTs ?_)
  first
    | rw [if_neg (by decide)]
    | refine PySem.W.KFB.if_not (by decide) ?_
  rw [listSliceParts_eq]
  refine wpAny_bind (wpAny_bind (wpAny_field hos hds (x := .none) rfl (wpAny_bind (wpAny_listPart .none ?_))))
  rw [if_neg hstep]
  refine wpAny_bind (wpAny_field hos hds (x := vl) rfl (wpAny_bind (wpAny_listPart pl ?_)))
  refine wpAny_bind (wpAny_field hos hds (x := vu) rfl (wpAny_bind (wpAny_listPart pu (wpAny_pure ?_))))
  first
    | simp only [hsame, Bool.false_eq_true, if_false]
    | refine PySem.W.KFB.if_not hsame ?_
    | (dsimp only
       rw [if_neg (by rw [hsame]; exact Bool.false_ne_true)])
  refine wpAny_bind (m := Builtin.List.listAllItems (.ref b) "must assign iterable to extended slice") ?_
  unfold Builtin.List.listAllItems
  refine wpAny_bind (wpAny_typeOf hb.typeIs ?_)
  first
    | refine PySem.W.KFB.if_so (by decide) ?_
    | rw [if_pos (by decide)]
    | simp only [beq_self_eq_true, Bool.true_or, if_true]
  unfold Builtin.List.listItems
  refine wpAny_bind (wpAny_seqItems e2 rfl (wpAny_pure ?_))
  refine wpAny_bind (wpAny_bind (wpAny_seqItems e rfl (wpAny_pure ?_)))
  refine wpAny_bind (wpAny_of_eq ((sliceIndices_raw (some (a : Int)) (some (c : Int)) none items.size (by simp)).trans (congrArg (pure : Int × Int × Int → Sem (Int × Int × Int)) (bounds_run hac hc))) ?_)
  show wpAny _ _ (if ((1 : Int) == 1) = true then _ else _) _ _ s
  rw [if_pos (by decide)]
  refine wpAny_bind (wpAny_rule ?_)
  first
    | simp only [notLongL hsz, Bool.false_eq_true, if_false]
    | refine PySem.W.KFB.if_not (notLongL hsz) ?_
  first | refine wpAny_bind (wpAny_pure ?_) | skip
  show wpAny _ _ (updateSeq l (fun xs => xs.extract 0 ((a : Int)).toNat ++ new ++ xs.extract (max (a : Int) (c : Int)).toNat xs.size) >>= _) _ _ s
  rw [hmax, Int.toNat_natCast]
  refine wpAny_bind (wpAny_updateSeq (hz := Nat.le_trans (Nat.le_add_right _ _) hsz) (_hz' := hz') e rfl ?_)
  refine wpAny_bind (wpAny_letGo ?_)
  first
    | exact wpAny_bind (wpAny_pure (wpAny_pure ⟨.none, rfl, wpAny_pure h⟩))
    | exact wpAny_pure ⟨.none, rfl, wpAny_pure h⟩
end

section
variable {X : Cx}
/-- xs[a:c] = ys of another list, at the value level: sl is the slice object that was just made -/
theorem set_slice {pins : List (Addr × Obj)} {s : Shared} {σ : St} {H : Hp} {l b sl : Addr} {xs ys : List V} {a c : Int} {vl vu : Value} {Q : Unit → Shared → Prop} (I : Inv X pins σ H s)
    (hH : H l = some (.lst xs)) (hB : H b = some (.lst ys)) (hne : l ≠ b) (hs : s.heap.IsSliceOf sl vl vu .none) (ra : RelV (.int a) vl) (rc : RelV (.int c) vu) (h0 : 0 ≤ a) (hac : a ≤ c) (hc : c ≤ xs.length)
    (hz : xs.length + ys.length ≤ sizeLine) (h : ∀ s', Inv X pins σ (upd H l (.lst (xs.take a.toNat ++ ys ++ xs.drop c.toNat))) s' → Q () s') :
    wpAny (model X.prog X.w) X.A (setItem (.ref l) (.ref sl) (.ref b)) Q X.xe s := by
  obtain ⟨ta, rfl⟩ := ra
  obtain ⟨tc, rfl⟩ := rc
  obtain ⟨z, its, n, r, hl, e⟩ := I.lstM hH
  obtain ⟨z2, its2, n2, r2, hl2, e2⟩ := I.lstM hB
  obtain ⟨a', rfl⟩ := Int.eq_ofNat_of_zero_le h0
  obtain ⟨c', rfl⟩ := Int.eq_ofNat_of_zero_le (Int.le_trans h0 hac)
  simp only [Int.toNat_natCast] at h
  refine setItem_slice (a := a') (c := c') e e2 hne hs (.int _ _) (.int _ _) (by omega) (by rw [List.size_toArray]; omega) (by rw [List.size_toArray, List.size_toArray]; omega) (h _ ?_)
  refine I.lset (its' := its.take a' ++ its2 ++ its.drop c') (t' := s.toks) hH e ?_ (Vals.append (Vals.append (r.take _) r2) (r.drop _)) ?_
  · exact splice_eq its its2 a' c'
  · rw [List.length_append, List.length_append, List.length_take, List.length_drop]
    omega
end
end L2

namespace L2
open PySem PySem.Spec PyProof.Rows

/-! ### lists of pairs as tables -/
section
variable {κ : Type} [DecidableEq κ]
def valV (kvs : List (κ × V)) (k : κ) : Option V := (kvs.find? fun kv => decide (kv.1 = k)).map (·.2)
/-- in its place, or at the end -/
def putK (kvs : List (κ × V)) (k : κ) (v : V) : List (κ × V) :=
  if (kvs.any fun kv => decide (kv.1 = k)) = true then kvs.map (fun kv => if kv.1 = k then (kv.1, v) else kv) else kvs ++ [(k, v)]
def dropK (kvs : List (κ × V)) (k : κ) : List (κ × V) := kvs.filter fun kv => decide (kv.1 ≠ k)

theorem valV_nil {k : κ} : valV ([] : List (κ × V)) k = none := rfl
theorem valV_pos {p : κ × V} {r : List (κ × V)} {k : κ} (e : p.1 = k) : valV (p :: r) k = some p.2 := by simp [valV, List.find?_cons, e]
theorem valV_neg {p : κ × V} {r : List (κ × V)} {k : κ} (e : ¬ p.1 = k) : valV (p :: r) k = valV r k := by simp [valV, List.find?_cons, e]
theorem valV_any (k : κ) : ∀ kvs : List (κ × V), (kvs.any fun kv => decide (kv.1 = k)) = (valV kvs k).isSome
  | [] => rfl
  | p :: r => by
    rw [List.any_cons]
    by_cases e : p.1 = k
    · simp only [valV_pos e, decide_eq_true e, Bool.true_or, Option.isSome_some]
    · rw [valV_neg e, decide_eq_false e, Bool.false_or]; exact valV_any k r
theorem valV_map (k j : κ) (y : V) : ∀ kvs : List (κ × V), valV (kvs.map fun kv => if kv.1 = k then (kv.1, y) else kv) j = (valV kvs j).map fun x => if j = k then y else x
  | [] => rfl
  | p :: r => by
    have ih := valV_map k j y r
    rw [List.map_cons]
    by_cases h : p.1 = k
    · rw [if_pos h]
      by_cases e : p.1 = j
      · rw [valV_pos (p := (p.1, y)) e, valV_pos e, Option.map_some, if_pos (e.symm.trans h)]
      · rw [valV_neg (p := (p.1, y)) e, valV_neg e, ih]
    · rw [if_neg h]
      by_cases e : p.1 = j
      · rw [valV_pos (p := p) e, valV_pos e, Option.map_some, if_neg (fun z => h (e.trans z))]
      · rw [valV_neg (p := p) e, valV_neg e, ih]
theorem valV_snoc (k j : κ) (y : V) : ∀ kvs : List (κ × V), valV kvs k = none → valV (kvs ++ [(k, y)]) j = if j = k then some y else valV kvs j
  | [], _ => by
    by_cases e : k = j
    · rw [if_pos e.symm]; exact valV_pos (p := (k, y)) e
    · rw [if_neg (fun z => e z.symm)]; exact valV_neg (p := (k, y)) e
  | p :: r, hn => by
    rw [List.cons_append]
    have hk : ¬ p.1 = k := fun z => by rw [valV_pos z] at hn; cases hn
    rw [valV_neg hk] at hn
    have ih := valV_snoc k j y r hn
    by_cases e : p.1 = j
    · rw [valV_pos e, valV_pos e, if_neg (fun z => hk (e.trans z))]
    · rw [valV_neg e, valV_neg e, ih]
theorem valV_put (kvs : List (κ × V)) (k j : κ) (y : V) : valV (putK kvs k y) j = if j = k then some y else valV kvs j := by
  unfold putK
  by_cases a : (kvs.any fun kv => decide (kv.1 = k)) = true
  · rw [if_pos a, valV_map]
    rw [valV_any] at a
    by_cases e : j = k
    · obtain ⟨x, hx⟩ := Option.isSome_iff_exists.mp a
      rw [if_pos e, e, hx, Option.map_some, if_pos rfl]
    · rw [if_neg e]
      cases valV kvs j with
      | none => rfl
      | some x => rw [Option.map_some, if_neg e]
  · rw [if_neg a]
    refine valV_snoc k j y kvs ?_
    rw [valV_any] at a
    cases q : valV kvs k with
    | none => rfl
    | some x => rw [q] at a; exact (a rfl).elim
theorem length_putK (kvs : List (κ × V)) (k : κ) (v : V) : (putK kvs k v).length ≤ kvs.length + 1 := by
  unfold putK
  split
  · rw [List.length_map]; omega
  · rw [List.length_append, List.length_cons, List.length_nil]; omega
theorem putK_new {kvs : List (κ × V)} {k : κ} (v : V) (h : valV kvs k = none) : putK kvs k v = kvs ++ [(k, v)] := by
  unfold putK
  rw [valV_any, h]
  exact if_neg (by decide)

theorem RelO.isSome_eq {o : Option V} {u : Option Value} (r : RelO o u) : o.isSome = u.isSome := by
  cases o with
  | none => cases u with
    | none => rfl
    | some _ => exact (show False from r).elim
  | some _ => cases u with
    | none => exact (show False from r).elim
    | some _ => rfl
theorem RelO.getD {o : Option V} {u : Option Value} {d : V} {d' : Value} (r : RelO o u) (rd : RelV d d') : RelV (o.getD d) (u.getD d') := by
  cases o with
  | none => cases u with
    | none => exact rd
    | some _ => exact (show False from r).elim
  | some _ => cases u with
    | none => exact (show False from r).elim
    | some _ => exact r

/-- raw tables of the same keys -/
theorem KV.val {kvs : List (κ × V)} {vs : List (κ × Value)} (r : KV kvs vs) (k : κ) : RelO (valV kvs k) (valueAt vs k) := by
  unfold KV at r
  induction r with
  | nil => exact True.intro
  | @cons p q ps qs h t ih =>
    obtain ⟨h1, h2⟩ := h
    by_cases e : p.1 = k
    · have e' : q.1 = k := h1.symm.trans e
      have b : valueAt (q :: qs) k = some q.2 := by simp [valueAt, List.find?_cons, e']
      rw [valV_pos e, b]; exact h2
    · have e' : ¬ q.1 = k := fun z => e (h1.trans z)
      have b : valueAt (q :: qs) k = valueAt qs k := by simp [valueAt, List.find?_cons, e']
      rw [valV_neg e, b]; exact ih
theorem KV.any {kvs : List (κ × V)} {vs : List (κ × Value)} (r : KV kvs vs) (k : κ) : (kvs.any fun kv => decide (kv.1 = k)) = vs.any fun kv => decide (kv.1 = k) := by
  unfold KV at r
  induction r with
  | nil => rfl
  | cons h t ih => rw [List.any_cons, List.any_cons, ih, h.1]
theorem KV.repl {kvs : List (κ × V)} {vs : List (κ × Value)} (r : KV kvs vs) (k : κ) {y : V} {u : Value} (ry : RelV y u) :
    KV (kvs.map fun kv => if kv.1 = k then (kv.1, y) else kv) (vs.map fun kv => if kv.1 = k then (kv.1, u) else kv) := by
  unfold KV at r ⊢
  induction r with
  | nil => exact .nil
  | @cons p q ps qs h t ih =>
    rw [List.map_cons, List.map_cons]
    refine .cons ?_ ih
    obtain ⟨h1, h2⟩ := h
    by_cases e : p.1 = k
    · rw [if_pos e, if_pos (h1.symm.trans e)]; exact ⟨h1, ry⟩
    · rw [if_neg e, if_neg (fun z => e (h1.trans z))]; exact ⟨h1, h2⟩
theorem KV.put {kvs : List (κ × V)} {vs : List (κ × Value)} (r : KV kvs vs) (k : κ) {y : V} {u : Value} (ry : RelV y u) : KV (putK kvs k y) (stored vs k u) := by
  unfold putK stored
  rw [r.any k]
  by_cases e : (vs.any fun kv => decide (kv.1 = k)) = true
  · rw [if_pos e, if_pos e]; exact r.repl k ry
  · rw [if_neg e, if_neg e]; exact Paired.snoc r ⟨rfl, ry⟩
theorem KV.drop {kvs : List (κ × V)} {vs : List (κ × Value)} (r : KV kvs vs) (k : κ) : KV (dropK kvs k) (without vs k) := by
  unfold KV at r ⊢
  unfold dropK without
  induction r with
  | nil => exact .nil
  | @cons p q ps qs h t ih =>
    obtain ⟨h1, h2⟩ := h
    rw [List.filter_cons, List.filter_cons]
    by_cases e : p.1 = k
    · have a : ¬ decide (p.1 ≠ k) = true := by simp [e]
      have b : ¬ decide (q.1 ≠ k) = true := by simp [h1.symm.trans e]
      rw [if_neg a, if_neg b]; exact ih
    · have e' : ¬ q.1 = k := fun z => e (h1.trans z)
      have a : decide (p.1 ≠ k) = true := by simp [e]
      have b : decide (q.1 ≠ k) = true := by simp [e']
      rw [if_pos a, if_pos b]; exact .cons ⟨h1, h2⟩ ih
theorem KV.keys {kvs : List (κ × V)} {vs : List (κ × Value)} (r : KV kvs vs) : kvs.map (·.1) = vs.map (·.1) := by
  unfold KV at r
  induction r with
  | nil => rfl
  | cons h t ih => rw [List.map_cons, List.map_cons, ih, h.1]
theorem KV.length {kvs : List (κ × V)} {vs : List (κ × Value)} (r : KV kvs vs) : kvs.length = vs.length := Paired.length r
theorem dropK_le (kvs : List (κ × V)) (k : κ) : (dropK kvs k).length ≤ kvs.length := List.length_filter_le _ _
end


/-! ### a tracked dict, its keys ints and texts or tuples of these -/
theorem kV_is {P : Program} {w : World} {k : Key} {u : Value} (r : RelV (kV k) u) : (mixKind P w).is k u = true := by
  cases k with
  | inl i => obtain ⟨t, e⟩ := (show ∃ t, u = Value.int i t from r); subst e; exact mixKind_int P w i t
  | inr x => obtain ⟨t, e⟩ := (show ∃ t, u = Value.str x t from r); subst e; exact mixKind_str P w x t
theorem kV_inj {a b : Key} (e : kV a = kV b) : a = b := by
  cases a with
  | inl i => cases b with
    | inl j => have e' : V.int i = V.int j := e; injection e' with e'; rw [e']
    | inr y => exact nomatch (show V.int i = V.str y from e)
  | inr x => cases b with
    | inl j => exact nomatch (show V.str x = V.int j from e)
    | inr y => have e' : V.str x = V.str y := e; injection e' with e'; rw [e']
theorem kVs_inj : ∀ {a b : List Key}, a.map kV = b.map kV → a = b
  | [], [], _ => rfl
  | [], _ :: _, e => by simp at e
  | _ :: _, [], e => by simp at e
  | x :: xs, y :: ys, e => by
    rw [List.map_cons, List.map_cons] at e
    injection e with e1 e2
    rw [kV_inj e1, kVs_inj e2]
theorem items_are {P : Program} {w : World} : ∀ {ks : List Key} {us : List Value}, Vals (ks.map kV) us → ItemsAre (mixKind P w) ks us
  | [], _, r => by rw [List.map_nil] at r; cases r; exact .nil
  | k :: ks, _, r => by
    rw [List.map_cons] at r
    cases r with
    | cons h t => exact .cons (kV_is h) (items_are t)

/-- raw entries of a dict with tuple keys -/
abbrev KT (H : Hp) : List (List Key × V) → List (List Key × Addr × Value) → Prop := Paired fun p q => p.1 = q.1 ∧ H q.2.1 = some (.tup (p.1.map kV)) ∧ RelV p.2 q.2.2
theorem KT.val {H : Hp} {kvs : List (List Key × V)} {xs : List (List Key × Addr × Value)} (r : KT H kvs xs) (k : List Key) : RelO (valV kvs k) ((atKey xs k).map (·.2)) := by
  induction r with
  | nil => exact True.intro
  | @cons p q ps qs h t ih =>
    obtain ⟨h1, _, h2⟩ := h
    by_cases e : p.1 = k
    · have e' : q.1 = k := h1.symm.trans e
      have b : atKey (q :: qs) k = some q.2 := by simp [atKey, List.find?_cons, e']
      rw [valV_pos e, b]; exact h2
    · have e' : ¬ q.1 = k := fun z => e (h1.trans z)
      have b : atKey (q :: qs) k = atKey qs k := by simp [atKey, List.find?_cons, e']
      rw [valV_neg e, b]; exact ih
theorem KT.repl {H : Hp} {kvs : List (List Key × V)} {xs : List (List Key × Addr × Value)} (r : KT H kvs xs) (k : List Key) {y : V} {u : Value} (ry : RelV y u) :
    KT H (kvs.map fun kv => if kv.1 = k then (kv.1, y) else kv) (xs.map (putAt k u)) := by
  induction r with
  | nil => exact .nil
  | @cons p q ps qs h t ih =>
    rw [List.map_cons, List.map_cons]
    refine .cons ?_ ih
    obtain ⟨h1, h2, h3⟩ := h
    unfold putAt
    by_cases e : p.1 = k
    · rw [if_pos e, if_pos (h1.symm.trans e)]; exact ⟨h1, h2, ry⟩
    · rw [if_neg e, if_neg (fun z => e (h1.trans z))]; exact ⟨h1, h2, h3⟩
theorem KT.put {H : Hp} {kvs : List (List Key × V)} {xs : List (List Key × Addr × Value)} (r : KT H kvs xs) (k : List Key) {b : Addr} {y : V} {u : Value} (hb : H b = some (.tup (k.map kV))) (ry : RelV y u) :
    KT H (putK kvs k y) (storedH xs k b u) := by
  have e : (kvs.any fun kv => decide (kv.1 = k)) = (atKey xs k).isSome := by
    rw [valV_any, (r.val k).isSome_eq, Option.isSome_map]
  unfold putK storedH
  rw [e]
  by_cases q : (atKey xs k).isSome = true
  · rw [if_pos q, if_pos q]; exact r.repl k ry
  · rw [if_neg q, if_neg q]; exact Paired.snoc r ⟨rfl, hb, ry⟩
theorem KT.keeps {H H' : Hp} {kvs : List (List Key × V)} {xs : List (List Key × Addr × Value)} (r : KT H kvs xs) (ht : ∀ b ys, H b = some (.tup ys) → H' b = some (.tup ys)) : KT H' kvs xs :=
  Paired.mapP r fun _ _ z => ⟨z.1, ht _ _ z.2.1, z.2.2⟩

section
variable {P : Program} {w : World} {H : Hp} {h : Heap} {a : Addr}
theorem rd_of {u : HO} (ok : HOk P w H h) (e : Rd H a u) : ObjOk P w H h a u := e.ok ok
theorem dk_rd {kvs : List (Key × V)} (ok : HOk P w H h) (e : Rd H a (.dK kvs)) : kvs.length ≤ sizeLine ∧ (a == sysModules) = false ∧ ∃ vs, KV kvs vs ∧ h.DictOf (mixKind P w) a vs :=
  show ObjOk P w H h a (.dK kvs) from rd_of ok e
theorem dk_of {kvs : List (Key × V)} (ok : HOk P w H h) (e : H a = some (.dK kvs)) : kvs.length ≤ sizeLine ∧ (a == sysModules) = false ∧ ∃ vs, KV kvs vs ∧ h.DictOf (mixKind P w) a vs := dk_rd ok (.inl e)
/-- a tracked tuple of ints and texts is a key -/
theorem key_of {ks : List Key} (ok : HOk P w H h) (e : H a = some (.tup (ks.map kV))) : (tupleKind (mixKind P w)).is h ks a := by
  obtain ⟨_, its, r, o, h1, h2, n, h3⟩ := (show ObjOk P w H h a (.tup (ks.map kV)) from ok a _ e)
  exact ⟨o, its.toArray, n, h1, h2, h3, by simpa using items_are r⟩
theorem dt_rd {kvs : List (List Key × V)} (ok : HOk P w H h) (e : Rd H a (.dT kvs)) : kvs.length ≤ sizeLine ∧ (a == sysModules) = false ∧
    ∃ xs, KT H kvs xs ∧ h.DictOfH (tupleKind (mixKind P w)) a xs := by
  obtain ⟨z, y, xs, r, o, es, ep, h1, h2, h3, h4, h5⟩ := (show ObjOk P w H h a (.dT kvs) from rd_of ok e)
  refine ⟨z, y, xs, r, o, es, ep, h1, h2, h3, h4, fun x hx => ?_, h5⟩
  have all : ∀ {l : List (List Key × V)} {m : List (List Key × Addr × Value)}, KT H l m → ∀ x ∈ m, (tupleKind (mixKind P w)).is h x.1 x.2.1 := by
    intro l m q
    induction q with
    | nil => intro x hx; exact nomatch hx
    | @cons p q ps qs hq t ih =>
      intro x hx
      rcases List.mem_cons.mp hx with e | hx
      · subst e
        exact key_of ok (by rw [← hq.1]; exact hq.2.1)
      · exact ih x hx
  exact all r x hx
theorem dt_of {kvs : List (List Key × V)} (ok : HOk P w H h) (e : H a = some (.dT kvs)) : kvs.length ≤ sizeLine ∧ (a == sysModules) = false ∧
    ∃ xs, KT H kvs xs ∧ h.DictOfH (tupleKind (mixKind P w)) a xs := dt_rd ok (.inl e)
end

/-- what the dict at a holds at the key y -/
def DGet (H : Hp) (a : Addr) (y : V) (r : Option V) : Prop :=
  (∃ kvs k, Rd H a (.dK kvs) ∧ y = kV k ∧ r = valV kvs k) ∨ ∃ kvs k b, Rd H a (.dT kvs) ∧ y = .ref b ∧ H b = some (.tup (k.map kV)) ∧ r = valV kvs k
/-- the heap behind a[y] = v -/
def DPut (H : Hp) (a : Addr) (y v : V) (H' : Hp) : Prop :=
  (∃ kvs k, H a = some (.dK kvs) ∧ y = kV k ∧ kvs.length < sizeLine ∧ H' = upd H a (.dK (putK kvs k v))) ∨
  ∃ kvs k b, H a = some (.dT kvs) ∧ y = .ref b ∧ H b = some (.tup (k.map kV)) ∧ kvs.length < sizeLine ∧ H' = upd H a (.dT (putK kvs k v))
theorem DGet.k {H : Hp} {a : Addr} {kvs : List (Key × V)} {k : Key} (e : H a = some (.dK kvs)) : DGet H a (kV k) (valV kvs k) := .inl ⟨kvs, k, .inl e, rfl, rfl⟩
theorem DGet.t {H : Hp} {a b : Addr} {kvs : List (List Key × V)} {k : List Key} (e : H a = some (.dT kvs)) (eb : H b = some (.tup (k.map kV))) : DGet H a (.ref b) (valV kvs k) := .inr ⟨kvs, k, b, .inl e, rfl, eb, rfl⟩
theorem DPut.k {H : Hp} {a : Addr} {kvs : List (Key × V)} {k : Key} {v : V} (e : H a = some (.dK kvs)) (hl : kvs.length < sizeLine) : DPut H a (kV k) v (upd H a (.dK (putK kvs k v))) := .inl ⟨kvs, k, e, rfl, hl, rfl⟩
theorem DPut.t {H : Hp} {a b : Addr} {kvs : List (List Key × V)} {k : List Key} {v : V} (e : H a = some (.dT kvs)) (eb : H b = some (.tup (k.map kV))) (hl : kvs.length < sizeLine) :
    DPut H a (.ref b) v (upd H a (.dT (putK kvs k v))) := .inr ⟨kvs, k, b, e, rfl, eb, hl, rfl⟩


section
variable {X : Cx} {pins : List (Addr × Obj)} {σ : St} {H : Hp} {s : Shared} {a : Addr} {y v : V} {u r : Value} {o : Option V} {A : Around} {E : Value → Shared → Prop}

theorem Inv.big (I : Inv X pins σ H s) : sysModules < s.heap.objs.size := by
  have h : mainGlobals < s.heap.objs.size := (I.mod.glob.keeps I.bk).lt
  exact Nat.lt_trans (by decide) h

/-- d[y], there -/
theorem d_getItem {Q : Value → Shared → Prop} (hu : A.units + 1 < cLine) (I : Inv X pins σ H s) (g : DGet H a y (some v)) (ry : RelV y u) (h : ∀ w' s', Inv X pins σ H s' → RelV v w' → Q w' s') :
    wpAny (model X.prog X.w) A (getItem (.ref a) u) Q E s := by
  rcases g with ⟨kvs, k, e, ey, l⟩ | ⟨kvs, k, b, e, ey, eb, l⟩
  · subst ey
    obtain ⟨z, hd, vs, rel, dd⟩ := dk_rd I.hok e
    obtain ⟨w', hw, rw'⟩ := RelO.some_of (v := v) (o := valueAt vs k) (by rw [l]; exact rel.val k)
    exact wpAny_getItem_of (kV_is ry) dd.mapOf hw (h w' _ (I.tok _) rw')
  · subst ey
    cases (show u = Value.ref b from ry)
    obtain ⟨z, hd, xs, rel, dd⟩ := dt_rd I.hok e
    obtain ⟨w', hw, rw'⟩ := RelO.some_of (v := v) (o := (atKey xs k).map (·.2)) (by rw [l]; exact rel.val k)
    obtain ⟨p, hp, hp2⟩ := Option.map_eq_some_iff.mp hw
    refine wpAny_getItem_heap (tupleKind_room_in1 hu) (key_of I.hok eb) dd hp ?_
    rw [hp2]
    exact h w' _ (I.tok _) rw'
/-- y in d -/
theorem d_in {Q : Value → Shared → Prop} (hu : A.units + 1 < cLine) (I : Inv X pins σ H s) (g : DGet H a y o) (ry : RelV y u) (h : ∀ s', Inv X pins σ H s' → Q (.bool o.isSome) s') :
    wpAny (model X.prog X.w) A (compareOp .In u (.ref a)) Q E s := by
  rcases g with ⟨kvs, k, e, ey, l⟩ | ⟨kvs, k, b, e, ey, eb, l⟩
  · subst ey
    obtain ⟨z, hd, vs, rel, dd⟩ := dk_rd I.hok e
    refine wpAny_in_of (kV_is ry) hd dd.mapOf ?_
    rw [← (rel.val k).isSome_eq, ← l]
    exact h _ (I.tok _)
  · subst ey
    cases (show u = Value.ref b from ry)
    obtain ⟨z, hd, xs, rel, dd⟩ := dt_rd I.hok e
    refine wpAny_in_heap (tupleKind_room_in1 hu) (key_of I.hok eb) hd dd ?_
    have q := (rel.val k).isSome_eq
    rw [Option.isSome_map] at q
    rw [← q, ← l]
    exact h _ (I.tok _)
theorem d_notIn {Q : Value → Shared → Prop} (hu : A.units + 1 < cLine) (I : Inv X pins σ H s) (g : DGet H a y o) (ry : RelV y u) (h : ∀ s', Inv X pins σ H s' → Q (.bool (!o.isSome)) s') :
    wpAny (model X.prog X.w) A (compareOp .NotIn u (.ref a)) Q E s := by
  rcases g with ⟨kvs, k, e, ey, l⟩ | ⟨kvs, k, b, e, ey, eb, l⟩
  · subst ey
    obtain ⟨z, hd, vs, rel, dd⟩ := dk_rd I.hok e
    refine wpAny_notIn_of (kV_is ry) hd dd.mapOf ?_
    rw [← (rel.val k).isSome_eq, ← l]
    exact h _ (I.tok _)
  · subst ey
    cases (show u = Value.ref b from ry)
    obtain ⟨z, hd, xs, rel, dd⟩ := dt_rd I.hok e
    refine wpAny_notIn_heap (tupleKind_room_in1 hu) (key_of I.hok eb) hd dd ?_
    have q := (rel.val k).isSome_eq
    rw [Option.isSome_map] at q
    rw [← q, ← l]
    exact h _ (I.tok _)
/-- a dict's object is replaced -/
theorem d_write {h' : Heap} {t' : Nat} {ob : HO} (I : Inv X pins σ H s) (mu : Mut (H a)) (hs : Heap.SameBut a s.heap h') (he : ∃ q, h'.get? a = some q) (new : ObjOk X.prog X.w (upd H a ob) h' a ob) :
    Inv X pins σ (upd H a ob) { s with heap := h', toks := t' } :=
  I.write (x := a) (e := a) mu (.inl rfl) (fun b q hb z => (hs.2 b hb).trans z) he new
theorem dk_new {P : Program} {w : World} {H' : Hp} {h' : Heap} {kvs : List (Key × V)} {vs : List (Key × Value)} (z : kvs.length ≤ sizeLine) (hd : (a == sysModules) = false) (rel : KV kvs vs) (dd : h'.DictOf (mixKind P w) a vs) :
    ObjOk P w H' h' a (.dK kvs) := ⟨z, hd, vs, rel, dd⟩
/-- d[y] = v -/
theorem d_setItem {H' : Hp} {Q : Unit → Shared → Prop} (hu : A.units + 1 < cLine) (I : Inv X pins σ H s) (g : DPut H a y v H') (ry : RelV y u) (rv : RelV v r) (h : ∀ s', Inv X pins σ H' s' → Q () s') :
    wpAny (model X.prog X.w) A (setItem (.ref a) u r) Q E s := by
  rcases g with ⟨kvs, k, e, ey, l, eH⟩ | ⟨kvs, k, b, e, ey, eb, l, eH⟩
  · subst ey eH
    obtain ⟨z, hd, vs, rel, dd⟩ := dk_of I.hok e
    have hz : vs.length ≤ sizeLine := by rw [← rel.length]; exact z
    have hl : (putK kvs k v).length ≤ sizeLine := by have := length_putK kvs k v; omega
    refine wpAny_setItem_pairs (hsz := hz) (kV_is ry) dd fun h' dd' hs => h _ ?_
    have he : ∃ q, h'.get? a = some q := let ⟨q, _, _, hq, _⟩ := dd'; ⟨q, hq⟩
    exact d_write I (by rw [e]; exact True.intro) hs he (dk_new hl hd (rel.put k rv) dd')
  · subst ey eH
    cases (show u = Value.ref b from ry)
    obtain ⟨z, hd, xs, rel, dd⟩ := dt_of I.hok e
    have hz : xs.length ≤ sizeLine := by rw [← Paired.length rel]; exact z
    have hl : (putK kvs k v).length ≤ sizeLine := by have := length_putK kvs k v; omega
    refine wpAny_setItem_heap (hsz := hz) (tupleKind_room_in1 hu) (key_of I.hok eb) dd fun h' dd' hs => h _ ?_
    obtain ⟨q, es, ep, hq, h2, h3, h4, _, h5⟩ := dd'
    refine d_write I (by rw [e]; exact True.intro) hs ⟨q, hq⟩ ⟨hl, hd, _, (rel.put k eb rv).keeps fun c ys ec => ?_, q, es, ep, hq, h2, h3, h4, h5⟩
    rw [upd_ne (ne_of ec e (fun z => nomatch z))]
    exact ec
end

section
variable {X : Cx} {pins : List (Addr × Obj)} {σ : St} {H : Hp} {s : Shared} {a : Addr} {kvs : List (Key × V)} {k : Key} {u : Value} {A : Around} {E : Value → Shared → Prop}
/-- del d[k] -/
theorem d_delItem {Q : Unit → Shared → Prop} (I : Inv X pins σ H s) (e : H a = some (.dK kvs)) (ry : RelV (kV k) u) (l : (valV kvs k).isSome = true) (h : ∀ s', Inv X pins σ (upd H a (.dK (dropK kvs k))) s' → Q () s') :
    wpAny (model X.prog X.w) A (delItem (.ref a) u) Q E s := by
  obtain ⟨z, hd, vs, rel, dd⟩ := dk_of I.hok e
  refine wpAny_delItem_slot dd.typeIs (by decide) PySem.F.slot_dict_delitem
    (call_meetsIn PySem.F.slot_dict_delitem dd.typeIs PySem.F.entry_dict_delitem (PySem.F.args_dict_delitem_2 _ _) (meets_dict_delitem_pairs (mixKind X.prog X.w) a (kV_is ry)) ⟨vs, dd, by rw [← rel.length]; exact z, by rw [← (rel.val k).isSome_eq]; exact l, fun h' dd' hs => h _ ?_⟩)
  have he : ∃ q, h'.get? a = some q := let ⟨q, _, _, hq, _⟩ := dd'; ⟨q, hq⟩
  exact d_write I (by rw [e]; exact True.intro) hs he (dk_new (Nat.le_trans (dropK_le kvs k) z) hd (rel.drop k) dd')
/-- d.pop(k[, x]), there -/
theorem d_pop {v : V} {more : List Value} {Q : Value → Shared → Prop} (I : Inv X pins σ H s) (e : H a = some (.dK kvs)) (ry : RelV (kV k) u) (l : valV kvs k = some v) (hm : more = [] ∨ ∃ x, more = [x])
    (h : ∀ w' s', Inv X pins σ (upd H a (.dK (dropK kvs k))) s' → RelV v w' → Q w' s') : wpAny (model X.prog X.w) A (call (.builtin "dict.pop") (.ref a :: u :: more)) Q E s := by
  obtain ⟨z, hd, vs, rel, dd⟩ := dk_of I.hok e
  obtain ⟨w', hw, rw'⟩ := RelO.some_of (v := v) (o := valueAt vs k) (by rw [← l]; exact rel.val k)
  have hp : (keyPart u).isSome = true := by
    cases k with
    | inl i => obtain ⟨t, q⟩ := (show ∃ t, u = Value.int i t from ry); subst q; rfl
    | inr x => obtain ⟨t, q⟩ := (show ∃ t, u = Value.str x t from ry); subst q; rfl
  have ha : argsOk "dict.pop" ⟨.ref a :: u :: more, []⟩ := by
    rcases hm with q | ⟨x, q⟩
    · subst q; exact PySem.F.args_dict_pop_2 _ _
    · subst q; exact PySem.F.args_dict_pop_3 _ _ _
  refine call_meetsIn PySem.F.slot_dict_pop dd.typeIs PySem.F.entry_dict_pop ha (meets_dict_pop_there (mixKind X.prog X.w) a (kV_is ry) more hm hp)
    ⟨vs, w', dd, by rw [← rel.length]; exact z, hw, fun h' dd' hs => h w' _ ?_ rw'⟩
  have he : ∃ q, h'.get? a = some q := let ⟨q, _, _, hq, _⟩ := dd'; ⟨q, hq⟩
  exact d_write I (by rw [e]; exact True.intro) hs he (dk_new (Nat.le_trans (dropK_le kvs k) z) hd (rel.drop k) dd')
/-- d.pop(k, x), not there -/
theorem d_popD {r : Value} {Q : Value → Shared → Prop} (I : Inv X pins σ H s) (e : H a = some (.dK kvs)) (ry : RelV (kV k) u) (l : valV kvs k = none) (h : ∀ s', Inv X pins σ H s' → Q r s') :
    wpAny (model X.prog X.w) A (call (.builtin "dict.pop") [.ref a, u, r]) Q E s := by
  obtain ⟨z, hd, vs, rel, dd⟩ := dk_of I.hok e
  have hn : valueAt vs k = none := RelO.none_of (by rw [← l]; exact rel.val k)
  have hp : (keyPart u).isSome = true := by
    cases k with
    | inl i => obtain ⟨t, q⟩ := (show ∃ t, u = Value.int i t from ry); subst q; rfl
    | inr x => obtain ⟨t, q⟩ := (show ∃ t, u = Value.str x t from ry); subst q; rfl
  exact call_meetsIn PySem.F.slot_dict_pop dd.typeIs PySem.F.entry_dict_pop (PySem.F.args_dict_pop_3 _ _ _) (meets_dict_pop_default (mixKind X.prog X.w) a (kV_is ry) hd hp r) ⟨vs, dd, hn, h _ (I.tok _)⟩
/-- d.clear() -/
theorem d_clear {Q : Value → Shared → Prop} (I : Inv X pins σ H s) (e : H a = some (.dK kvs)) (h : ∀ s', Inv X pins σ (upd H a (.dK [])) s' → Q .none s') : wpAny (model X.prog X.w) A (call (.builtin "dict.clear") [.ref a]) Q E s := by
  obtain ⟨z, hd, vs, rel, dd⟩ := dk_of I.hok e
  refine call_meetsIn PySem.F.slot_dict_clear dd.typeIs PySem.F.entry_dict_clear (PySem.F.args_dict_clear_1 _) (meets_dict_clear (mixKind X.prog X.w) a) ⟨vs, dd, by rw [← rel.length]; exact z, fun h' dd' hs => h _ ?_⟩
  have he : ∃ q, h'.get? a = some q := let ⟨q, _, _, hq, _⟩ := dd'; ⟨q, hq⟩
  exact d_write (t' := s.toks) I (by rw [e]; exact True.intro) hs he (dk_new (Nat.zero_le _) hd .nil dd')
/-- len(d) -/
theorem d_len {Q : Value → Shared → Prop} (I : Inv X pins σ H s) (e : Rd H a (.dK kvs)) (h : ∀ t s', Inv X pins σ H s' → Q (.int kvs.length t) s') : wpAny (model X.prog X.w) A (call (.builtin "len") [.ref a]) Q E s := by
  obtain ⟨z, hd, vs, rel, dd⟩ := dk_rd I.hok e
  refine call_len_dict hd dd (by rw [← rel.length]; rw [sizeLine_eq] at z; omega) ?_
  rw [← rel.length]
  exact h _ _ (I.tok _)
/-- if d -/
theorem d_truth {Q : Bool → Shared → Prop} (I : Inv X pins σ H s) (e : Rd H a (.dK kvs)) (h : ∀ s', Inv X pins σ H s' → Q (!kvs.isEmpty) s') : wpAny (model X.prog X.w) A (truthy (.ref a)) Q E s := by
  obtain ⟨z, hd, vs, rel, dd⟩ := dk_rd I.hok e
  refine wpAny_truthy_dict hd dd (by rw [← rel.length]; rw [sizeLine_eq] at z; omega) ?_
  have q : kvs.isEmpty = vs.isEmpty := by cases rel <;> rfl
  rw [← q]
  exact h _ (I.tok _)
end


/-! ### readings and rules -/
/-- the element of a subscription, not a slice -/
def NoSl (i : Expr) : Prop := ∀ ov iv, subscripted i false ov iv = operate [ov, iv] (getItem ov iv)
theorem subD_of {prog : Program} {w : World} {A : Around} {E : Value → Shared → Prop} {s : Shared} {env : Env} {value slice : Expr} {pos : Pos} {T id : String} {Q : Value → Shared → Prop}
    (hl : typeLookup (.type T) "__getitem__" = pure (some (.builtin id))) (hs : NoSl slice)
    (h : wpAny (model prog w) A (eval value env) (fun o s₁ => wpAny (model prog w) A (eval slice env) (fun i s₂ => s₂.TypeIs o T ∧ wpAny (model prog w) A (getItem o i) Q E s₂) E s₁) E s) :
    wpAny (model prog w) A (eval (.Subscript value slice pos) env) Q E s := by
  refine Subscript_ (wpAny_mono h (fun o s₁ h₁ => wpAny_mono h₁ (fun i s₂ h₂ => ?_) fun _ _ x => x) fun _ _ x => x)
  obtain ⟨hT, h₂⟩ := h₂
  unfold subscriptTail
  refine wpAny_bind ?_
  rw [getitemInPython_of_ne hT.not_modules]
  refine wpAny_bind (wpAny_specialOf hT hl ?_)
  have fin : wpAny (model prog w) A (subscripted slice false o i) (fun r s₃ => wpAny (model prog w) A (letTemporaryGo value o r >>= fun _ => pure r) Q E s₃) E s₂ := by
    rw [hs o i]
    exact wpAny_operating (wpAny_mono h₂ (fun r s₃ h₃ => wpAny_bind (wpAny_letTemporaryGo (wpAny_pure h₃))) fun _ _ x => x)
  first
    | exact wpAny_pure (wpAny_bind fin)
    | exact wpAny_bind (wpAny_pure (wpAny_bind fin))
    | exact wpAny_bind fin

theorem dict_typeIs {X : Cx} {pins : List (Addr × Obj)} {σ : St} {H : Hp} {s : Shared} {a : Addr} {y : V} {o : Option V} (I : Inv X pins σ H s) (g : DGet H a y o) : s.TypeIs (.ref a) "dict" := by
  rcases g with ⟨kvs, k, e, _, _⟩ | ⟨kvs, k, b, e, _, _, _⟩
  · obtain ⟨_, _, vs, _, dd⟩ := dk_rd I.hok e
    exact dd.typeIs
  · obtain ⟨_, _, xs, _, dd⟩ := dt_rd I.hok e
    exact dd.typeIs
theorem dict_noDict {X : Cx} {pins : List (Addr × Obj)} {σ : St} {H : Hp} {s : Shared} {a : Addr} {y : V} {o : Option V} (I : Inv X pins σ H s) (g : DGet H a y o) :
    ∀ b, Value.ref a = .ref b → ∃ ob, s.heap.get? b = some ob ∧ ob.dict = none := fun b q => by
  cases q
  rcases g with ⟨kvs, k, e, _, _⟩ | ⟨kvs, k, b, e, _, _, _⟩
  · obtain ⟨_, _, vs, _, ob, _, _, h1, h2, _⟩ := dk_rd I.hok e
    exact ⟨ob, h1, h2.2.1⟩
  · obtain ⟨_, _, xs, _, ob, _, _, h1, h2, _⟩ := dt_rd I.hok e
    exact ⟨ob, h1, h2.2.1⟩

/-- d[y] -/
def tDGet (td ty : TE) : TE := fun σ H Q => td σ H fun x H1 => ty σ H1 fun y H2 => ∃ a v, x = .ref a ∧ DGet H2 a y (some v) ∧ Q v H2
/-- y in d, y not in d -/
def tDIn (ty td : TE) : TE := fun σ H Q => ty σ H fun y H1 => td σ H1 fun x H2 => ∃ a o, x = .ref a ∧ DGet H2 a y o ∧ Q (.bl o.isSome) H2
def tDNotIn (ty td : TE) : TE := fun σ H Q => ty σ H fun y H1 => td σ H1 fun x H2 => ∃ a o, x = .ref a ∧ DGet H2 a y o ∧ Q (.bl (!o.isSome)) H2
/-- d[y] = v -/
def sDPut (td ty tv : TE) : TS := fun D σ H => tv σ H fun v H1 => td σ H1 fun x H2 => ty σ H2 fun y H3 => ∃ a H4, x = .ref a ∧ DPut H3 a y v H4 ∧ D.nx σ H4
/-- d[y] op= v -/
def sDAug (td ty tv : TE) (rd : V → V → Hp → VK → Prop) : TS := fun D σ H => td σ H fun x H1 => ty σ H1 fun y H2 => ∃ a v, x = .ref a ∧ DGet H2 a y (some v) ∧
  tv σ H2 fun y2 H3 => rd v y2 H3 fun z H4 => ∃ H5, DPut H4 a y z H5 ∧ D.nx σ H5
/-- del d[y] -/
def sDDel (td ty : TE) : TS := fun D σ H => td σ H fun x H1 => ty σ H1 fun y H2 => ∃ a kvs k, x = .ref a ∧ H2 a = some (.dK kvs) ∧ y = kV k ∧ (valV kvs k).isSome = true ∧ D.nx σ (upd H2 a (.dK (dropK kvs k)))

section
variable {X : Cx} {o i e value : Expr} {pos pos' tpos : Pos} {td ty tv : TE}
theorem pe_dget (hu : X.A.units + 1 < cLine) (ho : PE X o td) (hi : PE X i ty) (hs : NoSl i) : PE X (.Subscript o i pos) (tDGet td ty) := by
  intro pins s σ H Q I h
  refine subD_of PySem.F.slot_dict_getitem.lookup hs (thn (ho pins s σ H _ I h) fun u s1 ⟨x, H1, I1, rx, q1⟩ => thn (hi pins s1 σ H1 _ I1 q1) fun iv s2 ⟨y, H2, I2, ry, a, v, ex, g, q2⟩ => ?_)
  subst ex
  obtain rfl : u = Value.ref a := rx
  exact ⟨dict_typeIs I2 g, d_getItem hu I2 g ry fun w' s3 I3 rw' => ⟨v, H2, I3, rw', q2⟩⟩
theorem pc_din (hu : X.A.units + 1 < cLine) (hi : PE X i ty) (ho : PE X o td) : PC X .In i o (tDIn ty td) := by
  intro pins s σ H Q I h
  refine thn (hi pins s σ H _ I h) fun iv s1 ⟨y, H1, I1, ry, q1⟩ => thn (ho pins s1 σ H1 _ I1 q1) fun u s2 ⟨x, H2, I2, rx, a, ov, ex, g, q2⟩ => ?_
  subst ex
  obtain rfl : u = Value.ref a := rx
  exact d_in hu I2 g ry fun s3 I3 => ⟨.bl ov.isSome, H2, I3, rfl, q2⟩
theorem pc_dnotin (hu : X.A.units + 1 < cLine) (hi : PE X i ty) (ho : PE X o td) : PC X .NotIn i o (tDNotIn ty td) := by
  intro pins s σ H Q I h
  refine thn (hi pins s σ H _ I h) fun iv s1 ⟨y, H1, I1, ry, q1⟩ => thn (ho pins s1 σ H1 _ I1 q1) fun u s2 ⟨x, H2, I2, rx, a, ov, ex, g, q2⟩ => ?_
  subst ex
  obtain rfl : u = Value.ref a := rx
  exact d_notIn hu I2 g ry fun s3 I3 => ⟨.bl (!ov.isSome), H2, I3, rfl, q2⟩
theorem ps_dput (hu : X.A.units + 1 < cLine) (ho : PE X o td) (hi : PE X i ty) (hv : PE X value tv) (hs : swapsWith value (some (.Subscript o i pos')) pos.line X.env = pure false) :
    PS X (.Assign [.Subscript o i pos'] value pos) (sDPut td ty tv) := by
  intro pins s σ H D I h
  refine wpAny_Assign_Subscript (thn (hv pins s σ H _ I h) fun r s1 ⟨v, H1, I1, rv, q1⟩ => thn (ho pins s1 σ H1 _ I1 q1) fun u s2 ⟨x, H2, I2, rx, q2⟩ => thn (hi pins s2 σ H2 _ I2 q2) fun iv s3 ⟨y, H3, I3, ry, a, H4, ex, g, q3⟩ => ?_) hs
  subst ex
  obtain rfl : u = Value.ref a := rx
  exact d_setItem hu I3 g ry rv fun s4 I4 => ⟨σ, H4, I4, q3⟩
theorem ps_daug {op : Operator} {rd : V → V → Hp → VK → Prop} (hu : X.A.units + 1 < cLine) (ho : PE X o td) (hi : PE X i ty) (hv : PE X value tv) (hop : InOp X op rd)
    (ha : ∀ ov iv new, augStore i ov iv new = (do holding [new, ov, iv] (setItem ov iv new); release [new, ov, iv] []; pure .next)) : PS X (.AugAssign (.Subscript o i tpos) op value pos) (sDAug td ty tv rd) := by
  intro pins s σ H D I h
  refine wpAny_AugAssign_SubscriptAny (thn (ho pins s σ H _ I h) fun u s1 ⟨x, H1, I1, rx, q1⟩ => thn (hi pins s1 σ H1 _ I1 q1) fun iv s2 ⟨y, H2, I2, ry, a, v, ex, g, q2⟩ => ?_) ha
  subst ex
  obtain rfl : u = Value.ref a := rx
  refine d_getItem hu I2 g ry fun w' s3 I3 rw' => thn (hv pins s3 σ H2 _ I3 q2) fun w2 s4 ⟨y2, H3, I4, ry2, q3⟩ => thn (hop pins s4 σ H3 v y2 w' w2 _ I4 rw' ry2 q3) fun w3 s5 ⟨z, H4, I5, rz, H5, g5, q4⟩ => ?_
  exact d_setItem hu I5 g5 ry rz fun s6 I6 => ⟨σ, H5, I6, q4⟩
theorem ps_ddel (ho : PE X o td) (hi : PE X i ty) : PS X (.Delete [.Subscript o i tpos] pos) (sDDel td ty) := by
  intro pins s σ H D I h
  refine wpAny_Delete (wpAny_deleteEach_cons (wpAny_delete_Subscript (thn (ho pins s σ H _ I h) fun u s1 ⟨x, H1, I1, rx, q1⟩ => thn (hi pins s1 σ H1 _ I1 q1) fun iv s2 ⟨y, H2, I2, ry, a, kvs, k, ex, e, ey, l, q2⟩ => ?_)))
  subst ex ey
  obtain rfl : u = Value.ref a := rx
  exact d_delItem I2 e ry l fun s3 I3 => wpAny_deleteEach_nil ⟨σ, _, I3, q2⟩
end


/-! ### displays -/
theorem dk_empty {P : Program} {w : World} {H : Hp} (h : Heap) (hb : sysModules < h.objs.size) : ObjOk P w H (h.push { cls := .type "dict", data := .dict #[] }) h.objs.size (.dK []) :=
  ⟨Nat.zero_le _, beq_eq_false_iff_ne.mpr (Ne.symm (Nat.ne_of_lt hb)), [], .nil, Heap.DictOf.new h⟩
theorem dt_empty {P : Program} {w : World} {H : Hp} (h : Heap) (hb : sysModules < h.objs.size) : ObjOk P w H (h.push { cls := .type "dict", data := .dict #[] }) h.objs.size (.dT []) :=
  ⟨Nat.zero_le _, beq_eq_false_iff_ne.mpr (Ne.symm (Nat.ne_of_lt hb)), [], .nil, _, #[], 0, Heap.get?_push_size _ rfl, ⟨rfl, rfl, rfl⟩, rfl, rfl, List.nodup_nil⟩
/-- {}, to be a dict of the kind that is wanted -/
def tDNewK : TE := fun _ H Q => ∀ p, H p = none → Q (.ref p) (upd H p (.dK []))
def tDNewT : TE := fun _ H Q => ∀ p, H p = none → Q (.ref p) (upd H p (.dT []))
section
variable {X : Cx} {pos : Pos}
theorem pe_dnewK : PE X (.Dict [] [] pos) tDNewK := fun pins s σ H Q I h =>
  wpAny_Dict_empty ⟨.ref s.heap.objs.size, _, I.laid (a := s.heap.objs.size) (o := .dK []) (t' := s.toks) (fun _ _ q => Heap.get?_push_of_some _ q) (Nat.le_refl _) (dk_empty s.heap I.big), rfl, h _ (I.hok.fresh (Nat.le_refl _))⟩
theorem pe_dnewT : PE X (.Dict [] [] pos) tDNewT := fun pins s σ H Q I h =>
  wpAny_Dict_empty ⟨.ref s.heap.objs.size, _, I.laid (a := s.heap.objs.size) (o := .dT []) (t' := s.toks) (fun _ _ q => Heap.get?_push_of_some _ q) (Nat.le_refl _) (dt_empty s.heap I.big), rfl, h _ (I.hok.fresh (Nat.le_refl _))⟩
end

/-- the pairs of a display, from the left -/
def tPairs : List (TE × TE) → St → Hp → (List (V × V) → Hp → Prop) → Prop
  | [], _, H, Q => Q [] H
  | (tk, tv) :: r, σ, H, Q => tk σ H fun x H1 => tv σ H1 fun y H2 => tPairs r σ H2 fun ps H3 => Q ((x, y) :: ps) H3
abbrev VV : List (V × V) → List (Value × Value) → Prop := Paired fun p q => RelV p.1 q.1 ∧ RelV p.2 q.2
def PPs (X : Cx) (pos : Pos) (keys : List (Option Expr)) (values : List Expr) (trs : List (TE × TE)) : Prop :=
  ∀ (pins : List (Addr × Obj)) (s : Shared) (σ : St) (H : Hp) (Q : List (V × V) → Hp → Prop), Inv X pins σ H s → tPairs trs σ H Q →
    wpAny (model X.prog X.w) X.A (evalPairs (pairTrees keys values X.env pos)) (fun vs s' => ∃ ps H', Inv X pins σ H' s' ∧ VV ps vs ∧ Q ps H') X.xe s
theorem pps_nil {X : Cx} {pos : Pos} : PPs X pos [] [] [] := fun pins s σ H Q I h => pairTrees_nil_walk ⟨[], H, I, .nil, h⟩
theorem pps_cons {X : Cx} {pos : Pos} {k v : Expr} {ks : List (Option Expr)} {vs : List Expr} {tk tv : TE} {trs : List (TE × TE)} (hk : PE X k tk) (hv : PE X v tv) (hr : PPs X pos ks vs trs) :
    PPs X pos (some k :: ks) (v :: vs) ((tk, tv) :: trs) := fun pins s σ H Q I h =>
  pairTrees_cons_walk (thn (hk pins s σ H _ I h) fun u s1 ⟨x, H1, I1, rx, q1⟩ => thn (hv pins s1 σ H1 _ I1 q1) fun w2 s2 ⟨y, H2, I2, ry, q2⟩ =>
    thn (hr pins s2 σ H2 _ I2 q2) fun ws s3 ⟨ps, H3, I3, rel, q3⟩ => ⟨(x, y) :: ps, H3, I3, .cons ⟨rx, ry⟩ rel, q3⟩)

def mergeK (kvs more : List (Key × V)) : List (Key × V) := more.foldl (fun acc kv => putK acc kv.1 kv.2) kvs
theorem KV.merge : ∀ {more : List (Key × V)} {rs : List (Key × Value)} {kvs : List (Key × V)} {vs : List (Key × Value)}, KV more rs → KV kvs vs → KV (mergeK kvs more) (merged vs rs) := by
  intro more rs kvs vs r
  unfold KV at r
  induction r generalizing kvs vs with
  | nil => intro q; exact q
  | @cons p q ps qs h t ih =>
    intro r0
    have e : KV (putK kvs p.1 p.2) (stored vs q.1 q.2) := by
      have := r0.put p.1 h.2
      rw [← h.1]; exact this
    exact ih e
theorem length_mergeK : ∀ (more kvs : List (Key × V)), (mergeK kvs more).length ≤ kvs.length + more.length
  | [], kvs => by show kvs.length ≤ kvs.length + 0; omega
  | p :: r, kvs => by
    have h1 := length_mergeK r (putK kvs p.1 p.2)
    have h2 := length_putK kvs p.1 p.2
    show (mergeK (putK kvs p.1 p.2) r).length ≤ _
    rw [List.length_cons]; omega
theorem carries_of {P : Program} {w : World} : ∀ {kvs : List (Key × V)} {ws : List (Value × Value)}, VV (kvs.map fun kv => (kV kv.1, kv.2)) ws → ∃ rs, Carries (mixKind P w) ws rs ∧ KV kvs rs
  | [], _, r => by rw [List.map_nil] at r; cases r; exact ⟨[], True.intro, .nil⟩
  | p :: kvs, _, r => by
    rw [List.map_cons] at r
    cases r with
    | @cons a b as bs h t =>
      obtain ⟨rs, c, q⟩ := carries_of (P := P) (w := w) t
      obtain ⟨b1, b2⟩ := b
      exact ⟨(p.1, b2) :: rs, ⟨kV_is h.1, rfl, c⟩, .cons ⟨rfl, h.2⟩ q⟩
/-- {k: v, ..} with keys ints and texts; the new dict stands empty while the pairs are made -/
def tDisp (trs : List (TE × TE)) : TE := fun σ H Q => ∀ p, H p = none → tPairs trs σ (upd H p (.dK [])) fun ps H2 => H2 p = some (.dK []) ∧ ∃ kvs : List (Key × V), ps = kvs.map (fun kv => (kV kv.1, kv.2)) ∧ kvs.length ≤ 15 ∧ Q (.ref p) (upd H2 p (.dK (mergeK [] kvs)))
theorem pe_disp {X : Cx} {pos : Pos} {keys : List (Option Expr)} {values : List Expr} {trs : List (TE × TE)} (h : PPs X pos keys values trs) (hall : keys.all (·.isSome) = true) (hl : keys.length = values.length) (h0 : keys ≠ [])
    (h15 : keys.length ≤ 15) : PE X (.Dict keys values pos) (tDisp trs) := by
  intro pins s σ H Q I q
  have hn := I.hok.fresh (Nat.le_refl s.heap.objs.size)
  have I1 := I.laid (a := s.heap.objs.size) (o := .dK []) (h' := s.heap.push { cls := .type "dict", data := .dict #[] }) (t' := s.toks) (fun _ _ q => Heap.get?_push_of_some _ q) (Nat.le_refl _) (dk_empty s.heap I.big)
  refine wpAny_Dict_walk (knd := mixKind X.prog X.w) hall hl h0 h15 (thn (h pins _ σ _ _ I1 (q _ hn)) fun ws s2 ⟨ps, H2, I2, rel, e, kvs, ep, lk, q2⟩ => ?_)
  subst ep
  obtain ⟨rs, c, rk⟩ := carries_of (P := X.prog) (w := X.w) rel
  obtain ⟨z, hd, vs0, r0, dd⟩ := dk_of I2.hok e
  cases r0
  refine ⟨rs, c, dd, fun h' dd' hs => ⟨.ref s.heap.objs.size, _, ?_, rfl, q2⟩⟩
  have hz : (mergeK [] kvs).length ≤ sizeLine := by
    have h1 := length_mergeK kvs []
    rw [List.length_nil] at h1
    rw [sizeLine_eq]; omega
  have he : ∃ q, h'.get? s.heap.objs.size = some q := let ⟨q, _, _, hq, _⟩ := dd'; ⟨q, hq⟩
  exact d_write I2 (by rw [e]; exact True.intro) hs he (dk_new hz hd (rk.merge .nil) dd')


/-! ### methods -/
/-- a method call o.m(e) of a built-in, with one argument: what must be seen of the text -/
structure M1 (X : Cx) (o : Expr) (m : Str) (apos : Pos) (e : Expr) (cpos : Pos) : Prop where
  base : attributeBase o m X.env (eval o X.env) = eval o X.env
  few : ((backTo cpos (starEach [e] X.env)).all (fun x => !x.1) && (backToKw cpos (keywordEach [] X.env)).all (fun x => x.1.isSome)
    && decide (([e] : List Expr).length + ([] : List Keyword).length + (if ([] : List Keyword).isEmpty then 0 else 1) < 30)) = true
  line : (apos.endLine == cpos.line) = true
  trees : backTo cpos (starEach [e] X.env) = [(false, eval e X.env)]
structure M2 (X : Cx) (o : Expr) (m : Str) (apos : Pos) (e f : Expr) (cpos : Pos) : Prop where
  base : attributeBase o m X.env (eval o X.env) = eval o X.env
  few : ((backTo cpos (starEach [e, f] X.env)).all (fun x => !x.1) && (backToKw cpos (keywordEach [] X.env)).all (fun x => x.1.isSome)
    && decide (([e, f] : List Expr).length + ([] : List Keyword).length + (if ([] : List Keyword).isEmpty then 0 else 1) < 30)) = true
  line : (apos.endLine == cpos.line) = true
  trees : backTo cpos (starEach [e, f] X.env) = [(false, eval e X.env), (false, eval f X.env)]

/-- a is a dict, whatever its keys -/
def IsD (H : Hp) (a : Addr) : Prop := (∃ kvs, Rd H a (.dK kvs)) ∨ ∃ kvs, Rd H a (.dT kvs)
theorem isD_at {X : Cx} {pins : List (Addr × Obj)} {σ : St} {H : Hp} {s : Shared} {a : Addr} (I : Inv X pins σ H s) (d : IsD H a) :
    s.TypeIs (.ref a) "dict" ∧ (∀ b, Value.ref a = .ref b → ∃ ob, s.heap.get? b = some ob ∧ ob.dict = none) ∧ (a == sysModules) = false := by
  rcases d with ⟨kvs, e⟩ | ⟨kvs, e⟩
  · obtain ⟨_, hd, vs, _, dd⟩ := dk_rd I.hok e
    refine ⟨dd.typeIs, fun b q => ?_, hd⟩
    cases q
    obtain ⟨ob, _, _, h1, h2, _⟩ := dd
    exact ⟨ob, h1, h2.2.1⟩
  · obtain ⟨_, hd, xs, _, dd⟩ := dt_rd I.hok e
    refine ⟨dd.typeIs, fun b q => ?_, hd⟩
    cases q
    obtain ⟨ob, _, _, h1, h2, _⟩ := dd
    exact ⟨ob, h1, h2.2.1⟩

section
variable {X : Cx} {pins : List (Addr × Obj)} {σ : St} {H : Hp} {s : Shared} {a : Addr} {y d : V} {u r : Value} {o : Option V} {A : Around} {E : Value → Shared → Prop}
/-- d.get(y) -/
theorem d_get1 {Q : Value → Shared → Prop} (hu : A.units + 1 < cLine) (I : Inv X pins σ H s) (g : DGet H a y o) (ry : RelV y u) (h : ∀ w' s', Inv X pins σ H s' → RelV (o.getD .non) w' → Q w' s') :
    wpAny (model X.prog X.w) A (call (.builtin "dict.get") [.ref a, u]) Q E s := by
  rcases g with ⟨kvs, k, e, ey, l⟩ | ⟨kvs, k, b, e, ey, eb, l⟩
  · subst ey
    obtain ⟨z, hd, vs, rel, dd⟩ := dk_rd I.hok e
    refine call_meetsIn PySem.F.slot_dict_get dd.typeIs PySem.F.entry_dict_get (PySem.F.args_dict_get_2 _ _) (meets_dict_get (mixKind X.prog X.w) a (kV_is ry) hd) ⟨_, dd.mapOf, h _ _ (I.tok _) ?_⟩
    rw [l]
    exact (rel.val k).getD rfl
  · subst ey
    cases (show u = Value.ref b from ry)
    obtain ⟨z, hd, xs, rel, dd⟩ := dt_rd I.hok e
    refine call_meetsIn PySem.F.slot_dict_get dd.typeIs PySem.F.entry_dict_get (PySem.F.args_dict_get_2 _ _) (meetsH_dict_get (tupleKind (mixKind X.prog X.w)) a b hd) ⟨tupleKind_room_in1 hu, k, xs, key_of I.hok eb, dd, h _ _ (I.tok _) ?_⟩
    rw [l]
    exact (rel.val k).getD rfl
/-- d.get(y, x) -/
theorem d_get2 {Q : Value → Shared → Prop} (hu : A.units + 1 < cLine) (I : Inv X pins σ H s) (g : DGet H a y o) (ry : RelV y u) (rd : RelV d r) (h : ∀ w' s', Inv X pins σ H s' → RelV (o.getD d) w' → Q w' s') :
    wpAny (model X.prog X.w) A (call (.builtin "dict.get") [.ref a, u, r]) Q E s := by
  rcases g with ⟨kvs, k, e, ey, l⟩ | ⟨kvs, k, b, e, ey, eb, l⟩
  · subst ey
    obtain ⟨z, hd, vs, rel, dd⟩ := dk_rd I.hok e
    refine call_meetsIn PySem.F.slot_dict_get dd.typeIs PySem.F.entry_dict_get (PySem.F.args_dict_get_3 _ _ _) (meets_dict_get_default (mixKind X.prog X.w) a (kV_is ry) hd r) ⟨_, dd.mapOf, h _ _ (I.tok _) ?_⟩
    rw [l]
    exact (rel.val k).getD rd
  · subst ey
    cases (show u = Value.ref b from ry)
    obtain ⟨z, hd, xs, rel, dd⟩ := dt_rd I.hok e
    refine call_meetsIn PySem.F.slot_dict_get dd.typeIs PySem.F.entry_dict_get (PySem.F.args_dict_get_3 _ _ _) (meetsH_dict_get_default (tupleKind (mixKind X.prog X.w)) a b hd r) ⟨tupleKind_room_in1 hu, k, xs, key_of I.hok eb, dd, h _ _ (I.tok _) ?_⟩
    rw [l]
    exact (rel.val k).getD rd
end

def tDGet1 (td ty : TE) : TE := fun σ H Q => td σ H fun x H1 => ∃ a, x = .ref a ∧ IsD H1 a ∧ ty σ H1 fun y H2 => ∃ o, DGet H2 a y o ∧ Q (o.getD .non) H2
def tDGet2 (td ty tx : TE) : TE := fun σ H Q => td σ H fun x H1 => ∃ a, x = .ref a ∧ IsD H1 a ∧ ty σ H1 fun y H2 => tx σ H2 fun z H3 => ∃ o, DGet H3 a y o ∧ Q (o.getD z) H3
/-- d.pop(k): there; d.pop(k, x): there or not -/
def tDPop1 (td ty : TE) : TE := fun σ H Q => td σ H fun x H1 => ∃ a, x = .ref a ∧ IsD H1 a ∧ ty σ H1 fun y H2 => ∃ kvs k v, H2 a = some (.dK kvs) ∧ y = kV k ∧ valV kvs k = some v ∧ Q v (upd H2 a (.dK (dropK kvs k)))
def tDPop2 (td ty tx : TE) : TE := fun σ H Q => td σ H fun x H1 => ∃ a, x = .ref a ∧ IsD H1 a ∧ ty σ H1 fun y H2 => tx σ H2 fun z H3 => ∃ kvs k, H3 a = some (.dK kvs) ∧ y = kV k ∧
  (∀ v, valV kvs k = some v → Q v (upd H3 a (.dK (dropK kvs k)))) ∧ (valV kvs k = none → Q z H3)
section
variable {X : Cx} {o e f : Expr} {apos cpos : Pos} {td ty tx : TE}
theorem pe_dget1 (hu : X.A.units + 1 < cLine) (ho : PE X o td) (he : PE X e ty) (m : M1 X o "get" apos e cpos) : PE X (.Call (.Attribute o "get" apos) [e] [] cpos) (tDGet1 td ty) := by
  intro pins s σ H Q I h
  refine wpAny_Call_method m.base m.few m.line PySem.F.plainAttrs_dict PySem.F.slot_dict_get PySem.F.type_dict_get (thn (ho pins s σ H _ I h) fun u s1 ⟨x, H1, I1, rx, a, ex, d, q1⟩ => ?_)
  subst ex
  obtain rfl : u = Value.ref a := rx
  obtain ⟨t1, t2, _⟩ := isD_at I1 d
  refine ⟨t1, t2, ?_⟩
  rw [m.trees]
  refine Calls.callWith_builtin rfl (Calls.evalArgs_plain (Calls.spliced_cons (thn (he pins s1 σ H1 _ I1 q1) fun iv s2 ⟨y, H2, I2, ry, ov, g, q2⟩ => Calls.spliced_nil ?_)))
  exact d_get1 hu I2 g ry fun w' s3 I3 rw' => ⟨_, H2, I3, rw', q2⟩
theorem pe_dget2 (hu : X.A.units + 1 < cLine) (ho : PE X o td) (he : PE X e ty) (hf : PE X f tx) (m : M2 X o "get" apos e f cpos) : PE X (.Call (.Attribute o "get" apos) [e, f] [] cpos) (tDGet2 td ty tx) := by
  intro pins s σ H Q I h
  refine wpAny_Call_method m.base m.few m.line PySem.F.plainAttrs_dict PySem.F.slot_dict_get PySem.F.type_dict_get (thn (ho pins s σ H _ I h) fun u s1 ⟨x, H1, I1, rx, a, ex, d, q1⟩ => ?_)
  subst ex
  obtain rfl : u = Value.ref a := rx
  obtain ⟨t1, t2, _⟩ := isD_at I1 d
  refine ⟨t1, t2, ?_⟩
  rw [m.trees]
  refine Calls.callWith_builtin rfl (Calls.evalArgs_plain (Calls.spliced_cons (thn (he pins s1 σ H1 _ I1 q1) fun iv s2 ⟨y, H2, I2, ry, q2⟩ =>
    Calls.spliced_cons (thn (hf pins s2 σ H2 _ I2 q2) fun fv s3 ⟨z, H3, I3, rz, ov, g, q3⟩ => Calls.spliced_nil ?_))))
  exact d_get2 hu I3 g ry rz fun w' s4 I4 rw' => ⟨_, H3, I4, rw', q3⟩
theorem pe_dpop1 (ho : PE X o td) (he : PE X e ty) (m : M1 X o "pop" apos e cpos) : PE X (.Call (.Attribute o "pop" apos) [e] [] cpos) (tDPop1 td ty) := by
  intro pins s σ H Q I h
  refine wpAny_Call_method m.base m.few m.line PySem.F.plainAttrs_dict PySem.F.slot_dict_pop PySem.F.type_dict_pop (thn (ho pins s σ H _ I h) fun u s1 ⟨x, H1, I1, rx, a, ex, d, q1⟩ => ?_)
  subst ex
  obtain rfl : u = Value.ref a := rx
  obtain ⟨t1, t2, _⟩ := isD_at I1 d
  refine ⟨t1, t2, ?_⟩
  rw [m.trees]
  refine Calls.callWith_builtin rfl (Calls.evalArgs_plain (Calls.spliced_cons (thn (he pins s1 σ H1 _ I1 q1) fun iv s2 ⟨y, H2, I2, ry, kvs, k, v, ea, ey, l, q2⟩ => Calls.spliced_nil ?_)))
  subst ey
  exact d_pop I2 ea ry l (.inl rfl) fun w' s3 I3 rw' => ⟨v, _, I3, rw', q2⟩
theorem pe_dpop2 (ho : PE X o td) (he : PE X e ty) (hf : PE X f tx) (m : M2 X o "pop" apos e f cpos) : PE X (.Call (.Attribute o "pop" apos) [e, f] [] cpos) (tDPop2 td ty tx) := by
  intro pins s σ H Q I h
  refine wpAny_Call_method m.base m.few m.line PySem.F.plainAttrs_dict PySem.F.slot_dict_pop PySem.F.type_dict_pop (thn (ho pins s σ H _ I h) fun u s1 ⟨x, H1, I1, rx, a, ex, d, q1⟩ => ?_)
  subst ex
  obtain rfl : u = Value.ref a := rx
  obtain ⟨t1, t2, _⟩ := isD_at I1 d
  refine ⟨t1, t2, ?_⟩
  rw [m.trees]
  refine Calls.callWith_builtin rfl (Calls.evalArgs_plain (Calls.spliced_cons (thn (he pins s1 σ H1 _ I1 q1) fun iv s2 ⟨y, H2, I2, ry, q2⟩ =>
    Calls.spliced_cons (thn (hf pins s2 σ H2 _ I2 q2) fun fv s3 ⟨z, H3, I3, rz, kvs, k, ea, ey, q3, q4⟩ => Calls.spliced_nil ?_))))
  subst ey
  cases l : valV kvs k with
  | some v => exact d_pop I3 ea ry l (.inr ⟨fv, rfl⟩) fun w' s4 I4 rw' => ⟨v, _, I4, rw', q3 v l⟩
  | none => exact d_popD I3 ea ry l fun s4 I4 => ⟨z, H3, I4, rz, q4 l⟩
end

/-! ### dict(d): a copy -/
section
variable {X : Cx} {pins : List (Addr × Obj)} {σ : St} {H : Hp} {s : Shared} {a : Addr} {kvs : List (Key × V)} {A : Around} {E : Value → Shared → Prop}
theorem d_copyOf {Q : Value → Shared → Prop} (I : Inv X pins σ H s) (e : Rd H a (.dK kvs)) (h : ∀ p s', H p = none → Inv X pins σ (upd H p (.dK kvs)) s' → Q (.ref p) s') : wpAny (model X.prog X.w) A (call (.type "dict") [.ref a]) Q E s := by
  obtain ⟨z, hd, vs, rel, dd⟩ := dk_rd I.hok e
  refine kt_call_dict hd dd (by rw [← rel.length]; exact z) fun h' dd' hs => ?_
  refine h _ _ (I.hok.fresh (Nat.le_refl _)) (I.laid (a := s.heap.objs.size) (o := .dK kvs) (t' := s.toks) (fun b q hq => ?_) (Nat.le_refl _) (dk_new z (beq_eq_false_iff_ne.mpr (Ne.symm (Nat.ne_of_lt I.big))) rel dd'))
  exact (hs.2 b (Nat.ne_of_lt (Heap.lt_size hq))).trans (Heap.get?_push_of_some _ hq)
end


section
variable {X : Cx} {pins : List (Addr × Obj)} {σ : St} {H : Hp} {s : Shared} {a : Addr} {y : V} {u : Value} {A : Around} {E : Value → Shared → Prop}
/-- d[y], not there: a KeyError -/
theorem d_missing {Q : Value → Shared → Prop} (hu : A.units + 1 < cLine) (hh : A.handled = none) (I : Inv X pins σ H s) (g : DGet H a y none) (ry : RelV y u)
    (h : ∀ h' e t', Heap.NewExc s.heap h' e "KeyError" → E (.ref e) { s with heap := h', toks := t' }) : wpAny (model X.prog X.w) A (getItem (.ref a) u) Q E s := by
  rcases g with ⟨kvs, k, e, ey, l⟩ | ⟨kvs, k, b, e, ey, eb, l⟩
  · subst ey
    obtain ⟨z, hd, vs, rel, dd⟩ := dk_rd I.hok e
    have hn : valueAt vs k = none := RelO.none_of (by rw [l]; exact rel.val k)
    exact wpAny_getItem_missing_of (kV_is ry) hd hh dd.mapOf hn fun h' ex ne => h h' ex _ ne
  · subst ey
    cases (show u = Value.ref b from ry)
    obtain ⟨z, hd, xs, rel, dd⟩ := dt_rd I.hok e
    have hn : (atKey xs k).map (·.2) = none := RelO.none_of (by rw [l]; exact rel.val k)
    exact wpAny_getItem_missing_heap (tupleKind_room_in1 hu) (key_of I.hok eb) hd hh dd (Option.map_eq_none_iff.mp hn) fun h' ex ne => h h' ex _ ne
end
end L2

namespace Att
open PySem PySem.W PySem.Calls PyProof.Rows

/-! ### the script -/
theorem ints_of_wellAll {P : Params} {h : Heap} : ∀ (ns : List Int) (vs : List Value), WellAll P h vs (ns.map WData.int) → IntsAre vs ns := by
  intro ns
  induction ns with
  | nil =>
    intro vs w
    rw [List.map_nil] at w
    cases w
    exact .nil
  | cons n ns ih =>
    intro vs w
    rw [List.map_cons] at w
    cases w with
    | cons a b =>
      cases a
      exact .cons _ _ (ih _ b)

theorem script_of {l : OpenLaw} {n : Nat} (hn : l.most = some n) {P : Params} {h : Heap} {args : List WData} {vals : List Value}
    (hpre : l.row.toRowW.claim.pre args = true) (hwl : WellAll P h vals args) :
    ∃ a vs ns, vals = [Value.ref a] ∧ args = [WData.list (ns.map WData.int)] ∧ h.get? a = some { cls := .type "list", data := .seq vs.toArray } ∧ IntsAre vs ns ∧ ns.length ≤ n := by
  have hsh : WShape.hasAll [] args [.list .int] = true := (pre_splitW hpre).1
  have hc : l.pre.holds [] { args := args } = true := (pre_splitW hpre).2
  obtain ⟨d, r, rfl, h1, h2⟩ := hasAllW_cons hsh
  obtain rfl := hasAllW_nil h2
  obtain ⟨xs, rfl, h3⟩ := hasW_list h1
  obtain ⟨ns, rfl⟩ := items_int h3
  have hlen : ns.length ≤ n := by
    unfold OpenLaw.pre at hc
    have h4 : (WTm.not (.lt (.lit (.int (n : Int))) (.len (.arg 0)))).holds [] { args := [.list (ns.map .int)] } = true := by
      have h4 := (holds_andW hc).1
      rw [hn] at h4
      exact h4
    have h5 := condW_of h4 (w_not (w_lt w_lit (w_len_list (w_arg rfl))))
    rw [List.length_map] at h5
    refine Nat.le_of_not_lt fun q => ?_
    have q' : (n : Int) < ((ns.length : Nat) : Int) := by omega
    first
      | (rw [decide_eq_true q'] at h5; exact absurd h5 (by decide))
      | (simp at h5; omega)
  cases hwl with
  | cons w1 w2 =>
    cases w2
    cases w1 with
    | list ho hall => exact ⟨_, _, ns, rfl, rfl, ho, ints_of_wellAll ns _ hall, hlen⟩

theorem post_true (l : OpenLaw) (args : List WData) : l.row.toRowW.claim.post args (.bool true) args = true :=
  postW_of (r := l.row.toRowW) (X := (true == true))
    (show WShape.has [] (.bool true) .bool = true by first | rfl | decide | simp [WShape.has, WShape.arms, WShape.armsAll])
    (show (WTm.eq .res (.lit (.bool true))).value [] { args := args, res := some (.bool true), after := args } = some (.bool (true == true)) from w_eq_bool (w_res rfl) w_lit) rfl

/-! ### the attachment: holds_open's last premise (the goal 'hc' behind k_head) from a wpAny of the law's body -/
theorem attach {l : OpenLaw} {n : Nat} {q : Program} {loose : List Str} {XP : (Str → Option Value) → Heap → Prop} {YP : World → Heap → Prop} {d : DefRec} {x : Str}
    (hn : l.most = some n) (hdf : d.params.defaults = [])
    (hbind : ∀ pm cd doc v : Value, bindArgs (docDef d.name d.params d.body d.scope pm cd doc) ⟨[v], []⟩ = pure [(x, v)])
    (hx : d.scope.names.lookup x = some .local ∨ d.scope.names.lookup x = some .cell)
    (hk : d.scope.kind = .function) (hco : d.scope.isCoroutine = false) (hgen : d.scope.isGenerator = false)
    (body : ∀ (w : World) (s₀ s₁ s : Shared) (mg mb : Str → Option Value) (fa : Addr) (o : Obj) (pm cd doc : Value) (a : Addr) (vs : List Value) (ns : List Int),
      Ground q loose [] XP w s₀ mg mb s₁.heap → YP w s₁.heap →
      s₁.heap.get? fa = some o → o.data = .func (docDef d.name d.params d.body d.scope pm cd doc) → s₁.heap.CodeRec cd d.name → mg d.name = some (.ref fa) →
      s₁.heap.get? a = some { cls := .type "list", data := .seq vs.toArray } → IntsAre vs ns → ns.length ≤ n →
      s.gens = #[] → s.os = s₁.os →
      Fr s₁.heap s₁.heap.objs.size s.heap (bindL (envOfC d.name d.scope s₁.heap.objs.size fa cd).kindOf [(x, .ref a)] fun _ => none) →
      Cl s₁.heap.objs.size (cellsFrom (s₁.heap.objs.size + 1) d.scope.names []) s.heap (bindC (envOfC d.name d.scope s₁.heap.objs.size fa cd).kindOf [(x, .ref a)] fun _ => none) →
      wpAny (model l.prog w) (callerA.deeper (envOfC d.name d.scope s₁.heap.objs.size fa cd)) (execs d.body (envOfC d.name d.scope s₁.heap.objs.size fa cd))
        (fun f s' => f = .ret (.bool true) ∧ OldK s₁.heap s'.heap ∧ s'.os = s₁.os ∧ AllBare s'.gens) (fun _ _ => False) s) :
    WalkO q loose XP YP l.row.toRowW d [] (fun f vs => PySem.call f vs) := by
  intro w s₀ s₁ mg mb G Y fa o pm cd doc dV kV ho hd hcd hD hmg hg args vals as hpre hlay hrd hwl hlo
  obtain rfl : dV = .none := Dflts.none hD hdf
  obtain rfl : kV = .none := Dflts.noKw hD
  obtain ⟨a, vs, ns, rfl, rfl, hobj, hints, hlen⟩ := script_of hn hpre hwl
  refine enter_call ?_
  refine call_cells_ret (o := o) (by rw [depth_caller]; decide) ho (fd_plain hd) G.T.nolimit hcd (hbind pm cd doc (.ref a)) (fun y hy => ?_) (fun h₁ tk F X => ?_) hco hgen hk
  · obtain rfl : y = (x, Value.ref a) := List.mem_singleton.mp hy
    rcases hx with e | e
    · exact .inl e
    · exact .inr ⟨e, cellsFrom_some _ _ _ (.inl e)⟩
  · refine wpAny_mono (body w s₀ s₁ { s₁ with heap := h₁, toks := tk } mg mb fa o pm cd doc a vs ns G Y ho (fd_plain hd) hcd hmg hobj hints hlen hg rfl F X) (fun f s' hq => ?_) (fun _ _ hq => hq)
    obtain ⟨rfl, h2, h3, h4⟩ := hq
    exact ⟨.inl ⟨.bool true, .bool true, [], rfl, fun _ => rfl, .bool true, post_true l _, fun _ => ⟨List.Pairwise.nil, fun _ hm => (nomatch hm)⟩⟩, h2, h3, h4⟩

/-- the same from a codeAny of the CALL (for a layer whose function contracts speak of calls) -/
theorem attach_call {l : OpenLaw} {n : Nat} {q : Program} {loose : List Str} {XP : (Str → Option Value) → Heap → Prop} {YP : World → Heap → Prop} {d : DefRec}
    (hn : l.most = some n) (hdf : d.params.defaults = [])
    (call : ∀ (w : World) (s₀ s₁ : Shared) (mg mb : Str → Option Value) (fa : Addr) (o : Obj) (pm cd doc : Value) (a : Addr) (vs : List Value) (ns : List Int),
      Ground q loose [] XP w s₀ mg mb s₁.heap → YP w s₁.heap →
      s₁.heap.get? fa = some o → o.data = .func (docDef d.name d.params d.body d.scope pm cd doc) → s₁.heap.CodeRec cd d.name → mg d.name = some (.ref fa) →
      s₁.heap.get? a = some { cls := .type "list", data := .seq vs.toArray } → IntsAre vs ns → ns.length ≤ n → s₁.gens = #[] →
      codeAny (model l.prog w) callerA (.call (.ref fa) ⟨[.ref a], []⟩) (fun r s' => r = .ok (.ret (.bool true)) ∧ OldK s₁.heap s'.heap ∧ s'.os = s₁.os ∧ AllBare s'.gens) s₁) :
    WalkO q loose XP YP l.row.toRowW d [] (fun f vs => PySem.call f vs) := by
  intro w s₀ s₁ mg mb G Y fa o pm cd doc dV kV ho hd hcd hD hmg hg args vals as hpre hlay hrd hwl hlo
  obtain rfl : dV = .none := Dflts.none hD hdf
  obtain rfl : kV = .none := Dflts.noKw hD
  obtain ⟨a, vs, ns, rfl, rfl, hobj, hints, hlen⟩ := script_of hn hpre hwl
  refine enter_call (codeAny_mono (call w s₀ s₁ mg mb fa o pm cd doc a vs ns G Y ho (fd_plain hd) hcd hmg hobj hints hlen hg) fun r s' hq => ?_)
  obtain ⟨rfl, h2, h3, h4⟩ := hq
  exact ⟨.inl ⟨.bool true, .bool true, [], rfl, fun _ => rfl, .bool true, post_true l _, fun _ => ⟨List.Pairwise.nil, fun _ hm => (nomatch hm)⟩⟩, h2, h3, h4⟩

/-- the same where the top left finished generators (o_head chose holds_openN): nothing may have changed at all and no generator may be left -/
theorem attachN {l : OpenLaw} {n : Nat} {q : Program} {loose : List Str} {XP : (Str → Option Value) → Heap → Prop} {YP : World → Heap → Prop} {d : DefRec} {x : Str}
    (hn : l.most = some n) (hdf : d.params.defaults = [])
    (hbind : ∀ pm cd doc v : Value, bindArgs (docDef d.name d.params d.body d.scope pm cd doc) ⟨[v], []⟩ = pure [(x, v)])
    (hx : d.scope.names.lookup x = some .local ∨ d.scope.names.lookup x = some .cell)
    (hk : d.scope.kind = .function) (hco : d.scope.isCoroutine = false) (hgen : d.scope.isGenerator = false)
    (body : ∀ (w : World) (s₀ s₁ s : Shared) (mg mb : Str → Option Value) (fa : Addr) (o : Obj) (pm cd doc : Value) (a : Addr) (vs : List Value) (ns : List Int),
      Ground q loose [] XP w s₀ mg mb s₁.heap → YP w s₁.heap →
      s₁.heap.get? fa = some o → o.data = .func (docDef d.name d.params d.body d.scope pm cd doc) → s₁.heap.CodeRec cd d.name → mg d.name = some (.ref fa) →
      s₁.heap.get? a = some { cls := .type "list", data := .seq vs.toArray } → IntsAre vs ns → ns.length ≤ n →
      s.gens = #[] → s.os = s₁.os →
      Fr s₁.heap s₁.heap.objs.size s.heap (bindL (envOfC d.name d.scope s₁.heap.objs.size fa cd).kindOf [(x, .ref a)] fun _ => none) →
      Cl s₁.heap.objs.size (cellsFrom (s₁.heap.objs.size + 1) d.scope.names []) s.heap (bindC (envOfC d.name d.scope s₁.heap.objs.size fa cd).kindOf [(x, .ref a)] fun _ => none) →
      wpAny (model l.prog w) (callerA.deeper (envOfC d.name d.scope s₁.heap.objs.size fa cd)) (execs d.body (envOfC d.name d.scope s₁.heap.objs.size fa cd))
        (fun f s' => f = .ret (.bool true) ∧ (∀ b o, s₁.heap.get? b = some o → s'.heap.get? b = some o) ∧ s'.os = s₁.os ∧ s'.gens = #[]) (fun _ _ => False) s) :
    WalkN q loose XP YP l.row.toRowW d [] (fun f vs => PySem.call f vs) := by
  intro w s₀ s₁ mg mb G Y fa o pm cd doc dV kV ho hd hcd hD hmg hg args vals as hpre hlay hrd hwl hlo
  obtain rfl : dV = .none := Dflts.none hD hdf
  obtain rfl : kV = .none := Dflts.noKw hD
  obtain ⟨a, vs, ns, rfl, rfl, hobj, hints, hlen⟩ := script_of hn hpre hwl
  refine enter_callW ?_
  refine call_cells_ret (o := o) (by rw [depth_caller]; decide) ho (fd_plain hd) G.T.nolimit hcd (hbind pm cd doc (.ref a)) (fun y hy => ?_) (fun h₁ tk F X => ?_) hco hgen hk
  · obtain rfl : y = (x, Value.ref a) := List.mem_singleton.mp hy
    rcases hx with e | e
    · exact .inl e
    · exact .inr ⟨e, cellsFrom_some _ _ _ (.inl e)⟩
  · refine wpAny_mono (body w s₀ s₁ { s₁ with heap := h₁, toks := tk } mg mb fa o pm cd doc a vs ns G Y ho (fd_plain hd) hcd hmg hobj hints hlen hg rfl F X) (fun f s' hq => ?_) (fun _ _ hq => hq)
    obtain ⟨rfl, h2, h3, h4⟩ := hq
    exact ⟨.inl ⟨.bool true, .bool true, [], rfl, fun _ => rfl, .bool true, post_true l _, fun _ => ⟨List.Pairwise.nil, fun _ hm => (nomatch hm)⟩⟩, h2, h3, h4⟩

/-! ### rules over ANY heap (no ledger) from facts about the written part K: the library's own take a ledger (News) for what they write -/
section
variable {prog : Program} {w : World} {A : Around} {E : Value → Shared → Prop} {s : Shared} {K : Frag}

/-- a def of the module, or a method (qual 'C.m'), entered: the frame is the next address; cells behind it -/
theorem call_fn {R : Result → Shared → Prop} {name qual : Str} {params : Arguments} {body : List Stmt} {scope : Scope} {dV kV doc pm cdv ct oc : Value} {an od : Option Addr} {osl : Array (Option Value)} {f : Addr} {args : Args} {binds : List (Str × Value)}
    (X : K.In s.heap) (hlim : s.heap.NoLimit) (ho : K.lookup f = some ⟨oc, od, .func (fnOf name qual params body scope dV kV doc pm an cdv ct), osl⟩) (hcd : codeIn K cdv qual = true) (hroom : A.depth < recursionLimit)
    (hbind : BindsTo s (fnOf name qual params body scope dV kV doc pm an cdv ct) args binds)
    (hkind : (binds.all fun y => scope.names.lookup y.1 == some .local || scope.names.lookup y.1 == some .cell) = true)
    (h : ∀ s₁, InCallC s s.heap.objs.size (bindL (envOfC qual scope s.heap.objs.size f cdv).kindOf binds fun _ => none) (cellsFrom (s.heap.objs.size + 1) scope.names [])
        (bindC (envOfC qual scope s.heap.objs.size f cdv).kindOf binds fun _ => none) s₁ →
      wpAny (model prog w) (A.deeper (envOfC qual scope s.heap.objs.size f cdv)) (execs body (envOfC qual scope s.heap.objs.size f cdv))
        (fun fl s' => R (.ok (.ret (match fl with | .ret v => v | _ => .none))) s')
        (fun e s' => wpAny (model prog w) (A.deeper (envOfC qual scope s.heap.objs.size f cdv)) (leaving (envOfC qual scope s.heap.objs.size f cdv) e) (fun _ s'' => R (.error e) s'') (fun e' s'' => R (.error e') s'') s') s₁)
    (hco : scope.isCoroutine = false) (hgen : scope.isGenerator = false) (hk : scope.kind = .function) : codeAny (model prog w) A (.call (.ref f) args) R s := by
  refine codeAny_call_function hroom (X _ _ ho) rfl hco hgen rfl (codeRec_of X hcd) (hbind _ _ _ _ ?_)
  refine wpAny_newFunctionEnv_cells hk (kindsX hkind _) fun env he s₁ x => ?_
  subst he
  exact ⟨hlim.keeps x.toInCall.keep, codeAny_func (h s₁ x)⟩

/-- C(..): dict at size, instance at size + 1, then __init__ -/
theorem make_obj {R : Result → Shared → Prop} {C fI : Addr} {rest : List Value} {kw : List (Str × Value)}
    (X : K.In s.heap) (hm : makesIn K C = true) (hi : findIn K (.ref C) "__init__" = some (some (.ref fI))) (hf : isFn K (.ref fI) = true)
    (h : codeAny (model prog w) (A.under (.builtin "type.__call__" ⟨.ref C :: rest, kw⟩)) (.call (.ref fI) ⟨.ref (s.heap.objs.size + 1) :: rest, kw⟩) (InitBack (s.heap.objs.size + 1) R)
      { s with heap := (s.heap.push emptyDict).push (instObj C s.heap.objs.size) }) : codeAny (model prog w) A (.call (.ref C) ⟨rest, kw⟩) R s := by
  obtain ⟨hh, g, d, t, os⟩ := s
  exact make_core (makes_of X hm) (looks_findIn X hi) (fun self => bind_fn X self (beq_iff_eq.mp hf)) (.inl rfl) h

/-- x.name where the instance's dict holds the name and the class does not -/
theorem get_field {x C : Addr} {ox : Obj} {es : List DictEntry} {n : Nat} {name : Str} {expr : Bool} {v : Value} {Q : Value → Shared → Prop}
    (X : K.In s.heap) (I : PySem.W.InstAt s.heap x ox C (some (dictOf es n))) (hg : plainGet K C name = true) (hh : hasDictIn K C = true) (ha : findIn K (.ref C) name = some none)
    (hl : getL name es = some (some v)) (hv : handedIn v = true) (h : Q v { s with toks := s.toks + 1 }) : wpAny (model prog w) A (getAttr (.ref x) name expr) Q E s :=
  get_value X I (plainGet_of hg).1 (findObj_own hh ha rfl hl) hv h

/-- x.m(..): the method found in the class -/
theorem get_method {x C f : Addr} {ox : Obj} {es : List DictEntry} {n : Nat} {name : Str} {pl : Sem Bool} {Q : Value × List Value → Shared → Prop}
    (X : K.In s.heap) (I : PySem.W.InstAt s.heap x ox C (some (dictOf es n))) (hg : plainGet K C name = true) (hf : findIn K (.ref C) name = some (some (.ref f))) (ht : isFn K (.ref f) = true)
    (hl : getL name es = some none) (h : Q (.ref f, [.ref x]) s) : wpAny (model prog w) A (getMethod (.ref x) name pl) Q E s :=
  method_fn X I (plainGet_of hg).1 (plainGet_of hg).2 hf (beq_iff_eq.mp ht) (by show (lookIn name (dictOf es n)).map _ = _; rw [lookIn_dict, hl]; rfl) h

/-! the whole heap as the ledger: makes every rule that writes through a ledger a rule over any heap -/
def noObjs (h : Heap) : Heap := { h with objs := #[] }
theorem noObjs_get (h : Heap) (b : Addr) : (noObjs h).get? b = none := by
  cases e : (noObjs h).get? b with
  | none => rfl
  | some o => exact absurd (Heap.lt_size e) (Nat.not_lt_zero _)
def ledger (h : Heap) (L d : Addr) : List (Addr × Obj) := (List.range h.objs.size).filterMap fun a => if a = L ∨ a = d then none else (h.get? a).map fun o => (a, o)
theorem mem_ledger {h : Heap} {L d a : Addr} {o : Obj} : (a, o) ∈ ledger h L d ↔ a ≠ L ∧ a ≠ d ∧ h.get? a = some o := by
  unfold ledger
  rw [List.mem_filterMap]
  constructor
  · rintro ⟨b, _, e⟩
    split at e
    · cases e
    · rename_i hb
      obtain ⟨o', ho, e'⟩ := Option.map_eq_some_iff.mp e
      cases e'
      exact ⟨fun q => hb (.inl q), fun q => hb (.inr q), ho⟩
  · rintro ⟨n1, n2, ho⟩
    refine ⟨a, List.mem_range.mpr (Heap.lt_size ho), ?_⟩
    rw [if_neg (show ¬ (a = L ∨ a = d) from fun q => q.elim n1 n2), ho] <;> rfl
theorem news_ledger {h : Heap} {L d : Addr} {od : Obj} (hne : d ≠ L) (ho : h.get? d = some od) : News (noObjs h) L h ([] ++ (d, od) :: ledger h L d) := by
  rintro ⟨a, o⟩ hp
  rcases List.mem_cons.mp hp with e | hp
  · cases e
    exact ⟨ho, hne, noObjs_get _ _⟩
  · obtain ⟨n1, n2, e⟩ := mem_ledger.mp hp
    exact ⟨e, n1, noObjs_get _ _⟩
theorem fr_all {h : Heap} {L : Addr} {m : Str → Option Value} (n : h.Ns L m) : Fr (noObjs h) L h m :=
  ⟨n, fun b o e => (by rw [noObjs_get] at e; cases e), Nat.zero_le _⟩
/-- Upd of the head entry (for append_K, setItem_K ..) -/
theorem upd_ledger {h : Heap} {L d : Addr} {o o' : Obj} : Upd d o o' ((d, o) :: ledger h L d) ((d, o') :: ledger h L d) :=
  .head fun ⟨_, _⟩ hp => (mem_ledger.mp hp).2.1

/-- x.name = v over any heap: L is any namespace of the heap (the frame's, say): its map stays, its object is not told; all else but the dict stays -/
theorem set_field {x C dx L : Addr} {ox : Obj} {m : Str → Option Value} {es es' : List DictEntry} {n n' : Nat} {name : Str} {v : Value} {Q : Unit → Shared → Prop}
    (X : K.In s.heap) (I : PySem.W.InstAt s.heap x ox C (some (dictOf es n))) (hd : ox.dict = some dx) (hL : s.heap.Ns L m) (hne : dx ≠ L)
    (hs : findIn K (.ref C) "__setattr__" = some (some (.builtin "object.__setattr__"))) (hp : plainOver K C = true) (ht : takerIn K C name = some none) (hh : hasDictIn K C = true) (hl : (getL name es).isSome = true)
    (e : (putL name (PyData.keyHash w.params name) (.str name (s.toks + 1)) v es, putN name es n) = (es', n')) (hz : es'.length ≤ 1000)
    (h : ∀ h' : Heap, h'.Ns L m → h'.get? dx = some (dictOf es' n') → (∀ b o, b ≠ dx → b ≠ L → s.heap.get? b = some o → h'.get? b = some o) → Q () { s with heap := h', toks := s.toks + 2 }) :
    wpAny (model prog w) A (setAttr (.ref x) name v) Q E s := by
  obtain ⟨e1, e2⟩ := Prod.mk.inj e
  have hdx : s.heap.get? dx = some (dictOf es n) := by
    have := I.dict
    rw [hd] at this
    exact this
  refine set_plain X I hs (osa_dict (s := { s with toks := s.toks + 1 }) (h₀ := noObjs s.heap) (L := L) (m := m) (od := dictOf es n) (od' := dictOf es' n') (es := es') (n := n') (pre := []) (post := ledger s.heap L dx)
    (fr_all hL) (news_ledger hne hdx) X I hd hp ht hh hl (fun _ q => nomatch q) (fun ⟨_, _⟩ q => (mem_ledger.mp q).2.1) (by rw [putName_dict, e1, e2]) rfl hz fun h' F' N' => ?_)
  exact h h' F'.ns (N'.get (List.Mem.head _)) fun b o n1 n2 ho => N'.get (List.Mem.tail _ (mem_ledger.mpr ⟨n2, n1, ho⟩))
end
end Att

namespace L2
open PySem PySem.Spec PyProof.Rows

theorem vals_ints : ∀ {vs : List Value} {ns : List Int}, IntsAre vs ns → Vals (ns.map V.int) vs
  | _, _, .nil => .nil
  | _, _, .cons n t h => .cons ⟨t, rfl⟩ (vals_ints h)

/-- nothing is tracked but the script, known to the object (or it is an object of the module) -/
def Only (H : Hp) : Prop := ∀ b, H b = none ∨ ∃ o xs, H b = some (.frz o (.lst xs))

/-- THE HEAD: the law's promise, at the heap behind the top. F, the promise of the law's def, may use that base is part of the heap (so K.In base, base.Ns mainGlobals mg stand in Mod) -/
theorem law_call {P : Program} {w : World} {K : PySem.W.Frag} {mg mb : Str → Option Value} {CX : CXT} {k : Nat} {fa a : Addr} {fd : FuncData} {x : Str} {sp : Sp} {s₁ : Shared} {vs : List Value} {ns : List Int}
    (KX : K.In s₁.heap) (hns : s₁.heap.Ns mainGlobals mg) (hb : s₁.heap.Ns builtinsNs mb) (hbb : ∀ x : Str, x ≠ "__name__" → mb x = bootBuiltins x) (hlim : s₁.heap.NoLimit) (hg : s₁.gens = #[])
    (ha : s₁.heap.get? a = some { cls := .type "list", data := .seq vs.toArray }) (hi : IntsAre vs ns) (hl : ns.length ≤ sizeLine) (hr : Room k callerA)
    (F : ∀ base : Heap, K.In base → base.Ns mainGlobals mg → FnOk P w K mg base CX k fa fd [x] sp) (hbind : ∀ (s : Shared) (u : Value), BindsTo s fd ⟨[u], []⟩ [(x, u)])
    (hsp : ∀ H : Hp, Only H → SqL K H a (ns.map V.int) → sp [.ref a] H (fun v _ => v = .bl true) fun _ _ _ => False)
    (hCX : ∀ H e s', CX [] H s₁ (fun _ _ _ => False) e s' → False) :
    codeAny (model P w) callerA (.call (.ref fa) ⟨[.ref a], []⟩) (fun r s' => r = .ok (.ret (.bool true)) ∧ OldK s₁.heap s'.heap ∧ s'.os = s₁.os ∧ AllBare s'.gens) s₁ := by
  have rv := vals_ints hi
  have lenV := hi.length
  -- from an abstract heap in which nothing but the script may be tracked
  have core : ∀ H : Hp, Only H → SqL K H a (ns.map V.int) → HOk P w H s₁.heap → (∀ b, H b ≠ none → b = a) → (H a ≠ none → K.lookup a = none) →
      codeAny (model P w) callerA (.call (.ref fa) ⟨[.ref a], []⟩) (fun r s' => r = .ok (.ret (.bool true)) ∧ OldK s₁.heap s'.heap ∧ s'.os = s₁.os ∧ AllBare s'.gens) s₁ := by
    intro H hO hS hok hA hK
    have base_of : ∀ {b : Addr} {o : Obj}, s₁.heap.get? b = some o → H b = none → (hidT s₁.heap H).get? b = some o := fun e n => hidT_get e n
    have noA : ∀ {b : Addr} {o : Obj} {es : Array DictEntry} {ep : Nat}, s₁.heap.get? b = some o → o.data = .dict es ep → H b = none := fun {b o es ep} e d => by
      cases q : H b with
      | none => rfl
      | some u =>
        have e' : b = a := hA b (by rw [q]; simp)
        subst e'
        rw [ha] at e; cases e
        have d' : Data.seq vs.toArray _ = Data.dict es ep := d
        cases d'
    have nsK : ∀ {b : Addr} {m : Str → Option Value}, s₁.heap.Ns b m → (hidT s₁.heap H).Ns b m := fun {b m} ⟨o, es, ep, e, d, r⟩ => ⟨o, es, ep, base_of e (noA e d), d, r⟩
    have hKb : K.In (hidT s₁.heap H) := fun b o e => base_of (KX b o e) (by
      cases q : H b with
      | none => rfl
      | some u =>
        have e' : b = a := hA b (by rw [q]; simp)
        subst e'
        rw [hK (by rw [q]; simp)] at e; cases e)
    have hM : Mod K mg (hidT s₁.heap H) := ⟨hKb, nsK hns, ⟨mb, nsK hb, hbb⟩, let ⟨mc, h1, h2⟩ := hlim; ⟨mc, nsK h1, h2⟩⟩
    have e0 : Env0 P w K mg (hidT s₁.heap H) callerA [] s₁ H := ⟨rfl, hM, fun b o e => of_hidT e, Nat.le_of_eq (hidT_size _ _), trivial, fun b hb => absurd (show b ∈ ([] : List Addr) from hb) (by simp), hok, .of_eq hg⟩
    refine codeAny_mono ((F _ hKb (nsK hns)).run callerA [] s₁ H ⟨[.ref a], []⟩ [.ref a] [.ref a] _ _ hr e0 (hbind s₁ (.ref a)) (.cons rfl .nil) (hsp H hO hS)) fun r s' h => ?_
    cases r with
    | error e => exact (hCX H e s' h).elim
    | ok fl =>
      cases fl with
      | next => exact False.elim h
      | brk => exact False.elim h
      | cont => exact False.elim h
      | ret u =>
        obtain ⟨v, H', os, bare, un, hok', r', q⟩ := h
        have q' : v = .bl true := q
        subst q'
        obtain rfl : u = Value.bool true := r'
        refine ⟨rfl, OldK.of_keep fun b o e => ?_, os, bare⟩
        cases q : H b with
        | none => exact un.keep b o e q (by intro z; exact absurd (show b ∈ ([] : List Addr) from z) (by simp)) (by simp)
        | some u =>
          rcases hO b with z | ⟨ob, xs, z⟩
          · rw [q] at z; cases z
          · have z2 := un.frzs b ob _ z
            obtain ⟨e1, _⟩ := hok b _ z
            obtain ⟨e2, _⟩ := hok' b _ z2
            rw [e] at e1; cases e1
            exact e2
  cases hk : K.lookup a with
  | some o =>
    -- the script is one of the module's own objects
    have e := KX a o hk
    rw [ha] at e
    cases e
    refine core (fun _ => none) (fun _ => .inl rfl) (.inr ⟨_, vs.toArray, _, hk, rfl, rfl, rfl, by rw [List.size_toArray, lenV]; exact hl, by simpa using rv⟩) (fun b u z => by have z' : (none : Option HO) = some u := z; cases z') (fun b z => absurd rfl z) fun z => absurd rfl z
  | none =>
    refine core (fun b => if b = a then some (.frz { cls := .type "list", data := .seq vs.toArray } (.lst (ns.map V.int))) else none) (fun b => ?_) (.inl (.inr ⟨{ cls := .type "list", data := .seq vs.toArray }, if_pos rfl⟩)) (fun b u z => ?_) (fun b z => ?_) fun _ => hk
    · by_cases hb : b = a
      · exact .inr ⟨_, _, if_pos hb⟩
      · exact .inl (if_neg hb)
    · by_cases hb : b = a
      · have z' := (if_pos hb).symm.trans z
        cases z'
        subst hb
        exact ⟨ha, by rw [List.length_map]; exact hl, vs, _, rv, ha⟩
      · have z' := (if_neg hb).symm.trans z
        cases z'
    · by_cases hb : b = a
      · exact hb
      · exact absurd (if_neg hb) z
end L2

namespace L2
open PySem PySem.Spec PyProof.Rows

abbrev KOf {K : PySem.W.Frag} {h : Heap} (_ : K.In h) : PySem.W.Frag := K

/-- the goal that k_head leaves (case hc), from the law's promise. F gives the function object fd (K's own) once, then the promise over every base -/
theorem walk_of {l : PySem.W.OpenLaw} {n k : Nat} {q : Program} {loose : List Str} {XP : (Str → Option Value) → Heap → Prop} {YP : World → Heap → Prop} {d : DefRec} {K : Params → PySem.W.Frag} {CX : World → CXT} {sp : World → Sp} {x : Str}
    (hn : l.most = some n) (hn2 : n ≤ sizeLine) (hdf : d.params.defaults = []) (hr : Room k callerA)
    (hY : ∀ (w : World) (h : Heap), YP w h → (K w.params).In h)
    (F : ∀ (w : World) (mg : Str → Option Value) (fa : Addr) (h : Heap), (K w.params).In h → h.Ns mainGlobals mg → mg d.name = some (.ref fa) →
      ∃ fd : FuncData, (∀ (s : Shared) (u : Value), BindsTo s fd ⟨[u], []⟩ [(x, u)]) ∧
        ∀ base : Heap, (K w.params).In base → base.Ns mainGlobals mg → FnOk l.prog w (K w.params) mg base (CX w) k fa fd [x] (sp w))
    (hsp : ∀ (w : World) (H : Hp) (a : Addr) (ns : List Int), ns.length ≤ n → Only H → SqL (K w.params) H a (ns.map V.int) → sp w [.ref a] H (fun v _ => v = .bl true) fun _ _ _ => False)
    (hCX : ∀ (w : World) (H : Hp) (s : Shared) (e : Value) (s' : Shared), CX w [] H s (fun _ _ _ => False) e s' → False) :
    PySem.W.WalkO q loose XP YP l.row.toRowW d [] (fun f vs => PySem.call f vs) := by
  refine Att.attach_call hn hdf fun w s₀ s₁ mg mb fa o pm cd doc a vs ns G Y ho hd hcd hmg hobj hints hlen hg => ?_
  have KX := hY w _ Y
  obtain ⟨fd, hb, hF⟩ := F w mg fa _ KX G.T.g hmg
  exact law_call KX G.T.g G.T.b G.T.builtins G.T.nolimit hg hobj hints (Nat.le_trans hlen hn2) hr hF hb (fun H hO hS => hsp w H a ns hlen hO hS) fun H e s' => hCX w H s₁ e s'
/-- the same where the promise hangs on the written part alone: (sp := My.sp_law), no hole under a binder -/
theorem walk_ofK {l : PySem.W.OpenLaw} {n k : Nat} {q : Program} {loose : List Str} {XP : (Str → Option Value) → Heap → Prop} {YP : World → Heap → Prop} {d : DefRec} {K : Params → PySem.W.Frag} {CX : CXT} {sp : PySem.W.Frag → Sp} {x : Str}
    (hn : l.most = some n) (hn2 : n ≤ sizeLine) (hdf : d.params.defaults = []) (hr : Room k callerA)
    (hY : ∀ (w : World) (h : Heap), YP w h → (K w.params).In h)
    (F : ∀ (w : World) (mg : Str → Option Value) (fa : Addr) (h : Heap), (K w.params).In h → h.Ns mainGlobals mg → mg d.name = some (.ref fa) →
      ∃ fd : FuncData, (∀ (s : Shared) (u : Value), BindsTo s fd ⟨[u], []⟩ [(x, u)]) ∧
        ∀ base : Heap, (K w.params).In base → base.Ns mainGlobals mg → FnOk l.prog w (K w.params) mg base CX k fa fd [x] (sp (K w.params)))
    (hsp : ∀ (K : PySem.W.Frag) (H : Hp) (a : Addr) (ns : List Int), ns.length ≤ n → Only H → SqL K H a (ns.map V.int) → sp K [.ref a] H (fun v _ => v = .bl true) fun _ _ _ => False)
    (hCX : ∀ (H : Hp) (s : Shared) (e : Value) (s' : Shared), CX [] H s (fun _ _ _ => False) e s' → False) :
    PySem.W.WalkO q loose XP YP l.row.toRowW d [] (fun f vs => PySem.call f vs) :=
  walk_of (K := K) (CX := fun _ => CX) (sp := fun w => sp (K w.params)) hn hn2 hdf hr hY F (fun w H a ns h1 h2 h3 => hsp (K w.params) H a ns h1 h2 h3) fun _ H s e s' => hCX H s e s'
end L2



/-! SHORT WORDS over the layer: a def of the text, its body, what a loop and a test want. -/
namespace L2
open PySem PySem.Spec PyProof.Rows

/-! ### the text by places -/
/-- the j-th statement of a class's body -/
def inClass (s : Stmt) (j : Nat) : Stmt := match s with
  | .ClassDef _ _ _ body _ _ _ _ _ _ _ => body.getD j (.Pass ⟨0, 0, 0, 0⟩)
  | _ => .Pass ⟨0, 0, 0, 0⟩
def defArgs (s : Stmt) : Arguments := match s with
  | .FunctionDef _ a _ _ _ _ _ _ _ _ => a
  | _ => { posonlyargs := [], args := [], vararg := none, kwonlyargs := [], kw_defaults := [], kwarg := none, defaults := [] }
def defBody (s : Stmt) : List Stmt := match s with
  | .FunctionDef _ _ b _ _ _ _ _ _ _ => b
  | _ => []
def defScope (s : Stmt) : Scope := match s with
  | .FunctionDef _ _ _ _ _ _ sc _ _ _ => sc
  | _ => { kind := .function, names := [], isGenerator := false, isCoroutine := false }

/-! ### no exception leaves a def -/
abbrev CX0 : CXT := fun _ _ _ _ _ _ => False
abbrev E0 : XK := fun _ _ _ => False
theorem pass0 {X : Cx} : Passes CX0 X E0 := fun _ _ _ _ _ _ _ h => h.elim

/-! ### a def (or method) of the text as it stands behind the top -/
structure Fun (K : PySem.W.Frag) (x qual : Str) (st : Stmt) (f : Addr) (fd : FuncData) : Prop where
  ex : ∃ (oc : Value) (od : Option Addr) (kV doc pm : Value) (an : Option Addr) (cdv ct : Value) (osl : Array (Option Value)),
    fd = PySem.W.fnOf x qual (defArgs st) (defBody st) (defScope st) .none kV doc pm an cdv ct ∧ K.lookup f = some ⟨oc, od, .func fd, osl⟩ ∧ PySem.W.codeIn K cdv qual = true
  kp : PySem.W.keepIn K (.ref f) = true
section
variable {P : Program} {w : World} {K : PySem.W.Frag} {mg : Str → Option Value} {base : Heap}
/-- THE RULE for a def: its body as a term of rules, and the reading of that term -/
theorem Fun.ok {x qual : Str} {st : Stmt} {f : Addr} {fd : FuncData} {N ps : List Str} {k : Nat} {sp : Sp} (F : Fun K x qual st f fd) (S : FnScope N ps (defScope st)) (len : ∀ vs H Q E, sp vs H Q E → vs.length = ps.length)
    (hbody : ∀ (cdv : Value) (A : Around) (outer : List Env) (s : Shared) (H : Hp) (vs : List V) (Q : VK) (E : XK), Room k (A.deeper (envOfC qual (defScope st) s.heap.objs.size f cdv)) → sp vs H Q E →
      ∃ t, PSs (cxOf CX0 P w K mg base N qual (defScope st) f cdv A outer s H E).nox (defBody st) t ∧ t { nx := fun _ H' => Q .non H', rt := Q } (start N vs) H) : FnOk P w K mg base CX0 (k + 1) f fd ps sp := by
  obtain ⟨oc, od, kV, doc, pm, an, cdv, ct, osl, rfl, lk, hcd⟩ := F.ex
  refine fn_of lk hcd S len fun A outer s H vs Q E hr hsp => ?_
  obtain ⟨t, h, q⟩ := hbody cdv A outer s H vs Q E hr hsp
  exact ⟨t, h.nox, q⟩
/-- how its arguments bind (no defaults): h is «fun _ _ _ _ _ _ us hl => match us, hl with | [_, _], _ => rfl», one _ a parameter -/
theorem Fun.binds {x qual : Str} {st : Stmt} {f : Addr} {fd : FuncData} {ps : List Str} (F : Fun K x qual st f fd)
    (h : ∀ (kV doc pm : Value) (an : Option Addr) (cdv ct : Value) (us : List Value), us.length = ps.length → bindArgs (PySem.W.fnOf x qual (defArgs st) (defBody st) (defScope st) .none kV doc pm an cdv ct) ⟨us, []⟩ = pure (ps.zip us)) : Binds K fd ps [] := by
  obtain ⟨oc, od, kV, doc, pm, an, cdv, ct, osl, rfl, lk, hcd⟩ := F.ex
  exact .all (h kV doc pm an cdv ct)
theorem fun_mk {x qual : Str} {st : Stmt} {f : Addr} {oc : Value} {od an : Option Addr} {osl : Array (Option Value)} {kV doc pm cdv ct : Value} (l : K.lookup f = some ⟨oc, od, .func (PySem.W.fnOf x qual (defArgs st) (defBody st) (defScope st) .none kV doc pm an cdv ct), osl⟩)
    (c : PySem.W.codeIn K cdv qual = true) (k : PySem.W.keepIn K (.ref f) = true) : Fun K x qual st f (PySem.W.fnOf x qual (defArgs st) (defBody st) (defScope st) .none kV doc pm an cdv ct) := ⟨⟨oc, od, kV, doc, pm, an, cdv, ct, osl, rfl, l, c⟩, k⟩
end
theorem hu_of {A : Around} {k : Nat} (hr : Room k A) : A.units + 1 < cLine := Nat.lt_of_le_of_lt (Nat.add_le_add_left (by decide : 1 ≤ 64) _) hr.units
theorem small1000 {n : Nat} (h : n ≤ 1000) : n < sizeLine := Nat.lt_of_le_of_lt h (by decide)

/-! ### expressions in short: the name that stands in the i-th slot -/
section
variable {X : Cx}
theorem pv (i : Nat) {x : Str} {pos : Pos} (hN : X.N[i]? = some x := by rfl) (hv : Vis X.env.scope x := by first | exact Or.inl rfl | exact Or.inr (Or.inl rfl) | exact Or.inr (Or.inr rfl)) (hd : (x == ("__debug__" : Str)) = false := by decide)
    (hcd : (x == ("__classdict__" : Str)) = false := by decide) : PE X (.Name x pos) (tVar i) := pe_var hN hv hd hcd
end

/-! ### tests -/
theorem iteF {A B : Prop} (h : B) : if false = true then A else B := by
  rw [if_neg Bool.false_ne_true]
  exact h
theorem iteT {A B : Prop} (h : A) : if true = true then A else B := by
  rw [if_pos rfl]
  exact h
theorem ite2 {c A B : Prop} [Decidable c] (h1 : c → A) (h2 : ¬ c → B) : if c then A else B := by
  by_cases h : c
  · rw [if_pos h]
    exact h1 h
  · rw [if_neg h]
    exact h2 h
theorem iteNS {c A B : Prop} [Decidable c] (hc : c) (h : B) : if (!decide c) = true then A else B := by
  rw [decide_eq_true hc]
  exact iteF h

/-! ### heaps -/
/-- all that was tracked is as it was -/
def Same (H H' : Hp) : Prop := ∀ b o, H b = some o → H' b = some o
theorem Same.refl (H : Hp) : Same H H := fun _ _ h => h
theorem Same.trans {H H1 H2 : Hp} (a : Same H H1) (b : Same H1 H2) : Same H H2 := fun c o h => b c o (a c o h)
theorem Same.free {H H' : Hp} (e : Same H H') {l : Addr} (h : H' l = Option.none) : H l = Option.none := by
  cases q : H l with
  | none => rfl
  | some o =>
    rw [e l o q] at h
    cases h
theorem Same.seq {K : PySem.W.Frag} {H H' : Hp} {a : Addr} {xs : List V} (e : Same H H') (h : SqL K H a xs) : SqL K H' a xs := by
  rcases h with (h | ⟨o, h⟩) | h
  · exact .inl (.inl (e _ _ h))
  · exact .inl (.inr ⟨o, e _ _ h⟩)
  · exact .inr h

end L2

namespace L2
open PySem PySem.Spec PyProof.Rows
section
variable {X : Cx}
/-- len of a dict -/
theorem call_lenD : CallR X (.builtin "len") (fun xs H Q => ∃ a kvs, xs = [V.ref a] ∧ H a = some (.dK kvs) ∧ Q (.int kvs.length) H) := by
  intro pins s σ H xs us Q I r h
  obtain ⟨a, kvs, rfl, ha, q⟩ := h
  obtain ⟨u, rfl, ru⟩ := vals1 r
  cases ru
  exact d_len I (.inl ha) fun t s' I' => ⟨.int kvs.length, H, I', ⟨t, rfl⟩, q⟩
end
/-! ### a dict's pairs: keys that differ -/
section
variable {κ : Type} [DecidableEq κ]
theorem valV_not {kvs : List (κ × V)} {k : κ} (h : valV kvs k = none) : ¬ k ∈ kvs.map (·.1) := by
  intro m
  obtain ⟨p, hp, e⟩ := List.mem_map.mp m
  have q : (kvs.any fun kv => decide (kv.1 = k)) = true := List.any_eq_true.mpr ⟨p, hp, decide_eq_true e⟩
  rw [valV_any, h] at q
  exact absurd q (by simp)
theorem valV_in {kvs : List (κ × V)} {k : κ} {v : V} (h : valV kvs k = some v) : k ∈ kvs.map (·.1) := by
  have q : (kvs.any fun kv => decide (kv.1 = k)) = true := by
    rw [valV_any, h]
    all_goals rfl
  obtain ⟨p, hp, e⟩ := List.any_eq_true.mp q
  exact List.mem_map.mpr ⟨p, hp, of_decide_eq_true e⟩
theorem nd_snoc : ∀ {l : List κ} {k : κ}, l.Nodup → ¬ k ∈ l → (l ++ [k]).Nodup
  | [], k, _, _ => by simp
  | a :: r, k, h, hk => by
    obtain ⟨h1, h2⟩ := List.nodup_cons.mp h
    show (a :: (r ++ [k])).Nodup
    refine List.nodup_cons.mpr ⟨fun m => ?_, nd_snoc h2 fun m => hk (List.mem_cons.mpr (Or.inr m))⟩
    rcases List.mem_append.mp m with q | q
    · exact h1 q
    · exact hk (List.mem_cons.mpr (Or.inl (List.mem_singleton.mp q).symm))
theorem nd_putK {kvs : List (κ × V)} {k : κ} (v : V) (hn : (kvs.map (·.1)).Nodup) (h : valV kvs k = none) : ((putK kvs k v).map (·.1)).Nodup := by
  rw [putK_new v h, List.map_append]
  exact nd_snoc hn (valV_not h)
theorem dropK_pos {p : κ × V} {r : List (κ × V)} {k : κ} (e : p.1 = k) : dropK (p :: r) k = dropK r k := by
  unfold dropK
  rw [List.filter_cons, if_neg (by simp [e])]
theorem dropK_neg {p : κ × V} {r : List (κ × V)} {k : κ} (e : ¬ p.1 = k) : dropK (p :: r) k = p :: dropK r k := by
  unfold dropK
  rw [List.filter_cons, if_pos (by simp [e])]
theorem dropK_no : ∀ {kvs : List (κ × V)} {k : κ}, ¬ k ∈ kvs.map (·.1) → dropK kvs k = kvs
  | [], _, _ => rfl
  | p :: r, k, h => by
    have h' : ¬ k ∈ r.map (·.1) := fun m => by
      obtain ⟨q, hq, e⟩ := List.mem_map.mp m
      exact h (List.mem_map.mpr ⟨q, List.mem_cons.mpr (Or.inr hq), e⟩)
    rw [dropK_neg fun e => h (List.mem_map.mpr ⟨p, List.mem_cons.mpr (Or.inl rfl), e⟩), dropK_no h']
theorem dropK_mem {kvs : List (κ × V)} {k : κ} {p : κ × V} (h : p ∈ dropK kvs k) : p ∈ kvs := (List.mem_filter.mp h).1
theorem nd_dropK : ∀ {kvs : List (κ × V)} {k : κ}, (kvs.map (·.1)).Nodup → ((dropK kvs k).map (·.1)).Nodup
  | [], _, _ => List.nodup_nil
  | p :: r, k, h => by
    have h : (p.1 :: r.map (·.1)).Nodup := h
    obtain ⟨h1, h2⟩ := List.nodup_cons.mp h
    by_cases e : p.1 = k
    · rw [dropK_pos e]
      exact nd_dropK h2
    · rw [dropK_neg e]
      show (p.1 :: (dropK r k).map (·.1)).Nodup
      refine List.nodup_cons.mpr ⟨fun m => h1 ?_, nd_dropK h2⟩
      obtain ⟨q, hq, eq⟩ := List.mem_map.mp m
      exact List.mem_map.mpr ⟨q, dropK_mem hq, eq⟩
theorem dropK_len : ∀ {kvs : List (κ × V)} {k : κ}, (kvs.map (·.1)).Nodup → k ∈ kvs.map (·.1) → (dropK kvs k).length + 1 = kvs.length
  | [], _, _, m => by simp at m
  | p :: r, k, h, m => by
    have h : (p.1 :: r.map (·.1)).Nodup := h
    have m : k = p.1 ∨ k ∈ r.map (·.1) := List.mem_cons.mp m
    obtain ⟨h1, h2⟩ := List.nodup_cons.mp h
    by_cases e : p.1 = k
    · subst e
      rw [dropK_pos rfl, dropK_no h1]
      all_goals rfl
    · have m' : k ∈ r.map (·.1) := m.resolve_left fun z => e z.symm
      have q := dropK_len h2 m'
      rw [dropK_neg e, List.length_cons, List.length_cons]
      omega
end
end L2

namespace L2
open PySem PySem.Spec PyProof.Rows

/-! # COMPREHENSIONS -/
theorem ne_nat {a b : Nat} (h : a < b ∨ b < a) : a ≠ b := by omega
theorem lt_nat {a b c : Nat} (h : a < b) (h' : b ≤ c) : a < c := by omega
/-- the cells that a block draws from around it -/
def drawn (env : Env) : List (Str × NameKind) → List (Str × Addr) → List (Str × Addr)
  | [], cs => cs
  | (n, k) :: r, cs => if k = .free then (match env.cells.lookup n with | some c => drawn env r ((n, c) :: cs) | none => drawn env r cs) else drawn env r cs
theorem closure_drawn {scope : Scope} {env : Env} (h : ∀ x ∈ scope.names, x.2 = .free → ∃ c, env.cells.lookup x.1 = some c) : closureFor scope env = pure (drawn env scope.names []) := by
  simp only [closureFor]
  have go : ∀ (names : List (Str × NameKind)) (cs : List (Str × Addr)), (∀ x ∈ names, x.2 = .free → ∃ c, env.cells.lookup x.1 = some c) →
      (forIn names cs (fun (x : Str × NameKind) (r : List (Str × Addr)) =>
            if (x.snd == NameKind.free) = true then do
              let c ← cellOf env x.fst
              pure (ForInStep.yield ((x.fst, c) :: r))
            else pure (ForInStep.yield r)) : Sem (List (Str × Addr))) = pure (drawn env names cs) := by
    intro names
    induction names with
    | nil => intro cs _; rfl
    | cons x r ih =>
      intro cs hx
      obtain ⟨n, k⟩ := x
      rw [List.forIn_cons]
      have hr := fun y hy => hx y (List.mem_cons_of_mem _ hy)
      by_cases hk : k = .free
      · subst hk
        obtain ⟨c, hc⟩ := hx (n, .free) List.mem_cons_self rfl
        have hc' : env.cells.lookup n = some c := hc
        have e1 : cellOf env n = pure c := by unfold cellOf; rw [hc']
        simp only [beq_self_eq_true, if_true, e1, pure_bind]
        rw [ih _ hr]
        show _ = pure (if NameKind.free = .free then _ else _)
        rw [if_pos rfl, hc']
      · have hb : (k == NameKind.free) = false := by simpa using hk
        simp only [hb, Bool.false_eq_true, if_false, pure_bind]
        rw [ih _ hr]
        show _ = pure (if k = .free then _ else _)
        rw [if_neg hk]
  rw [go _ _ h]
  rfl
theorem drawn_sub {env : Env} : ∀ (names : List (Str × NameKind)) (cs : List (Str × Addr)), (∀ x c, cs.lookup x = some c → env.cells.lookup x = some c) → ∀ x c, (drawn env names cs).lookup x = some c → env.cells.lookup x = some c
  | [], _, h => h
  | (n, k) :: r, cs, h => by
    unfold drawn
    split
    · split
      · rename_i c hc
        refine drawn_sub r _ fun x c' e => ?_
        rw [List.lookup_cons] at e
        split at e
        · rename_i hb
          have : x = n := by simpa using hb
          subst this
          cases e; exact hc
        · exact h x c' e
      · exact drawn_sub r cs h
    · exact drawn_sub r cs h
theorem drawn_keep {env : Env} : ∀ (names : List (Str × NameKind)) (cs : List (Str × Addr)) (x : Str), (∃ c, cs.lookup x = some c) → ∃ c, (drawn env names cs).lookup x = some c
  | [], _, _, h => h
  | (n, k) :: r, cs, x, h => by
    unfold drawn
    split
    · split
      · rename_i c hc
        refine drawn_keep r _ x ?_
        rw [List.lookup_cons]
        split
        · exact ⟨_, rfl⟩
        · exact h
      · exact drawn_keep r cs x h
    · exact drawn_keep r cs x h
theorem drawn_has {env : Env} : ∀ (names : List (Str × NameKind)) (cs : List (Str × Addr)) (x : Str), (x, NameKind.free) ∈ names → (∃ c, env.cells.lookup x = some c) → ∃ c, (drawn env names cs).lookup x = some c
  | [], _, _, h, _ => nomatch h
  | (n, k) :: r, cs, x, hm, h => by
    unfold drawn
    rcases List.mem_cons.mp hm with e | hm'
    · cases e
      rw [if_pos rfl]
      obtain ⟨c, hc⟩ := h
      rw [hc]
      refine drawn_keep r _ _ ⟨c, ?_⟩
      rw [List.lookup_cons]; simp
    · split
      · split
        · exact drawn_has r _ x hm' h
        · exact drawn_has r _ x hm' h
      · exact drawn_has r _ x hm' h
theorem relabel_kind {env : Env} : ∀ (names : List (Str × NameKind)) (x : Str) (k : NameKind), (names.map fun (n, k) => if (k == NameKind.free && env.scope.kind == .function && env.kindOf n == some .cell) then (n, NameKind.cell) else (n, k)).lookup x = some k →
    (k = .cell ∨ k = .free) → (∀ y ∈ names, y.2 ≠ .cell) → (x, NameKind.free) ∈ names
  | [], _, _, h, _, _ => by simp at h
  | (n, k') :: r, x, k, h, hk, hc => by
    rw [List.map_cons, List.lookup_cons] at h
    by_cases hh : (k' == NameKind.free && env.scope.kind == .function && env.kindOf n == some .cell) = true
    · simp only [hh, if_true] at h
      split at h
      · rename_i hb
        have : x = n := by simpa using hb
        subst this
        simp only [Bool.and_eq_true, beq_iff_eq] at hh
        rw [hh.1.1]; exact List.mem_cons_self
      · exact List.mem_cons_of_mem _ (relabel_kind r x k h hk fun y hy => hc y (List.mem_cons_of_mem _ hy))
    · simp only [hh, Bool.false_eq_true, if_false] at h
      split at h
      · rename_i hb
        have : x = n := by simpa using hb
        subst this
        cases h
        rcases hk with e | e
        · exact absurd e (hc _ List.mem_cons_self)
        · rw [e]; exact List.mem_cons_self
      · exact List.mem_cons_of_mem _ (relabel_kind r x k h hk fun y hy => hc y (List.mem_cons_of_mem _ hy))

section
variable {prog : Program} {w : World} {A : Around} {R : Result → Shared → Prop} {s : Shared}
theorem compLoop_any {elt target iter : Expr} {ifs : List Expr} {scope : Scope} {pos : Pos} {it acc : Value} {env : Env} (I : Nat → Shared → Prop)
    (turn : ∀ n s, I n s → wpAny (model prog w) A (pyNext it) (fun r s₁ => match r with
      | none => R (.ok .next) s₁
      | some v => wpAny (model prog w) A (letOwnedTupleGo target it v) (fun _ s₁' => wpAny (model prog w) A (assign target env v) (fun _ s₂ =>
          wpAny (model prog w) A (forIn ifs true fun c r => if r = true then do let ok ← isTrue c env (eval c env); pure (ForInStep.yield ok) else pure (ForInStep.yield r)) (fun ok s₃ =>
            if ok = true then wpAny (model prog w) A (eval elt env) (fun x s₄ =>
              wpAny (model prog w) A (call (.builtin "list.append") [acc, x]) (fun _ s₅ => ∃ m, m < n ∧ I m s₅) (fun _ _ => False) s₄) (fun _ _ => False) s₃
            else ∃ m, m < n ∧ I m s₃) (fun _ _ => False) s₂) (fun _ _ => False) s₁') (fun _ _ => False) s₁) (fun _ _ => False) s)
    (n : Nat) (h : I n s) :
    codeAny (model prog w) A (.compLoop (.ListComp elt [⟨target, iter, ifs, 0⟩] scope pos) 0 it acc env) R s := by
  refine codeAny_loop rfl I (fun n s hI => ?_) n h
  show wpAny _ A ((compTurn (.ListComp elt [⟨target, iter, ifs, 0⟩] scope pos) 0 it acc env).onRaise (fun x => do noteFrame x env; theTreesLotGoes x)) _ _ s
  refine wpAny_noted ?_
  refine wpAny_noRaise ?_
  rw [compTurn_list]
  refine wpAny_bind (wpAny_standAt (wpAny_bind (thn (turn n s hI) fun r s₁ h₁ => ?_)))
  cases r with
  | none => exact wpAny_pure h₁
  | some v =>
    refine wpAny_bind (thn h₁ fun _ s₁' h₁' => wpAny_bind (thn h₁' fun _ s₂ h₂ => wpAny_bind (thn h₂ fun ok s₃ h₃ => ?_)))
    cases ok with
    | false => exact wpAny_pure ⟨rfl, h₃⟩
    | true => exact wpAny_bind (wpAny_bind (thn h₃ fun x s₄ h₄ => wpAny_bind (thn h₄ fun _ s₅ h₅ => wpAny_pure (wpAny_pure ⟨rfl, h₅⟩))))
end

/-- the names that a block draws from around it: fvn their names, js their slots there -/
inductive Fv (X : Cx) (scope : Scope) : List Str → List Nat → Prop where
  | nil : Fv X scope [] []
  | cons {y : Str} {j : Nat} {ys : List Str} {js : List Nat} (hN : X.N[j]? = some y) (hk : X.env.kindOf y = some .cell ∨ X.env.kindOf y = some .free) (hm : scope.names.lookup y = some .free) (r : Fv X scope ys js) : Fv X scope (y :: ys) (j :: js)
theorem Fv.mem {X : Cx} {scope : Scope} {ys : List Str} {js : List Nat} (h : Fv X scope ys js) {y : Str} (hy : y ∈ ys) : X.env.kindOf y = some .cell ∨ X.env.kindOf y = some .free := by
  induction h with
  | nil => exact nomatch hy
  | cons hN hk hm r ih =>
    rcases List.mem_cons.mp hy with e | hy
    · rw [e]; exact hk
    · exact ih hy
theorem Fv.at {X : Cx} {scope : Scope} {ys : List Str} {js : List Nat} (h : Fv X scope ys js) : ∀ {k : Nat} {y : Str}, ys[k]? = some y → ∃ j, js[k]? = some j ∧ X.N[j]? = some y ∧ (X.env.kindOf y = some .cell ∨ X.env.kindOf y = some .free) ∧ scope.names.lookup y = some .free := by
  induction h with
  | nil => intro k y e; simp at e
  | @cons y0 j0 ys0 js0 hN hk hm r ih =>
    intro k y e
    cases k with
    | zero => simp at e; subst e; exact ⟨j0, by simp, hN, hk, hm⟩
    | succ k => obtain ⟨j, a, b⟩ := ih (k := k) (y := y) (by simpa using e); exact ⟨j, by simpa using a, b⟩
theorem Fv.len {X : Cx} {scope : Scope} {ys : List Str} {js : List Nat} (h : Fv X scope ys js) : ys.length = js.length := by
  induction h with
  | nil => rfl
  | cons _ _ _ _ ih => simp [ih]

/-- the context of a comprehension's block -/
def compCx (X : Cx) (x : Str) (fvn : List Str) (scope : Scope) (cl : List (Str × Addr)) (C : Addr) (ex : List Addr) (s : Shared) (H : Hp) : Cx where
  prog := X.prog
  w := X.w
  K := X.K
  mg := X.mg
  base := X.base
  A := X.A
  N := x :: fvn
  s₀ := s
  H₀ := H
  env := compEnvC scope cl C X.env
  outer := X.stack
  stack := X.stack
  ex := ex
  fn := fun _ => false
  calm := X.calm
  pn := []
  xe := fun _ _ => False

/-- the values in the block -/
def inner (σ : St) (js : List Nat) (x : Option V) : St := x :: js.map fun j => (σ[j]?).join
abbrev tTrue : TT := fun _ H Q => Q true H
/-- the tests of a clause -/
def PTs (X : Cx) (ifs : List Expr) (t : TT) : Prop :=
  ∀ (pins : List (Addr × Obj)) (s : Shared) (σ : St) (H : Hp) (Q : Bool → Hp → Prop), Inv X pins σ H s → t σ H Q →
    wpAny (model X.prog X.w) X.A (forIn ifs true fun c r => if r = true then do let ok ← isTrue c X.env (eval c X.env); pure (ForInStep.yield ok) else pure (ForInStep.yield r)) (TP X pins σ Q) X.xe s
theorem pts_nil {X : Cx} : PTs X [] tTrue := fun _ _ _ H _ I h => wpAny_tests_nil ⟨H, I, h⟩
theorem pts_one {X : Cx} {c : Expr} {t : TT} (h : PT X c t) : PTs X [c] t := fun pins s σ H Q I q => wpAny_tests_one (h pins s σ H Q I q)
/-- a comprehension: W by the turn, a measure, what was gathered, the heap -/
def tComp (wi : TI) (js : List Nat) (tc : TT) (te : TE) : TE := fun σ H Q => wi σ H fun J H1 => ∃ W : Nat → Nat → List V → Hp → Prop, (∃ m, W 0 m [] H1) ∧ ∀ i m ys H, W i m ys H →
  (J.stop i H ∧ ∀ l, H l = none → Q (.ref l) (upd H l (.lst ys))) ∨
  (J.go i H ∧ ys.length < sizeLine ∧ ∀ x H', J.yld i H x H' → tc (inner σ js (some x)) H' fun b H2 =>
    if b = true then te (inner σ js (some x)) H2 fun v H3 => ∃ m', m' < m ∧ W (i + 1) m' (ys ++ [v]) H3 else ∃ m', m' < m ∧ W (i + 1) m' ys H2)

/-- what of a comprehension's scope is looked at -/
structure CompOk (X : Cx) (x : Str) (fvn : List Str) (scope : Scope) : Prop where
  cell : ∀ y ∈ scope.names, y.2 ≠ .cell
  kind : scope.kind = .function
  names : ∀ y ∈ scope.names, y.2 = .local → scope.names.lookup y.1 = some .local
  xl : scope.names.lookup x = some .local
  free : ∀ y ∈ scope.names, y.2 = .free → y.1 ∈ fvn
  nd : (x :: fvn).Nodup

theorem lookup_relabel_free {env : Env} : ∀ {names : List (Str × NameKind)} {x : Str}, names.lookup x = some .free →
    ((names.map fun (n, k) => if (k == NameKind.free && env.scope.kind == .function && env.kindOf n == some .cell) then (n, NameKind.cell) else (n, k)).lookup x = some .free ∨
     (names.map fun (n, k) => if (k == NameKind.free && env.scope.kind == .function && env.kindOf n == some .cell) then (n, NameKind.cell) else (n, k)).lookup x = some .cell)
  | [], _, h => by simp at h
  | (n, k) :: r, x, h => by
    have ih := @lookup_relabel_free env r x
    rw [List.map_cons]
    dsimp only
    cases hx : x == n with
    | true =>
      simp only [List.lookup_cons, hx] at h
      cases h
      by_cases hc : (NameKind.free == NameKind.free && env.scope.kind == .function && env.kindOf n == some .cell) = true
      · rw [if_pos hc]; simp [List.lookup_cons, hx]
      · rw [if_neg hc]; simp [List.lookup_cons, hx]
    | false =>
      simp only [List.lookup_cons, hx] at h
      by_cases hc : (k == NameKind.free && env.scope.kind == .function && env.kindOf n == some .cell) = true
      · rw [if_pos hc]; simp only [List.lookup_cons, hx]; exact ih h
      · rw [if_neg hc]; simp only [List.lookup_cons, hx]; exact ih h

section
variable {X : Cx} {elt iter : Expr} {x : Str} {px pos : Pos} {ifs : List Expr} {scope : Scope} {fvn : List Str} {js : List Nat} {wi : TI} {tc : TT} {te : TE}
/-- the block, from the iterator on -/
theorem comp_core {tg : Expr} (htg : tg = .Name x px) (hc : X.calm = true) (hfv : Fv X scope fvn js) (ok : CompOk X x fvn scope)
    (ht : ∀ cl C ex s H, PTs (compCx X x fvn scope cl C ex s H) ifs tc) (he : ∀ cl C ex s H, PE (compCx X x fvn scope cl C ex s H) elt te)
    {pins : List (Addr × Obj)} {σ : St} {H2 : Hp} {s₂ : Shared} {Q : VK} {it : Addr} {fp : List Addr} {tn : Nat → Heap → Prop} {J : It} {RR : Value → Addr → Result → Shared → Prop} {E : Value → Shared → Prop}
    (I2 : Inv X pins σ H2 s₂) (T : Turn X.prog X.w X.K tg J fp it tn) (st0 : tn 0 s₂.heap) (f2 : ∀ b ∈ fp, FpOk X pins H2 b)
    (W : Nat → Nat → List V → Hp → Prop) (w0 : ∃ m, W 0 m [] H2)
    (turn : ∀ i m ys H, W i m ys H → (J.stop i H ∧ ∀ l, H l = none → Q (.ref l) (upd H l (.lst ys))) ∨
      (J.go i H ∧ ys.length < sizeLine ∧ ∀ x H', J.yld i H x H' → tc (inner σ js (some x)) H' fun b H2 =>
        if b = true then te (inner σ js (some x)) H2 fun v H3 => ∃ m', m' < m ∧ W (i + 1) m' (ys ++ [v]) H3 else ∃ m', m' < m ∧ W (i + 1) m' ys H2))
    (hRR : ∀ D C m s' H', s'.heap.Ns C m → Inv X pins σ H' s' → FpOk X pins H' C → Q (.ref D) H' → RR (.ref D) C (.ok .next) s') :
    wpAny (model X.prog X.w) X.A (newList []) (fun acc s₃ => wpAny (model X.prog X.w) X.A (newFunctionEnv scope X.env.globals (drawn X.env scope.names []) [] X.env.qual none .none (some X.env)) (fun cenv s₄ =>
      codeAny (model X.prog X.w) X.A (.compStart (.ListComp elt [⟨tg, iter, ifs, 0⟩] scope pos) 0 (.ref it) acc { cenv with scope := relabel scope X.env }) (RR acc cenv.locals) s₄) E s₃) E s₂ := by
  subst htg
  refine wpAny_newObj_type (wpAny_newFunctionEnv ok.cell (by intro y hy; simp at hy) (fun h₁ hns₁ hsb₁ => ?_) ok.kind)
  dsimp only at hns₁ hsb₁ ⊢
  generalize hG : s₂.heap.push { cls := .type "list", dict := none, data := .seq ([] : List Value).toArray } = G at hns₁ hsb₁ ⊢
  have hC : G.objs.size = s₂.heap.objs.size + 1 := by rw [← hG, Heap.size_push]
  generalize hCC : G.objs.size = C at hns₁ hsb₁ hC ⊢
  generalize hD : s₂.heap.objs.size = D at hC ⊢
  have hDC : D ≠ C := by omega
  have old : ∀ b o, s₂.heap.get? b = some o → h₁.get? b = some o := fun b o e => by
    have hb := Heap.lt_size e
    refine hsb₁.extBut b o (ne_nat (.inl (by rw [hC, ← hD]; exact Nat.lt_succ_of_lt hb))) (Heap.get?_push_of_some _ (hG ▸ Heap.get?_push_of_some _ e))
  have hacc : h₁.get? D = some { cls := .type "list", data := .seq ([] : List Value).toArray } := by
    refine hsb₁.extBut _ _ hDC (Heap.get?_push_of_some _ ?_)
    rw [← hG, ← hD]
    exact Heap.get?_push_size _ rfl
  generalize hcl : drawn X.env scope.names [] = cl
  have cl_sub : ∀ y c, cl.lookup y = some c → X.env.cells.lookup y = some c := by
    rw [← hcl]; exact drawn_sub _ _ (fun y c e => by simp at e)
  have frK : ∀ y ∈ scope.names, y.2 = .free → (X.env.kindOf y.1 = some .cell ∨ X.env.kindOf y.1 = some .free) := fun y hy e => hfv.mem (ok.free y hy e)
  have cl_has : ∀ y, (y, NameKind.free) ∈ scope.names → ∃ c, cl.lookup y = some c := fun y hy => by
    rw [← hcl]; exact drawn_has _ _ _ hy (I2.ok.has y (frK _ hy rfl))
  -- the block's context
  let X' : Cx := compCx X x fvn scope cl C fp s₂ H2
  have fps : ∀ b ∈ fp, b < s₂.heap.objs.size := fun b hb => by
    obtain ⟨o, e, _⟩ := T.obj _ _ st0 b hb
    exact Heap.lt_size e
  have okX : X'.Ok := by
    refine ⟨I2.ok.mod, ok.kind, I2.ok.glob, I2.ok.blt, ?_, fun y z c h1 h2 => I2.ok.inj y z c (cl_sub _ _ h1) (cl_sub _ _ h2), fun y hy => ?_, fun y c h _ => (nomatch h), I2.ok.hd, I2.ok.frames, .inl rfl, fun b hb => ⟨?_, fun y c e => (f2 b hb).2.2.2.2.1 y c (cl_sub _ _ e)⟩,
      I2.bs, Nat.le_trans I2.ok.bsz I2.sz, fun b o e hb => ?_, fun b hb z => ?_, I2.stack, I2.stkFree⟩
    · show s₂.heap.objs.size ≤ C
      omega
    · rcases hy with hy | hy
      · exact cl_has y (relabel_kind _ _ _ hy (.inl rfl) ok.cell)
      · exact cl_has y (relabel_kind _ _ _ hy (.inr rfl) ok.cell)
    · show b ≠ C
      exact ne_nat (.inl (by rw [hC, ← hD]; exact Nat.lt_succ_of_lt (fps b hb)))
    · rcases (f2 b hb).2.2.2.1 with z | z
      · exact I2.ok.noex b o e z
      · exact Nat.lt_irrefl _ (lt_nat (lt_nat (Heap.lt_size e) I2.ok.bsz) z)
    · have z' := I2.stkSub b z
      rcases List.mem_cons.mp z' with e | e
      · exact (f2 b hb).2.1 e
      · exact (f2 b hb).2.2.1 e
  have cells_lt : ∀ y c, cl.lookup y = some c → c < D := fun y c e => by
    obtain ⟨v, q⟩ := I2.cell y c (cl_sub _ _ e)
    rw [← hD]; exact q.lt
  have HD : ∀ (a : Addr), D ≤ a → H2 a = none := fun a ha => I2.hok.fresh (by omega)
  -- the first state
  have I1 : Inv X' [] (inner σ js none) H2 { s₂ with heap := h₁, toks := s₂.toks + ([] : List (Str × Value)).length } := by
    refine ⟨okX, rfl, I2.bare, Un.kept old, ⟨_, hns₁, fun i y v e1 e2 e3 => ?_⟩, fun y c e => ?_, HD _ (by show D ≤ C; omega), fun y c e => I2.freeC y c (cl_sub _ _ e), fun p hp => absurd (show p ∈ ([] : List (Addr × Obj)) from hp) (by simp), I2.hok.kept old, ?_⟩
    · cases i with
      | zero => exact absurd e2 (by simp [inner])
      | succ k =>
        have e1' : fvn[k]? = some y := e1
        obtain ⟨j, a1, a2, a3, a4⟩ := hfv.at e1'
        have e2' : (σ[j]?).join = some v := by
          have : (js.map fun j => (σ[j]?).join)[k]? = some (some v) := e2
          rw [List.getElem?_map, a1] at this
          simpa using this
        have e2'' : σ[j]? = some (some v) := by
          cases q : σ[j]? with
          | none => rw [q] at e2'; cases e2'
          | some z => rw [q] at e2'; simp at e2'; rw [e2']
        obtain ⟨m, hn, hl⟩ := I2.loc
        have hv : Vis X.env.scope y := .inr a3
        obtain ⟨u, r, l⟩ := hl j y v a2 e2'' hv
        refine ⟨u, r, ?_⟩
        rcases l with ⟨k1, _⟩ | ⟨k1, c, k2, k3⟩
        · rcases a3 with z | z
          · rw [k1] at z; cases z
          · rw [k1] at z; cases z
        · obtain ⟨c', hc'⟩ := cl_has y (PySem.mem_of_lookup a4)
          have : c' = c := by
            have := cl_sub _ _ hc'
            rw [k2] at this; cases this; rfl
          subst this
          refine .inr ⟨?_, c', hc', ?_⟩
          · rcases lookup_relabel_free (env := X.env) a4 with z | z
            · exact .inr z
            · exact .inl z
          · obtain ⟨o, ho, hd⟩ := k3
            exact ⟨o, old _ _ ho, hd⟩
    · obtain ⟨v, o, ho, hd⟩ := I2.cell y c (cl_sub _ _ e)
      exact ⟨v, o, old _ _ ho, hd⟩
    · show (inner σ js none).length = (x :: fvn).length
      simp [inner, hfv.len]
  have fp1 : ∀ {H' : Hp} {pl : List (Addr × Obj)}, (∀ b ∈ fp, H' b = none) → (∀ p ∈ pl, p.1 ∉ fp) → ∀ b ∈ fp, FpOk X' pl H' b := fun {H' pl} hn hp b hb => by
    refine ⟨hn b hb, (okX.exf b hb).1, okX.exfs b hb, .inl hb, (okX.exf b hb).2, fun p hpp z => ?_⟩
    have hpp' : p ∈ pl := hpp
    exact hp p hpp' (by rw [z]; exact hb)
  have Dfp : D ∉ fp := fun z => Nat.lt_irrefl _ (lt_nat (fps D z) (Nat.le_of_eq hD))
  obtain ⟨m0, w0⟩ := w0
  -- the loop
  have loop : ∀ s₃ : Shared, s₃ = { s₂ with heap := h₁, toks := s₂.toks + ([] : List (Str × Value)).length } →
      codeAny (model X.prog X.w) X.A (.compLoop (.ListComp elt [⟨.Name x px, iter, ifs, 0⟩] scope pos) 0 (.ref it) (.ref D) (compEnvC scope cl C X.env)) (RR (.ref D) C) s₃ := by
    rintro s₃ rfl
    refine compLoop_any (fun n s' => ∃ i ys its k H', Inv X' [] (inner σ js none) H' s' ∧ tn i s'.heap ∧ (∀ b ∈ fp, H' b = none) ∧ H' D = none ∧ Vals ys its ∧ ys.length ≤ sizeLine ∧ s'.heap.get? D = some { cls := .type "list", data := .seq its.toArray k } ∧ W i n ys H') ?_ m0
      ⟨0, [], [], _, H2, I1, T.keep _ _ _ st0 fun b _ o e => old b o e, fun b hb => (f2 b hb).1, HD _ (Nat.le_refl _), .nil, Nat.zero_le _, hacc, w0⟩
    rintro n s' ⟨i, ys, its, k, H', I', st', fr', nD', rv, hz, ho, hw⟩
    have pinD : Inv X' [(D, { cls := .type "list", data := .seq its.toArray k })] (inner σ js none) H' s' := I'.pins_of fun p hp => by
      have e : p = (D, { cls := .type "list", data := .seq its.toArray k }) := by simpa using hp
      subst e
      refine ⟨ho, nD', hDC, fun z => ?_, fun v z => nomatch z⟩
      have z' := I2.stkSub D z
      rcases List.mem_cons.mp z' with e | e
      · exact ne_nat (.inr (lt_nat I2.lt (Nat.le_of_eq hD))) e
      · exact I2.nofs (Nat.le_of_eq hD) e
    have npl : ∀ p ∈ [((D, { cls := .type "list", data := .seq its.toArray k }) : Addr × Obj)], p.1 ∉ fp := fun p hp => by
      have e : p = (D, { cls := .type "list", data := .seq its.toArray k }) := by simpa using hp
      subst e; exact Dfp
    rcases turn i n ys H' hw with ⟨stop, qn⟩ | ⟨go, hlt, step⟩
    · refine thn (T.done X' rfl rfl rfl hc i _ s' _ H' (fun _ _ => False) pinD (fp1 fr' npl) st' stop) fun r s4 ⟨hr, I4⟩ => ?_
      subst hr
      have ho4 := (I4.pin (D, { cls := .type "list", data := .seq its.toArray k }) (by show _ ∈ [] ++ [_]; simp)).1
      obtain ⟨m, hn4, _⟩ := I4.loc
      -- what is gathered is tracked from here on
      have hok4 : HOk X.prog X.w (upd H' D (.lst ys)) s4.heap := fun b u e => by
        by_cases hb : b = D
        · subst hb; rw [upd_same] at e; cases e
          exact ⟨hz, its, k, rv, ho4⟩
        · rw [upd_ne hb] at e
          exact (I4.hok b u e).stay (fun c v _ q => q) (fun c q => by rw [upd_ne (ne_of_none q nD')]; exact q) fun c xs q => by rw [upd_ne (ne_of_none q nD')]; exact q
      have un4 : Un (frs X.stack) fp H2 (upd H' D (.lst ys)) s₂.heap s4.heap := by
        have u := I4.base
        refine ⟨u.keep, u.slot, fun b o e n1 n2 => ?_, u.there, fun b xs e => ?_, fun b o xs e => ?_, fun b ps e => ?_⟩
        · have : b ≠ D := ne_nat (.inl (lt_nat (Heap.lt_size e) (Nat.le_of_eq hD)))
          rw [upd_ne this]; exact u.free b o e n1 n2
        · rw [upd_ne (ne_of_none (u.tups b xs e) nD')]; exact u.tups b xs e
        · rw [upd_ne (ne_of_none (u.frzs b o xs e) nD')]; exact u.frzs b o xs e
        · obtain ⟨mo, q⟩ := u.tbls b ps e
          exact ⟨mo, by rw [upd_ne (ne_of_none q nD')]; exact q⟩
      have IX : Inv X pins σ (upd H' D (.lst ys)) s4 := I2.call' I4.os un4 hok4 I4.bare fun b hb => ⟨(f2 b hb).2.2.2.1, (f2 b hb).2.1, (f2 b hb).2.2.2.2.1, (f2 b hb).2.2.2.2.2⟩
      exact hRR D C m s4 _ hn4 IX (I2.fpOk (by omega) (by rw [upd_ne (Ne.symm hDC)]; exact I4.free)) (qn D nD')
    · refine thn (T.item X' rfl rfl rfl hc i _ s' _ H' (fun _ _ => False) pinD (fp1 fr' npl) st' go) fun r s4 ⟨u, hr, h4⟩ => ?_
      subst hr
      refine thn h4 fun _ s5 ⟨y, H5, I5, r5, y5, st5, fr5⟩ => ?_
      have I5' := I5.pinned (fp1 fr5 npl) (T.obj _ _ st5)
      have q5 := step y H5 y5
      refine wpAny_assign_Name (store_ok (X := X') (i := 0) (x := x) (v := y) I5' ok.nd rfl (.inl (lookup_relabel_local ok.xl)) r5 (fun s6 I6 => ?_) (.inr (lookup_relabel_local ok.xl)))
      have I6 : Inv X' _ (inner σ js (some y)) H5 s6 := I6
      refine thn (ht cl C fp s₂ H2 _ s6 _ H5 _ I6 q5) fun b s7 ⟨H7, I7, q7⟩ => ?_
      -- what stays through a turn
      have stay : ∀ {H8 : Hp} {s8 : Shared}, Inv X' ([(D, { cls := .type "list", data := .seq its.toArray k })] ++ pinsAt fp s5.heap) (inner σ js (some y)) H8 s8 →
          Inv X' [] (inner σ js none) H8 s8 ∧ tn (i + 1) s8.heap ∧ (∀ b ∈ fp, H8 b = none) ∧ H8 D = none ∧ s8.heap.get? D = some { cls := .type "list", data := .seq its.toArray k } := fun {H8 s8} I8 => by
        have pD := I8.pin (D, { cls := .type "list", data := .seq its.toArray k }) (by show _ ∈ [] ++ ([_] ++ _); simp)
        refine ⟨(I8.weak (by simp [inner]) fun j v e => ?_).pins_of fun p hp => (nomatch hp), T.keep _ _ _ st5 fun b hb o e => (I8.pin (b, o) (by show _ ∈ [] ++ ([_] ++ _); simp; exact .inr (mem_pinsAt hb e))).1, fun b hb => ?_, pD.2.1, pD.1⟩
        · cases j with
          | zero => simp [inner] at e
          | succ j => exact e
        · obtain ⟨o, e, d⟩ := T.obj _ _ st5 b hb
          exact (I8.pin (b, o) (by show _ ∈ [] ++ ([_] ++ _); simp; exact .inr (mem_pinsAt hb e))).2.1
      cases b with
      | false =>
        rw [if_neg Bool.false_ne_true]
        rw [if_neg Bool.false_ne_true] at q7
        obtain ⟨m', hm, w'⟩ := q7
        obtain ⟨J1, J2, J3, J4, J5⟩ := stay I7
        exact ⟨m', hm, i + 1, ys, its, k, H7, J1, J2, J3, J4, rv, hz, J5, w'⟩
      | true =>
        rw [if_pos rfl]
        rw [if_pos rfl] at q7
        refine thn (he cl C fp s₂ H2 _ s7 _ H7 _ I7 q7) fun uv s8 ⟨v, H8, I8, r8, m', hm, w'⟩ => ?_
        obtain ⟨J1, J2, J3, J4, J5⟩ := stay I8
        refine append_at (hsz := by rw [List.size_toArray, ← rv.length]; exact hz) J5 fun h9 sb9 ho9 => ?_
        have I9 : Inv X' [] (inner σ js none) H8 { s8 with heap := h9 } := J1.turned (t' := s8.toks) (fun b o hb e => (sb9.2 b hb).trans e) J4 hDC (.inr (Nat.le_of_eq hD)) (fun y c e => ne_nat (.inl (cells_lt y c e))) fun p hp => (nomatch hp)
        refine ⟨m', hm, i + 1, ys ++ [v], its ++ [uv], k + 1, H8, I9, T.keep _ _ _ J2 fun b hb o e => (sb9.2 b (fun z => Dfp (z ▸ hb))).trans e, J3, J4, rv.append (.cons r8 .nil), by rw [List.length_append]; exact hlt, ho9.trans (by simp), w'⟩
  exact codeAny_compStart_list (loop _ rfl) (T.self X.A 0 _ _ _ (T.keep _ _ _ st0 fun b _ o e => old b o e) (loop _ rfl))
theorem pe_comp (hc : X.calm = true) (hi : PI X (.Name x px) iter wi) (hfv : Fv X scope fvn js) (ok : CompOk X x fvn scope)
    (ht : ∀ cl C ex s H, PTs (compCx X x fvn scope cl C ex s H) ifs tc) (he : ∀ cl C ex s H, PE (compCx X x fvn scope cl C ex s H) elt te)
    (hs : ∀ x, foldedSetIterable iter X.env x = pure x := by intro _; rfl) : PE X (.ListComp elt [⟨.Name x px, iter, ifs, 0⟩] scope pos) (tComp wi js tc te) := by
  intro pins s σ H Q I h
  rw [eval_ListComp]
  refine wpAny_comprehension_free (use := none) rfl hs (closure_drawn fun y hy e => I.ok.has _ (hfv.mem (ok.free y hy e))) ok.kind ok.names (thn (hi pins s σ H _ I h) fun v s1 h1 => thn h1 fun itv s2 h2 => ?_)
  obtain ⟨it, fp, tn, J, H2, rfl, I2, T, st2, f2, W, w0, turn⟩ := h2
  refine comp_core rfl hc hfv ok ht he (Q := Q) (RR := fun acc C => compPost (model X.prog X.w) X.A X.xe none (EP X pins σ Q) acc C) I2 T st2 f2 W w0 turn ?_
  intro D C m s' H' hn IX fC q
  exact ⟨m, hn, fun h' hs' => ⟨.ref D, H', IX.turned (t' := s'.toks) (fun b o hb e => (hs'.2 b hb).trans e) fC.1 fC.2.1 fC.2.2.2.1 fC.2.2.2.2.1 fC.2.2.2.2.2, rfl, q⟩⟩
/-- name = [..], where the name is stored ahead of the block's own names going -/
theorem ps_comp {i : Nat} {y : Str} {py spos : Pos} (hN : X.N.Nodup) (hiN : X.N[i]? = some y) (hy : Loc X.env.scope y) (hc : X.calm = true) (hi : PI X (.Name x px) iter wi) (hfv : Fv X scope fvn js) (ok : CompOk X x fvn scope)
    (ht : ∀ cl C ex s H, PTs (compCx X x fvn scope cl C ex s H) ifs tc) (he : ∀ cl C ex s H, PE (compCx X x fvn scope cl C ex s H) elt te)
    (hsw : swapsWith (.ListComp elt [⟨.Name x px, iter, ifs, 0⟩] scope pos) (some (.Name y py)) spos.line X.env = pure true := by rfl)
    (hs : ∀ x, foldedSetIterable iter X.env x = pure x := by intro _; rfl) (hf : X.fn y = true ∨ X.env.scope.names.lookup y = some .local := by first | exact .inl rfl | exact .inr rfl | assumption) :
    PS X (.Assign [.Name y py] (.ListComp elt [⟨.Name x px, iter, ifs, 0⟩] scope pos) spos) (tAsg (tComp wi js tc te) (gName i)) := by
  intro pins s σ H D I h
  rw [exec_Assign_Name_used _ _ _ _ hsw]
  refine wpAny_bind (wpAny_standAt (wpAny_bind ?_))
  show wpAny _ X.A (do let _ ← comprehension (.ListComp elt [⟨.Name x px, iter, ifs, 0⟩] scope pos) scope X.env _ (newList []) false (eval iter X.env) (some (assign (.Name y py) X.env))) _ _ s
  refine wpAny_bind (thn (wpAny_comprehension_free (use := some (assign (.Name y py) X.env)) (Q := fun _ s' => SP X pins D .next s') rfl hs (closure_drawn fun y hy e => I.ok.has _ (hfv.mem (ok.free y hy e))) ok.kind ok.names
    (thn (hi pins s σ H _ I h) fun v s1 h1 => thn h1 fun itv s2 h2 => ?_)) fun _ s' hq => wpAny_pure (wpAny_pure hq))
  obtain ⟨it, fp, tn, J, H2, rfl, I2, T, st2, f2, W, w0, turn⟩ := h2
  refine comp_core rfl hc hfv ok ht he (Q := fun v H' => gName i v σ H' D.nx) (RR := fun acc C => compPost (model X.prog X.w) X.A X.xe (some (assign (.Name y py) X.env)) (fun _ s' => SP X pins D .next s') acc C) I2 T st2 f2 W w0 turn ?_
  intro L C m s' H' hn IX fC q
  show wpAny _ X.A (assign (.Name y py) X.env (.ref L)) _ _ s'
  refine wpAny_assign_Name (store_ok2 IX hN hiN hy (v := .ref L) rfl (fun s'' I'' ⟨a, sb, ha⟩ => ?_) hf)
  have hCa : C ≠ a := by
    rcases ha with z | z
    · rw [z]; exact fC.2.1
    · exact fun e => fC.2.2.2.2.1 _ _ z e.symm
  refine ⟨m, hn.sameBut sb hCa, fun h3 hs3 => ?_⟩
  exact ⟨_, H', I''.turned (t' := s''.toks) (fun b o hb e => (hs3.2 b hb).trans e) fC.1 fC.2.1 fC.2.2.2.1 fC.2.2.2.2.1 fC.2.2.2.2.2, q⟩
end
end L2

namespace L2
open PySem PySem.Spec PyProof.Rows

/-! # MORE RULES: types, isinstance, lists compared, extend, defs by their promise -/
theorem bt_int : bootBuiltins "int" = some (.type "int") := by decide +kernel
theorem bt_bool : bootBuiltins "bool" = some (.type "bool") := by decide +kernel
theorem bt_list : bootBuiltins "list" = some (.type "list") := by decide +kernel
theorem bt_tuple : bootBuiltins "tuple" = some (.type "tuple") := by decide +kernel
theorem bt_str : bootBuiltins "str" = some (.type "str") := by decide +kernel
theorem bt_isinstance : bootBuiltins "isinstance" = some (.builtin "isinstance") := by decide +kernel
theorem bt_abs : bootBuiltins "abs" = some (.builtin "abs") := by decide +kernel
theorem bt_max : bootBuiltins "max" = some (.builtin "max") := by decide +kernel
theorem bt_min : bootBuiltins "min" = some (.builtin "min") := by decide +kernel
section
variable {X : Cx}
/-- a built-in type as a value -/
theorem pe_ty {x : Str} {n : String} {pos : Pos} (hm : X.mg x = none) (hv : bootBuiltins x = some (.type n)) (hg : Gl X x := by rfl) (hn : x ≠ "__name__" := by decide) (hd : (x == ("__debug__" : Str)) = false := by decide) : PE X (.Name x pos) (tC (.ty n)) := pe_bltn hg hm hv rfl hn hd

/-- the kinds of values that are asked for -/
inductive Ty where
  | non | bl | int | str | lst | tup
  deriving DecidableEq
def Ty.name : Ty → String
  | .non => "NoneType" | .bl => "bool" | .int => "int" | .str => "str" | .lst => "list" | .tup => "tuple"
def Ty.isa (a b : Ty) : Bool := decide (a = b) || (decide (a = .bl) && decide (b = .int))
theorem kit_ty (K : PySem.W.Frag) (a b : Ty) : PySem.W.kitOne K (.type a.name) (.type b.name) = some (a.isa b) := by
  cases a <;> cases b <;> rfl
def TyIs (H : Hp) : V → Ty → Prop
  | .non, .non => True
  | .bl _, .bl => True
  | .int _, .int => True
  | .str _, .str => True
  | .ref a, .lst => ∃ xs, Rd H a (.lst xs)
  | .ref a, .tup => ∃ xs, H a = some (.tup xs)
  | _, _ => False
theorem kitx_at {pins : List (Addr × Obj)} {σ : St} {H : Hp} {s : Shared} {x : V} {u : Value} {a : Ty} (I : Inv X pins σ H s) (rx : RelV x u) (ty : TyIs H x a) :
    ∃ P : Heap → Prop, PySem.W.KitX X.K u (.type a.name) P ∧ P s.heap ∧ u ≠ .builtin "__main__.__loader__#opaque" := by
  cases x with
  | non => cases a <;> first | exact ty.elim | (cases (show u = Value.none from rx); exact ⟨_, PySem.W.kitx_none, True.intro, fun z => nomatch z⟩)
  | bl y => cases a <;> first | exact ty.elim | (cases (show u = Value.bool y from rx); exact ⟨_, PySem.W.kitx_bool, True.intro, fun z => nomatch z⟩)
  | int i => cases a <;> first | exact ty.elim | (obtain ⟨t, q⟩ := (show ∃ t, u = Value.int i t from rx); cases q; exact ⟨_, PySem.W.kitx_int, True.intro, fun z => nomatch z⟩)
  | str y => cases a <;> first | exact ty.elim | (obtain ⟨t, q⟩ := (show ∃ t, u = Value.str y t from rx); cases q; exact ⟨_, PySem.W.kitx_str, True.intro, fun z => nomatch z⟩)
  | ref p =>
    cases (show u = Value.ref p from rx)
    cases a with
    | lst =>
      obtain ⟨xs, e⟩ := ty
      obtain ⟨_, _, n, _, h1⟩ := (show ObjOk X.prog X.w H s.heap p (.lst xs) from e.ok I.hok)
      exact ⟨_, PySem.W.kitx_list, ⟨_, h1, rfl⟩, fun z => nomatch z⟩
    | tup =>
      obtain ⟨xs, e⟩ := ty
      obtain ⟨_, _, _, pp⟩ := (show ObjOk X.prog X.w H s.heap p (.tup xs) from I.hok p _ e)
      obtain ⟨o, h1, h2, _⟩ := pp
      exact ⟨_, PySem.W.kitx_tuple, ⟨o, h1, h2⟩, fun z => nomatch z⟩
    | _ => exact ty.elim
  | _ => cases a <;> exact ty.elim
/-- isinstance(x, T) -/
theorem call_isi : CallR X (.builtin "isinstance") (fun xs H Q => ∃ x a b, xs = [x, .ty (Ty.name b)] ∧ TyIs H x a ∧ Q (.bl (a.isa b)) H) := by
  intro pins s σ H xs us Q I r h
  obtain ⟨x, a, b, rfl, ty, q⟩ := h
  obtain ⟨u, w', rfl, ru, rw'⟩ := vals2 r
  cases (show w' = Value.type _ from rw')
  obtain ⟨P, Z, p, nb⟩ := kitx_at I ru ty
  exact PySem.W.kia_one Z I.kIn p (kit_ty _ a b) nb fun tk => ⟨.bl _, H, I.tok tk, rfl, q⟩
theorem kit_any (K : PySem.W.Frag) (a : Ty) : ∀ bs : List Ty, PySem.W.kitAny K (.type a.name) (bs.map fun b : Ty => Value.type b.name) = some (bs.any a.isa)
  | [] => rfl
  | b :: r => by
    show (match PySem.W.kitOne K (.type a.name) (.type b.name) with | some true => some true | some false => PySem.W.kitAny K (.type a.name) (r.map fun b : Ty => Value.type b.name) | none => none) = _
    rw [kit_ty, kit_any K a r, List.any_cons]
    cases a.isa b <;> rfl
theorem vals_tys : ∀ {bs : List Ty} {us : List Value}, Vals (bs.map fun b : Ty => V.ty b.name) us → us = bs.map fun b : Ty => Value.type b.name
  | [], _, .nil => rfl
  | b :: r, u :: us, .cons q t => by
    cases (show u = Value.type _ from q)
    rw [vals_tys (bs := r) t]; rfl
/-- isinstance(x, (T, ..)) -/
theorem call_isiT : CallR X (.builtin "isinstance") (fun xs H Q => ∃ (x : V) (p : Addr) (a : Ty) (bs : List Ty), xs = [x, .ref p] ∧ H p = some (.tup (bs.map fun b : Ty => V.ty b.name)) ∧ TyIs H x a ∧ Q (.bl (bs.any (Ty.isa a))) H) := by
  intro pins s σ H xs us Q I r h
  obtain ⟨x, p, a, bs, rfl, hp, ty, q⟩ := h
  obtain ⟨u, w', rfl, ru, rw'⟩ := vals2 r
  cases (show w' = Value.ref p from rw')
  obtain ⟨P, Z, pp, nb⟩ := kitx_at I ru ty
  obtain ⟨_, its, rv, o, h1, h2, n, h3⟩ := (show ObjOk X.prog X.w H s.heap p (.tup _) from I.hok p _ hp)
  obtain ⟨c, dd, dt, sl⟩ := o
  cases (show c = _ from h2)
  cases (show dt = _ from h3)
  have e := vals_tys rv
  subst e
  exact PySem.W.kia_tup Z I.kIn pp h1 (kit_any _ a bs) nb fun tk => ⟨.bl _, H, I.tok tk, rfl, q⟩

/-! ### lists compared -/
def eqVs : List V → List V → Bool
  | [], [] => true
  | x :: xs, y :: ys => eqV x y && eqVs xs ys
  | _, _ => false
theorem eqVs_len : ∀ {xs ys : List V}, xs.length ≠ ys.length → eqVs xs ys = false
  | [], [], h => absurd rfl h
  | [], _ :: _, _ => rfl
  | _ :: _, [], _ => rfl
  | x :: xs, y :: ys, h => by
    have : xs.length ≠ ys.length := fun e => h (by simp [e])
    simp [eqVs, eqVs_len this]
theorem eqVs_all : ∀ {xs ys : List V}, xs.length = ys.length → ((List.range xs.length).all fun j => eqV (xs.getD j .non) (ys.getD j .non)) = eqVs xs ys
  | [], [], _ => rfl
  | x :: xs, y :: ys, h => by
    have h' : xs.length = ys.length := by simpa using h
    rw [List.length_cons, List.range_succ_eq_map, List.all_cons, List.all_map, eqVs, ← eqVs_all h']
    rfl
/-- a list against a list: one of them is empty, or the items are flat -/
def LCmp (K : PySem.W.Frag) (H : Hp) (x y : V) (k : Bool) : Prop :=
  ∃ a b xs ys, x = .ref a ∧ y = .ref b ∧ SqL K H a xs ∧ SqL K H b ys ∧ ((ys = [] ∧ k = xs.isEmpty) ∨ (xs.all flatV = true ∧ ys.all flatV = true ∧ k = eqVs xs ys))
theorem rc_lists {pins : List (Addr × Obj)} {σ : St} {H : Hp} {s : Shared} {x y : V} {v u : Value} {k : Bool} (hu : X.A.units < cLine) (I : Inv X pins σ H s) (rx : RelV x v) (ry : RelV y u) (h : LCmp X.K H x y k) :
    SeqAt.RcAt X.A s v u k ∧ SeqAt.RcNeAt X.A s v u (!k) := by
  obtain ⟨a, b, xs, ys, rfl, rfl, hx, hy, hk⟩ := h
  cases (show v = Value.ref a from rx)
  cases (show u = Value.ref b from ry)
  obtain ⟨its, r1, p1, z1⟩ := I.list hx
  obtain ⟨its2, r2, p2, z2⟩ := I.list hy
  have l1 := r1.length
  have l2 := r2.length
  by_cases hl : xs.length = ys.length
  · have hsz : its.toArray.size = its2.toArray.size := by simp; omega
    have he : ∀ j (h1 : j < its.toArray.size) (h2 : j < its2.toArray.size), SeqAt.EqAt X.A.in1 s its.toArray[j] its2.toArray[j] (eqV (xs.getD j .non) (ys.getD j .non)) := by
      intro j h1 h2
      have h1' : j < its.length := by simpa using h1
      have h2' : j < its2.length := by simpa using h2
      rcases hk with ⟨e, _⟩ | ⟨f1, f2, _⟩
      · subst e; simp at l2; omega
      · have j1 : j < xs.length := by omega
        have j2 : j < ys.length := by omega
        obtain ⟨u1, e1, q1⟩ := r1.get (i := j) (x := xs[j]) (by simp [j1])
        obtain ⟨u2, e2, q2⟩ := r2.get (i := j) (x := ys[j]) (by simp [j2])
        have g1 : its.toArray[j] = u1 := by simp; rw [List.getElem?_eq_getElem h1'] at e1; exact Option.some.inj e1
        have g2 : its2.toArray[j] = u2 := by simp; rw [List.getElem?_eq_getElem h2'] at e2; exact Option.some.inj e2
        rw [g1, g2]
        have d1 : xs.getD j .non = xs[j] := by simp [j1]
        have d2 : ys.getD j .non = ys[j] := by simp [j2]
        rw [d1, d2]
        exact eqAt_V q1 q2 (List.all_eq_true.mp f1 _ (List.getElem_mem j1)) (List.all_eq_true.mp f2 _ (List.getElem_mem j2))
    have ek : (List.range its.toArray.size).all (fun j => eqV (xs.getD j .non) (ys.getD j .non)) = k := by
      have : its.toArray.size = xs.length := by simp [l1]
      rw [this, eqVs_all hl]
      rcases hk with ⟨e, e'⟩ | ⟨_, _, e'⟩
      · subst e
        have : xs = [] := List.length_eq_zero_iff.mp (by simpa using hl)
        subst this; rw [e']; rfl
      · exact e'.symm
    refine ⟨?_, ?_⟩
    · rw [← ek]; exact SeqAt.RcAt.lists p1.isList p2.isList hsz hu he
    · rw [← ek]; exact SeqAt.RcNeAt.lists p1.isList p2.isList hsz hu he
  · have hsz : (its.toArray.size != its2.toArray.size) = true := by
      rw [bne_iff_ne]; simp; omega
    have ek : k = false := by
      rcases hk with ⟨e, e'⟩ | ⟨_, _, e'⟩
      · subst e
        cases xs with
        | nil => exact absurd rfl hl
        | cons x xs => exact e'
      · rw [e', eqVs_len hl]
    subst ek
    exact ⟨SeqAt.RcAt.lists_lengths p1.isList p2.isList hsz hu, SeqAt.RcNeAt.lists_lengths p1.isList p2.isList hsz hu⟩
theorem op_eqL (hu : X.A.units < cLine) : OpR X (compareOp .Eq) (fun x y H Q => (∃ k, LCmp X.K H x y k ∧ Q (.bl k) H) ∨ (x = .non ∧ (∃ b ys, y = .ref b ∧ SqL X.K H b ys) ∧ Q (.bl false) H)) := by
  intro pins s σ H x y v u Q I rx ry h
  rcases h with ⟨k, c, q⟩ | ⟨rfl, ⟨b, ys, rfl, hy⟩, q⟩
  · exact (rc_lists hu I rx ry c).1 _ _ _ _ ⟨.bl k, H, I, rfl, q⟩
  · cases (show v = Value.none from rx)
    cases (show u = Value.ref b from ry)
    obtain ⟨its, r, p, z⟩ := I.list hy
    exact SeqAt.RcAt.none_list p.isList hu _ _ _ _ ⟨.bl false, H, I, rfl, q⟩
theorem op_neL (hu : X.A.units < cLine) : OpR X (compareOp .NotEq) (fun x y H Q => ∃ k, LCmp X.K H x y k ∧ Q (.bl (!k)) H) := by
  intro pins s σ H x y v u Q I rx ry h
  obtain ⟨k, c, q⟩ := h
  exact (rc_lists hu I rx ry c).2 _ _ _ _ ⟨.bl (!k), H, I, rfl, q⟩

/-! ### extend by a list or a tuple -/
section
open MeetsSeq MeetsSeq2 AutoSeq1
theorem extend_tuple (l : Addr) (items : Array Value) (n : Nat) (b : Addr) (items2 : Array Value) (n2 : Nat) (dd : Option Addr) (sl : Array (Option Value)) (hs0 : ¬(!items.isEmpty && Builtin.List.listTooLong (items.size + items2.size)) = true) (hs1 : items.size ≤ sizeLine) (hs2 : items.size + items2.size ≤ sizeLine + 1) :
    Meets (Builtin.«list.extend» ⟨[.ref l, .ref b], []⟩) (fun _ R s => s.heap.get? l = some { cls := .type "list", dict := none, data := .seq items n, slots := #[] } ∧ s.heap.get? b = some { cls := .type "tuple", dict := dd, data := .seq items2 n2, slots := sl } ∧ R (.ok (.ret Value.none)) { s with heap := s.heap.update l (Obj.mapSeq fun x => x ++ items2), toks := s.toks }) :=
  .of_wp fun prog w A R s h => by
    obtain ⟨hp, g, d, tk, os⟩ := s; obtain ⟨hl, hb, h⟩ := h; have f1 := PySem.AutoSeq1.idx_int; have f2 := PySem.AutoSeq1.sub_tuple_tuple; have f3 := PySem.AutoSeq1.sub_list_list; have f4 := PySem.AutoSeq1.sub_tuple_list; have f5 := PySem.AutoSeq1.sub_list_tuple;
    have hz' : (items ++ items2).size ≤ sizeLine + 1 := by rw [Array.size_append]; exact hs2
    wp_walk using (wpAny_updateSeq hl rfl (hz := hs1) (_hz' := hz')), PySem.AutoSeq1.wpAny_loadPart' hl, PySem.AutoSeq1.wpAny_loadPart' hb; exact ⟨_, rfl, h⟩
end
def rExtendLT : V → List V → Hp → VK → Prop := fun x vs H Q => ∃ l b xs zs, x = .ref l ∧ vs = [.ref b] ∧ H l = some (.lst xs) ∧ (H b = some (.lst zs) ∨ H b = some (.tup zs)) ∧ xs.length + zs.length ≤ sizeLine ∧ Q .non (upd H l (.lst (xs ++ zs)))
theorem mt_extendLT : MtM X "list.extend" rExtendLT := by
  intro pins s σ H x vs v us Q I rx rv h
  obtain ⟨l, b, xs, zs, rfl, rfl, hH, hB, hz, q⟩ := h
  rcases hB with hB | hB
  · exact mt_extend pins s σ H _ _ v us Q I rx rv ⟨l, b, xs, zs, rfl, rfl, hH, hB, hz, q⟩
  · cases rx
    obtain ⟨u, rfl, ru⟩ := rv.one
    cases ru
    obtain ⟨z, its, n, r, hl, e⟩ := I.lstM hH
    obtain ⟨z2, its2, r2, o, e2, c2, n2, d2⟩ := (show ObjOk X.prog X.w H s.heap b (.tup zs) from I.hok b _ hB)
    have hl2 := r2.length
    have hsz : its.toArray.size + its2.toArray.size ≤ sizeLine := by rw [List.size_toArray, List.size_toArray]; omega
    have hlong : ¬ (!its.toArray.isEmpty && Builtin.List.listTooLong (its.toArray.size + its2.toArray.size)) = true := by
      rw [notLongL hsz, Bool.and_false]
      exact Bool.false_ne_true
    refine call_meets F.slot_list_extend ⟨_, e, rfl⟩ F.entry_list_extend (F.args_list_extend_2 _ _)
      (extend_tuple l its.toArray n b its2.toArray n2 o.dict o.slots hlong (by rw [List.size_toArray]; omega) (by omega)) ⟨e, ?_, ?_⟩
    · obtain ⟨c, dd, dt, sl⟩ := o
      cases (show c = _ from c2)
      cases (show dt = _ from d2)
      exact e2
    · refine ⟨.non, _, I.lset (its' := its ++ its2) hH e (by simp) (r.append r2) ?_, rfl, q⟩
      rw [List.length_append]
      omega

/-! ### a def of the text by its promise -/
/-- what is known of the def x: its promise, with room for k -/
structure Cal (P : Program) (w : World) (K : PySem.W.Frag) (mg : Str → Option Value) (base : Heap) (k : Nat) (x : Str) (ps : List Str) (sp : Sp) : Prop where
  ex : ∃ f fd, FnOk P w K mg base CX0 k f fd ps sp ∧ mg x = some (.ref f) ∧ PySem.W.keepIn K (.ref f) = true ∧ Binds K fd ps []
/-- x(e, ..) -/
theorem pe_def {k m : Nat} {x : Str} {ps : List Str} {sp : Sp} {p pos : Pos} {e : Expr} {es : List Expr} {t : TA} (C : Cal X.prog X.w X.K X.mg X.base k x ps sp) (hr : Room m X.A) (hk : k ≤ m) (ha : PA X (e :: es) t) (hg : Gl X x := by rfl)
    (hdb : (x == ("__debug__" : Str)) = false := by decide) (he : starEach (e :: es) X.env = (false, eval e X.env) :: starEach es X.env := by rfl) (hpl : (backTo pos (starEach es X.env)).any (·.1) = false := by rfl) :
    PE X (.Call (.Name x p) (e :: es) [] pos) (tCall sp [] E0 t) := by
  obtain ⟨f, fd, F, hm, hkp, hb⟩ := C.ex
  exact pe_call F (hr.mono hk) hg hm hkp hb .nil pass0 ha hdb he hpl
end
/-- a def as the top has left it -/
structure Def (K : PySem.W.Frag) (mg : Str → Option Value) (x : Str) (st : Stmt) (ps : List Str) : Prop where
  ex : ∃ f fd, Fun K x x st f fd ∧ mg x = some (.ref f) ∧ Binds K fd ps []
theorem Def.cal {P : Program} {w : World} {K : PySem.W.Frag} {mg : Str → Option Value} {base : Heap} {x : Str} {st : Stmt} {N ps : List Str} {k : Nat} {sp : Sp} (D : Def K mg x st ps) (S : FnScope N ps (defScope st)) (len : ∀ vs H Q E, sp vs H Q E → vs.length = ps.length)
    (hbody : ∀ (f : Addr) (cdv : Value) (A : Around) (outer : List Env) (s : Shared) (H : Hp) (vs : List V) (Q : VK) (E : XK), Room k (A.deeper (envOfC x (defScope st) s.heap.objs.size f cdv)) → sp vs H Q E →
      ∃ t, PSs (cxOf CX0 P w K mg base N x (defScope st) f cdv A outer s H E).nox (defBody st) t ∧ t { nx := fun _ H' => Q .non H', rt := Q } (start N vs) H) : Cal P w K mg base (k + 1) x ps sp := by
  obtain ⟨f, fd, F, hm, hb⟩ := D.ex
  exact ⟨f, fd, F.ok S len (hbody f), hm, F.kp, hb⟩
theorem Cal.imp {P : Program} {w : World} {K : PySem.W.Frag} {mg : Str → Option Value} {base : Heap} {k : Nat} {x : Str} {ps : List Str} {sp sp' : Sp} (C : Cal P w K mg base k x ps sp) (h : ∀ vs H Q E, sp' vs H Q E → sp vs H Q E) : Cal P w K mg base k x ps sp' := by
  obtain ⟨f, fd, F, a, b, c⟩ := C.ex
  exact ⟨f, fd, F.imp h, a, b, c⟩
theorem hu0 {A : Around} {k : Nat} (hr : Room k A) : A.units < cLine := hr.units0
/-- Python's own names that no row of the text binds -/
structure Blt (mg : Str → Option Value) : Prop where
  len_ : mg "len" = none
  abs_ : mg "abs" = none
  isinstance_ : mg "isinstance" = none
  int_ : mg "int" = none
  bool_ : mg "bool" = none
  list_ : mg "list" = none
  tuple_ : mg "tuple" = none
  str_ : mg "str" = none
  range_ : mg "range" = none
  max_ : mg "max" = none
  min_ : mg "min" = none
  sorted_ : mg "sorted" = none
  set_ : mg "set" = none
  enumerate_ : mg "enumerate" = none
  reversed_ : mg "reversed" = none
end L2
namespace L2
open PySem PySem.Spec PyProof.Rows
theorem def_mk {K : PySem.W.Frag} {h : Heap} {mg : Str → Option Value} {x : Str} {st : Stmt} {ps : List Str} {f : Addr} {oc : Value} {od an : Option Addr} {osl : Array (Option Value)} {kV doc pm cdv ct : Value} (X : K.In h) (G : h.Ns mainGlobals mg)
    (a : PySem.W.nsIn K mainGlobals x = some (some (.ref f))) (l : K.lookup f = some ⟨oc, od, .func (PySem.W.fnOf x x (defArgs st) (defBody st) (defScope st) .none kV doc pm an cdv ct), osl⟩) (c : PySem.W.codeIn K cdv x = true) (k : PySem.W.keepIn K (.ref f) = true)
    (b : ∀ (kV doc pm : Value) (an : Option Addr) (cdv ct : Value) (us : List Value), us.length = ps.length → bindArgs (PySem.W.fnOf x x (defArgs st) (defBody st) (defScope st) .none kV doc pm an cdv ct) ⟨us, []⟩ = pure (ps.zip us)) : Def K mg x st ps :=
  ⟨f, _, fun_mk l c k, PySem.W.mg_of X G a, (fun_mk l c k).binds b⟩
end L2

namespace L2
open PySem PySem.Spec PyProof.Rows
theorem Same.upd {H H' : Hp} {l : Addr} {o : HO} (e : Same H H') (hl : H l = none) : Same H (L2.upd H' l o) := fun b u h => by
  rw [upd_ne (ne_of_none h hl)]; exact e b u h
theorem snoc_cases {α : Type} : ∀ l : List α, l = [] ∨ ∃ r x, l = r ++ [x]
  | [] => .inl rfl
  | a :: l => by
    rcases snoc_cases l with rfl | ⟨r, x, rfl⟩
    · exact .inr ⟨[], a, rfl⟩
    · exact .inr ⟨a :: r, x, rfl⟩
theorem len1 {v : V} : [v].length ≤ sizeLine := by show 1 ≤ sizeLine; decide
theorem len2 {v u : V} : [v, u].length ≤ sizeLine := by show 2 ≤ sizeLine; decide
theorem small6 {n : Nat} (h : n ≤ 1000000) : n < sizeLine := Nat.lt_of_le_of_lt h (by decide)
theorem small6' {n : Nat} (h : n ≤ 1000000) : n ≤ sizeLine := Nat.le_of_lt (small6 h)
theorem getV {α : Type} {f : α → V} {ns : List α} {i : Nat} {y : V} (h : (ns.map f)[i]? = some y) : ∃ n, ns[i]? = some n ∧ y = f n := by
  rw [List.getElem?_map] at h
  cases e : ns[i]? with
  | none => rw [e] at h; cases h
  | some n => rw [e] at h; exact ⟨n, rfl, (Option.some.inj h).symm⟩
/-! # DATA: trees of None, dBools, dInts, texts, lists and tuples, as they lie in the abstract heap -/
inductive D where
  | non | bl (b : Bool) | int (i : Int) | str (x : Str) | lst (ds : List D) | tup (ds : List D)
mutual
/-- d lies at v -/
def At (H : Hp) : D → V → Prop
  | .non, v => v = .non
  | .bl b, v => v = .bl b
  | .int i, v => v = .int i
  | .str x, v => v = .str x
  | .lst ds, v => ∃ a vs, v = .ref a ∧ H a = some (.lst vs) ∧ AtL H ds vs
  | .tup ds, v => ∃ a vs, v = .ref a ∧ H a = some (.tup vs) ∧ AtL H ds vs
def AtL (H : Hp) : List D → List V → Prop
  | [], vs => vs = []
  | d :: ds, vs => ∃ v r, vs = v :: r ∧ At H d v ∧ AtL H ds r
end
mutual
theorem At.mono {H H' : Hp} (e : Same H H') : ∀ {d : D} {v : V}, At H d v → At H' d v
  | .non, _, h => by unfold At at h ⊢; exact h
  | .bl _, _, h => by unfold At at h ⊢; exact h
  | .int _, _, h => by unfold At at h ⊢; exact h
  | .str _, _, h => by unfold At at h ⊢; exact h
  | .lst ds, _, h => by
    unfold At at h ⊢
    obtain ⟨a, vs, h1, h2, h3⟩ := h
    exact ⟨a, vs, h1, e _ _ h2, AtL.mono e h3⟩
  | .tup ds, _, h => by
    unfold At at h ⊢
    obtain ⟨a, vs, h1, h2, h3⟩ := h
    exact ⟨a, vs, h1, e _ _ h2, AtL.mono e h3⟩
theorem AtL.mono {H H' : Hp} (e : Same H H') : ∀ {ds : List D} {vs : List V}, AtL H ds vs → AtL H' ds vs
  | [], _, h => by unfold AtL at h ⊢; exact h
  | d :: ds, _, h => by
    unfold AtL at h ⊢
    obtain ⟨v, r, h1, h2, h3⟩ := h
    exact ⟨v, r, h1, At.mono e h2, AtL.mono e h3⟩
end
theorem AtL.nil {H : Hp} : AtL H [] [] := by unfold AtL; rfl
theorem AtL.cons {H : Hp} {d : D} {ds : List D} {v : V} {vs : List V} (h : At H d v) (hs : AtL H ds vs) : AtL H (d :: ds) (v :: vs) := by
  unfold AtL; exact ⟨v, vs, rfl, h, hs⟩
theorem AtL.append {H : Hp} : ∀ {ds es : List D} {vs us : List V}, AtL H ds vs → AtL H es us → AtL H (ds ++ es) (vs ++ us)
  | [], _, _, _, h, h' => by unfold AtL at h; subst h; exact h'
  | d :: ds, _, _, _, h, h' => by
    unfold AtL at h
    obtain ⟨v, r, rfl, h1, h2⟩ := h
    exact AtL.cons h1 (AtL.append h2 h')
theorem AtL.length {H : Hp} : ∀ {ds : List D} {vs : List V}, AtL H ds vs → ds.length = vs.length
  | [], _, h => by unfold AtL at h; subst h; rfl
  | d :: ds, _, h => by
    unfold AtL at h
    obtain ⟨v, r, rfl, h1, h2⟩ := h
    simp [AtL.length h2]
/-- from the right: the last one -/
theorem AtL.last {H : Hp} : ∀ {ds : List D} {vs : List V} {d : D}, AtL H (ds ++ [d]) vs → ∃ r v, vs = r ++ [v] ∧ AtL H ds r ∧ At H d v
  | [], vs, d, h => by
    rw [List.nil_append] at h
    unfold AtL at h
    obtain ⟨v, r, rfl, h1, h2⟩ := h
    unfold AtL at h2; subst h2
    exact ⟨[], v, rfl, AtL.nil, h1⟩
  | e :: ds, vs, d, h => by
    rw [List.cons_append] at h
    unfold AtL at h
    obtain ⟨v, r, rfl, h1, h2⟩ := h
    obtain ⟨r', v', rfl, h3, h4⟩ := AtL.last h2
    exact ⟨v :: r', v', rfl, AtL.cons h1 h3, h4⟩
theorem AtL.get {H : Hp} : ∀ {ds : List D} {vs : List V} {i : Nat} {d : D}, AtL H ds vs → ds[i]? = some d → ∃ v, vs[i]? = some v ∧ At H d v
  | [], _, _, _, _, e => by simp at e
  | d :: ds, _, 0, _, h, e => by
    unfold AtL at h
    obtain ⟨v, r, rfl, h1, h2⟩ := h
    simp at e; subst e
    exact ⟨v, by simp, h1⟩
  | d :: ds, _, i + 1, _, h, e => by
    unfold AtL at h
    obtain ⟨v, r, rfl, h1, h2⟩ := h
    obtain ⟨u, a, b⟩ := AtL.get (i := i) h2 (by simpa using e)
    exact ⟨u, by simpa using a, b⟩
theorem AtL.get' {H : Hp} : ∀ {ds : List D} {vs : List V} {i : Nat} {v : V}, AtL H ds vs → vs[i]? = some v → ∃ d, ds[i]? = some d ∧ At H d v
  | [], _, _, _, h, e => by unfold AtL at h; subst h; simp at e
  | d :: ds, _, 0, _, h, e => by
    unfold AtL at h
    obtain ⟨v, r, rfl, h1, h2⟩ := h
    simp at e; subst e
    exact ⟨d, by simp, h1⟩
  | d :: ds, _, i + 1, _, h, e => by
    unfold AtL at h
    obtain ⟨v, r, rfl, h1, h2⟩ := h
    obtain ⟨u, a, b⟩ := AtL.get' (i := i) h2 (by simpa using e)
    exact ⟨u, by simpa using a, b⟩
/-- dInts -/
def dInts (ns : List Int) : List D := ns.map .int
def dBools (bs : List Bool) : List D := bs.map .bl
theorem AtL.ofInts {H : Hp} (ns : List Int) : AtL H (L2.dInts ns) (ns.map V.int) := by
  induction ns with
  | nil => exact AtL.nil
  | cons n r ih => exact AtL.cons (by unfold At; rfl) ih
theorem AtL.ofBools {H : Hp} (ns : List Bool) : AtL H (L2.dBools ns) (ns.map V.bl) := by
  induction ns with
  | nil => exact AtL.nil
  | cons n r ih => exact AtL.cons (by unfold At; rfl) ih
theorem At.ofInts {H : Hp} {a : Addr} {ns : List Int} (h : H a = some (.lst (ns.map V.int))) : At H (.lst (L2.dInts ns)) (.ref a) := by
  unfold At; exact ⟨a, _, rfl, h, AtL.ofInts ns⟩
theorem At.ofBools {H : Hp} {a : Addr} {ns : List Bool} (h : H a = some (.lst (ns.map V.bl))) : At H (.lst (L2.dBools ns)) (.ref a) := by
  unfold At; exact ⟨a, _, rfl, h, AtL.ofBools ns⟩
mutual
def D.size : D → Nat
  | .lst ds => 1 + sizes ds
  | .tup ds => 1 + sizes ds
  | .non => 1
  | .bl _ => 1
  | .int _ => 1
  | .str _ => 1
def sizes : List D → Nat
  | [] => 0
  | d :: ds => d.size + sizes ds
end
mutual
/-- no text within -/
def D.plain : D → Bool
  | .str _ => false
  | .lst ds => plains ds
  | .tup ds => plains ds
  | .non => true
  | .bl _ => true
  | .int _ => true
def plains : List D → Bool
  | [] => true
  | d :: ds => d.plain && plains ds
end
theorem sizes_append : ∀ (ds es : List D), sizes (ds ++ es) = sizes ds + sizes es
  | [], es => by simp [sizes]
  | d :: ds, es => by rw [List.cons_append, sizes, sizes, sizes_append ds es]; omega
theorem plains_append : ∀ (ds es : List D), plains (ds ++ es) = (plains ds && plains es)
  | [], es => by simp [plains]
  | d :: ds, es => by rw [List.cons_append, plains, plains, plains_append ds es, Bool.and_assoc]
theorem length_sizes : ∀ (ds : List D), ds.length ≤ sizes ds
  | [] => Nat.zero_le _
  | d :: ds => by
    have h := length_sizes ds
    have h1 : 1 ≤ d.size := by cases d <;> simp [D.size] <;> omega
    rw [List.length_cons, sizes]; omega
theorem sizes_ints (ns : List Int) : sizes (dInts ns) = ns.length := by
  induction ns with
  | nil => rfl
  | cons n r ih => show (D.int n).size + sizes (dInts r) = _; rw [ih, D.size, List.length_cons]; omega
theorem sizes_bools (ns : List Bool) : sizes (dBools ns) = ns.length := by
  induction ns with
  | nil => rfl
  | cons n r ih => show (D.bl n).size + sizes (dBools r) = _; rw [ih, D.size, List.length_cons]; omega
theorem plains_ints (ns : List Int) : plains (dInts ns) = true := by
  induction ns with
  | nil => rfl
  | cons n r ih => show ((D.int n).plain && plains (dInts r)) = _; rw [ih]; rfl
theorem plains_bools (ns : List Bool) : plains (dBools ns) = true := by
  induction ns with
  | nil => rfl
  | cons n r ih => show ((D.bl n).plain && plains (dBools r)) = _; rw [ih]; rfl
end L2

namespace L2
open PySem PySem.Spec PyProof.Rows
/-! # WALKS OF COMPREHENSIONS, list(d) -/
abbrev CompW (J : It) (σ : St) (js : List Nat) (tc : TT) (te : TE) (Q : VK) (H1 : Hp) : Prop := ∃ W : Nat → Nat → List V → Hp → Prop, (∃ m, W 0 m [] H1) ∧ ∀ i m ys H, W i m ys H →
  (J.stop i H ∧ ∀ l, H l = none → Q (.ref l) (upd H l (.lst ys))) ∨
  (J.go i H ∧ ys.length < sizeLine ∧ ∀ x H', J.yld i H x H' → tc (inner σ js (some x)) H' fun b H2 =>
    if b = true then te (inner σ js (some x)) H2 fun v H3 => ∃ m', m' < m ∧ W (i + 1) m' (ys ++ [v]) H3 else ∃ m', m' < m ∧ W (i + 1) m' ys H2)
/-- over a list that stays -/
theorem comp_list {K : PySem.W.Frag} {a : Addr} {xs : List V} {σ : St} {js : List Nat} {tc : TT} {te : TE} {Q : VK} {H : Hp} (Pv : Nat → List V → Hp → Prop) (h0 : Pv 0 [] H) (hz : xs.length ≤ sizeLine)
    (hl : ∀ i ys H, i ≤ xs.length → Pv i ys H → SqL K H a xs)
    (hs : ∀ i x ys H (N : List V → Hp → Prop), xs[i]? = some x → ys.length ≤ i → Pv i ys H → (∀ ys' H', Pv (i + 1) ys' H' → ys'.length ≤ i + 1 → N ys' H') →
      tc (inner σ js (some x)) H fun b H2 => if b = true then te (inner σ js (some x)) H2 fun v H3 => N (ys ++ [v]) H3 else N ys H2)
    (hd : ∀ ys H, Pv xs.length ys H → ∀ l, H l = none → Q (.ref l) (upd H l (.lst ys))) : CompW (Itl K a) σ js tc te Q H := by
  refine ⟨fun i m ys H => m = xs.length - i ∧ i ≤ xs.length ∧ ys.length ≤ i ∧ Pv i ys H, ⟨xs.length, by simp, Nat.zero_le _, Nat.le_refl _, h0⟩, ?_⟩
  rintro i m ys H ⟨rfl, hi, hy, p⟩
  have q := hl i ys H hi p
  by_cases hlt : i < xs.length
  · refine .inr ⟨⟨xs, xs[i], q, by simp [hlt]⟩, by omega, fun x H' y => ?_⟩
    obtain ⟨e, y⟩ := y
    subst e
    exact hs i x ys _ (fun ys' H' => ∃ m', m' < xs.length - i ∧ m' = xs.length - (i + 1) ∧ i + 1 ≤ xs.length ∧ ys'.length ≤ i + 1 ∧ Pv (i + 1) ys' H') (y xs q) hy p fun ys' H' p' l' => ⟨_, by omega, rfl, hlt, l', p'⟩
  · have e : i = xs.length := by omega
    subst e
    exact .inl ⟨⟨xs, q, Nat.le_refl _⟩, hd ys H p⟩
theorem comp_range {lo : Int} {n : Nat} {σ : St} {js : List Nat} {tc : TT} {te : TE} {Q : VK} {H : Hp} (Pv : Nat → List V → Hp → Prop) (h0 : Pv 0 [] H) (hz : n ≤ sizeLine)
    (hs : ∀ i ys H (N : List V → Hp → Prop), i < n → ys.length ≤ i → Pv i ys H → (∀ ys' H', Pv (i + 1) ys' H' → ys'.length ≤ i + 1 → N ys' H') →
      tc (inner σ js (some (.int (lo + i)))) H fun b H2 => if b = true then te (inner σ js (some (.int (lo + i)))) H2 fun v H3 => N (ys ++ [v]) H3 else N ys H2)
    (hd : ∀ ys H, Pv n ys H → ∀ l, H l = none → Q (.ref l) (upd H l (.lst ys))) : CompW (Itr lo n) σ js tc te Q H := by
  refine ⟨fun i m ys H => m = n - i ∧ i ≤ n ∧ ys.length ≤ i ∧ Pv i ys H, ⟨n, by simp, Nat.zero_le _, Nat.le_refl _, h0⟩, ?_⟩
  rintro i m ys H ⟨rfl, hi, hy, p⟩
  by_cases hlt : i < n
  · refine .inr ⟨hlt, by omega, fun x H' y => ?_⟩
    obtain ⟨e, y⟩ := y
    subst e y
    exact hs i ys _ (fun ys' H' => ∃ m', m' < n - i ∧ m' = n - (i + 1) ∧ i + 1 ≤ n ∧ ys'.length ≤ i + 1 ∧ Pv (i + 1) ys' H') hlt hy p fun ys' H' p' l' => ⟨_, by omega, rfl, hlt, l', p'⟩
  · have e : i = n := by omega
    subst e
    exact .inl ⟨Nat.le_refl _, hd ys H p⟩
/-- tests and elements that leave the heap: filter, then map -/
theorem comp_pure {K : PySem.W.Frag} {a : Addr} {α : Type} {xs : List α} {g : α → V} {σ : St} {js : List Nat} {tc : TT} {te : TE} {Q : VK} {H : Hp} (p : α → Bool) (f : α → V) (hz : xs.length ≤ sizeLine) (hl : SqL K H a (xs.map g))
    (ht : ∀ x ∈ xs, ∀ R : Bool → Hp → Prop, R (p x) H → tc (inner σ js (some (g x))) H R) (he : ∀ x ∈ xs, p x = true → ∀ R : VK, R (f x) H → te (inner σ js (some (g x))) H R)
    (hd : ∀ l, H l = none → Q (.ref l) (upd H l (.lst ((xs.filter p).map f)))) : CompW (Itl K a) σ js tc te Q H := by
  refine comp_list (xs := xs.map g) (fun i ys H' => H' = H ∧ ys = ((xs.take i).filter p).map f) ⟨rfl, by simp⟩ (by simpa using hz) (fun i ys H' _ e => by rw [e.1]; exact hl) ?_ ?_
  · rintro i x ys _ N hx hy ⟨rfl, rfl⟩ hN
    obtain ⟨n, hn, rfl⟩ := getV hx
    have hm := List.mem_of_getElem? hn
    refine ht n hm _ ?_
    have e1 : (xs.take (i + 1)).filter p = (xs.take i).filter p ++ (if p n then [n] else []) := take_succ_filter p xs i n hn
    cases hp : p n with
    | true =>
      rw [if_pos rfl]
      refine he n hm hp _ (hN _ _ ⟨rfl, ?_⟩ (by simpa using hy))
      rw [e1, hp]; simp
    | false =>
      rw [if_neg Bool.false_ne_true]
      refine hN _ _ ⟨rfl, ?_⟩ (by omega)
      rw [e1, hp]; simp
  · rintro ys _ ⟨rfl, rfl⟩ l h
    have := hd l h
    simpa using this
theorem comp_pureR {lo : Int} {n : Nat} {σ : St} {js : List Nat} {tc : TT} {te : TE} {Q : VK} {H : Hp} (p : Nat → Bool) (f : Nat → V) (hz : n ≤ sizeLine)
    (ht : ∀ i, i < n → ∀ R : Bool → Hp → Prop, R (p i) H → tc (inner σ js (some (.int (lo + i)))) H R) (he : ∀ i, i < n → p i = true → ∀ R : VK, R (f i) H → te (inner σ js (some (.int (lo + i)))) H R)
    (hd : ∀ l, H l = none → Q (.ref l) (upd H l (.lst (((List.range n).filter p).map f)))) : CompW (Itr lo n) σ js tc te Q H := by
  refine comp_range (fun i ys H' => H' = H ∧ ys = ((List.range i).filter p).map f) ⟨rfl, by simp⟩ hz ?_ ?_
  · rintro i ys _ N hi hy ⟨rfl, rfl⟩ hN
    refine ht i hi _ ?_
    have e1 : (List.range (i + 1)).filter p = (List.range i).filter p ++ (if p i then [i] else []) := by
      rw [List.range_succ, List.filter_append]
      cases hp : p i <;> simp [hp]
    cases hp : p i with
    | true =>
      rw [if_pos rfl]
      refine he i hi hp _ (hN _ _ ⟨rfl, ?_⟩ (by simpa using hy))
      rw [e1, hp]; simp
    | false =>
      rw [if_neg Bool.false_ne_true]
      refine hN _ _ ⟨rfl, ?_⟩ (by omega)
      rw [e1, hp]; simp
  · rintro ys _ ⟨rfl, rfl⟩ l h
    exact hd l h
theorem kV_rel {k : Key} {v : Value} (h : keyIs k v = true) : RelV (kV k) v := by
  rcases keyIs_shape h with ⟨i, t, rfl, rfl⟩ | ⟨x, t, rfl, rfl⟩
  · exact ⟨t, rfl⟩
  · exact ⟨t, rfl⟩
theorem vals_of_get : ∀ {xs : List V} {us : List Value}, xs.length = us.length → (∀ (i : Nat) x u, xs[i]? = some x → us[i]? = some u → RelV x u) → Vals xs us
  | [], [], _, _ => .nil
  | x :: xs, u :: us, hl, h => .cons (h 0 x u rfl rfl) (vals_of_get (by simpa using hl) fun i a b e1 e2 => h (i + 1) a b (by simpa using e1) (by simpa using e2))
  | [], _ :: _, hl, _ => by simp at hl
  | _ :: _, [], hl, _ => by simp at hl
section
variable {X : Cx}
/-- list(d): its keys -/
theorem call_listD (hc : X.calm = true) : CallR X (.type "list") (fun xs H Q => ∃ a kvs, xs = [V.ref a] ∧ Rd H a (.dK kvs) ∧ ∀ l, H l = none → Q (.ref l) (upd H l (.lst (kvs.map fun p => kV p.1)))) := by
  intro pins s σ H xs us Q I r h
  obtain ⟨a, kvs, rfl, ha, q⟩ := h
  obtain ⟨u, rfl, ru⟩ := vals1 r
  cases (show u = Value.ref a from ru)
  obtain ⟨hz, lo, vs, rel, o, es, ep, h1, h2, h3, h4, h5, h6⟩ := dk_rd I.hok ha
  have hok : s.heap.DictAt (mixKind X.prog X.w) a vs ep := ⟨o, es, h1, h2, h3, h4, h5, h6⟩
  have hlen : kvs.length = vs.length := rel.length
  refine PySem.W.kdl_call (PySem.W.kdl_dict (ep := ep) lo) (I.ok.hd hc) hok (by omega) fun h' tk acc' c' hk hD hacc => ?_
  have fr := I.hok.fresh (Nat.le_refl s.heap.objs.size)
  refine ⟨.ref s.heap.objs.size, _, I.laid (o := .lst (kvs.map fun p => kV p.1)) hk (Nat.le_refl _) ⟨by simpa using hz, acc'.toList, c', ?_, by simpa using hD⟩, rfl, q _ fr⟩
  have hs := hacc.1
  refine vals_of_get (by simp; omega) fun i x u e1 e2 => ?_
  obtain ⟨k, x', e3, e4⟩ := hacc.2 i u (by simpa using e2)
  rw [List.getElem?_map] at e1
  cases e5 : kvs[i]? with
  | none => rw [e5] at e1; cases e1
  | some p =>
    rw [e5] at e1
    have e1' : kV p.1 = x := Option.some.inj e1
    subst e1'
    have : p.1 = k := by
      have := rel.keys
      have g1 : (kvs.map (·.1))[i]? = some p.1 := by rw [List.getElem?_map, e5]; rfl
      have g2 : (vs.map (·.1))[i]? = some k := by rw [List.getElem?_map, e3]; rfl
      rw [this, g2] at g1
      exact (Option.some.inj g1).symm
    rw [this]
    exact kV_rel e4
end
end L2

namespace L2
open PySem PySem.Spec PyProof.Rows
/-! # list(reversed(xs)) -/
theorem bt_reversed : bootBuiltins "reversed" = some (.type "reversed") := by decide +kernel
theorem rev_nolen : typeLookup (.type "list_reverseiterator") (Str.ofString "__len__") = pure none := by rw [typeLookup_type, builtinLookup_eq_fast]; kernel_rfl
theorem rev_hint : typeLookup (.type "list_reverseiterator") (Str.ofString "__length_hint__") = pure (some (.builtin "list_reverseiterator.__length_hint__")) := by rw [typeLookup_type, builtinLookup_eq_fast]; kernel_rfl
section
variable {prog : Program} {w : World} {A : Around} {E : Value → Shared → Prop} {s : Shared}
theorem hint_rev {it : Addr} {Q : Bool → Shared → Prop} (hT : s.TypeIs (.ref it) "list_reverseiterator") (h : Q false s) : wpAny (model prog w) A (Builtin.List.listLengthHint (.ref it)) Q E s := by
  unfold Builtin.List.listLengthHint
  refine wpAny_bind (wpAny_specialOf hT rev_nolen ?_)
  show wpAny _ A (specialOf (Value.ref it) (Str.ofString "__length_hint__") >>= _) _ _ _
  refine wpAny_bind (wpAny_specialOf hT rev_hint ?_)
  generalize hid : ("list_reverseiterator.__length_hint__" : String) = id0
  wp_delta
  rw [show splitId id0 = some ("list_reverseiterator", "__length_hint__") from by subst hid; decide +kernel]
  subst hid
  refine wpAny_bind (wpAny_isInstance (b := true) hT (by rw [isSubtype_type]; kernel_rfl) ?_)
  exact wpAny_pure h
theorem list_of_rev {it l : Addr} {items : Array Value} {Q : Value → Shared → Prop} (hh : A.handled = none) (hne : l ≠ it) (hit : s.heap.IsRevIter it l ((items.size : Int) - 1)) (hl : s.heap.IsList l items) (hn : items.size ≤ sizeLine)
    (hQ : ∀ h' tk acc' c', (∀ b o, b ≠ it → s.heap.get? b = some o → h'.get? b = some o) → h'.get? s.heap.objs.size = some { cls := .type "list", dict := none, data := .seq acc' c', slots := #[] } → ItemsOf (fun i v => items[items.size - 1 - i]? = some v) acc' items.size → Q (.ref s.heap.objs.size) { s with heap := h', toks := tk }) :
    wpAny (model prog w) A (call (.type "list") [.ref it]) Q E s := by
  have hitl : it < s.heap.objs.size := by obtain ⟨o, e, _⟩ := hit; exact Heap.lt_size e
  have hll : l < s.heap.objs.size := by obtain ⟨o, e, _⟩ := hl; exact Heap.lt_size e
  refine callType_codes (Q₁ := fun obj s₁ => obj = .ref s.heap.objs.size ∧ s₁ = { s with heap := s.heap.push { cls := .type "list", data := .seq #[] } }) PySem.F.called_list (PySem.F.typeCall_list_1 _) PySem.F.entry_list_init
    (code_list_new _ ⟨rfl, rfl⟩) fun obj s₁ h₁ => ?_
  obtain ⟨rfl, rfl⟩ := h₁
  generalize hSz : s.heap.objs.size = S at *
  have hS : (s.heap.push { cls := .type "list", data := .seq #[] }).get? S = some { cls := .type "list", data := .seq #[] } := by rw [← hSz]; exact Heap.get?_push_size _ rfl
  have up : ∀ b o, s.heap.get? b = some o → (s.heap.push { cls := .type "list", data := .seq #[] }).get? b = some o := fun b o e => Heap.get?_push_of_some _ e
  have hSi : S ≠ it := ne_nat (.inr hitl)
  have hSl : S ≠ l := ne_nat (.inr hll)
  have W := Walks.listRev (prog := prog) (w := w) (A := A.in1.in1) hh it l hne items
  refine ⟨⟨_, hS, rfl⟩, PySem.F.args_list_init_2 _ _, ?_⟩
  show wpAny _ _ (do let old ← Builtin.List.listItems (.ref S); Builtin.List.listUpdate (.ref S) (fun _ => #[]); letGo old.toList.reverse; Builtin.List.listExtendWith (.ref S) (.ref it) .none) _ _ _
  refine wpAny_bind ?_
  unfold Builtin.List.listItems
  refine wpAny_bind (wpAny_seqItems hS rfl (wpAny_pure ?_))
  show wpAny _ _ (updateSeq S (fun _ => #[]) >>= fun _ => letGo (#[] : Array Value).toList.reverse >>= fun _ => Builtin.List.listExtendWith (.ref S) (.ref it) .none) _ _ _
  refine wpAny_bind (wpAny_updateSeq hS rfl ?_)
  have hS₂ := Heap.get?_update_self (Obj.mapSeq (fun _ => (#[] : Array Value))) hS rfl
  have oth : ∀ b o, b ≠ S → s.heap.get? b = some o → ((s.heap.push { cls := .type "list", data := .seq #[] }).update S (Obj.mapSeq (fun _ => (#[] : Array Value)))).get? b = some o :=
    fun b o hb e => (Heap.get?_update_other _ _ (Ne.symm hb)).trans (up b o e)
  have hit2 : ((s.heap.push { cls := .type "list", data := .seq #[] }).update S (Obj.mapSeq (fun _ => (#[] : Array Value)))).IsRevIter it l ((items.size : Int) - 1) := by
    obtain ⟨o, e, c, d⟩ := hit; exact ⟨o, oth _ _ hSi.symm e, c, d⟩
  have hl2 : ((s.heap.push { cls := .type "list", data := .seq #[] }).update S (Obj.mapSeq (fun _ => (#[] : Array Value)))).IsList l items := by
    obtain ⟨o, e, c, d⟩ := hl; exact ⟨o, oth _ _ hSl.symm e, c, d⟩
  refine wpAny_bind (wpAny_letGo ?_)
  unfold Builtin.List.listExtendWith
  refine wpAny_bind (wpAny_typeOf (T := "list_reverseiterator") hit2.typeIs ?_)
  have h1 : Builtin.List.listSameRef (.ref S) (.ref it) = false := by simp [Builtin.List.listSameRef, hSi]
  have h2 : (Value.type "list_reverseiterator" == Value.type "list") = false := by decide
  have h3 : (Value.type "list_reverseiterator" == Value.type "tuple") = false := by decide
  simp only [h1, h2, h3, Bool.or_false, Bool.false_eq_true, if_false]
  refine wpAny_bind (wpAny_pyIter_revIter hit2 ?_)
  refine wpAny_bind (wpAny_holding (hint_rev hit2.typeIs ?_))
  refine wpAny_ite_split (fun hab => absurd hab (by decide)) (fun _ => ?_)
  have hSf : S ∉ [it, l] := by simp only [List.mem_cons, List.not_mem_nil, or_false, not_or]; exact ⟨hSi, hSl⟩
  refine wpAny_pure ⟨plainId_quiet PySem.F.plain_extend_loop _, codeAny_extend_loopS W.toS hn S hSf .none items.size 0 _ #[] _ rfl (Nat.zero_le _) ⟨Nat.zero_le _, by simpa using hit2, hl2⟩ hS₂ (ItemsOf.nil _) fun s' acc' c' hm hS' hacc => ?_⟩
  refine ⟨rfl, ?_⟩
  rw [Moved.eq_with hm]
  refine hQ s'.heap s'.toks acc' c' (fun b o hb e => ?_) hS' hacc
  have hbS : b ≠ S := ne_nat (.inl (by rw [← hSz]; exact Heap.lt_size e))
  exact hm.heap b o (by simp only [List.mem_cons, List.not_mem_nil, or_false, not_or]; exact ⟨hbS, hb⟩) (oth b o hbS e)
end
section
variable {X : Cx} {e : Expr} {te : TE} {p1 p2 pos pos2 : Pos}
/-- list(reversed(xs)) of a list -/
def tRev (K : PySem.W.Frag) (te : TE) : TE := fun σ H Q => te σ H fun x H1 => ∃ l ys, x = .ref l ∧ SqL K H1 l ys ∧ ∀ p, H1 p = none → Q (.ref p) (upd H1 p (.lst ys.reverse))
theorem tRev_args {K : PySem.W.Frag} {te : TE} {σ : St} {H : Hp} {Q : VK} (h : tRev K te σ H Q) : tCons te tNil σ H (fun vs H1 => ∃ l ys, vs = [V.ref l] ∧ SqL K H1 l ys ∧ ∀ p, H1 p = none → Q (.ref p) (upd H1 p (.lst ys.reverse))) := by
  unfold tRev at h
  unfold tCons tNil
  have e : (fun (x : V) (H1 : Hp) => ∃ l ys, [x] = [V.ref l] ∧ SqL K H1 l ys ∧ ∀ p, H1 p = none → Q (.ref p) (upd H1 p (.lst ys.reverse))) = (fun (x : V) (H1 : Hp) => ∃ l ys, x = V.ref l ∧ SqL K H1 l ys ∧ ∀ p, H1 p = none → Q (.ref p) (upd H1 p (.lst ys.reverse))) := by
    funext x H1; simp
  rw [e]; exact h
theorem pe_listRev (hc : X.calm = true) (hm1 : X.mg "list" = none) (hm2 : X.mg "reversed" = none) (he : PE X e te) (hg1 : Gl X "list" := by rfl) (hg2 : Gl X "reversed" := by rfl)
    (hs : starEach [e] X.env = [(false, eval e X.env)] := by rfl) (hs2 : starEach [Expr.Call (.Name "reversed" p2) [e] [] pos2] X.env = [(false, eval (.Call (.Name "reversed" p2) [e] [] pos2) X.env)] := by rfl) :
    PE X (.Call (.Name "list" p1) [.Call (.Name "reversed" p2) [e] [] pos2] [] pos) (tRev X.K te) := by
  intro pins s σ H Q I h
  refine wpAny_Call_Name_kw (ld_blt I hg1 hm1 bt_list ?_)
  refine PyProof.Rows.callWith_type1 ?_ hs2 rfl
  rw [hs2]
  show wpAny _ _ (spliced ((false, eval (.Call (.Name "reversed" p2) [e] [] pos2) X.env) :: backTo pos [])) _ _ s
  refine Calls.spliced_cons (wpAny_Call_Name_kw (ld_blt I hg2 hm2 bt_reversed (PyProof.Rows.callWith_type1 ?_ hs rfl)))
  refine thn (pa_cons he pa_nil hs pos2 pins s σ H (fun vs H1 => ∃ l ys, vs = [.ref l] ∧ SqL X.K H1 l ys ∧ ∀ p, H1 p = none → Q (.ref p) (upd H1 p (.lst ys.reverse))) I (tRev_args h)) fun us s1 ⟨vs, H1, I1, r1, l, ys, hv, hl, q⟩ => ?_
  subst hv
  obtain ⟨u, rfl, ru⟩ := vals1 r1
  cases (show u = Value.ref l from ru)
  obtain ⟨its, rv, pl, hz⟩ := I1.list hl
  have hlen := rv.length
  refine call_reversed_list pl.isList ?_
  show wpAny _ _ (spliced (backTo pos [])) _ _ _
  refine Calls.spliced_nil ?_
  have hlt : l < s1.heap.objs.size := by obtain ⟨o, e, _⟩ := pl.isList; exact Heap.lt_size e
  refine list_of_rev (it := s1.heap.objs.size) (l := l) (items := its.toArray) (I1.ok.hd hc) (ne_nat (.inl hlt)) ⟨_, Heap.get?_push_size _ rfl, rfl, rfl⟩ (pl.isList.push _) (by simp; omega) fun h' tk acc' c' hk hD hacc => ?_
  have up : ∀ b o, s1.heap.get? b = some o → h'.get? b = some o := fun b o e => hk b o (ne_nat (.inl (Heap.lt_size e))) (Heap.get?_push_of_some _ e)
  have hsz : (s1.heap.push (revObj l ((its.toArray.size : Int) - 1))).objs.size = s1.heap.objs.size + 1 := Heap.size_push ..
  have hge : s1.heap.objs.size ≤ (s1.heap.push (revObj l ((its.toArray.size : Int) - 1))).objs.size := by rw [hsz]; exact Nat.le_succ _
  have fr := I1.hok.fresh hge
  refine ⟨.ref _, _, I1.laid (o := .lst ys.reverse) (t' := tk) up hge ⟨by simpa using hz, acc'.toList, c', ?_, by simpa using hD⟩, rfl, q _ fr⟩
  have hs' := hacc.1
  have hs2 : its.toArray.size = its.length := by simp
  refine vals_of_get (by simp; omega) fun i x u e1 e2 => ?_
  have e3 := hacc.2 i u (by simpa using e2)
  have hi : i < ys.length := by
    have := (List.getElem?_eq_some_iff.mp e1).1
    simpa using this
  rw [List.getElem?_reverse hi] at e1
  obtain ⟨u', e4, r4⟩ := rv.get e1
  have e5 : its[its.toArray.size - 1 - i]? = some u := by simpa using e3
  rw [hs2, ← hlen] at e5
  rw [e5] at e4
  cases e4
  exact r4
end
end L2
namespace L2
open PySem PySem.Spec PyProof.Rows
/-! # the same rules, the written part by its name (for blocks) -/
section
variable {X : Cx} {K : PySem.W.Frag}
theorem ix_listK (hK : X.K = K) : IxR X (rIxL K) := hK ▸ ix_list
theorem ix_tupK (hK : X.K = K) : IxR X (rIxT K) := hK ▸ ix_tup
theorem ix_seqK (hK : X.K = K) : IxR X (rIx K) := hK ▸ ix_seq
theorem op_in_seqK (hK : X.K = K) : OpR X (compareOp .In) (rIn K false) := hK ▸ op_in_seq
theorem op_notIn_seqK (hK : X.K = K) : OpR X (compareOp .NotIn) (rIn K true) := hK ▸ op_notIn_seq
theorem call_len_seqK (hK : X.K = K) : CallR X (.builtin "len") (fun xs H Q => ∃ p ys, xs = [.ref p] ∧ (SqL K H p ys ∨ SqT K H p ys) ∧ Q (.int ys.length) H) := hK ▸ call_len_seq
theorem call_list_ofK (hK : X.K = K) : CallR X (.type "list") (fun xs H Q => ∃ p ys, xs = [.ref p] ∧ (SqL K H p ys ∨ SqT K H p ys) ∧ ∀ l, H l = none → Q (.ref l) (upd H l (.lst ys))) := hK ▸ call_list_of
theorem sl_listK (hK : X.K = K) : SlR X (rSlL K) := hK ▸ sl_list
end
end L2
namespace L2
open PySem PySem.Spec PyProof.Rows
theorem tcomp_list {K : PySem.W.Frag} {tl : TE} {js : List Nat} {tc : TT} {te : TE} {σ : St} {H : Hp} {Q : VK} (h : tl σ H fun x H1 => ∃ a, x = .ref a ∧ (∃ xs, SqL K H1 a xs) ∧ CompW (Itl K a) σ js tc te Q H1) : tComp (iList K tl) js tc te σ H Q := h
theorem tcomp_range1 {ta : TA} {js : List Nat} {tc : TT} {te : TE} {σ : St} {H : Hp} {Q : VK} (h : ta σ H fun vs H1 => ∃ j : Int, vs = [.int j] ∧ -(2 ^ 62) ≤ j ∧ j < 2 ^ 62 ∧ CompW (Itr 0 j.toNat) σ js tc te Q H1) : tComp (iRng1 ta) js tc te σ H Q := h
theorem tcomp_range2 {ta : TA} {js : List Nat} {tc : TT} {te : TE} {σ : St} {H : Hp} {Q : VK} (h : ta σ H fun vs H1 => ∃ i j : Int, vs = [.int i, .int j] ∧ (-(2 ^ 62) ≤ i ∧ i < 2 ^ 62 ∧ -(2 ^ 62) ≤ j ∧ j < 2 ^ 62) ∧ CompW (Itr i (j - i).toNat) σ js tc te Q H1) : tComp (iRng2 ta) js tc te σ H Q := h
end L2
namespace L2
open PySem PySem.Spec PyProof.Rows
theorem rd_seq {t u : TS} {D : Ends} {σ : St} {H : Hp} (h : t { D with nx := u D } σ H) : tSeq t u D σ H := h
theorem rd_asg {te : TE} {g : TG} {D : Ends} {σ : St} {H : Hp} (h : te σ H fun x H1 => g x σ H1 D.nx) : tAsg te g D σ H := h
theorem rd_ret {te : TE} {D : Ends} {σ : St} {H : Hp} (h : te σ H D.rt) : tRet te D σ H := h
theorem rd_call {sp : Sp} {dvs : List V} {E : XK} {t : TA} {σ : St} {H : Hp} {Q : VK} (h : t σ H fun vs H1 => sp (vs ++ dvs) H1 Q E) : tCall sp dvs E t σ H Q := h
theorem rd_cons {ta : TE} {tr : TA} {σ : St} {H : Hp} {Q : List V → Hp → Prop} (h : ta σ H fun x H1 => tr σ H1 fun xs H2 => Q (x :: xs) H2) : tCons ta tr σ H Q := h
end L2

namespace L2
open PySem PySem.Spec PyProof.Rows
/-! # enumerate, index, insert, setdefault -/
section
variable {X : Cx}
theorem eqGives_V {y x : V} {u v : Value} (ry : RelV y u) (rx : RelV x v) (fy : flatV y = true) (fx : flatV x = true) : MeetsSeq.EqGives u v (eqV y x) :=
  fun prog w A E s Q h => eqAt_V (A := A) (s := s) ry rx fy fx prog w E Q h
def rIndex : V → List V → Hp → VK → Prop := fun x vs H Q => ∃ (l : Addr) (xs : List V) (y : V) (j : Nat), x = .ref l ∧ vs = [y] ∧ H l = some (.lst xs) ∧ flatV y = true ∧ xs.all flatV = true ∧ j < xs.length ∧ eqV (xs.getD j .non) y = true ∧ (∀ m, m < j → eqV (xs.getD m .non) y = false) ∧ Q (.int j) H
theorem mt_index : MtM X "list.index" rIndex := by
  intro pins s σ H x vs v us Q I rx rv h
  obtain ⟨l, xs, y, j, rfl, rfl, hH, fy, fs, hj, hit, hno, q⟩ := h
  cases rx
  obtain ⟨u, rfl, ru⟩ := rv.one
  obtain ⟨z, its, n, r, hl, e⟩ := I.lstM hH
  have hlen := r.length
  have gets : ∀ m (hm : m < its.toArray.size), eqU y its.toArray[m] = eqV (xs.getD m .non) y := fun m hm => by
    have hm' : m < its.length := by simpa using hm
    have hx : m < xs.length := by omega
    obtain ⟨w', e1, e2⟩ := r.get (i := m) (x := xs[m]) (by simp [hx])
    have g1 : its.toArray[m] = w' := by simp; rw [List.getElem?_eq_getElem hm'] at e1; exact Option.some.inj e1
    have d1 : xs.getD m .non = xs[m] := by simp [hx]
    rw [g1, d1]
    exact eqU_of e2 (List.all_eq_true.mp fs _ (List.getElem_mem hx))
  have hmem : ∀ w', w' ∈ its.toArray → MeetsSeq.EqGives w' u (eqU y w') := fun w' hw => by
    have hw' : w' ∈ its := by simpa using hw
    obtain ⟨m, hm, e1⟩ := List.mem_iff_getElem.mp hw'
    have hx : m < xs.length := by omega
    obtain ⟨w2, e2, e3⟩ := r.get (i := m) (x := xs[m]) (by simp [hx])
    have : w2 = w' := by rw [List.getElem?_eq_getElem hm, e1] at e2; exact (Option.some.inj e2).symm
    subst this
    have fm : flatV xs[m] = true := List.all_eq_true.mp fs _ (List.getElem_mem hx)
    rw [eqU_of e3 fm]
    exact eqGives_V e3 ru fm fy
  have hjs : j < its.toArray.size := by simp; omega
  have hline := line63
  refine call_meets F.slot_list_index ⟨_, e, rfl⟩ F.entry_list_index (F.args_list_index_2 _ _)
    (MeetsSeq.list_index l its.toArray n u (eqU y) hmem j hjs (Int.lt_trans (show (j : Int) < 16777216 by have := sizeLine_eq; omega) (by decide)) (by rw [gets j hjs]; exact hit) (fun m hm hlt => by rw [gets m hm]; exact hno m hlt)) ⟨e, ?_⟩
  exact ⟨.int j, H, I.tok _, ⟨_, rfl⟩, q⟩
def rInsert : V → List V → Hp → VK → Prop := fun x vs H Q => ∃ (l : Addr) (xs : List V) (i : Nat) (y : V), x = .ref l ∧ vs = [.int i, y] ∧ H l = some (.lst xs) ∧ i ≤ xs.length ∧ xs.length < sizeLine ∧ Q .non (upd H l (.lst (xs.take i ++ y :: xs.drop i)))
theorem mt_insert : MtM X "list.insert" rInsert := by
  intro pins s σ H x vs v us Q I rx rv h
  obtain ⟨l, xs, i, y, rfl, rfl, hH, hi, hz, q⟩ := h
  cases rx
  obtain ⟨u, w', rfl, ru, rw'⟩ := rv.two
  obtain ⟨t, rfl⟩ := ru
  obtain ⟨z, its, n, r, hl, e⟩ := I.lstM hH
  have hlen := r.length
  have hs := sizeLine_eq
  have hi2 : (i : Int) < 16777216 := by rw [hs] at hz; omega
  have hfit : ¬ (!Builtin.List.listFitsIndex (i : Int)) = true := by
    have : Builtin.List.listFitsIndex (i : Int) = true := fitsIndex_both (Int.le_trans (by decide) (Int.natCast_nonneg i)) (Int.lt_trans hi2 (by decide))
    rw [this]; decide
  have hsz : its.toArray.size ≤ sizeLine := by rw [List.size_toArray]; omega
  have h0 : ¬ ((i : Int) < 0) := by omega
  have h1 : min (i : Int).toNat its.toArray.size = i := by simp; omega
  revert hfit h0 h1
  generalize (i : Int) = xi
  intro hfit h0 h1
  refine call_meets F.slot_list_insert ⟨_, e, rfl⟩ F.entry_list_insert (F.args_list_insert_3 _ _ _) (AutoSeq1.list_insert_list_int_val_1 l its.toArray n xi t w' hfit hsz) ⟨e, ?_⟩
  refine ⟨.non, _, I.lset (its' := its.take i ++ w' :: its.drop i) hH e ?_ ((r.take i).append (.cons rw' (r.drop i))) ?_, rfl, q⟩
  · show (_ : Array Value) = _
    simp only [h0, if_false, h1]
    apply Array.ext'
    simp
    exact List.take_of_length_le (by simp)
  · simp; omega
/-- d.setdefault(y, z) -/
def tDSet (td ty tx : TE) : TE := fun σ H Q => td σ H fun x H1 => ∃ a, x = .ref a ∧ IsD H1 a ∧ ty σ H1 fun y H2 => tx σ H2 fun z H3 => ∃ (kvs : List (Key × V)) (k : Key), H3 a = some (.dK kvs) ∧ y = kV k ∧ kvs.length < sizeLine ∧
  (∀ v, valV kvs k = some v → Q v H3) ∧ (valV kvs k = none → Q z (upd H3 a (.dK (putK kvs k z))))
variable {o e f : Expr} {td ty tx : TE} {apos cpos : Pos}
theorem pe_dsetdef (ho : PE X o td) (he : PE X e ty) (hf : PE X f tx) (m : M2 X o "setdefault" apos e f cpos) : PE X (.Call (.Attribute o "setdefault" apos) [e, f] [] cpos) (tDSet td ty tx) := by
  intro pins s σ H Q I h
  refine wpAny_Call_method m.base m.few m.line PySem.F.plainAttrs_dict PySem.F.slot_dict_setdefault PySem.F.type_dict_setdefault (thn (ho pins s σ H _ I h) fun u s1 ⟨x, H1, I1, rx, a, ex, d, q1⟩ => ?_)
  subst ex
  obtain rfl : u = Value.ref a := rx
  obtain ⟨t1, t2, _⟩ := isD_at I1 d
  refine ⟨t1, t2, ?_⟩
  rw [m.trees]
  refine Calls.callWith_builtin rfl (Calls.evalArgs_plain (Calls.spliced_cons (thn (he pins s1 σ H1 _ I1 q1) fun iv s2 ⟨y, H2, I2, ry, q2⟩ =>
    Calls.spliced_cons (thn (hf pins s2 σ H2 _ I2 q2) fun fv s3 ⟨z, H3, I3, rz, kvs, k, hd, ey, hl, qs, qn⟩ => Calls.spliced_nil ?_))))
  subst ey
  obtain ⟨hz, lo, vs, rel, dd⟩ := dk_of I3.hok hd
  refine call_meetsIn PySem.F.slot_dict_setdefault dd.typeIs PySem.F.entry_dict_setdefault (PySem.F.args_dict_setdefault_3 _ _ _) (PySem.kt_meets_setdefault (mixKind X.prog X.w) a (kV_is ry) lo fv) ⟨vs, dd, by rw [← rel.length]; exact hz, fun v' hv => ?_, fun hn h' dd' hs => ?_⟩
  · have r1 := rel.val k
    rw [hv] at r1
    cases e1 : valV kvs k with
    | none => rw [e1] at r1; exact r1.elim
    | some v => rw [e1] at r1; exact ⟨v, H3, I3.tok _, r1, qs v e1⟩
  · have r1 := rel.val k
    rw [hn] at r1
    have e1 : valV kvs k = none := by
      cases e1 : valV kvs k with
      | none => rfl
      | some v => rw [e1] at r1; exact r1.elim
    have he2 : ∃ q, h'.get? a = some q := let ⟨q, _, _, hq, _⟩ := dd'; ⟨q, hq⟩
    have hl2 : (putK kvs k z).length ≤ sizeLine := by have := length_putK kvs k z; omega
    exact ⟨z, _, d_write I3 (by rw [hd]; exact True.intro) hs he2 (dk_new hl2 lo (rel.put k rz) dd'), rz, qn e1⟩
end
section
variable {X : Cx}
/-- xs[i], 0 ≤ i, by values -/
def rGetL (K : PySem.W.Frag) : V → V → Hp → VK → Prop := fun x y H Q => ∃ (p : Addr) (xs : List V) (i : Nat) (v : V), x = .ref p ∧ y = .int i ∧ SqL K H p xs ∧ xs[i]? = some v ∧ Q v H
theorem get_list : PGet X (rGetL X.K) := by
  intro pins s σ H o i ov iv Q I ro ri h
  obtain ⟨p, xs, k, v, rfl, rfl, hq, hx, q⟩ := h
  cases ro
  obtain ⟨t, rfl⟩ := ri
  obtain ⟨its, r, pl, hz⟩ := I.list hq
  obtain ⟨w', ew, rw'⟩ := r.get hx
  have hk : k < xs.length := (List.getElem?_eq_some_iff.mp hx).1
  have hn := line63
  exact wpAny_getItem_list pl.isList (Int.natCast_nonneg k) (by omega) (by simpa using ew) ⟨v, H, I, rw', q⟩
end
/-! ### enumerate(xs), two names -/
/-- the list at a, by pairs (its number, its item) -/
def Ite (K : PySem.W.Frag) (a : Addr) : It :=
  ⟨fun i H => ∃ xs x, SqL K H a xs ∧ xs[i]? = some x, fun i H y H' => ∃ x p, (∀ xs, SqL K H a xs → xs[i]? = some x) ∧ H p = none ∧ y = .ref p ∧ H' = upd H p (.tup [.int i, x]), fun i H => ∃ xs, SqL K H a xs ∧ xs.length ≤ i⟩
theorem turn_enum {P : Program} {w : World} {K : PySem.W.Frag} {elts : List Expr} {k1} {tpos : Pos} (a e it : Addr) (hne : e ≠ it) :
    Turn P w K (.Tuple elts k1 tpos) (Ite K a) [e, it] e (fun i h => (∃ old, IsEnum h e it (i : Int) old) ∧ h.IsListIter it a i) where
  mem := by simp
  obj := fun i h st b hb => by
    obtain ⟨⟨old, he⟩, o, e1, c, d⟩ := st
    have hb' : b = e ∨ b = it := by simpa using hb
    rcases hb' with z | z
    · subst z; exact ⟨_, he, fun v z => by cases z⟩
    · subst z; exact ⟨o, e1, fun v z => by rw [d] at z; cases z⟩
  keep := fun i h h' st k => ⟨let ⟨old, he⟩ := st.1; ⟨old, k e (by simp) _ he⟩, st.2.at fun o e1 => k it (by simp) o e1⟩
  item := by
    intro X hP hw hK hc i pins s σ H E I hf st hg
    subst hP hw hK
    obtain ⟨xs, x, hq, hx⟩ := hg
    obtain ⟨its, rv, p, hz⟩ := I.list hq
    obtain ⟨u, hu, ru⟩ := rv.get hx
    obtain ⟨⟨old, he⟩, hit⟩ := st
    refine wpAny_pyNext_enum_item he hit p.isList (x := u) (by simpa using hu) hne fun h' ho hit' hT hsz hk => ⟨_, rfl, ?_⟩
    refine wpAny_letOwnedTupleGo_enum ho fun h2 he2 hs2 => ?_
    have fr : H s.heap.objs.size = none := I.hok.fresh (Nat.le_refl _)
    have hel : e < s.heap.objs.size := Heap.lt_size he
    have keep : ∀ b o, b ∉ [e, it] → s.heap.get? b = some o → h2.get? b = some o := fun b o hb e1 => by
      have h1 : b ≠ e := fun z => hb (by simp [z])
      have h3 : b ≠ it := fun z => hb (by simp [z])
      exact (hs2.2 b h1).trans (hk b o h1 h3 e1)
    have nf : ∀ b u, H b = some u → b ∉ [e, it] := fun b u e1 z => by rw [(hf b z).1] at e1; cases e1
    have hnew : h2.get? s.heap.objs.size = some { cls := .type "tuple", data := .seq #[.int i s.toks, u] } := (hs2.2 _ (ne_nat (.inr hel))).trans hT
    have Inew : Inv X pins σ (upd H s.heap.objs.size (.tup [.int i, x])) { s with heap := h2, toks := s.toks + 1 } := by
      refine I.step (g' := s.gens) (d' := s.drawn) (ch := [e, it]) (fun b hb => ?_) (fun b o _ _ hc e1 _ => keep b o hc e1) (fun b o _ _ hc e1 _ => ⟨o.slots, keep b o hc e1⟩) (fun b o _ e1 n => ?_)
        (fun b o hc e1 => ⟨o, keep b o hc e1⟩) (fun b ys e1 => ?_) (fun b o u' e1 => ?_) (fun b ps e1 => ?_) (fun m hm => ?_) (fun b ob e1 => ?_) I.bare
      · obtain ⟨f0, f1, f2, f3, f4, f5⟩ := hf b hb
        exact ⟨f3, f1, f4, f5⟩
      · rw [upd_ne (ne_nat (.inl (Heap.lt_size e1)))]; exact n
      · rw [upd_ne (ne_of_none e1 fr)]; exact e1
      · rw [upd_ne (ne_of_none e1 fr)]; exact e1
      · exact ⟨#[], by rw [upd_ne (ne_of_none e1 fr), e1]; simp⟩
      · obtain ⟨o, es, ep, h1, r⟩ := hm
        exact ⟨o, es, ep, keep _ o (fun z => (hf _ z).2.1 rfl) h1, r⟩
      · by_cases hb : b = s.heap.objs.size
        · subst hb
          rw [upd_same] at e1; cases e1
          exact ⟨len2, [.int i s.toks, u], .cons ⟨_, rfl⟩ (.cons ru .nil), _, hnew, rfl, _, rfl⟩
        · rw [upd_ne hb] at e1
          refine (I.hok b ob e1).stay (fun c v hcc q => keep c v ?_ q) (fun c q => by rw [upd_ne (ne_of_none q fr)]; exact q) fun c ys q => by rw [upd_ne (ne_of_none q fr)]; exact q
          rcases hcc with z | z
          · rw [z]; exact nf b ob e1
          · exact nf c _ z
    refine ⟨.ref s.heap.objs.size, _, Inew, rfl, ⟨x, _, fun ys hy => by rw [I.list_inj hy hq]; exact hx, fr, rfl, rfl⟩, ⟨⟨u, by simpa using he2⟩, hit'.at fun o e1 => (hs2.2 it hne.symm).trans e1⟩, fun b hb => ?_⟩
    have hb2 : b ≠ s.heap.objs.size := fun z => by
      have hb' : b = e ∨ b = it := by simpa using hb
      rcases hb' with y | y
      · rw [← y, z] at hel; exact Nat.lt_irrefl _ hel
      · obtain ⟨o, e1, _⟩ := hit
        have := Heap.lt_size e1
        rw [← y, z] at this; exact Nat.lt_irrefl _ this
    rw [upd_ne hb2]; exact (hf b hb).1
  done := by
    intro X hP hw hK hc i pins s σ H E I hf st hg
    subst hP hw hK
    obtain ⟨xs, hq, hx⟩ := hg
    obtain ⟨its, rv, p, hz⟩ := I.list hq
    obtain ⟨f0, f1, f2, f3, f4, f5⟩ := hf it (by simp)
    have hl := rv.length
    obtain ⟨⟨old, he⟩, hit⟩ := st
    exact wpAny_pyNext_enum_end (I.ok.hd hc) he hit p.isList (by simp; omega) fun h' eb => ⟨rfl, I.turned (t' := s.toks) (fun b o hb e => eb b o hb e) f0 f1 f3 f4 f5⟩
  self := fun _ _ _ _ _ st h => let ⟨_, he⟩ := st.1; wpAny_pyIter_enum he h
theorem bt_enumerate : bootBuiltins "enumerate" = some (.type "enumerate") := by decide +kernel
section
variable {X : Cx} {elts : List Expr} {k1} {tpos : Pos}
def iEnum (K : PySem.W.Frag) (tl : TE) : TI := fun σ H R => tl σ H fun x H1 => ∃ a, x = .ref a ∧ (∃ xs, SqL K H1 a xs) ∧ R (Ite K a) H1
theorem iEnum_args {K : PySem.W.Frag} {tl : TE} {σ : St} {H : Hp} {R : It → Hp → Prop} (h : iEnum K tl σ H R) : tCons tl tNil σ H (fun vs H1 => ∃ a, vs = [V.ref a] ∧ (∃ xs, SqL K H1 a xs) ∧ R (Ite K a) H1) := by
  unfold iEnum at h
  unfold tCons tNil
  have e : (fun (x : V) (H1 : Hp) => ∃ a, [x] = [V.ref a] ∧ (∃ xs, SqL K H1 a xs) ∧ R (Ite K a) H1) = (fun (x : V) (H1 : Hp) => ∃ a, x = V.ref a ∧ (∃ xs, SqL K H1 a xs) ∧ R (Ite K a) H1) := by
    funext x H1; simp
  rw [e]; exact h
theorem pi_enum {l : Expr} {tl : TE} {p pos : Pos} (hm : X.mg "enumerate" = none) (hl : PE X l tl) (hg : Gl X "enumerate" := by rfl) (hs : starEach [l] X.env = [(false, eval l X.env)] := by rfl) :
    PI X (.Tuple elts k1 tpos) (.Call (.Name "enumerate" p) [l] [] pos) (iEnum X.K tl) := by
  intro pins s σ H R I h
  refine Call_ (ld_blt I hg hm bt_enumerate (PyProof.Rows.callWith_type1 (thn (pa_cons hl pa_nil hs pos pins s σ H _ I (iEnum_args h)) fun us s1 ⟨vs, H1, I1, r1, a, ev, ⟨xs, hq⟩, q⟩ => ?_) hs rfl))
  subst ev
  obtain ⟨u, rfl, ru⟩ := vals1 r1
  cases (show u = Value.ref a from ru)
  obtain ⟨its, rv, pl, hz⟩ := I1.list hq
  refine call_enumerate_list pl.isList fun h' he hit hsz hk => ?_
  refine wpAny_pyIter_enum he ?_
  refine ⟨s1.heap.objs.size + 1, [s1.heap.objs.size + 1, s1.heap.objs.size], _, _, H1, rfl, I1.kept (t' := s1.toks) hk, turn_enum a _ _ (ne_nat (.inr (Nat.lt_succ_self _))), ⟨⟨_, he⟩, hit⟩, fun b hb => ?_, q⟩
  have hb' : b = s1.heap.objs.size + 1 ∨ b = s1.heap.objs.size := by simpa using hb
  have hge : s1.heap.objs.size ≤ b := by
    rcases hb' with z | z
    · rw [z]; exact Nat.le_succ _
    · exact Nat.le_of_eq z.symm
  exact I1.fpOk hge (I1.hok.fresh hge)
end
theorem for_enum {K : PySem.W.Frag} {a : Addr} {xs : List V} {g : TG} {tb : TS} {D : Ends} {σ : St} {H : Hp} (Pv : Nat → St → Hp → Prop) (h0 : Pv 0 σ H) (hl : ∀ i σ H, i ≤ xs.length → Pv i σ H → SqL K H a xs)
    (hs : ∀ i x σ H p, xs[i]? = some x → Pv i σ H → H p = none → g (.ref p) σ (upd H p (.tup [.int i, x])) fun σ2 H2 => tb { D with nx := Pv (i + 1), ct := Pv (i + 1), bk := D.nx } σ2 H2) (hd : ∀ σ H, Pv xs.length σ H → D.nx σ H) :
    ∃ W : Nat → Nat → St → Hp → Prop, (∃ m, W 0 m σ H) ∧ ∀ i m σ H, W i m σ H →
      ((Ite K a).stop i H ∧ D.nx σ H) ∨ ((Ite K a).go i H ∧ ∃ N : St → Hp → Prop, (∀ σ' H', N σ' H' → ∃ m', m' < m ∧ W (i + 1) m' σ' H') ∧ ∀ x H', (Ite K a).yld i H x H' → g x σ H' fun σ2 H2 => tb { D with nx := N, ct := N, bk := D.nx } σ2 H2) := by
  refine ⟨fun i m σ H => m = xs.length - i ∧ i ≤ xs.length ∧ Pv i σ H, ⟨xs.length, by simp, Nat.zero_le _, h0⟩, ?_⟩
  rintro i m σ H ⟨rfl, hi, p⟩
  have q := hl i σ H hi p
  by_cases hlt : i < xs.length
  · refine .inr ⟨⟨xs, xs[i], q, by simp [hlt]⟩, Pv (i + 1), fun σ' H' p' => ⟨xs.length - (i + 1), by omega, rfl, hlt, p'⟩, fun x H' y => ?_⟩
    obtain ⟨x', p', y1, y2, y3, y4⟩ := y
    subst y3 y4
    exact hs i x' σ _ p' (y1 xs q) p y2
  · have e : i = xs.length := by omega
    subst e
    exact .inl ⟨⟨xs, q, Nat.le_refl _⟩, hd σ H p⟩
end L2

/-! # EXCEPTIONS of an own class: raised in a def, caught by its caller -/
namespace L2
open PySem PySem.Spec PyProof.Rows
section
variable {P : Program} {w : World} {H H' : Hp} {h h' B : Heap} {fs : List Addr}
theorem HOk.keptT (x : HOk P w H h) (k : ∀ b u, H b ≠ none → h.get? b = some u → h'.get? b = some u) : HOk P w H h' := fun a o e =>
  (x a o e).stay (fun b u hb q => k b u (by
    rcases hb with z | z
    · rw [z, e]; simp
    · rw [z]; simp) q) (fun _ q => q) fun _ _ q => q
/-- what a call that raises has done, told by the heap B that stays -/
structure UnB (fs : List Addr) (H H' : Hp) (h B : Heap) : Prop where
  keep : ∀ b o, h.get? b = some o → H b = none → b ∉ fs → B.get? b = some o
  free : ∀ b o, h.get? b = some o → H b = none → H' b = none
  there : ∀ b o, h.get? b = some o → b ∉ fs → ∃ o', B.get? b = some o'
  tups : ∀ b xs, H b = some (.tup xs) → H' b = some (.tup xs)
  frzs : ∀ b o u, H b = some (.frz o u) → H' b = some (.frz o u)
  tbls : ∀ b ps, H b = some (.tbl ps) → ∃ more, H' b = some (.tbl (ps ++ more))
theorem UnB.un (u : UnB fs H H' h B) (k : B.StaysIn h') (sl : ∀ b o, b ∈ fs → h.get? b = some o → ∃ sl, h'.get? b = some { o with slots := sl }) : Un fs [] H H' h h' :=
  ⟨fun b o e n hb _ => k b o (u.keep b o e n hb), fun b o e _ hb _ => sl b o hb e, fun b o e n _ => u.free b o e n, fun b o e _ => by
    by_cases hb : b ∈ fs
    · obtain ⟨s, q⟩ := sl b o hb e; exact ⟨_, q⟩
    · obtain ⟨o', q⟩ := u.there b o e hb; exact ⟨o', k b o' q⟩, u.tups, u.frzs, u.tbls⟩
end
/-- how an exception of an own class lies behind a call -/
def Fly (P : Program) (w : World) : CXT := fun outer H s E e s' => ∃ (a C t : Addr) (H' : Hp) (B : Heap), e = .ref a ∧ s'.os = s.os ∧ AllBare s'.gens ∧ UnB (frs outer) H H' s.heap B ∧ HOk P w H' B ∧
  Heap.FlyingW B outer a (.ref C) (.ref t) s'.heap ∧ (∀ b o, b ∈ frs outer → s.heap.get? b = some o → ∃ sl, s'.heap.get? b = some { o with slots := sl }) ∧ E (.ref C) none H'
theorem leave_fly {P : Program} {w : World} {K : PySem.W.Frag} {mg : Str → Option Value} {base : Heap} {N : List Str} {qual : Str} {scope : Scope} {f : Addr} {cd : Value} {A : Around} {outer : List Env} {s : Shared} {H : Hp} {E : XK}
    {pins : List (Addr × Obj)} {σ : St} {H1 : Hp} {s1 : Shared} {h' : Heap} {e C : Addr} {vs : List Value} (I : Inv (cxOf (Fly P w) P w K mg base N qual scope f cd A outer s H E) pins σ H1 s1) (hx : Heap.MadeExcOf s1.heap h' e (.ref C) vs) (q : E (.ref C) none H1) :
    (cxOf (Fly P w) P w K mg base N qual scope f cd A outer s H E).xe (.ref e) { s1 with heap := h' } := by
  have hin : ∀ env ∈ (envOfC qual scope s.heap.objs.size f cd :: outer), ∀ b, env.frame = some b → b ∈ frs (envOfC qual scope s.heap.objs.size f cd :: outer) := fun env he b hb => List.mem_filterMap.mpr ⟨env, he, hb⟩
  have hst : s1.heap.FunFrames base (envOfC qual scope s.heap.objs.size f cd :: outer) := I.stack
  have hsz : s.heap.objs.size ≤ s1.heap.objs.size := I.sz
  refine wpAny_leaves_madeW (base := PySem.W.hideAll s1.heap (frs (envOfC qual scope s.heap.objs.size f cd :: outer))) (h := s1.heap) (L := s.heap.objs.size) (outer := outer) I.ok.frames rfl (fun b o q => PySem.W.of_hideAll _ q) (PySem.W.funFrames_hide hst hin) hx fun h2 t fl _ _ up => ?_
  have hfs : ∀ b, b ∈ frs (envOfC qual scope s.heap.objs.size f cd :: outer) → b = s.heap.objs.size ∨ b ∈ frs outer := fun b hb => by
    have := I.stkSub b hb
    exact List.mem_cons.mp this
  refine ⟨e, C, t, H1, _, rfl, I.os, I.bare, ⟨fun b o e0 n hb => ?_, fun b o e0 n => I.base.free b o e0 n (fun z => nomatch z), fun b o e0 hb => ?_, I.base.tups, I.base.frzs, I.base.tbls⟩, ?_, fl, fun b o hb e0 => ?_, q⟩
  · refine PySem.W.hideAll_get _ (I.base.keep b o e0 n hb (fun z => nomatch z)) fun z => ?_
    rcases hfs b z with y | y
    · rw [y] at e0; exact absurd (Heap.lt_size e0) (Nat.lt_irrefl _)
    · exact hb y
  · obtain ⟨o', e1⟩ := I.base.there b o e0 (fun z => nomatch z)
    refine ⟨o', PySem.W.hideAll_get _ e1 fun z => ?_⟩
    rcases hfs b z with y | y
    · rw [y] at e0; exact absurd (Heap.lt_size e0) (Nat.lt_irrefl _)
    · exact hb y
  · exact I.hok.keptT fun b u hn e0 => PySem.W.hideAll_get _ e0 fun z => hn (I.stkFree b z)
  · have hn : H b = none := I.ok.frf b hb
    obtain ⟨sl, e1⟩ := I.base.slot b o e0 hn hb (fun z => nomatch z)
    obtain ⟨_, o2, e2, hd⟩ := I.funs.mem hb
    rw [e1] at e2
    have e3 := Option.some.inj e2
    obtain ⟨sl2, e4⟩ := up b _ (hx.keeps b _ e1) (fun vs z => hd vs (by rw [← e3]; exact z))
    exact ⟨sl2, e4⟩
/-- raise C(e): C an own class -/
def tRaise (C : Addr) (E : XK) (te : TE) : TS := fun _ σ H => te σ H fun _ H1 => E (.ref C) none H1
theorem ps_raise {P : Program} {w : World} {K : PySem.W.Frag} {mg : Str → Option Value} {base : Heap} {N : List Str} {qual : Str} {scope : Scope} {f : Addr} {cd : Value} {A : Around} {outer : List Env} {s : Shared} {H : Hp} {E : XK}
    {x : Str} {C : Addr} {B newId initId : String} {bm : List Value} {np cpos pos : Pos} {e₀ : Expr} {te : TE} (O : OwnCls x C bm newId mg base) (FB : ExcBaseFacts B newId initId bm)
    (ha : PE (cxOf (Fly P w) P w K mg base N qual scope f cd A outer s H E) e₀ te) (hg : Gl (cxOf (Fly P w) P w K mg base N qual scope f cd A outer s H E) x := by rfl) (hd : (x == ("__debug__" : Str)) = false := by decide)
    (he : starEach [e₀] (envOfC qual scope s.heap.objs.size f cd) = [(false, eval e₀ (envOfC qual scope s.heap.objs.size f cd))] := by rfl) :
    PS (cxOf (Fly P w) P w K mg base N qual scope f cd A outer s H E) (.Raise (some (.Call (.Name x np) [e₀] [] cpos)) none pos) (tRaise C E te) := by
  intro pins s1 σ H1 D I h
  obtain ⟨tl, Nn, nm, q, bs, hdct, sn, sub, ab, col, dd, k0, k1, k2, k3, k5, mN, hC, hN, hni, T⟩ := O.obj
  refine wpAny_Raise_call_subT (C := C) (nm := nm) (q := q) (N := Nn) (bs := bs) (bm := tl) (hdct := hdct) (sn := sn) (sub := sub) (ab := ab) (col := col) (dd := dd) (k0 := k0) (k1 := k1) (k2 := k2) (k3 := k3) (k5 := k5)
    FB (mN := mN) (T.hasType FB.hasBase) (I.ok.hd rfl) (by show (backTo cpos (starEach [e₀] (envOfC qual scope s.heap.objs.size f cd))).any (·.1) = false; rw [he]; rfl) hni (ld_glob I hg O.bound ⟨rfl, ?_⟩ hd)
  show wpAny _ _ (evalArgs _ _ (backTo cpos (starEach [e₀] (envOfC qual scope s.heap.objs.size f cd))) _) _ _ _
  rw [he]
  refine Calls.evalArgs_plain ?_
  refine Calls.spliced_cons (thn (ha pins s1 σ H1 _ I h) fun v s2 ⟨y, H2, I2, r, q2⟩ => Calls.spliced_nil ?_)
  exact ⟨rfl, (by show 1 ≤ sizeLine; decide), I2.bk _ _ hC, hN.keeps I2.bk, T.keeps I2.bk, fun h' e hm => leave_fly I2 hm q2⟩
/-- an exception of the class at C is caught by the class at D -/
def Catches (base : Heap) (C D : Addr) : Prop := ∀ (M : Model) (A : Around) (E : Value → Shared → Prop) (s : Shared) (e : Addr) (oe : Obj) (Q : Bool → Shared → Prop), (∀ b o, base.get? b = some o → s.heap.get? b = some o) → s.heap.get? e = some oe → oe.cls = .ref C → Q true s →
  wpAny M A (excMatches (.ref e) (.ref D)) Q E s
theorem catches_self {x : Str} {C : Addr} {bm : List Value} {newId : String} {mg : Str → Option Value} {base : Heap} (O : OwnCls x C bm newId mg base) (hb : bm.contains (.type "BaseException") = true) : Catches base C C := by
  intro M A E s e oe Q k he hc q
  obtain ⟨tl, Nn, nm, qn, bs, hdct, sn, sub, ab, col, dd, k0, k1, k2, k3, k5, mN, hC, hN, hni, T⟩ := O.obj
  obtain ⟨h, g, d, t, os⟩ := s
  exact wpAny_excMatches_sub_self (k _ _ hC) he hc (T.hasType hb) q
theorem wpAny_excMatches_own {M : Model} {A : Around} {E : Value → Shared → Prop} {nm q : Str} {C N : Addr} {bs bm : List Value} {hdct : Bool} {sn : List Str} {sub : List Value} {ab : Bool} {col : Option Bool} {dd : Option Addr} {k0 k1 k2 k3 k5 : Option Value} {newId : String}
    {nm' q' : Str} {C' N' : Addr} {bs' bm' : List Value} {hdct' : Bool} {sn' : List Str} {sub' : List Value} {ab' : Bool} {col' : Option Bool} {dd' : Option Addr} {k0' k1' k2' k3' k5' : Option Value} {newId' : String}
    {h : Heap} {g : Array GenState} {d : Drawn} {t : Nat} {os : OsState} {e : Addr} {oe : Obj} {Q : Bool → Shared → Prop}
    (hC : h.get? C = some (excClassObj nm q C N bs bm hdct sn sub ab col dd k0 k1 k2 k3 k5 newId)) (hD : h.get? C' = some (excClassObj nm' q' C' N' bs' bm' hdct' sn' sub' ab' col' dd' k0' k1' k2' k3' k5' newId')) (he : h.get? e = some oe) (hcls : oe.cls = .ref C)
    (hbase : bm'.contains (.type "BaseException") = true) (hin : (Value.ref C :: bm).contains (.ref C') = true) (hq : Q true ⟨h, g, d, t, os⟩) : wpAny M A (excMatches (.ref e) (.ref C')) Q E ⟨h, g, d, t, os⟩ := by
  have hcB : (Value.ref C' :: bm').contains (.type "BaseException") = true := by rw [List.contains_cons, hbase, Bool.or_true]
  have f := tc_notTuple
  unfold excMatches
  repeat (first | (with_reducible refine wpAny_loadPart_at he ?_; rw [hcls]) | with_reducible refine wpAny_loadPart_at hC ?_ | with_reducible refine wpAny_loadPart_at hD ?_ | (with_reducible refine wpAny_isSubtype_exc hD ?_; rw [hcB]) | (with_reducible refine wpAny_isSubtype_exc hC ?_; rw [hin]) | wp_step)
  exact hq
/-- within an except suite -/
abbrev Cx.suite (X : Cx) (e : Addr) : Cx := { X with A := X.A.mark (some (.ref e)), calm := false, xe := fun _ _ => False }
theorem Inv.suite {X : Cx} {pins : List (Addr × Obj)} {σ : St} {H : Hp} {s : Shared} (I : Inv X pins σ H s) (e : Addr) : Inv (X.suite e) pins σ H s :=
  ⟨⟨I.ok.mod, I.ok.kind, I.ok.glob, I.ok.blt, I.ok.above, I.ok.inj, I.ok.has, I.ok.cab, (fun z => nomatch z), I.ok.frames, I.ok.stk, I.ok.exf, I.ok.bs, I.ok.bsz, I.ok.noex, I.ok.exfs, I.ok.funs, I.ok.frf⟩, I.os, I.bare, I.base, I.loc, I.cell, I.free, I.freeC, I.pin, I.hok, I.len⟩
theorem Inv.unsuite {X : Cx} {pins : List (Addr × Obj)} {σ : St} {H : Hp} {s : Shared} {e : Addr} (hc : X.Ok) (I : Inv (X.suite e) pins σ H s) : Inv X pins σ H s :=
  ⟨hc, I.os, I.bare, I.base, I.loc, I.cell, I.free, I.freeC, I.pin, I.hok, I.len⟩
theorem SP.unsuite {X : Cx} {pins : List (Addr × Obj)} {D : Ends} {f : Flow} {s' : Shared} {e : Addr} (hc : X.Ok) (h : SP (X.suite e) pins D f s') : SP X pins D f s' := by
  cases f with
  | next => obtain ⟨σ', H', I, q⟩ := h; exact ⟨σ', H', I.unsuite hc, q⟩
  | brk => obtain ⟨σ', H', I, q⟩ := h; exact ⟨σ', H', I.unsuite hc, q⟩
  | cont => obtain ⟨σ', H', I, q⟩ := h; exact ⟨σ', H', I.unsuite hc, q⟩
  | ret u => obtain ⟨v, σ', H', I, r, q⟩ := h; exact ⟨v, σ', H', I.unsuite hc, r, q⟩
/-- behind a call that raised: what the heap is, whatever the landing does to the frames' slots -/
theorem Inv.flown {X : Cx} {pins : List (Addr × Obj)} {σ : St} {H H' : Hp} {s s' : Shared} {B : Heap} {a C t : Addr} (I : Inv X pins σ H s) (os : s'.os = s.os) (bare : AllBare s'.gens) (u : UnB (frs X.stack) H H' s.heap B) (hok : HOk X.prog X.w H' B)
    (fl : B.StaysIn s'.heap) (sl : ∀ b o, b ∈ frs X.stack → s.heap.get? b = some o → ∃ sl, s'.heap.get? b = some { o with slots := sl }) : Inv X pins σ H' s' :=
  I.call' (ch := []) os (u.un fl sl) (hok.kept fl) bare (fun b z => nomatch z)
theorem catch_fly {X : Cx} {pins : List (Addr × Obj)} {σ : St} {H : Hp} {s s' : Shared} {e : Value} {C D : Addr} {R : Hp → Prop} {cn : Str} {np hp : Pos} {b₀ : Stmt} {suite : List Stmt} {Q : Flow → Shared → Prop} (hst : X.stack = X.env :: X.outer) (hfr : X.env.frame = some X.env.locals)
    (I : Inv X pins σ H s) (fl : Fly X.prog X.w X.stack H s (fun c _ H2 => c = .ref C ∧ R H2) e s') (hg : Gl X cn) (hm : X.mg cn = some (.ref D)) (hcat : Catches X.base C D) (hd : (cn == ("__debug__" : Str)) = false)
    (k : ∀ (ea : Addr) (s6 : Shared) (H2 : Hp), Inv X pins σ H2 s6 → R H2 → wpAny (model X.prog X.w) (X.A.mark (some (.ref ea))) (execs (b₀ :: suite) X.env) Q (fun _ _ => False) s6) :
    wpAny (model X.prog X.w) X.A (noteFrame e X.env) (fun _ s₂ => wpAny (model X.prog X.w) X.A (setFlight e none) (fun _ s₃ => wpAny (model X.prog X.w) X.A (handleBy e X.env [.ExceptHandler (some (.Name cn np)) none (b₀ :: suite) hp]) Q (fun _ _ => False) s₃) (fun _ _ => False) s₂) (fun _ _ => False) s' := by
  obtain ⟨ea, C', t, H2, B, rfl, os, bare, u, hok, fly, sl, hC, hR⟩ := fl
  cases hC
  have frf : ∀ b ∈ frs X.stack, ∀ o, s.heap.get? b = some o → ∀ vs, o.data ≠ .fields vs := fun b hb o e0 vs z => by
    obtain ⟨_, o2, e2, hd⟩ := I.stack.mem hb
    rw [e0] at e2; cases e2; exact hd vs z
  have up : ∀ {h4 : Heap}, s'.heap.UpToSlots h4 → ∀ b o, b ∈ frs X.stack → s.heap.get? b = some o → ∃ sl, h4.get? b = some { o with slots := sl } := fun {h4} x b o hb e0 => by
    obtain ⟨s1, e1⟩ := sl b o hb e0
    obtain ⟨s2, e2⟩ := x b _ e1 (frf b hb o e0)
    exact ⟨s2, e2⟩
  have hfs : X.A.frames = some (X.env :: X.outer) := by rw [← hst]; exact I.ok.frames
  rw [hst] at fly
  refine wpAny_looks_onW hfs hfr fly fun h₄ hheld₄ hsm₄ => ?_
  refine wpAny_landsW hheld₄ fun h₅ hfl₅ hsm₅' => ?_
  have hsm₅ := hsm₄.trans hsm₅'
  have I5 : Inv X pins σ H2 { s' with heap := h₅ } := I.flown (a := ea) (C := C) (t := t) os bare u hok hfl₅.1 (up hsm₅)
  obtain ⟨ob, hob, hobc⟩ := hfl₅.there
  refine wpAny_handleBy_cons (codeAny_handlers_test ?_) (by intro q; cases q)
  refine ld_glob (X := X.suite ea) (I5.suite ea) hg hm ?_ hd
  refine hcat _ _ _ _ ea ob _ I5.bk hob hobc (codeAny_handlers_suite ?_)
  refine lands_againW hfl₅ fun h₆ hfl₆ hsm₆ => ?_
  have I6 : Inv X pins σ H2 { s' with heap := h₆ } := I.flown (a := ea) (C := C) (t := t) os bare u hok hfl₆.1 (up (hsm₅.trans hsm₆))
  exact wpAny_mono (k ea _ H2 I6 hR) (fun _ _ z => z) fun _ _ z => False.elim z
/-! ### try: y = f(..) except C: .. -/
theorem run_fnP {X : Cx} {CX : CXT} {k : Nat} {f : Addr} {fd : FuncData} {ps : List Str} {sp : Sp} {E : XK} {pins : List (Addr × Obj)} {σ : St} {H : Hp} {s : Shared} {Q : VK} {us : List Value} {vs : List V} (F : FnOk X.prog X.w X.K X.mg X.base CX k f fd ps sp) (hr : Room k X.A) (hb : Binds X.K fd ps [])
    (hx : ∀ e s', CX X.stack H s E e s' → X.xe e s') (I : Inv X pins σ H s) (r : Vals vs us) (h : sp vs H Q E) : wpAny (model X.prog X.w) X.A (call (.ref f) us) (EP X pins σ Q) X.xe s := by
  have hl : us.length = ps.length := by rw [← r.length]; exact F.len _ _ _ _ h
  have hb' := hb s us I.kIn (by rw [List.append_nil]; exact hl)
  rw [List.append_nil] at hb'
  refine wpAny_call (codeAny_mono (F.run X.A X.stack s H ⟨us, []⟩ us vs Q E hr I.env0 hb' r h) fun r s' hq => ?_)
  cases r with
  | error e => exact hx e s' hq
  | ok fl =>
    cases fl with
    | ret u => exact I.after hq
    | next => exact False.elim hq
    | brk => exact False.elim hq
    | cont => exact False.elim hq
/-- what is known of a def that may raise an own exception -/
structure CalX (P : Program) (w : World) (K : PySem.W.Frag) (mg : Str → Option Value) (base : Heap) (k : Nat) (x : Str) (ps : List Str) (sp : Sp) : Prop where
  ex : ∃ f fd, FnOk P w K mg base (Fly P w) k f fd ps sp ∧ mg x = some (.ref f) ∧ PySem.W.keepIn K (.ref f) = true ∧ Binds K fd ps []
theorem Fun.okX {P : Program} {w : World} {K : PySem.W.Frag} {mg : Str → Option Value} {base : Heap} {x qual : Str} {st : Stmt} {f : Addr} {fd : FuncData} {N ps : List Str} {k : Nat} {sp : Sp} (F : Fun K x qual st f fd) (S : FnScope N ps (defScope st)) (len : ∀ vs H Q E, sp vs H Q E → vs.length = ps.length)
    (hbody : ∀ (cdv : Value) (A : Around) (outer : List Env) (s : Shared) (H : Hp) (vs : List V) (Q : VK) (E : XK), Room k (A.deeper (envOfC qual (defScope st) s.heap.objs.size f cdv)) → sp vs H Q E →
      ∃ t, PSs (cxOf (Fly P w) P w K mg base N qual (defScope st) f cdv A outer s H E) (defBody st) t ∧ t { nx := fun _ H' => Q .non H', rt := Q } (start N vs) H) : FnOk P w K mg base (Fly P w) (k + 1) f fd ps sp := by
  obtain ⟨oc, od, kV, doc, pm, an, cdv, ct, osl, rfl, lk, hcd⟩ := F.ex
  exact fn_of lk hcd S len fun A outer s H vs Q E hr hsp => hbody cdv A outer s H vs Q E hr hsp
theorem SP.wishN {X : Cx} {pins : List (Addr × Obj)} {D : Ends} {f : Flow} {s' : Shared} {E : Value → Shared → Prop} (h : SP X pins D f s') : SP (X.wish E) pins D f s' := by
  cases f with
  | next => obtain ⟨σ', H', I, q⟩ := h; exact ⟨σ', H', I.wish E, q⟩
  | brk => obtain ⟨σ', H', I, q⟩ := h; exact ⟨σ', H', I.wish E, q⟩
  | cont => obtain ⟨σ', H', I, q⟩ := h; exact ⟨σ', H', I.wish E, q⟩
  | ret u => obtain ⟨v, σ', H', I, r, q⟩ := h; exact ⟨v, σ', H', I.wish E, r, q⟩
theorem Def.calX {P : Program} {w : World} {K : PySem.W.Frag} {mg : Str → Option Value} {base : Heap} {x : Str} {st : Stmt} {N ps : List Str} {k : Nat} {sp : Sp} (D : Def K mg x st ps) (S : FnScope N ps (defScope st)) (len : ∀ vs H Q E, sp vs H Q E → vs.length = ps.length)
    (hbody : ∀ (f : Addr) (cdv : Value) (A : Around) (outer : List Env) (s : Shared) (H : Hp) (vs : List V) (Q : VK) (E : XK), Room k (A.deeper (envOfC x (defScope st) s.heap.objs.size f cdv)) → sp vs H Q E →
      ∃ t, PSs (cxOf (Fly P w) P w K mg base N x (defScope st) f cdv A outer s H E) (defBody st) t ∧ t { nx := fun _ H' => Q .non H', rt := Q } (start N vs) H) : CalX P w K mg base (k + 1) x ps sp := by
  obtain ⟨f, fd, F, hm, hb⟩ := D.ex
  exact ⟨f, fd, F.okX S len (hbody f), hm, F.kp, hb⟩
abbrev Land (X : Cx) (hs : List ExceptHandler) (Q : Flow → Shared → Prop) : Value → Shared → Prop := fun e s₁ => wpAny (model X.prog X.w) X.A (noteFrame e X.env) (fun _ s₂ => wpAny (model X.prog X.w) X.A (setFlight e none) (fun _ s₃ => wpAny (model X.prog X.w) X.A (handleBy e X.env hs) Q (fun _ _ => False) s₃) (fun _ _ => False) s₂) (fun _ _ => False) s₁
/-- y = x(..) under try, in the slot i; the suite behind except -/
def tTryAsg (C : Addr) (sp : Sp) (ta : TA) (i : Nat) (ts : TS) : TS := fun D σ H => ta σ H fun vs H1 => sp vs H1 (fun v H2 => D.nx (σ.set i (some v)) H2) (fun c _ H2 => c = .ref C ∧ ts D σ H2)
theorem ps_tryAsg {X : Cx} {k m i : Nat} {x y cn : Str} {ps : List Str} {sp : Sp} {C Dc : Addr} {e : Expr} {es : List Expr} {ta : TA} {ts : TS} {p p1 p2 p3 np hp pos : Pos} {b₀ : Stmt} {suite : List Stmt} (G : CalX X.prog X.w X.K X.mg X.base k x ps sp) (hr : Room m X.A) (hk : k ≤ m)
    (hN : X.N.Nodup) (hi : X.N[i]? = some y) (hy : Loc X.env.scope y) (hm : X.mg cn = some (.ref Dc)) (hcat : Catches X.base C Dc) (ha : ∀ E, PA (X.wish E) (e :: es) ta) (hs : ∀ ea, PSs (X.suite ea) (b₀ :: suite) ts)
    (hst : X.stack = X.env :: X.outer := by rfl) (hfr : X.env.frame = some X.env.locals := by rfl) (hg : Gl X x := by rfl) (hgc : Gl X cn := by rfl)
    (hdb : (x == ("__debug__" : Str)) = false := by decide) (hdc : (cn == ("__debug__" : Str)) = false := by decide) (he : starEach (e :: es) X.env = (false, eval e X.env) :: starEach es X.env := by rfl) (hpl : (backTo p2 (starEach es X.env)).any (·.1) = false := by rfl)
    (hsw : swapsWith (.Call (.Name x p) (e :: es) [] p2) (some (.Name y p1)) p3.line X.env = pure false := by rfl) (hf : X.fn y = true ∨ X.env.scope.names.lookup y = some .local := by first | exact .inl rfl | exact .inr rfl | assumption) :
    PS X.nox (.Try [.Assign [.Name y p1] (.Call (.Name x p) (e :: es) [] p2) p3] [.ExceptHandler (some (.Name cn np)) none (b₀ :: suite) hp] [] [] pos) (tTryAsg C sp ta i ts) := by
  intro pins s σ H D I h
  obtain ⟨f, fd, F, hmx, hkp, hb⟩ := G.ex
  have I0 : Inv X pins σ H s := I.unwish
  refine wpAny_Try_except ?_
  refine wpAny_execs_cons ?_
  refine wpAny_Assign_Name ?_ hsw
  refine wpAny_Call_Name_kw (ld_glob I hg hmx ?_ hdb)
  refine PySem.W.callWith_K (h₀ := X.base) I.ok.mod.kin hkp (thn (ha (Land X [.ExceptHandler (some (.Name cn np)) none (b₀ :: suite) hp] (SP X.nox pins D)) _ pins s σ H _ (I0.wish _) h) fun us s1 ⟨vs, H1, I1, r, q⟩ => ⟨I1.kIn, ?_⟩) he hpl
  refine thn (run_fnP (X := X.wish (Land X [.ExceptHandler (some (.Name cn np)) none (b₀ :: suite) hp] (SP X.nox pins D))) F (hr.mono hk) hb (fun e' s' fl => ?_) I1 r q) fun v s2 ⟨z, H2, I2, r2, q2⟩ => ?_
  · refine catch_fly (X := X) hst hfr I1.unwish fl hgc hm hcat hdc fun ea s6 H2 I6 hR => ?_
    exact wpAny_mono (hs ea pins s6 σ H2 D (I6.suite ea) hR) (fun _ _ z => (z.unsuite I0.ok : SP X pins D _ _).wishN) fun _ _ z => False.elim z
  · refine store_ok (X := X.nox) (I2.unwish.wish _) hN hi hy r2 (fun s3 I3 => ?_) hf
    exact wpAny_execs_nil (wpAny_execs_nil ⟨_, H2, I3, q2⟩)
end L2

namespace L2
open PySem PySem.Spec PyProof.Rows
/-- what the top has left of an own exception class -/
structure ExcKit (K : PySem.W.Frag) (C : Addr) : Prop where
  ga : PySem.W.findIn K (.ref C) "__getattribute__" = some (some (.builtin "BaseException.__getattribute__"))
  cl : PySem.W.findIn K (.ref C) "__class__" = some (some (.builtin "object.__class__"))
  sb : PySem.W.subIn K (.ref C) (.type "BaseException") = some true
  so : PySem.W.subIn K (.ref C) (.type "object") = some true
  ic : (PySem.W.clsIn K C).isSome = true
  na : PySem.W.findIn K (.ref C) "__getattr__" = some none
section
variable {prog : Program} {w : World} {A : Around} {E : Value → Shared → Prop} {h : Heap} {g : Array GenState} {d : Drawn} {t : Nat} {os : OsState} {a C : Addr} {o : Obj} {K : PySem.W.Frag} {bmB : List Value}
theorem class_get_exc {R : Result → Shared → Prop} (Z : ExcKit K C) (X : K.In h) (hx : h.get? a = some o) (hc : o.cls = .ref C) (hq : R (.ok (.ret (.ref C))) ⟨h, g, d, t, os⟩) :
    codeAny (model prog w) A (.call (.builtin "getset_descriptor.__get__") ⟨[.builtin "object.__class__", .ref a, .ref C], []⟩) R ⟨h, g, d, t, os⟩ := by
  have hT5 : (⟨h, g, d, t, os⟩ : Shared).TypeIs (.builtin "object.__class__") "getset_descriptor" := F.typeOf_object_class
  have L1 := PySem.W.looks_subIn (M := model prog w) X Z.so
  have ow : (".".intercalate ("object.__class__".cutAt '.').dropLast) = "object" := by decide +kernel
  refine codeAny_call_builtin F.slot_gs_get.plain F.entry_gs_get (F.slot_gs_get.check _ _ _ _ _ _ _ _ hT5 (F.args_gs_get _ _ _) ?_)
  repeat (any_goals (first | assumption | (with_reducible refine wpAny_loadPart_at hx ?_; rw [hc]) | (rw [ow]; with_reducible refine L1.at ?_) | wp_step))
  refine ⟨Code.quiet_builtin _ (by decide +kernel), codeAny_builtin F.entry_object_class ?_⟩
  repeat (any_goals (first | assumption | (with_reducible refine wpAny_loadPart_at hx ?_; rw [hc]) | wp_step))
theorem class_entry_exc {tk : Tok} {Q : Fin → Shared → Prop} (Z : ExcKit K C) (X : K.In h) (hx : h.get? a = some o) (hc : o.cls = .ref C) (hq : Q (.done (.ret (.ref C))) ⟨h, g, d, t, os⟩) :
    wpAny (model prog w) A (Builtin.«object.__getattribute__» ⟨[.ref a, .str "__class__" tk], []⟩) Q E ⟨h, g, d, t, os⟩ := by
  have hT5 : (⟨h, g, d, t, os⟩ : Shared).TypeIs (.builtin "object.__class__") "getset_descriptor" := F.typeOf_object_class
  have f5 := F.typeOf_object_class
  have f6 := F.slot_gs_get.lookup
  have f7 := F.slot_gs_set.lookup
  have L4 := PySem.W.looks_findIn (M := model prog w) X Z.cl
  repeat (any_goals (first | assumption | (with_reducible refine wpAny_loadPart_at hx ?_; rw [hc]) | with_reducible refine L4.at ?_ | wp_step))
  refine class_get_exc Z X hx hc ?_
  repeat (any_goals (first | assumption | wp_step))
theorem check_ga_exc {M : Model} {nameV : Value} {Q : Unit → Shared → Prop} (Z : ExcKit K C) (X : K.In h) (hx : h.get? a = some o) (hc : o.cls = .ref C) (hq : Q () ⟨h, g, d, t, os⟩) :
    wpAny M A (checkBuiltinCall "BaseException.__getattribute__" ⟨[.ref a, nameV], []⟩) Q E ⟨h, g, d, t, os⟩ := by
  have hk : builtinKind "BaseException.__getattribute__" = some .slot := by decide +kernel
  have hsplit : splitId "BaseException.__getattribute__" = some ("BaseException", "__getattribute__") := by decide +kernel
  have L1 := PySem.W.looks_subIn (M := M) X Z.sb
  have ha := F.args_bexc_ga (.ref a) nameV
  simp only [checkBuiltinCall, hk, hsplit]
  refine wpAny_bind ?_
  · unfold isInstance
    repeat (first | (with_reducible refine wpAny_loadPart_at hx ?_; rw [hc]) | with_reducible refine L1.at ?_ | wp_step)
    exact hq
theorem class_call_exc {tk : Tok} {R : Result → Shared → Prop} (FB : ExcAttrBase "ValueError" bmB) (Z : ExcKit K C) (X : K.In h) (hx : h.get? a = some o) (hc : o.cls = .ref C) (hq : R (.ok (.ret (.ref C))) ⟨h, g, d, t, os⟩) :
    codeAny (model prog w) A (.call (.builtin "BaseException.__getattribute__") ⟨[.ref a, .str "__class__" tk], []⟩) R ⟨h, g, d, t, os⟩ :=
  codeAny_call_builtin FB.ga.plain F.entry_bexc_ga (check_ga_exc Z X hx hc (class_entry_exc Z X hx hc hq))
theorem class_by_exc {tk : Tok} {fill expr : Bool} {Q : Value → Shared → Prop} (FB : ExcAttrBase "ValueError" bmB) (Z : ExcKit K C) (X : K.In h) (hx : h.get? a = some o) (hc : o.cls = .ref C) (hq : Q (.ref C) ⟨h, g, d, t, os⟩) :
    wpAny (model prog w) A (getAttrBy (.ref a) (.str "__class__" tk) fill expr) Q E ⟨h, g, d, t, os⟩ := by
  have f3 := FB.ga.bind (.ref a)
  have hx0 : (expr && onTheHeap (Value.builtin "BaseException.__getattribute__")) = false := by cases expr <;> rfl
  have hx2 : (Value.builtin "BaseException.__getattribute__" == Value.builtin "object.__getattribute__") = false := by decide +kernel
  have hx1 : (onTheHeap (Value.ref C) && Value.builtin "BaseException.__getattribute__" == Value.builtin "object.__getattribute__") = false := by rw [hx2]; rfl
  have L2 := PySem.W.looks_findIn (M := model prog w) X Z.ga
  have L3 := PySem.W.looks_findIn (M := model prog w) X Z.na
  repeat (any_goals (first | assumption | (with_reducible refine wpAny_loadPart_at hx ?_; rw [hc]) | with_reducible refine L2.at ?_ | with_reducible refine L3.at ?_ | wp_step))
  refine class_call_exc FB Z X hx hc ?_
  repeat (any_goals (first | assumption | wp_step))
theorem class_attr_exc {Q : Option Value → Shared → Prop} (FB : ExcAttrBase "ValueError" bmB) (Z : ExcKit K C) (X : K.In h) (hx : h.get? a = some o) (hc : o.cls = .ref C) (hq : Q (some (.ref C)) ⟨h, g, d, t + 1, os⟩) : wpAny (model prog w) A (getAttr? (.ref a) "__class__") Q E ⟨h, g, d, t, os⟩ := by
  unfold getAttr? getAttrBy?
  repeat (any_goals (first | assumption | with_reducible apply class_by_exc FB Z X hx hc | wp_step))
/-- the exception as a thing of the abstract heap -/
def ExcO (a C : Addr) : HO := .ext fun h => ∃ o, h.get? a = some o ∧ o.cls = .ref C
theorem kitx_exc (FB : ExcAttrBase "ValueError" bmB) (Z : ExcKit K C) : PySem.W.KitX K (.ref a) (.ref C) (fun h => ∃ o, h.get? a = some o ∧ o.cls = .ref C) where
  ty := fun M h _ ⟨o, h1, h2⟩ => h2 ▸ (PySem.W.Looks.ld h1).andThen .now
  it := fun M h X _ => by
    have z0 := Z.ic
    unfold PySem.W.clsIn at z0
    split at z0
    · rename_i c' d' cd' sl' ho
      intro A' Q' E' s' k q
      unfold isType loadHead
      exact wpAny_bind (wpAny_loadPart (k _ _ (X _ _ ho)) (wpAny_pure q))
    · cases z0
  ne := fun h tp dd its n sl X htp => by
    have z0 := Z.ic
    refine Bool.eq_false_iff.mpr fun q => ?_
    have e : C = tp := Value.ref.inj (beq_iff_eq.mp q)
    subst e
    unfold PySem.W.clsIn at z0
    split at z0
    · rename_i c' d' cd' sl' ho
      have z := (X _ _ ho).symm.trans htp
      cases z
    · cases z0
  ca := fun {_ _ _ _ _ s} X ⟨o, h1, h2⟩ k => by obtain ⟨h, g, d, t, os⟩ := s; exact class_attr_exc FB Z X h1 h2 k
end
section
variable {X : Cx}
/-- isinstance(e, T), e a caught exception of an own class -/
theorem call_isiX {bmB : List Value} (FB : ExcAttrBase "ValueError" bmB) : CallR X (.builtin "isinstance") (fun xs H Q => ∃ (a C : Addr) (T : V) (u : Value) (k : Bool), xs = [.ref a, T] ∧ RelV T u ∧ (∀ u', RelV T u' → u' = u) ∧ H a = some (ExcO a C) ∧ ExcKit X.K C ∧ PySem.W.kitOne X.K (.ref C) u = some k ∧ Q (.bl k) H) := by
  intro pins s σ H xs us Q I r h
  obtain ⟨a, C, T, u, k, rfl, rT, uT, ha, Z, hk, q⟩ := h
  obtain ⟨v, w', rfl, ru, rw'⟩ := vals2 r
  cases (show v = Value.ref a from ru)
  cases uT _ rw'
  obtain ⟨p, _, _⟩ := (show ObjOk X.prog X.w H s.heap a (ExcO a C) from I.hok a _ ha)
  exact PySem.W.kia_one (kitx_exc FB Z) I.kIn p hk (fun z => nomatch z) fun tk => ⟨.bl _, H, I.tok tk, rfl, q⟩
end
end L2

namespace L2
open PySem PySem.Spec PyProof.Rows
theorem ObjOk.there {P : Program} {w : World} {H : Hp} {h : Heap} {a : Addr} {o : HO} (x : ObjOk P w H h a o) : ∃ u, h.get? a = some u := by
  cases o with
  | lst xs => obtain ⟨_, _, _, _, e⟩ := x; exact ⟨_, e⟩
  | tup xs => obtain ⟨_, _, _, ob, e, _⟩ := x; exact ⟨_, e⟩
  | dK kvs => obtain ⟨_, _, _, _, o, _, _, e, _⟩ := x; exact ⟨_, e⟩
  | dT kvs => obtain ⟨_, _, _, _, o, _, _, e, _⟩ := x; exact ⟨_, e⟩
  | set S n => obtain ⟨o, _, _, _, e, _⟩ := x; exact ⟨_, e⟩
  | ins C dx fs => obtain ⟨_, _, _, e, _⟩ := x; exact ⟨_, e⟩
  | own y => obtain ⟨_, e⟩ := x; exact ⟨_, e⟩
  | xd fs => obtain ⟨_, ⟨_, _, _, e, _⟩, _⟩ := x; exact ⟨_, e⟩
  | rng lo hi => obtain ⟨_, _, _, e⟩ := x; exact ⟨_, e⟩
  | frz ob u => obtain ⟨e, _⟩ := x; exact ⟨_, e⟩
  | tbl ps => exact ⟨_, (show h.get? a = some _ from x)⟩
  | met f y => exact ⟨_, (show h.get? a = some _ from x)⟩
  | ext φ => obtain ⟨_, ⟨_, e⟩, _⟩ := x; exact ⟨_, e⟩
/-- the locals are forgotten -/
theorem Inv.forget {X : Cx} {pins : List (Addr × Obj)} {σ : St} {H : Hp} {s : Shared} {h' : Heap} {m' : Str → Option Value} {t' : Nat} (I : Inv X pins σ H s) (hn' : h'.Ns X.env.locals m') (hs : Heap.SameBut X.env.locals s.heap h') :
    Inv X pins (List.replicate X.N.length none) H { s with heap := h', toks := t' } := by
  have cne := I.cne
  obtain ⟨m, hn, hl⟩ := id I.loc
  obtain ⟨oL, _, _, hoL, _⟩ := id hn
  refine ⟨I.ok, I.os, I.bare, ⟨fun b o e n hb hx => ?_, fun b o e n hb hx => ?_, I.base.free, fun b o e hx => ?_, I.base.tups, I.base.frzs, I.base.tbls⟩, ⟨_, hn', fun j y v' e1 e2 e3 => ?_⟩, fun y c e => ?_, I.free, I.freeC, fun p hp => ?_, ?_, by simp⟩
  · exact (hs.2 b (Nat.ne_of_lt (Nat.lt_of_lt_of_le (Heap.lt_size e) I.ok.above))).trans (I.base.keep b o e n hb hx)
  · obtain ⟨sl, e1⟩ := I.base.slot b o e n hb hx
    exact ⟨sl, (hs.2 b (Nat.ne_of_lt (Nat.lt_of_lt_of_le (Heap.lt_size e) I.ok.above))).trans e1⟩
  · obtain ⟨o', e1⟩ := I.base.there b o e hx
    exact ⟨o', (hs.2 b (Nat.ne_of_lt (Nat.lt_of_lt_of_le (Heap.lt_size e) I.ok.above))).trans e1⟩
  · rw [List.getElem?_replicate] at e2
    split at e2 <;> cases e2
  · obtain ⟨w', z⟩ := I.cell y c e
    exact ⟨w', z.sameBut hs (cne y c e)⟩
  · obtain ⟨e, n, ne, nf, d⟩ := I.pin p hp
    exact ⟨(hs.2 p.1 ne).trans e, n, ne, nf, d⟩
  · intro b ob e
    refine (I.hok b ob e).stay (fun c w' hc q => (hs.2 c ?_).trans q) (fun _ q => q) fun _ _ q => q
    rintro rfl
    rcases hc with rfl | hc
    · rw [I.free] at e; cases e
    · rw [I.free] at hc; cases hc
/-- try: x(..) except C as n: a suite that returns -/
def tTryAs (C : Addr) (sp : Sp) (ta : TA) (i : Nat) (ts : TS) : TS := fun D σ H => ta σ H fun vs H1 => sp vs H1 (fun _ H2 => D.nx σ H2) (fun c _ H2 => c = .ref C ∧ ∀ ea, H2 ea = none → ts { nx := fun _ _ => False, rt := D.rt, bk := fun _ _ => False, ct := fun _ _ => False } (σ.set i (some (.ref ea))) (upd H2 ea (ExcO ea C)))
theorem catch_flyAs {X : Cx} {pins : List (Addr × Obj)} {σ : St} {H : Hp} {s s' : Shared} {e : Value} {C D : Addr} {R : Hp → Prop} {cn n : Str} {i : Nat} {np hp : Pos} {b₀ : Stmt} {suite : List Stmt} {Q : Flow → Shared → Prop} (hst : X.stack = X.env :: X.outer) (hfr : X.env.frame = some X.env.locals)
    (I : Inv X pins σ H s) (fl : Fly X.prog X.w X.stack H s (fun c _ H2 => c = .ref C ∧ R H2) e s') (hg : Gl X cn) (hm : X.mg cn = some (.ref D)) (hcat : Catches X.base C D) (hd : (cn == ("__debug__" : Str)) = false) (hN : X.N.Nodup) (hi : X.N[i]? = some n) (hx : X.env.scope.names.lookup n = some .local)
    (k : ∀ (ea : Addr) (s6 : Shared) (H2 : Hp), H2 ea = none → Inv X pins (σ.set i (some (.ref ea))) (upd H2 ea (ExcO ea C)) s6 → R H2 →
      wpAny (model X.prog X.w) (X.A.mark (some (.ref ea))) (execs (b₀ :: suite) X.env) (fun f s₃ => wpAny (model X.prog X.w) X.A (do bindName X.env n .none; unbindBehindTheSuite X.env n hp) (fun _ s₄ => Q f s₄) (fun _ _ => False) s₃) (fun _ _ => False) s6) :
    wpAny (model X.prog X.w) X.A (noteFrame e X.env) (fun _ s₂ => wpAny (model X.prog X.w) X.A (setFlight e none) (fun _ s₃ => wpAny (model X.prog X.w) X.A (handleBy e X.env [.ExceptHandler (some (.Name cn np)) (some n) (b₀ :: suite) hp]) Q (fun _ _ => False) s₃) (fun _ _ => False) s₂) (fun _ _ => False) s' := by
  obtain ⟨ea, C', t, H2, B, rfl, os, bare, u, hok, fly, sl, hC, hR⟩ := fl
  cases hC
  have frf : ∀ b ∈ frs X.stack, ∀ o, s.heap.get? b = some o → ∀ vs, o.data ≠ .fields vs := fun b hb o e0 vs z => by
    obtain ⟨_, o2, e2, hd⟩ := I.stack.mem hb
    rw [e0] at e2; cases e2; exact hd vs z
  have up : ∀ {h4 : Heap}, s'.heap.UpToSlots h4 → ∀ b o, b ∈ frs X.stack → s.heap.get? b = some o → ∃ sl, h4.get? b = some { o with slots := sl } := fun {h4} x b o hb e0 => by
    obtain ⟨s1, e1⟩ := sl b o hb e0
    obtain ⟨s2, e2⟩ := x b _ e1 (frf b hb o e0)
    exact ⟨s2, e2⟩
  have hBe : B.get? ea = none := fly.2.1
  have hea : H2 ea = none := by
    cases q : H2 ea with
    | none => rfl
    | some o => obtain ⟨u', e'⟩ := (hok ea o q).there; rw [hBe] at e'; cases e'
  have hfs : X.A.frames = some (X.env :: X.outer) := by rw [← hst]; exact I.ok.frames
  have hfly0 := fly
  rw [hst] at fly
  refine wpAny_looks_onW hfs hfr fly fun h₄ hheld₄ hsm₄ => ?_
  refine wpAny_landsW hheld₄ fun h₅ hfl₅ hsm₅' => ?_
  have hsm₅ := hsm₄.trans hsm₅'
  have I5 : Inv X pins σ H2 { s' with heap := h₅ } := I.flown (a := ea) (C := C) (t := t) os bare u hok hfl₅.1 (up hsm₅)
  obtain ⟨ob, hob, hobc⟩ := hfl₅.there
  refine wpAny_handleBy_cons (codeAny_handlers_test ?_) (by intro q; cases q)
  refine ld_glob (X := X.suite ea) (I5.suite ea) hg hm ?_ hd
  refine hcat _ _ _ _ ea ob _ I5.bk hob hobc (codeAny_handlers_suite_as ?_)
  refine lands_againW hfl₅ fun h₆ hfl₆ hsm₆ => ?_
  have u' : UnB (frs X.stack) H (upd H2 ea (ExcO ea C)) s.heap B := ⟨u.keep, fun b o e0 n => by
    have : b ≠ ea := fun z => by
      by_cases hb : b ∈ frs X.stack
      · obtain ⟨hn0, _⟩ := hfly0.2.2.1.mem hb
        obtain ⟨sl1, e1⟩ := sl b o hb e0
        obtain ⟨oe, _, _, _, _, he, _, hd0, _⟩ := hfly0.2.2.2
        rw [z, he] at e1
        have e2 := Option.some.inj e1
        exact frf b hb o e0 _ (by rw [← show oe.data = o.data by rw [e2]]; exact hd0)
      · have := u.keep b o e0 n hb
        rw [z, hBe] at this; cases this
    rw [upd_ne this]; exact u.free b o e0 n, u.there, fun b xs q => by rw [upd_ne (ne_of_none (u.tups b xs q) hea)]; exact u.tups b xs q, fun b o v q => by rw [upd_ne (ne_of_none (u.frzs b o v q) hea)]; exact u.frzs b o v q, fun b ps q => by
      obtain ⟨m, e0⟩ := u.tbls b ps q
      exact ⟨m, by rw [upd_ne (ne_of_none e0 hea)]; exact e0⟩⟩
  obtain ⟨ob6, hob6, hobc6⟩ := hfl₆.there
  have hok6 : HOk X.prog X.w (upd H2 ea (ExcO ea C)) h₆ := fun b o e0 => by
    by_cases hb : b = ea
    · subst hb
      rw [upd_same] at e0; cases e0
      exact ⟨⟨ob6, hob6, hobc6⟩, ⟨ob6, hob6⟩, fun h1 h2 ⟨o, p1, p2⟩ k => ⟨o, k o p1, p2⟩⟩
    · rw [upd_ne hb] at e0
      refine (hok b o e0).stay (fun c v _ q => hfl₆.1 c v q) (fun c q => by rw [upd_ne (ne_of_none q hea)]; exact q) fun c xs q => by rw [upd_ne (ne_of_none q hea)]; exact q
  have I6 : Inv X pins σ (upd H2 ea (ExcO ea C)) { s' with heap := h₆ } := I.call' (ch := []) os (u'.un hfl₆.1 (up (hsm₅.trans hsm₆))) hok6 bare (fun b z => nomatch z)
  refine store_ok (X := X.suite ea) (I6.suite ea) hN hi (.inl hx) (v := .ref ea) rfl (fun s7 I7 => ?_) (.inr hx)
  exact wpAny_mono (k ea s7 H2 hea (I7.unsuite I.ok) hR) (fun _ _ z => z) fun _ _ z => False.elim z
theorem ps_tryAs {X : Cx} {k m i : Nat} {x n cn : Str} {ps : List Str} {sp : Sp} {C Dc : Addr} {e : Expr} {es : List Expr} {ta : TA} {ts : TS} {p p2 p3 np hp pos : Pos} {b₀ : Stmt} {suite : List Stmt} (G : CalX X.prog X.w X.K X.mg X.base k x ps sp) (hr : Room m X.A) (hk : k ≤ m)
    (hN : X.N.Nodup) (hi : X.N[i]? = some n) (hx : X.env.scope.names.lookup n = some .local) (hm : X.mg cn = some (.ref Dc)) (hcat : Catches X.base C Dc) (ha : ∀ E, PA (X.wish E) (e :: es) ta) (hs : ∀ ea, PSs (X.suite ea) (b₀ :: suite) ts)
    (hst : X.stack = X.env :: X.outer := by rfl) (hfr : X.env.frame = some X.env.locals := by rfl) (hg : Gl X x := by rfl) (hgc : Gl X cn := by rfl)
    (hdb : (x == ("__debug__" : Str)) = false := by decide) (hdc : (cn == ("__debug__" : Str)) = false := by decide) (he : starEach (e :: es) X.env = (false, eval e X.env) :: starEach es X.env := by rfl) (hpl : (backTo p2 (starEach es X.env)).any (·.1) = false := by rfl)
    (hsw : swapsWith (.Call (.Name x p) (e :: es) [] p2) none p3.line X.env = pure false := by rfl) :
    PS X.nox (.Try [.Expr (.Call (.Name x p) (e :: es) [] p2) p3] [.ExceptHandler (some (.Name cn np)) (some n) (b₀ :: suite) hp] [] [] pos) (tTryAs C sp ta i ts) := by
  intro pins s σ H D I h
  obtain ⟨f, fd, F, hmx, hkp, hb⟩ := G.ex
  have I0 : Inv X pins σ H s := I.unwish
  refine wpAny_Try_except ?_
  refine wpAny_execs_cons ?_
  refine wpAny_Expr_any ?_ I.quiet hsw
  refine wpAny_Call_Name_kw (ld_glob I hg hmx ?_ hdb)
  refine PySem.W.callWith_K (h₀ := X.base) I.ok.mod.kin hkp (thn (ha (Land X [.ExceptHandler (some (.Name cn np)) (some n) (b₀ :: suite) hp] (SP X.nox pins D)) _ pins s σ H _ (I0.wish _) h) fun us s1 ⟨vs, H1, I1, r, q⟩ => ⟨I1.kIn, ?_⟩) he hpl
  refine thn (run_fnP (X := X.wish (Land X [.ExceptHandler (some (.Name cn np)) (some n) (b₀ :: suite) hp] (SP X.nox pins D))) F (hr.mono hk) hb (fun e' s' fl => ?_) I1 r q) fun v s2 ⟨z, H2, I2, r2, q2⟩ => ?_
  · refine catch_flyAs (X := X) hst hfr I1.unwish fl hgc hm hcat hdc hN hi hx fun ea s6 H2 hea I6 hR => ?_
    refine wpAny_mono (hs ea pins s6 _ _ _ (I6.suite ea) (hR ea hea)) (fun f s7 z => ?_) fun _ _ z => False.elim z
    cases f with
    | next => obtain ⟨_, _, _, q⟩ := z; exact False.elim q
    | brk => obtain ⟨_, _, _, q⟩ := z; exact False.elim q
    | cont => obtain ⟨_, _, _, q⟩ := z; exact False.elim q
    | ret u =>
      obtain ⟨v, σ', H', I7, r7, q7⟩ := z
      have I8 : Inv X pins σ' H' s7 := I7.unsuite I0.ok
      obtain ⟨m7, hn7, _⟩ := id I8.loc
      have hcls : (X.env.scope.kind == .class || (X.env.scope.kind == .module && X.env.locals != X.env.globals)) = false := by rw [I0.ok.kind]; rfl
      exact wpAny_nameGoes hx hn7 hcls fun h' m' hn' hs' => ⟨v, _, H', (I8.forget hn' hs').wish _, r7, q7⟩
  · exact wpAny_execs_nil (wpAny_execs_nil ⟨σ, H2, I2.unwish.wish _, q2⟩)
end L2

namespace L2
open PySem PySem.Spec PyProof.Rows
section
variable {X : Cx}
/-- f"text{e}", e a small int: some text -/
def tFStr (te : TE) : TE := fun σ H Q => te σ H fun v H1 => ∃ i : Int, v = .int i ∧ i.natAbs < 2 ^ 64 ∧ ∀ z, Q (.str z) H1
theorem pe_fstr {x : Str} {j : Nat} {p1 p2 pos : Pos} {e : Expr} {te : TE} (he : PE X e te) (hx : x.length ≤ 1000 := by decide) : PE X (.JoinedStr [.Constant (.str x) j p1, .FormattedValue e (-1) none p2] pos) (tFStr te) := by
  intro pins s σ H Q I h
  refine JoinedStr_many (joinParts_cons ?_)
  refine thn (pe_str pins s σ H (fun v H1 => v = .str x ∧ H1 = H) I ⟨rfl, rfl⟩) fun v s1 ⟨y, H1, I1, r, e1, e2⟩ => ?_
  subst e1 e2
  obtain ⟨t, rfl⟩ := r
  have e0 : Str.empty ++ x = x := by
    obtain ⟨c⟩ := x
    show Str.mk (#[] ++ c) = Str.mk c
    simp
  refine ⟨by rw [e0, sizeLine_eq]; omega, joinParts_cons (FormattedValue_plain (thn (he pins s1 σ H1 _ I1 h) fun v s2 ⟨z, H2, I2, r2, i, ei, hs, q⟩ => ?_))⟩
  subst ei
  obtain ⟨t2, rfl⟩ := r2
  have hl : i.natAbs.log2 < 64 := by
    by_cases z : i.natAbs = 0
    · rw [z]; decide
    · exact (Nat.log2_lt z).mpr hs
  have hd : i.natAbs.log2 < 1920 := Nat.lt_trans hl (by decide)
  refine wpAny_formatField_int hd ?_
  have ht := int_text_length_le (a := i) (k := 64) (by decide) hl
  refine ⟨by rw [e0, strLen_append, PySem.ofString_length, sizeLine_eq]; omega, joinParts_nil ?_ (by rw [e0, strLen_append, PySem.ofString_length, sizeLine_eq]; omega)⟩
  exact ⟨.str _, H2, (I2.tok _).tok _, ⟨_, rfl⟩, q _⟩
end
end L2

namespace L2
open PySem PySem.Spec PyProof.Rows
/-! # range(a, b, c), c = 2 or -1 -/
def Itrs (lo c : Int) (n : Nat) : It := ⟨fun i _ => i < n, fun i H x H' => H' = H ∧ x = .int (lo + i * c), fun i _ => n ≤ i⟩
theorem turn_ranges {P : Program} {w : World} {K : PySem.W.Frag} {tg : Expr} (it : Addr) (lo c : Int) (n : Nat) : Turn P w K tg (Itrs lo c n) [it] it (fun i h => IsRangeIter h it (lo + (i : Nat) * c) ((n : Int) - (i : Nat)) c) where
  mem := by simp
  obj := fun i h st b hb => by
    have e : b = it := by simpa using hb
    subst e
    exact ⟨_, st, fun v z => by
      have z' : Data.fields _ = Data.cell v := z
      cases z'⟩
  keep := fun i h h' st k => k it (by simp) _ st
  item := by
    intro X hP hw hK hc i pins s σ H E I hf st hg
    subst hP hw hK
    obtain ⟨f0, f1, f2, f3, f4, f5⟩ := hf it (by simp)
    have W := Walks.range (prog := X.prog) (w := X.w) (I.ok.hd hc) it lo c n
    refine W.item i s _ _ hg st fun v h' tk hv st' kk => ?_
    obtain ⟨t, rfl⟩ := hv
    have I1 : Inv X pins σ H { s with heap := h', toks := tk } := I.turned (fun b o hb e => kk b o (by simpa using hb) e) f0 f1 f3 f4 f5
    exact ⟨_, rfl, go_of (s := { s with heap := h', toks := tk }) (n := "range_iterator") st' rfl rfl (by decide) ⟨.int (lo + i * c), H, I1, ⟨t, rfl⟩, ⟨rfl, rfl⟩, st', fun b hb => (hf b hb).1⟩⟩
  done := by
    intro X hP hw hK hc i pins s σ H E I hf st hg
    subst hP hw hK
    obtain ⟨f0, f1, f2, f3, f4, f5⟩ := hf it (by simp)
    exact wpAny_pyNext_range_end (I.ok.hd hc) st (by have : n ≤ i := hg; omega) fun h' eb => ⟨rfl, I.turned (t' := s.toks) (fun b o hb e => eb b o hb e) f0 f1 f3 f4 f5⟩
  self := fun _ _ _ _ _ st h => wpAny_pyIter_rangeiter st h
/-- how many turns range(a, b, c) has -/
def rngN (a b c : Int) : Nat := (Builtin.Range.rangeSize a b c).toNat
theorem rngN_two (a b : Int) : rngN a b 2 = ((b - a + 1) / 2).toNat := by
  unfold rngN Builtin.Range.rangeSize
  simp only [show (2 : Int) > 0 by decide, if_true]
  split <;> omega
theorem rngN_down (a b : Int) : rngN a b (-1) = (a - b).toNat := by
  unfold rngN Builtin.Range.rangeSize
  simp only [show ¬ ((-1 : Int) > 0) by decide, if_false]
  split
  · have : (a - b - 1) / (- -1 : Int) = a - b - 1 := by rw [show (- -1 : Int) = 1 by decide, Int.ediv_one]
    rw [this]; omega
  · omega
theorem small_two {a b : Int} (ha : -(2 ^ 61) ≤ a) (ha' : a < 2 ^ 61) (hb : -(2 ^ 61) ≤ b) (hb' : b < 2 ^ 61) : Builtin.Range.small a b 2 = true := by
  unfold Builtin.Range.small
  unfold Builtin.Range.rangeSize
  simp only [Builtin.Range.rangeFitsLong, Bool.and_eq_true, Bool.or_eq_true, decide_eq_true_eq, beq_iff_eq, show (2 : Int) > 0 by decide, if_true]
  split <;> omega
theorem small_down {a b : Int} (ha : -(2 ^ 61) ≤ a) (ha' : a < 2 ^ 61) (hb : -(2 ^ 61) ≤ b) (hb' : b < 2 ^ 61) : Builtin.Range.small a b (-1) = true := by
  unfold Builtin.Range.small
  unfold Builtin.Range.rangeSize
  simp only [Builtin.Range.rangeFitsLong, Bool.and_eq_true, Bool.or_eq_true, decide_eq_true_eq, beq_iff_eq, show ¬ ((-1 : Int) > 0) by decide, if_false, show (- -1 : Int) = 1 by decide, Int.ediv_one]
  split <;> omega
section
variable {X : Cx} {tg : Expr}
theorem ranges_it {pins : List (Addr × Obj)} {σ : St} {H : Hp} {s : Shared} {R : It → Hp → Prop} {E : Value → Shared → Prop} {lo hi c : Int} {t u v : Tok} {tk : Nat} (I : Inv X pins σ H s) (hsm : Builtin.Range.small lo hi c = true) (hn : 0 ≤ Builtin.Range.rangeSize lo hi c)
    (q : R (Itrs lo c (rngN lo hi c)) H) : wpAny (model X.prog X.w) X.A (pyIter (.ref s.heap.objs.size)) (PIE X pins σ tg R) E { s with heap := s.heap.push { cls := .type "range", data := .fields #[.int lo t, .int hi u, .int c v] }, toks := tk } := by
  refine wpAny_pyIter_range (IsRange.new ..) hsm ?_
  have I1 : Inv X pins σ H { s with heap := s.heap.push { cls := .type "range", data := .fields #[.int lo t, .int hi u, .int c v] }, toks := tk } := I.kept fun b o e => Heap.get?_push_of_some _ e
  refine ⟨(s.heap.push { cls := .type "range", data := .fields #[.int lo t, .int hi u, .int c v] }).objs.size, [(s.heap.push { cls := .type "range", data := .fields #[.int lo t, .int hi u, .int c v] }).objs.size], _, _, H, rfl,
    I1.kept (t' := tk) fun b o e => Heap.get?_push_of_some _ e, turn_ranges _ lo c (rngN lo hi c), ?_, fun b hb => ?_, q⟩
  · have e1 : lo + ((0 : Nat) : Int) * c = lo := by simp
    have e2 : ((rngN lo hi c : Nat) : Int) - ((0 : Nat) : Int) = Builtin.Range.rangeSize lo hi c := by unfold rngN; omega
    show IsRangeIter _ _ (lo + ((0 : Nat) : Int) * c) (((rngN lo hi c : Nat) : Int) - ((0 : Nat) : Int)) c
    rw [e1, e2]
    exact Heap.get?_push_size _ rfl
  · have e : b = (s.heap.push { cls := .type "range", data := .fields #[.int lo t, .int hi u, .int c v] }).objs.size := by simpa using hb
    subst e
    exact I1.fpOk (Nat.le_refl _) (I1.hok.fresh (Nat.le_refl _))
def iRng3 (ta : TA) : TI := fun σ H R => ta σ H fun vs H1 => ∃ i j c : Int, vs = [.int i, .int j, .int c] ∧ (-(2 ^ 61) ≤ i ∧ i < 2 ^ 61 ∧ -(2 ^ 61) ≤ j ∧ j < 2 ^ 61) ∧ (c = 2 ∨ c = -1) ∧ R (Itrs i c (rngN i j c)) H1
theorem pi_range3 {a b c : Expr} {ta : TA} {p pos : Pos} (hg : Gl X "range") (hm : X.mg "range" = none) (ha : PA X [a, b, c] ta) (hs : starEach [a, b, c] X.env = [(false, eval a X.env), (false, eval b X.env), (false, eval c X.env)] := by rfl) (hs2 : starEach [b, c] X.env = [(false, eval b X.env), (false, eval c X.env)] := by rfl) (hs3 : starEach [c] X.env = [(false, eval c X.env)] := by rfl) :
    PI X tg (.Call (.Name "range" p) [a, b, c] [] pos) (iRng3 ta) := by
  intro pins s σ H R I h
  refine Call_ (ld_blt I hg hm boot_range (PyProof.Rows.callWith_type1 (thn (ha pos pins s σ H _ I h) fun us s1 ⟨vs, H1, I1, r1, q1⟩ => ?_) (by rw [hs, hs2]) (by rw [hs2]; rfl)))
  obtain ⟨i, j, k, e, ⟨q1, q2, q3, q4⟩, hk, q⟩ := q1
  subst e
  cases r1 with
  | cons r rr =>
    cases rr with
    | cons r' rr =>
      cases rr with
      | cons r'' rr =>
        cases rr
        obtain ⟨t, rfl⟩ := r
        obtain ⟨t', rfl⟩ := r'
        obtain ⟨t'', rfl⟩ := r''
        rcases hk with rfl | rfl
        · refine call_range_3 (by decide) (ranges_it I1 (small_two q1 q2 q3 q4) ?_ q) (Or.inl (PyProof.noPylong_small (by omega)))
          unfold Builtin.Range.rangeSize
          simp only [show (2 : Int) > 0 by decide, if_true]
          split <;> omega
        · refine call_range_3 (by decide) (ranges_it I1 (small_down q1 q2 q3 q4) ?_ q) (Or.inl (PyProof.noPylong_small (by omega)))
          unfold Builtin.Range.rangeSize
          simp only [show ¬ ((-1 : Int) > 0) by decide, if_false, show (- -1 : Int) = 1 by decide, Int.ediv_one]
          split <;> omega
end
theorem for_ranges {lo c : Int} {n : Nat} {g : TG} {tb : TS} {D : Ends} {σ : St} {H : Hp} (Pv : Nat → St → Hp → Prop) (h0 : Pv 0 σ H)
    (hs : ∀ i σ H, i < n → Pv i σ H → g (.int (lo + i * c)) σ H fun σ2 H2 => tb { D with nx := Pv (i + 1), ct := Pv (i + 1), bk := D.nx } σ2 H2) (hd : ∀ σ H, Pv n σ H → D.nx σ H) :
    ∃ W : Nat → Nat → St → Hp → Prop, (∃ m, W 0 m σ H) ∧ ∀ i m σ H, W i m σ H →
      ((Itrs lo c n).stop i H ∧ D.nx σ H) ∨ ((Itrs lo c n).go i H ∧ ∃ N : St → Hp → Prop, (∀ σ' H', N σ' H' → ∃ m', m' < m ∧ W (i + 1) m' σ' H') ∧ ∀ x H', (Itrs lo c n).yld i H x H' → g x σ H' fun σ2 H2 => tb { D with nx := N, ct := N, bk := D.nx } σ2 H2) := by
  refine ⟨fun i m σ H => m = n - i ∧ i ≤ n ∧ Pv i σ H, ⟨n, by simp, Nat.zero_le _, h0⟩, ?_⟩
  rintro i m σ H ⟨rfl, hi, p⟩
  by_cases hlt : i < n
  · refine .inr ⟨hlt, Pv (i + 1), fun σ' H' p' => ⟨n - (i + 1), by omega, rfl, hlt, p'⟩, fun x H' y => ?_⟩
    obtain ⟨e, y⟩ := y
    subst e y
    exact hs i σ _ hlt p
  · have e : i = n := by omega
    subst e
    exact .inl ⟨Nat.le_refl _, hd σ H p⟩
theorem tcomp_range3 {ta : TA} {js : List Nat} {tc : TT} {te : TE} {σ : St} {H : Hp} {Q : VK} (h : ta σ H fun vs H1 => ∃ i j c : Int, vs = [.int i, .int j, .int c] ∧ (-(2 ^ 61) ≤ i ∧ i < 2 ^ 61 ∧ -(2 ^ 61) ≤ j ∧ j < 2 ^ 61) ∧ (c = 2 ∨ c = -1) ∧ CompW (Itrs i c (rngN i j c)) σ js tc te Q H1) : tComp (iRng3 ta) js tc te σ H Q := h
theorem comp_pureRs {lo c : Int} {n : Nat} {σ : St} {js : List Nat} {tc : TT} {te : TE} {Q : VK} {H : Hp} (f : Nat → V) (hz : n ≤ sizeLine)
    (ht : ∀ i, i < n → ∀ R : Bool → Hp → Prop, R true H → tc (inner σ js (some (.int (lo + i * c)))) H R) (he : ∀ i, i < n → ∀ R : VK, R (f i) H → te (inner σ js (some (.int (lo + i * c)))) H R)
    (hd : ∀ l, H l = none → Q (.ref l) (upd H l (.lst ((List.range n).map f)))) : CompW (Itrs lo c n) σ js tc te Q H := by
  refine ⟨fun i m ys H' => m = n - i ∧ i ≤ n ∧ H' = H ∧ ys = (List.range i).map f, ⟨n, by simp, Nat.zero_le _, rfl, by simp⟩, ?_⟩
  rintro i m ys H' ⟨rfl, hi, rfl, rfl⟩
  by_cases hlt : i < n
  · refine .inr ⟨hlt, by simp; omega, fun x H2 y => ?_⟩
    obtain ⟨e, y⟩ := y
    subst e y
    refine ht i hlt _ ?_
    rw [if_pos rfl]
    exact he i hlt _ ⟨n - (i + 1), by omega, rfl, hlt, rfl, by rw [List.range_succ]; simp⟩
  · have e : i = n := by omega
    subst e
    exact .inl ⟨Nat.le_refl _, hd⟩
end L2

/-! # OWN EXCEPTION CLASSES as the top has left them -/
namespace L2
open PySem PySem.Spec PyProof.Rows
/-- D is among the ancestors of the class at C -/
def mroHas (K : PySem.W.Frag) (C D : Addr) : Bool := match K.lookup C with
  | some ⟨_, _, .cls cd, _⟩ => cd.mro.contains (.ref D)
  | _ => false
theorem exc_shape {K : PySem.W.Frag} {C : Addr} {bmB : List Value} {newId : String} (z : PySem.W.excIn K C bmB newId = true) :
    ∃ bm N nm qn bs hdct sn sub ab col dd k0 k1 k2 k3 k5, K.lookup C = some (excClassObj nm qn C N bs bm hdct sn sub ab col dd k0 k1 k2 k3 k5 newId) ∧ PySem.W.tailIn K bmB bm = true ∧ PySem.W.nsOkIn K N = true ∧ PySem.W.nsIn K N "__init__" = some none := by
  unfold PySem.W.excIn at z
  split at z
  · rename_i dv cv sv look
    split at z
    · rename_i C2 bm s0 s1 s2 s3 nw s5 em es
      rw [Bool.and_eq_true, Bool.and_eq_true, Bool.and_eq_true, Bool.and_eq_true, Bool.and_eq_true] at z
      obtain ⟨⟨⟨⟨⟨z1, z2⟩, z3⟩, z4⟩, z5⟩, z6⟩ := z
      have z1' := eq_of_beq z1
      have z2' := eq_of_beq z2
      have z6' := eq_of_beq z6
      subst z1' z2'
      obtain ⟨c1, c2, c3, c4, c5, c6, c7, c8, c9, c10, c11⟩ := cv
      dsimp only at em z3 z5 z6'
      subst em
      have z3' : c11 = false := by simpa using z3
      subst z3'
      have hs : sv = #[s0, s1, s2, s3, some (.builtin nw), s5] := by
        obtain ⟨ll⟩ := sv
        have es' : ll = [s0, s1, s2, s3, some (.builtin nw), s5] := es
        rw [es']
      subst hs
      exact ⟨bm, c4, c1, c5, c2, c6, c7, c8, c9, c10, dv, s0, s1, s2, s3, s5, look, z4, z5, z6'⟩
    · cases z
  · cases z
theorem own_mk {K : PySem.W.Frag} {h : Heap} {mg : Str → Option Value} {x : Str} {C : Addr} {bmB : List Value} {newId : String} (X : K.In h) (G : h.Ns mainGlobals mg) (e : PySem.W.nsIn K mainGlobals x = some (some (.ref C))) (z : PySem.W.excIn K C bmB newId = true) : OwnCls x C bmB newId mg h := by
  obtain ⟨bm, N, nm, qn, bs, hdct, sn, sub, ab, col, dd, k0, k1, k2, k3, k5, lk, ht, hok, hni⟩ := exc_shape z
  exact ⟨PySem.W.mg_of X G e, bm, N, nm, qn, bs, hdct, sn, sub, ab, col, dd, k0, k1, k2, k3, k5, _, X _ _ lk, .of_isNs (PySem.W.isNs_of_in X hok), PySem.W.nsMap_none_of_in X hok hni, PySem.W.tail_of_in X ht⟩
theorem catch_mk {K : PySem.W.Frag} {h : Heap} {C D : Addr} {bmB : List Value} {newId : String} (X : K.In h) (zC : PySem.W.excIn K C bmB newId = true) (zD : PySem.W.excIn K D bmB newId = true) (hb : bmB.contains (.type "BaseException") = true) (m : mroHas K C D = true) : Catches h C D := by
  obtain ⟨bm, N, nm, qn, bs, hdct, sn, sub, ab, col, dd, k0, k1, k2, k3, k5, lk, ht, hok, hni⟩ := exc_shape zC
  obtain ⟨bm', N', nm', qn', bs', hdct', sn', sub', ab', col', dd', k0', k1', k2', k3', k5', lk', ht', hok', hni'⟩ := exc_shape zD
  unfold mroHas at m
  rw [lk] at m
  intro M A E s e oe Q k he hc q
  obtain ⟨hp, g, d, t, os⟩ := s
  exact wpAny_excMatches_own (k _ _ (X _ _ lk)) (k _ _ (X _ _ lk')) he hc ((PySem.W.tail_of_in X ht').hasType hb) m q
abbrev bmVE : List Value := [.type "ValueError", .type "Exception", .type "BaseException", .type "object"]
/-- the class x at C, raised; its ancestor LampError at CL -/
structure ExcTop (x : Str) (K : PySem.W.Frag) (mg : Str → Option Value) (base : Heap) (C CL : Addr) : Prop where
  own : OwnCls x C bmVE "ValueError.__new__" mg base
  le : mg "LampError" = some (.ref CL)
  catL : Catches base C CL
  kit : ExcKit K C
  ve : mg "ValueError" = none
  k3 : PySem.W.kitOne K (.ref C) (.type "ValueError") = some true
theorem ExcTop.catS {x : Str} {K : PySem.W.Frag} {mg : Str → Option Value} {base : Heap} {C CL : Addr} (Z : ExcTop x K mg base C CL) : Catches base C C := catches_self Z.own (by decide +kernel)
end L2

namespace L2
open PySem PySem.Spec PyProof.Rows
/-! # a cut between statements, [] in a list of lists, list(range(n)), try: return f(..) == e -/
/-- behind the first statement I holds -/
theorem rd_cut {t u : TS} {D : Ends} {σ : St} {H : Hp} (I : St → Hp → Prop) (h1 : ∀ N : St → Hp → Prop, (∀ σ' H', I σ' H' → N σ' H') → t { D with nx := N } σ H) (h2 : ∀ σ' H', I σ' H' → u D σ' H') : tSeq t u D σ H := h1 _ h2
section
variable {X : Cx} {K : PySem.W.Frag}
theorem sl_tupK (hK : X.K = K) : SlR X (rSlT K) := hK ▸ sl_tup
theorem op_catTK (hK : X.K = K) : OpR X (binaryOp .Add) (rCatT K) := hK ▸ op_catT
theorem op_eqLK (hK : X.K = K) (hu : X.A.units < cLine) : OpR X (compareOp .Eq) (fun x y H Q => (∃ k, LCmp K H x y k ∧ Q (.bl k) H) ∨ (x = .non ∧ (∃ b ys, y = .ref b ∧ SqL K H b ys) ∧ Q (.bl false) H)) := hK ▸ op_eqL hu
def rInNil (K : PySem.W.Frag) : R2 := fun x y H Q => ∃ (p a : Addr) (ps : List (Addr × List V)), x = .ref p ∧ y = .ref a ∧ H p = some (.lst []) ∧ SqL K H a (ps.map fun q => V.ref q.1) ∧ (∀ q ∈ ps, H q.1 = some (.lst q.2)) ∧ Q (.bl (ps.any fun q => q.2.isEmpty)) H
theorem op_inNil (hu : X.A.units + 1 < cLine) : OpR X (compareOp .In) (rInNil X.K) := by
  intro pins s σ H x y v u Q I rx ry h
  obtain ⟨p, a, ps, rfl, rfl, hp, ha, hq, q⟩ := h
  cases (show v = Value.ref p from rx)
  cases (show u = Value.ref a from ry)
  obtain ⟨its, r, pl, hz⟩ := I.list ha
  have eit : its = ps.map fun q => Value.ref q.1 := by
    clear q hz pl ha
    have : ∀ (ps : List (Addr × List V)) (its : List Value), Vals (ps.map fun q => V.ref q.1) its → its = ps.map fun q => Value.ref q.1 := by
      intro ps
      induction ps with
      | nil => intro its r; cases r; rfl
      | cons q ps ih =>
        intro its r
        cases r with
        | cons r1 r2 => rw [show _ = Value.ref q.1 from r1, ih _ r2]; rfl
    exact this ps its r
  have ans : ∃ e : Value → Bool, ∀ q ∈ ps, e (.ref q.1) = q.2.isEmpty := by
    refine ⟨fun u => match u with | .ref b => (match H b with | some (.lst ys) => ys.isEmpty | _ => false) | _ => false, fun q hq' => ?_⟩
    show (match H q.1 with | some (.lst ys) => ys.isEmpty | _ => false) = _
    rw [hq q hq']
  obtain ⟨e, he⟩ := ans
  have hany : its.any e = ps.any fun q => q.2.isEmpty := by
    rw [eit, List.any_map]
    clear eit r pl ha q hz
    induction ps with
    | nil => rfl
    | cons q ps ih =>
      rw [List.any_cons, List.any_cons, ih (fun q hq' => hq q (List.mem_cons_of_mem _ hq')) (fun q hq' => he q (List.mem_cons_of_mem _ hq'))]
      congr 1
      exact he q List.mem_cons_self
  refine SeqAt.in_listAt e pl.isList (fun w hw => ?_) ⟨.bl _, H, I, rfl, ?_⟩
  · have hw' : w ∈ its := by simpa using hw
    rw [eit] at hw'
    obtain ⟨z, hzm, rfl⟩ := List.mem_map.mp hw'
    rw [he z hzm]
    by_cases hne : z.1 = p
    · have := hq z hzm
      rw [hne, hp] at this
      injection this with this
      injection this with this
      rw [hne, ← this]
      exact SeqAt.EqAt.same _
    · refine SeqAt.EqAt.of_refs hne ?_
      have hu1 : X.A.in1.units < cLine := by rw [units_in1]; exact hu
      obtain ⟨i1, r1, p1, z1⟩ := I.list (SqL.of (K := X.K) (hq z hzm))
      obtain ⟨i2, r2, p2, z2⟩ := I.list (SqL.of (K := X.K) hp)
      have l1 := r1.length
      have l2 := r2.length
      cases hzc : z.2 with
      | nil =>
        rw [hzc] at l1
        have e1 : i1 = [] := List.length_eq_zero_iff.mp (by simpa using l1.symm)
        have e2 : i2 = [] := List.length_eq_zero_iff.mp (by simpa using l2.symm)
        subst e1 e2
        exact SeqAt.RcAt.lists (e := fun _ => true) p1.isList p2.isList rfl hu1 (fun j h1 => absurd h1 (by simp))
      | cons x xs =>
        rw [hzc] at l1
        refine SeqAt.RcAt.lists_lengths p1.isList p2.isList ?_ hu1
        have e2 : i2 = [] := List.length_eq_zero_iff.mp (by simpa using l2.symm)
        subst e2
        rw [bne_iff_ne]
        simp at l1 ⊢
        intro z; rw [z] at l1; simp at l1
  · rw [show its.toArray.any e = its.any e by simp, hany]
    exact q
theorem bt_range : bootBuiltins "range" = some (.type "range") := by decide +kernel
/-- list(range(e)) -/
def tLRange (te : TE) : TE := fun σ H Q => te σ H fun x H1 => ∃ n : Nat, x = .int n ∧ n ≤ 1000000 ∧ ∀ p, H1 p = none → Q (.ref p) (upd H1 p (.lst ((List.range n).map fun i : Nat => V.int (i : Int))))
theorem pe_listRange {e : Expr} {te : TE} {p1 p2 pos pos2 : Pos} (hc : X.calm = true) (hm1 : X.mg "list" = none) (hm2 : X.mg "range" = none) (he : PE X e te) (hg1 : Gl X "list" := by rfl) (hg2 : Gl X "range" := by rfl)
    (hs : starEach [e] X.env = [(false, eval e X.env)] := by rfl) (hs2 : starEach [Expr.Call (.Name "range" p2) [e] [] pos2] X.env = [(false, eval (.Call (.Name "range" p2) [e] [] pos2) X.env)] := by rfl) :
    PE X (.Call (.Name "list" p1) [.Call (.Name "range" p2) [e] [] pos2] [] pos) (tLRange te) := by
  intro pins s σ H Q I h
  refine wpAny_Call_Name_kw (ld_blt I hg1 hm1 bt_list ?_)
  refine PyProof.Rows.callWith_type1 ?_ hs2 rfl
  rw [hs2]
  show wpAny _ _ (spliced ((false, eval (.Call (.Name "range" p2) [e] [] pos2) X.env) :: backTo pos [])) _ _ s
  refine Calls.spliced_cons (wpAny_Call_Name_kw (ld_blt I hg2 hm2 bt_range (PyProof.Rows.callWith_type1 ?_ hs rfl)))
  rw [hs]
  refine Calls.spliced_cons ?_
  show wpAny _ _ (eval e X.env) _ _ s
  refine thn (he pins s σ H _ I h) fun v s1 ⟨x, H1, I1, r1, n, hx, hn, q⟩ => ?_
  subst hx
  obtain ⟨t, rfl⟩ := r1
  show wpAny _ _ (spliced (backTo pos2 [])) _ _ _
  refine Calls.spliced_nil (call_range_1 ?_)
  show wpAny _ _ (spliced (backTo pos [])) _ _ _
  refine Calls.spliced_nil ?_
  have hsm : Builtin.Range.small 0 (n : Int) 1 = true := small_one (by decide) (by decide) (by omega) (by omega)
  have hrs : Builtin.Range.rangeSize 0 (n : Int) 1 = ((n : Nat) : Int) := by rw [rangeSize_one]; split <;> omega
  refine call_list_range (n := n) (I1.ok.hd hc) (IsRange.new ..) hsm hrs (by omega) fun h' tk acc' c' hk hD hacc => ?_
  have up : ∀ b o, s1.heap.get? b = some o → h'.get? b = some o := fun b o e => hk b o (Heap.get?_push_of_some _ e)
  have hge : s1.heap.objs.size ≤ (s1.heap.push { cls := .type "range", data := .fields #[.int 0 s1.toks, .int n t, .int 1 (s1.toks + 1)] }).objs.size := by rw [Heap.size_push]; exact Nat.le_succ _
  have fr := I1.hok.fresh hge
  refine ⟨.ref _, _, I1.laid (o := .lst ((List.range n).map fun i : Nat => V.int (i : Int))) (t' := tk) up hge ⟨by simp; exact small6' hn, acc'.toList, c', ?_, by simpa using hD⟩, rfl, q _ fr⟩
  refine vals_of_get (by simp [hacc.1]) fun i x u e1 e2 => ?_
  obtain ⟨t2, e3⟩ := hacc.2 i u (by simpa using e2)
  rw [List.getElem?_map] at e1
  have hi : i < n := by
    by_cases z : i < n
    · exact z
    · rw [List.getElem?_eq_none (by simp; omega)] at e1; cases e1
  rw [List.getElem?_range hi] at e1
  have e1' : V.int (i : Int) = x := Option.some.inj e1
  subst e1' e3
  exact ⟨t2, by simp⟩
/-! ### try: return f(..) == e except C: .. -/
def tTryRetEq (C : Addr) (sp : Sp) (ta : TA) (tb : TE) (rr : R2) (ts : TS) : TS := fun D σ H => ta σ H fun vs H1 => sp vs H1 (fun v H2 => tb σ H2 fun y H3 => rr v y H3 D.rt) (fun c _ H2 => c = .ref C ∧ ts D σ H2)
theorem ps_tryRetEq {X : Cx} {k m : Nat} {x cn : Str} {ps : List Str} {sp : Sp} {C Dc : Addr} {e b : Expr} {es : List Expr} {ta : TA} {tb : TE} {rr : R2} {ts : TS} {p p2 p3 pc np hp pos : Pos} {b₀ : Stmt} {suite : List Stmt} (G : CalX X.prog X.w X.K X.mg X.base k x ps sp) (hr : Room m X.A) (hk : k ≤ m)
    (hm : X.mg cn = some (.ref Dc)) (hcat : Catches X.base C Dc) (ha : ∀ E, PA (X.wish E) (e :: es) ta) (hb : ∀ E, PE (X.wish E) b tb) (ho : ∀ E, OpR (X.wish E) (compareOp .Eq) rr) (hs : ∀ ea, PSs (X.suite ea) (b₀ :: suite) ts)
    (hmk : behindInMarks .Eq b = false) (hst : X.stack = X.env :: X.outer := by rfl) (hfr : X.env.frame = some X.env.locals := by rfl) (hg : Gl X x := by rfl) (hgc : Gl X cn := by rfl)
    (hdb : (x == ("__debug__" : Str)) = false := by decide) (hdc : (cn == ("__debug__" : Str)) = false := by decide) (he : starEach (e :: es) X.env = (false, eval e X.env) :: starEach es X.env := by rfl) (hpl : (backTo p2 (starEach es X.env)).any (·.1) = false := by rfl) :
    PS X.nox (.Try [.Return (some (.Compare (.Call (.Name x p) (e :: es) [] p2) [.Eq] [b] pc)) p3] [.ExceptHandler (some (.Name cn np)) none (b₀ :: suite) hp] [] [] pos) (tTryRetEq C sp ta tb rr ts) := by
  intro pins s σ H D I h
  obtain ⟨f, fd, F, hmx, hkp, hbn⟩ := G.ex
  have I0 : Inv X pins σ H s := I.unwish
  refine wpAny_Try_except ?_
  refine wpAny_execs_cons ?_
  refine wpAny_Return_some ?_
  refine wpAny_Compare1 ?_ hmk
  refine wpAny_Call_Name_kw (ld_glob I hg hmx ?_ hdb)
  refine PySem.W.callWith_K (h₀ := X.base) I.ok.mod.kin hkp (thn (ha (Land X [.ExceptHandler (some (.Name cn np)) none (b₀ :: suite) hp] (SP X.nox pins D)) _ pins s σ H _ (I0.wish _) h) fun us s1 ⟨vs, H1, I1, r, q⟩ => ⟨I1.kIn, ?_⟩) he hpl
  refine thn (run_fnP (X := X.wish (Land X [.ExceptHandler (some (.Name cn np)) none (b₀ :: suite) hp] (SP X.nox pins D))) F (hr.mono hk) hbn (fun e' s' fl => ?_) I1 r q) fun v s2 ⟨z, H2, I2, r2, q2⟩ => ?_
  · refine catch_fly (X := X) hst hfr I1.unwish fl hgc hm hcat hdc fun ea s6 H2 I6 hR => ?_
    exact wpAny_mono (hs ea pins s6 σ H2 D (I6.suite ea) hR) (fun _ _ z => (z.unsuite I0.ok : SP X pins D _ _).wishN) fun _ _ z => False.elim z
  · refine thn (hb (Land X [.ExceptHandler (some (.Name cn np)) none (b₀ :: suite) hp] (SP X.nox pins D)) pins s2 σ H2 _ I2 q2) fun u s3 ⟨y, H3, I3, r3, q3⟩ => ?_
    refine thn (ho (Land X [.ExceptHandler (some (.Name cn np)) none (b₀ :: suite) hp] (SP X.nox pins D)) pins s3 σ H3 z y v u _ I3 r2 r3 q3) fun w' s4 ⟨z4, H4, I4, r4, q4⟩ => ?_
    exact ⟨z4, σ, H4, I4.unwish.wish _, r4, q4⟩
end
end L2

namespace L2
open PySem PySem.Spec PyProof.Rows
/-! # OWN CLASSES by promises; min of a dict -/
structure MCal (P : Program) (w : World) (K : PySem.W.Frag) (mg : Str → Option Value) (base : Heap) (k : Nat) (C : Addr) (m : Str) (ps : List Str) (sp : Sp) : Prop where
  ex : ∃ f fd, FnOk P w K mg base CX0 k f fd ps sp ∧ Meth K C m f ∧ Binds K fd ps []
/-- a method as the top has left it -/
structure MDef (K : PySem.W.Frag) (C : Addr) (m qual : Str) (st : Stmt) (ps : List Str) : Prop where
  ex : ∃ f fd, Fun K m qual st f fd ∧ Meth K C m f ∧ Binds K fd ps []
theorem MDef.cal {P : Program} {w : World} {K : PySem.W.Frag} {mg : Str → Option Value} {base : Heap} {C : Addr} {m qual : Str} {st : Stmt} {N ps : List Str} {k : Nat} {sp : Sp} (D : MDef K C m qual st ps) (S : FnScope N ps (defScope st)) (len : ∀ vs H Q E, sp vs H Q E → vs.length = ps.length)
    (hbody : ∀ (f : Addr) (cdv : Value) (A : Around) (outer : List Env) (s : Shared) (H : Hp) (vs : List V) (Q : VK) (E : XK), Room k (A.deeper (envOfC qual (defScope st) s.heap.objs.size f cdv)) → sp vs H Q E →
      ∃ t, PSs (cxOf CX0 P w K mg base N qual (defScope st) f cdv A outer s H E).nox (defBody st) t ∧ t { nx := fun _ H' => Q .non H', rt := Q } (start N vs) H) : MCal P w K mg base (k + 1) C m ps sp := by
  obtain ⟨f, fd, F, hm, hb⟩ := D.ex
  exact ⟨f, fd, F.ok S len (hbody f), hm, hb⟩
theorem mdef_mk {K : PySem.W.Frag} {C : Addr} {m qual : Str} {st : Stmt} {ps : List Str} {f : Addr} {oc : Value} {od an : Option Addr} {osl : Array (Option Value)} {kV doc pm cdv ct : Value}
    (a : PySem.W.findIn K (.ref C) m = some (some (.ref f))) (i : PySem.W.isFn K (.ref f) = true) (l : K.lookup f = some ⟨oc, od, .func (PySem.W.fnOf m qual (defArgs st) (defBody st) (defScope st) .none kV doc pm an cdv ct), osl⟩) (c : PySem.W.codeIn K cdv qual = true) (k : PySem.W.keepIn K (.ref f) = true)
    (b : ∀ (kV doc pm : Value) (an : Option Addr) (cdv ct : Value) (us : List Value), us.length = ps.length → bindArgs (PySem.W.fnOf m qual (defArgs st) (defBody st) (defScope st) .none kV doc pm an cdv ct) ⟨us, []⟩ = pure (ps.zip us)) : MDef K C m qual st ps :=
  ⟨f, _, fun_mk l c k, ⟨a, i, k⟩, (fun_mk l c k).binds b⟩
/-- the class C is made by the promise of its __init__ -/
structure Made (P : Program) (w : World) (K : PySem.W.Frag) (mg : Str → Option Value) (base : Heap) (k : Nat) (x : Str) (C : Addr) (ps : List Str) (sp : Sp) : Prop where
  ex : ∃ f fd, FnOk P w K mg base CX0 k f fd ps sp ∧ Mk K C f ∧ Binds K fd ps [] ∧ mg x = some (.ref C)
section
variable {X : Cx} {k n : Nat} {C : Addr} {m x : Str} {ps : List Str} {sp : Sp} {p pos apos : Pos} {e o : Expr} {es : List Expr} {ta : TE} {t : TA}
theorem pe_mdef {pl : Sem Bool} (G : MCal X.prog X.w X.K X.mg X.base k C m ps sp) (c : Cls X.K C) (hr : Room n X.A) (hk : k ≤ n) (he : PE X o ta) (ha : PA X (e :: es) t)
    (hst : starEach (e :: es) X.env = (false, eval e X.env) :: starEach es X.env := by rfl) (hpl : (backTo pos (starEach es X.env)).any (·.1) = false := by rfl)
    (ht : eval (.Call (.Attribute o m apos) (e :: es) [] pos) X.env = (do
      let ov ← eval o X.env
      standAt apos.atName
      let (f, first) ← holding [ov] (getMethod ov m pl)
      callWith pos f first (backTo pos (starEach (e :: es) X.env)) (backToKw pos (keywordEach [] X.env))) := by rfl) :
    PE X (.Call (.Attribute o m apos) (e :: es) [] pos) (tMeth C m sp [] E0 ta t) := by
  obtain ⟨f, fd, F, hm, hb⟩ := G.ex
  exact pe_meth he c hm F (hr.mono hk) hb .nil pass0 ha hst hpl ht
theorem pe_mdef0 {pl : Sem Bool} (G : MCal X.prog X.w X.K X.mg X.base k C m ps sp) (c : Cls X.K C) (hr : Room n X.A) (hk : k ≤ n) (he : PE X o ta)
    (ht : eval (.Call (.Attribute o m apos) [] [] pos) X.env = (do
      let ov ← eval o X.env
      standAt apos.atName
      let (f, first) ← holding [ov] (getMethod ov m pl)
      callWith pos f first (backTo pos (starEach [] X.env)) (backToKw pos (keywordEach [] X.env))) := by rfl) :
    PE X (.Call (.Attribute o m apos) [] [] pos) (tMeth C m sp [] E0 ta tNil) := by
  obtain ⟨f, fd, F, hm, hb⟩ := G.ex
  exact pe_meth0 he c hm F (hr.mono hk) hb .nil pass0 ht
theorem pe_made (G : Made X.prog X.w X.K X.mg X.base k x C ps sp) (hr : Room n X.A) (hk : k + 1 ≤ n) (ha : PA X (e :: es) t) (hg : Gl X x := by rfl)
    (hdb : (x == ("__debug__" : Str)) = false := by decide) (he : starEach (e :: es) X.env = (false, eval e X.env) :: starEach es X.env := by rfl) (hpl : (backTo pos (starEach es X.env)).any (·.1) = false := by rfl) :
    PE X (.Call (.Name x p) (e :: es) [] pos) (tMake C sp [] E0 t) := by
  obtain ⟨f, fd, F, M, hb, hm⟩ := G.ex
  exact pe_make M F (hr.mono hk) hg hm hb .nil pass0 ha hdb he hpl
theorem pe_fldK {K : PySem.W.Frag} {f : Str} (hK : X.K = K) (he : PE X e ta) (hb : attributeBase e f X.env (eval e X.env) = eval e X.env) : PE X (.Attribute e f pos) (tFld K ta f) := hK ▸ pe_fld he hb
/-- min(d), a dict whose keys are ints -/
theorem call_minD (hc : X.calm = true) : CallR X (.builtin "min") (fun xs H Q => ∃ (a : Addr) (kvs : List (Key × V)) (ns : List Int), xs = [V.ref a] ∧ Rd H a (.dK kvs) ∧ kvs.map (·.1) = ns.map Sum.inl ∧ ns ≠ [] ∧ ∀ y ∈ ns, (∀ z ∈ ns, y ≤ z) → Q (.int y) H) := by
  intro pins s σ H xs us Q I r h
  obtain ⟨a, kvs, ns, rfl, ha, hks, hne, q⟩ := h
  obtain ⟨u, rfl, ru⟩ := vals1 r
  cases (show u = Value.ref a from ru)
  obtain ⟨hz, lo, vs, rel, o, es, ep, h1, h2, h3, h4, h5, h6⟩ := dk_rd I.hok ha
  have hok : s.heap.DictAt (mixKind X.prog X.w) a vs ep := ⟨o, es, h1, h2, h3, h4, h5, h6⟩
  have hkeys : vs.map (·.1) = ns.map Sum.inl := by rw [← rel.keys]; exact hks
  have hlen : vs.length = ns.length := by simpa using congrArg List.length hkeys
  have hpos : 0 < vs.length := by rw [hlen]; exact List.length_pos_iff.mpr hne
  refine call_min_walk (wpAny_pyIter_dict lo hok ?_)
  have hval : ∀ (i : Nat) (v : Value), (∃ k x, vs[i]? = some (k, x) ∧ (mixKind X.prog X.w).is k v = true) → ∃ t, v = .int (ns.getD i 0) t := by
    rintro i v ⟨k, x, e1, e2⟩
    have e3 : (vs.map (·.1))[i]? = some k := by rw [List.getElem?_map, e1]; rfl
    rw [hkeys, List.getElem?_map] at e3
    cases e4 : ns[i]? with
    | none => rw [e4] at e3; cases e3
    | some z =>
      rw [e4] at e3
      have e5 : (Sum.inl z : Key) = k := Option.some.inj e3
      subst e5
      have e2' : keyIs (Sum.inl z) v = true := e2
      rcases keyIs_shape e2' with ⟨j, t, ej, ev⟩ | ⟨y, t, ej, ev⟩
      · cases ej
        exact ⟨t, by rw [ev]; simp [List.getD, e4]⟩
      · cases ej
  refine ⟨s.heap.objs.size, [s.heap.objs.size, a], [s.heap.objs.size], vs.length, _, _, _, rfl, Walks.dictKeys (A := X.A.in1) (knd := mixKind X.prog X.w) (I.ok.hd hc) _ a (Nat.ne_of_lt hok.lt_size) vs ep, ⟨⟨_, Heap.get?_push_size _ rfl, rfl, rfl⟩, hok.push _⟩, fun b hb => ?_, hpos, CmpOf.ints_lt (fun i => ns.getD i 0) hval, fun v h' tk hP hk => ?_⟩
  · have hsz : (s.heap.push { cls := .type "dict_keyiterator", data := .fields #[.ref a, .int 0 0, .int vs.length 0, .int ep 0] }).objs.size = s.heap.objs.size + 1 := Heap.size_push ..
    show b < (s.heap.push { cls := .type "dict_keyiterator", data := .fields #[.ref a, .int 0 0, .int vs.length 0, .int ep 0] }).objs.size
    rw [hsz]
    have hb' : b = s.heap.objs.size ∨ b = a := by simpa using hb
    rcases hb' with z | z
    · rw [z]; exact Nat.lt_succ_self _
    · rw [z]; exact Nat.lt_succ_of_lt hok.lt_size
  · obtain ⟨t, rfl⟩ := hval _ _ hP
    obtain ⟨b1, b2⟩ := argBest_lt (fun i => ns.getD i 0) (vs.length - 1)
    have hlt : argBest (fun i j => decide (ns.getD i 0 < ns.getD j 0)) (vs.length - 1) < ns.length := by omega
    refine ⟨.int (ns.getD (argBest (fun i j => decide (ns.getD i 0 < ns.getD j 0)) (vs.length - 1)) 0), H, I.kept (t' := tk) fun b o e => ?_, ⟨t, rfl⟩, q _ ?_ ?_⟩
    · refine hk b o (fun z => ?_) (Heap.get?_push_of_some _ e)
      have z' : b = s.heap.objs.size := by simpa using z
      rw [z'] at e
      exact absurd (Heap.lt_size e) (Nat.lt_irrefl _)
    · rw [List.getD_eq_getElem?_getD, List.getElem?_eq_getElem hlt]; exact List.getElem_mem hlt
    · intro z hz'
      obtain ⟨j, hj, ej⟩ := List.mem_iff_getElem.mp hz'
      have := b2 j (by omega)
      have e6 : ns.getD j 0 = z := by rw [List.getD_eq_getElem?_getD, List.getElem?_eq_getElem hj, ← ej]; rfl
      rw [e6] at this
      exact this
end
end L2

namespace My
open PySem L2 PySem.Spec PyProof.Rows
def top (i : Nat) : Stmt := PySem.Challenge.pw_lampwish_k04_forced.main.body.getD i (.Pass ⟨0, 0, 0, 0⟩)
abbrev s__wall : Stmt := top 0
abbrev p__wall : List Str := ["k"]
abbrev n__wall : List Str := ["k"]
theorem sc__wall : FnScope n__wall p__wall (defScope s__wall) := ⟨rfl, rfl, rfl, by decide +kernel, rfl, by decide +kernel, by decide +kernel⟩
abbrev s_left_open : Stmt := top 2
abbrev p_left_open : List Str := ["wish", "taken"]
abbrev n_left_open : List Str := ["wish", "taken", "letter"]
theorem sc_left_open : FnScope n_left_open p_left_open (defScope s_left_open) := ⟨rfl, rfl, rfl, by decide +kernel, rfl, by decide +kernel, by decide +kernel⟩
abbrev s_each_once : Stmt := top 3
abbrev p_each_once : List Str := ["letters"]
abbrev n_each_once : List Str := ["letters"]
theorem sc_each_once : FnScope n_each_once p_each_once (defScope s_each_once) := ⟨rfl, rfl, rfl, by decide +kernel, rfl, by decide +kernel, by decide +kernel⟩
abbrev s_marked : Stmt := top 4
abbrev p_marked : List Str := ["letters"]
abbrev n_marked : List Str := ["letters", "marks", "letter"]
theorem sc_marked : FnScope n_marked p_marked (defScope s_marked) := ⟨rfl, rfl, rfl, by decide +kernel, rfl, by decide +kernel, by decide +kernel⟩
abbrev s_broken : Stmt := top 8
abbrev p_broken : List Str := ["wishes", "trail"]
abbrev n_broken : List Str := ["wishes", "trail", "taken", "number", "wish"]
theorem sc_broken : FnScope n_broken p_broken (defScope s_broken) := ⟨rfl, rfl, rfl, by decide +kernel, rfl, by decide +kernel, by decide +kernel⟩
abbrev s_forced : Stmt := top 9
abbrev p_forced : List Str := ["wishes", "trail"]
abbrev n_forced : List Str := ["wishes", "trail", "tally", "pair"]
theorem sc_forced : FnScope n_forced p_forced (defScope s_forced) := ⟨rfl, rfl, rfl, by decide +kernel, rfl, by decide +kernel, by decide +kernel⟩
abbrev s_letters_of : Stmt := top 10
abbrev p_letters_of : List Str := ["trail"]
abbrev n_letters_of : List Str := ["trail"]
theorem sc_letters_of : FnScope n_letters_of p_letters_of (defScope s_letters_of) := ⟨rfl, rfl, rfl, by decide +kernel, rfl, by decide +kernel, by decide +kernel⟩
abbrev s_l_whole : Stmt := top 12
abbrev p_l_whole : List Str := ["_law_found"]
abbrev n_l_whole : List Str := ["_law_found"]
theorem sc_l_whole : FnScope n_l_whole p_l_whole (defScope s_l_whole) := ⟨rfl, rfl, rfl, by decide +kernel, rfl, by decide +kernel, by decide +kernel⟩
abbrev s_l_at : Stmt := top 13
abbrev p_l_at : List Str := ["_law_script", "_law_k"]
abbrev n_l_at : List Str := ["_law_script", "_law_k"]
theorem sc_l_at : FnScope n_l_at p_l_at (defScope s_l_at) := ⟨rfl, rfl, rfl, by decide +kernel, rfl, by decide +kernel, by decide +kernel⟩
abbrev s_l_alike : Stmt := top 14
abbrev p_l_alike : List Str := ["_law_found", "_law_due"]
abbrev n_l_alike : List Str := ["_law_found", "_law_due", "_law_left", "_law_right", "_law_one", "_law_two"]
theorem sc_l_alike : FnScope n_l_alike p_l_alike (defScope s_l_alike) := ⟨rfl, rfl, rfl, by decide +kernel, rfl, by decide +kernel, by decide +kernel⟩
abbrev s_l_wishes_of : Stmt := top 15
abbrev p_l_wishes_of : List Str := ["_law_cells", "_law_count"]
abbrev n_l_wishes_of : List Str := ["_law_cells", "_law_count", "_law_wishes", "_law_wish", "_law_k", "_law_cell", "_law_sign"]
theorem sc_l_wishes_of : FnScope n_l_wishes_of p_l_wishes_of (defScope s_l_wishes_of) := ⟨rfl, rfl, rfl, by decide +kernel, rfl, by decide +kernel, by decide +kernel⟩
abbrev s_l_open : Stmt := top 16
abbrev p_l_open : List Str := ["_law_wish", "_law_letters"]
abbrev n_l_open : List Str := ["_law_wish", "_law_letters", "_law_found", "_law_letter"]
theorem sc_l_open : FnScope n_l_open p_l_open (defScope s_l_open) := ⟨rfl, rfl, rfl, by decide +kernel, rfl, by decide +kernel, by decide +kernel⟩
abbrev s_l_broken_at : Stmt := top 17
abbrev p_l_broken_at : List Str := ["_law_wishes", "_law_letters"]
abbrev n_l_broken_at : List Str := ["_law_wishes", "_law_letters", "_law_k"]
theorem sc_l_broken_at : FnScope n_l_broken_at p_l_broken_at (defScope s_l_broken_at) := ⟨rfl, rfl, rfl, by decide +kernel, rfl, by decide +kernel, by decide +kernel⟩
abbrev s_l_next : Stmt := top 18
abbrev p_l_next : List Str := ["_law_wishes", "_law_letters"]
abbrev n_l_next : List Str := ["_law_wishes", "_law_letters", "_law_k", "_law_found"]
theorem sc_l_next : FnScope n_l_next p_l_next (defScope s_l_next) := ⟨rfl, rfl, rfl, by decide +kernel, rfl, by decide +kernel, by decide +kernel⟩
abbrev s_l_farther : Stmt := top 19
abbrev p_l_farther : List Str := ["_law_wish", "_law_far"]
abbrev n_l_farther : List Str := ["_law_wish", "_law_far"]
theorem sc_l_farther : FnScope n_l_farther p_l_farther (defScope s_l_farther) := ⟨rfl, rfl, rfl, by decide +kernel, rfl, by decide +kernel, by decide +kernel⟩
abbrev s_law : Stmt := top 20
abbrev p_law : List Str := ["_law_script"]
abbrev n_law : List Str := ["_law_script", "_law_count", "_law_wishes", "_law_far", "_law_start", "_law_lamp", "_law_way", "_law_handed", "_law_begun", "_law_found", "_law_letters", "_law_k", "_law_due", "_law_half", "_law_number", "_law_place"]
theorem sc_law : FnScope n_law p_law (defScope s_law) := ⟨rfl, rfl, rfl, by decide +kernel, rfl, by decide +kernel, by decide +kernel⟩
abbrev s_Tally_init : Stmt := inClass (top 6) 0
abbrev p_Tally_init : List Str := ["self", "wishes"]
abbrev n_Tally_init : List Str := ["self", "wishes", "wish"]
theorem sc_Tally_init : FnScope n_Tally_init p_Tally_init (defScope s_Tally_init) := ⟨rfl, rfl, rfl, by decide +kernel, rfl, by decide +kernel, by decide +kernel⟩
abbrev s_Tally_put_wish : Stmt := inClass (top 6) 1
abbrev p_Tally_put_wish : List Str := ["self", "wish"]
abbrev n_Tally_put_wish : List Str := ["self", "wish", "number", "letters", "letter"]
theorem sc_Tally_put_wish : FnScope n_Tally_put_wish p_Tally_put_wish (defScope s_Tally_put_wish) := ⟨rfl, rfl, rfl, by decide +kernel, rfl, by decide +kernel, by decide +kernel⟩
abbrev s_Tally_put : Stmt := inClass (top 6) 2
abbrev p_Tally_put : List Str := ["self", "letter", "why"]
abbrev n_Tally_put : List Str := ["self", "letter", "why"]
theorem sc_Tally_put : FnScope n_Tally_put p_Tally_put (defScope s_Tally_put) := ⟨rfl, rfl, rfl, by decide +kernel, rfl, by decide +kernel, by decide +kernel⟩
abbrev s_Tally_take_off : Stmt := inClass (top 6) 3
abbrev p_Tally_take_off : List Str := ["self"]
abbrev n_Tally_take_off : List Str := ["self"]
theorem sc_Tally_take_off : FnScope n_Tally_take_off p_Tally_take_off (defScope s_Tally_take_off) := ⟨rfl, rfl, rfl, by decide +kernel, rfl, by decide +kernel, by decide +kernel⟩
abbrev s_Tally_count_letter : Stmt := inClass (top 6) 4
abbrev p_Tally_count_letter : List Str := ["self", "letter", "change"]
abbrev n_Tally_count_letter : List Str := ["self", "letter", "change", "number"]
theorem sc_Tally_count_letter : FnScope n_Tally_count_letter p_Tally_count_letter (defScope s_Tally_count_letter) := ⟨rfl, rfl, rfl, by decide +kernel, rfl, by decide +kernel, by decide +kernel⟩
abbrev s_Tally_sort_in : Stmt := inClass (top 6) 5
abbrev p_Tally_sort_in : List Str := ["self", "number"]
abbrev n_Tally_sort_in : List Str := ["self", "number"]
theorem sc_Tally_sort_in : FnScope n_Tally_sort_in p_Tally_sort_in (defScope s_Tally_sort_in) := ⟨rfl, rfl, rfl, by decide +kernel, rfl, by decide +kernel, by decide +kernel⟩
abbrev s_Tally_first_broken : Stmt := inClass (top 6) 6
abbrev p_Tally_first_broken : List Str := ["self"]
abbrev n_Tally_first_broken : List Str := ["self"]
theorem sc_Tally_first_broken : FnScope n_Tally_first_broken p_Tally_first_broken (defScope s_Tally_first_broken) := ⟨rfl, rfl, rfl, by decide +kernel, rfl, by decide +kernel, by decide +kernel⟩
abbrev s_Tally_go_on : Stmt := inClass (top 6) 7
abbrev p_Tally_go_on : List Str := ["self"]
abbrev n_Tally_go_on : List Str := ["self", "number"]
theorem sc_Tally_go_on : FnScope n_Tally_go_on p_Tally_go_on (defScope s_Tally_go_on) := ⟨rfl, rfl, rfl, by decide +kernel, rfl, by decide +kernel, by decide +kernel⟩
theorem filt_true {α : Type} (l : List α) : l.filter (fun _ => true) = l := List.filter_eq_self.mpr fun _ _ => rfl

/-! ### each once -/
def onceF (acc : List Int) (n : Int) : List Int := if n ∈ acc then acc else acc ++ [n]
def once (ns : List Int) : List Int := ns.foldl onceF []
theorem once_snoc (ns : List Int) (n : Int) : once (ns ++ [n]) = onceF (once ns) n := by simp [once, List.foldl_append]
theorem mem_onceF {acc : List Int} {n x : Int} : x ∈ onceF acc n ↔ x ∈ acc ∨ x = n := by
  unfold onceF
  split
  · rename_i h
    constructor
    · exact .inl
    · rintro (h' | rfl)
      · exact h'
      · exact h
  · simp
theorem mem_foldF : ∀ (ns acc : List Int) (x : Int), x ∈ ns.foldl onceF acc ↔ x ∈ acc ∨ x ∈ ns
  | [], acc, x => by simp
  | n :: ns, acc, x => by
    rw [List.foldl_cons, mem_foldF ns, mem_onceF, List.mem_cons]
    constructor
    · rintro ((h | h) | h)
      · exact .inl h
      · exact .inr (.inl h)
      · exact .inr (.inr h)
    · rintro (h | h | h)
      · exact .inl (.inl h)
      · exact .inl (.inr h)
      · exact .inr h
theorem mem_once {ns : List Int} {x : Int} : x ∈ once ns ↔ x ∈ ns := by
  unfold once; rw [mem_foldF]; simp
theorem onceF_len (acc : List Int) (n : Int) : (onceF acc n).length ≤ acc.length + 1 := by
  unfold onceF; split <;> simp
theorem foldF_len : ∀ (ns acc : List Int), (ns.foldl onceF acc).length ≤ acc.length + ns.length
  | [], acc => by simp
  | n :: ns, acc => by
    rw [List.foldl_cons, List.length_cons]
    have h1 := foldF_len ns (onceF acc n)
    have h2 := onceF_len acc n
    omega
theorem once_len (ns : List Int) : (once ns).length ≤ ns.length := by
  have := foldF_len ns []
  simpa [once] using this
/-- a wish's open letters by letters -/
def openOf (ns ts : List Int) : List Int := (once ns).filter fun n => !decide (-n ∈ ts)
def keptBy (ns ts : List Int) : Bool := ns.any fun n => decide (n ∈ ts)
theorem openOf_congr {ns ts ts' : List Int} (h : ∀ x, x ∈ ts ↔ x ∈ ts') : openOf ns ts = openOf ns ts' := by
  unfold openOf
  congr 1
  funext n
  rw [show decide (-n ∈ ts) = decide (-n ∈ ts') from decide_eq_decide.mpr (h _)]
theorem keptBy_congr {ns ts ts' : List Int} (h : ∀ x, x ∈ ts ↔ x ∈ ts') : keptBy ns ts = keptBy ns ts' := by
  unfold keptBy
  congr 1
  funext n
  exact decide_eq_decide.mpr (h _)
theorem openOf_len (ns ts : List Int) : (openOf ns ts).length ≤ ns.length := Nat.le_trans (List.length_filter_le _ _) (once_len ns)

/-! ### forcing -/
theorem onceF_nodup {acc : List Int} {n : Int} (h : acc.Nodup) : (onceF acc n).Nodup := by
  unfold onceF
  split
  · exact h
  · rename_i hn
    exact List.nodup_append.mpr ⟨h, by simp, fun a ha b hb => by
      have : b = n := by simpa using hb
      intro e
      exact hn (by rw [← this, ← e]; exact ha)⟩
theorem foldF_nodup : ∀ (ns acc : List Int), acc.Nodup → (ns.foldl onceF acc).Nodup
  | [], _, h => h
  | n :: ns, acc, h => by rw [List.foldl_cons]; exact foldF_nodup ns _ (onceF_nodup h)
theorem once_nodup (ns : List Int) : (once ns).Nodup := foldF_nodup ns [] List.nodup_nil
theorem openOf_nodup (ns ts : List Int) : (openOf ns ts).Nodup := (once_nodup ns).sublist List.filter_sublist
theorem filter_ne_len : ∀ {l : List Int} {a : Int}, l.Nodup → a ∈ l → (l.filter fun x => !decide (x = a)).length + 1 = l.length
  | [], _, _, h => by simp at h
  | b :: l, a, nd, h => by
    obtain ⟨h1, h2⟩ := List.nodup_cons.mp nd
    by_cases e : b = a
    · subst e
      have : (l.filter fun x => !decide (x = b)) = l := List.filter_eq_self.mpr fun x hx => by
        have : x ≠ b := fun z => h1 (z ▸ hx)
        simp [this]
      rw [List.filter_cons, if_neg (by simp), this, List.length_cons]
    · have hm : a ∈ l := by
        rcases List.mem_cons.mp h with z | z
        · exact absurd z.symm e
        · exact z
      rw [List.filter_cons, if_pos (by simp [e]), List.length_cons, List.length_cons, filter_ne_len h2 hm]
def cnt (w T : List Int) : Option Nat := if keptBy w T = true then none else some (openOf w T).length
theorem keptBy_snoc (w T : List Int) (x : Int) : keptBy w (T ++ [x]) = (keptBy w T || decide (x ∈ w)) := by
  unfold keptBy
  rw [Bool.eq_iff_iff, List.any_eq_true]
  simp only [Bool.or_eq_true, List.any_eq_true, decide_eq_true_eq, List.mem_append, List.mem_singleton]
  constructor
  · rintro ⟨n, hn, h | h⟩
    · exact .inl ⟨n, hn, h⟩
    · exact .inr (h ▸ hn)
  · rintro (⟨n, hn, h⟩ | h)
    · exact ⟨n, hn, .inl h⟩
    · exact ⟨x, h, .inr rfl⟩
theorem openOf_snoc (w T : List Int) (x : Int) : openOf w (T ++ [x]) = (openOf w T).filter fun n => !decide (n = -x) := by
  unfold openOf
  rw [List.filter_filter]
  refine List.filter_congr fun n _ => ?_
  have e : decide (-n ∈ T ++ [x]) = (decide (-n ∈ T) || decide (n = -x)) := by
    rw [Bool.eq_iff_iff]
    simp only [decide_eq_true_eq, Bool.or_eq_true, List.mem_append, List.mem_singleton]
    constructor
    · rintro (h | h)
      · exact .inl h
      · exact .inr (by omega)
    · rintro (h | h)
      · exact .inl h
      · exact .inr (by omega)
  rw [e, Bool.not_or, Bool.and_comm]
theorem cnt_snoc {w T : List Int} {x : Int} (hx : ¬ x ∈ T) : cnt w (T ++ [x]) = if x ∈ w then none else if -x ∈ w then (cnt w T).map (· - 1) else cnt w T := by
  unfold cnt
  rw [keptBy_snoc]
  by_cases h1 : x ∈ w
  · rw [if_pos (by simp [h1]), if_pos h1]
  · rw [if_neg h1]
    by_cases hk : keptBy w T = true
    · rw [if_pos (by simp [hk]), hk]
      split <;> rfl
    · have hk' : keptBy w T = false := by simpa using hk
      rw [if_neg (by simp [hk', h1]), if_neg hk, openOf_snoc]
      by_cases h2 : -x ∈ w
      · rw [if_pos h2]
        have hm : -x ∈ openOf w T := by
          unfold openOf
          refine List.mem_filter.mpr ⟨mem_once.mpr h2, ?_⟩
          have : ¬ - -x ∈ T := by rw [Int.neg_neg]; exact hx
          simp only [decide_eq_false this, Bool.not_false]
        have := filter_ne_len (openOf_nodup w T) hm
        show some _ = some _
        congr 1
        show _ = (openOf w T).length - 1
        omega
      · rw [if_neg h2]
        congr 2
        refine List.filter_eq_self.mpr fun n hn => ?_
        have : n ≠ -x := fun e => h2 (e ▸ mem_once.mp (List.mem_filter.mp hn).1)
        simp [this]
def brokenAt (W : List (List Int)) (T : List Int) : Option Nat := W.findIdx? fun w => decide (cnt w T = some 0)
def oneAt (W : List (List Int)) (T : List Int) : Option Nat := W.findIdx? fun w => decide (cnt w T = some 1)
def nextOf (W : List (List Int)) (T : List Int) : Option (Int × Nat) :=
  match brokenAt W T with
  | some _ => none
  | none => match oneAt W T with
    | none => none
    | some i => some ((openOf (W.getD i []) T).headD 0, i)
/-- how a trail goes on: the letters and the wishes' numbers -/
inductive Run (W : List (List Int)) : List Int → List (Int × Nat) → Prop where
  | stop {T : List Int} (h : nextOf W T = none) : Run W T []
  | step {T : List Int} {x : Int} {i : Nat} {r : List (Int × Nat)} (h : nextOf W T = some (x, i)) (hr : Run W (T ++ [x]) r) : Run W T ((x, i) :: r)
theorem next_facts {W : List (List Int)} {T : List Int} {x : Int} {i : Nat} (h : nextOf W T = some (x, i)) :
    brokenAt W T = none ∧ oneAt W T = some i ∧ ∃ w, W[i]? = some w ∧ keptBy w T = false ∧ openOf w T = [x] ∧ x ∈ w ∧ ¬ x ∈ T ∧ ¬ -x ∈ T := by
  unfold nextOf at h
  cases hb : brokenAt W T with
  | some j => rw [hb] at h; cases h
  | none =>
    rw [hb] at h
    cases ho : oneAt W T with
    | none => rw [ho] at h; cases h
    | some j =>
      rw [ho] at h
      have h' : ((openOf (W.getD j []) T).headD 0, j) = (x, i) := Option.some.inj h
      have e2 : j = i := congrArg (·.2) h'
      subst e2
      have e1 : (openOf (W.getD j []) T).headD 0 = x := congrArg (·.1) h'
      refine ⟨rfl, rfl, ?_⟩
      unfold oneAt at ho
      obtain ⟨hj, hc, _⟩ := List.findIdx?_eq_some_iff_getElem.mp ho
      have hw : W[j]? = some W[j] := by simp [hj]
      have hg : W.getD j [] = W[j] := by simp [hj]
      rw [hg] at e1
      have hc' : cnt W[j] T = some 1 := of_decide_eq_true hc
      unfold cnt at hc'
      by_cases hk : keptBy W[j] T = true
      · rw [if_pos hk] at hc'; cases hc'
      · rw [if_neg hk] at hc'
        have hl : (openOf W[j] T).length = 1 := Option.some.inj hc'
        have hk' : keptBy W[j] T = false := by simpa using hk
        obtain ⟨y, hy⟩ := List.length_eq_one_iff.mp hl
        have : y = x := by rw [hy] at e1; exact e1
        subst this
        have hm : y ∈ openOf W[j] T := by rw [hy]; exact List.mem_singleton.mpr rfl
        obtain ⟨m1, m2⟩ := List.mem_filter.mp hm
        have hyw := mem_once.mp m1
        refine ⟨_, hw, hk', hy, hyw, fun z => ?_, fun z => ?_⟩
        · unfold keptBy at hk'
          rw [List.any_eq_false] at hk'
          exact hk' y hyw (decide_eq_true z)
        · rw [decide_eq_true z] at m2; cases m2
/-- the wishes that are not kept -/
def live (W : List (List Int)) (T : List Int) : Nat := (W.filter fun w => !keptBy w T).length
theorem live_le (W : List (List Int)) (T : List Int) : live W T ≤ W.length := List.length_filter_le _ _
theorem filter_lt {α : Type} {p q : α → Bool} : ∀ {l : List α} {a : α}, (∀ x ∈ l, q x = true → p x = true) → a ∈ l → p a = true → q a = false → (l.filter q).length < (l.filter p).length
  | [], _, _, h, _, _ => by simp at h
  | b :: l, a, hi, h, hp, hq => by
    have hsub : (l.filter q).length ≤ (l.filter p).length := by
      have : ∀ l : List α, (∀ x ∈ l, q x = true → p x = true) → (l.filter q).length ≤ (l.filter p).length := by
        intro l
        induction l with
        | nil => intro _; simp
        | cons c r ih =>
          intro hc
          have := ih fun x hx => hc x (List.mem_cons_of_mem _ hx)
          rw [List.filter_cons, List.filter_cons]
          cases hqc : q c with
          | true =>
            rw [hc c List.mem_cons_self hqc]
            simp; omega
          | false =>
            cases p c <;> simp <;> omega
      exact this l fun x hx => hi x (List.mem_cons_of_mem _ hx)
    rw [List.filter_cons, List.filter_cons]
    rcases List.mem_cons.mp h with e | e
    · subst e
      rw [hp, hq]
      simp; omega
    · have ih := filter_lt (fun x hx => hi x (List.mem_cons_of_mem _ hx)) e hp hq
      cases hqb : q b with
      | true => rw [hi b List.mem_cons_self hqb]; simp; omega
      | false => cases p b <;> simp <;> omega
theorem live_lt {W : List (List Int)} {T : List Int} {x : Int} {i : Nat} (h : nextOf W T = some (x, i)) : live W (T ++ [x]) < live W T := by
  obtain ⟨_, _, w, hw, hk, _, hx, _⟩ := next_facts h
  refine filter_lt (fun v _ hv => ?_) (List.mem_of_getElem? hw) (by simp [hk]) ?_
  · rw [keptBy_snoc] at hv
    cases e : keptBy v T with
    | true => rw [e] at hv; simp at hv
    | false => rfl
  · rw [keptBy_snoc]; simp [hx]
theorem run_append {W : List (List Int)} {T : List Int} {r1 : List (Int × Nat)} : ∀ {r : List (Int × Nat)}, Run W T (r1 ++ r) → Run W (T ++ r1.map (·.1)) r := by
  induction r1 generalizing T with
  | nil => intro r h; simpa using h
  | cons p r1 ih =>
    intro r h
    rw [List.cons_append] at h
    cases h with
    | step h hr =>
      have := ih hr
      simpa [List.append_assoc] using this
theorem run_uniq {W : List (List Int)} {T : List Int} {r r' : List (Int × Nat)} (h : Run W T r) (h' : Run W T r') : r = r' := by
  induction h generalizing r' with
  | stop h =>
    cases h' with
    | stop _ => rfl
    | step h2 _ => rw [h] at h2; cases h2
  | step h hr ih =>
    cases h' with
    | stop h2 => rw [h] at h2; cases h2
    | step h2 hr2 =>
      rw [h] at h2
      cases h2
      rw [ih hr2]
theorem run_snoc {W : List (List Int)} {T : List Int} {r : List (Int × Nat)} {x : Int} {i : Nat} {s : List (Int × Nat)} (h : nextOf W (T ++ r.map (·.1)) = some (x, i)) (hs : Run W (T ++ r.map (·.1) ++ [x]) s) (H : ∀ s', Run W (T ++ r.map (·.1)) s' → Run W T (r ++ s')) : Run W T (r ++ (x, i) :: s) :=
  H _ (Run.step h hs)

/-! ### dicts of True -/
def mk (l : List Int) : List (Key × V) := l.map fun n => (Sum.inl n, V.bl true)
theorem any_mk (l : List Int) (n : Int) : ((mk l).any fun kv => decide (kv.1 = (Sum.inl n : Key))) = decide (n ∈ l) := by
  rw [Bool.eq_iff_iff, List.any_eq_true]
  constructor
  · rintro ⟨kv, hm, e⟩
    obtain ⟨x, hx, rfl⟩ := List.mem_map.mp hm
    have e' : (Sum.inl x : Key) = Sum.inl n := of_decide_eq_true e
    cases e'
    exact decide_eq_true hx
  · intro h
    exact ⟨(Sum.inl n, V.bl true), List.mem_map.mpr ⟨n, of_decide_eq_true h, rfl⟩, decide_eq_true rfl⟩
theorem has_mk (l : List Int) (n : Int) : (valV (mk l) (Sum.inl n : Key)).isSome = decide (n ∈ l) := by
  rw [← valV_any, any_mk]
theorem put_mk (l : List Int) (n : Int) : putK (mk l) (Sum.inl n : Key) (V.bl true) = mk (onceF l n) := by
  unfold putK
  rw [any_mk]
  unfold onceF
  by_cases h : n ∈ l
  · rw [if_pos (decide_eq_true h), if_pos h]
    unfold mk
    rw [List.map_map]
    refine List.map_congr_left fun x hx => ?_
    show (if (Sum.inl x : Key) = Sum.inl n then ((Sum.inl x : Key), V.bl true) else (Sum.inl x, V.bl true)) = _
    split <;> rfl
  · rw [if_neg (by simp [h]), if_neg h]
    simp [mk]
theorem keys_mk (l : List Int) : ((mk l).map fun p => kV p.1) = l.map V.int := by
  unfold mk; rw [List.map_map]; rfl
theorem mk_len (l : List Int) : (mk l).length = l.length := by simp [mk]
def spMarked (K : PySem.W.Frag) : Sp := fun vs H Q _ => ∃ (a : Addr) (ns : List Int), vs = [.ref a] ∧ SqL K H a (ns.map V.int) ∧ ns.length ≤ 100000 ∧ ∀ p H', H p = none → Same H H' → H' p = some (.dK (mk (once ns))) → Q (.ref p) H'
section
variable {P : Program} {w : World} {K : PySem.W.Frag} {mg : Str → Option Value} {base : Heap}
theorem ok_marked (Df : Def K mg "marked" s_marked p_marked) : Cal P w K mg base 1 "marked" p_marked (spMarked K) := by
  refine Df.cal sc_marked (fun vs H Q E h => ?_) (fun f cdv A outer s H vs Q E hr h => ?_)
  · obtain ⟨a, ns, rfl, _⟩ := h; rfl
  · obtain ⟨a, ns, rfl, hS, hz, q⟩ := h
    have hu := hu_of hr
    refine ⟨_, (pss_cons (ps_set (i := 1) sc_marked.nd rfl (Or.inl rfl) pe_dnewK)
 (pss_cons (ps_for PassesOwn.never rfl (pi_list (pv 0)) (pg_name (i := 2) sc_marked.nd rfl (Or.inl rfl))
 (pss_one (ps_dput hu (pv 1) (pv 2) pe_bl rfl)))
 (pss_one (ps_ret (pv 1))))), ?_⟩
    intro p hp
    refine ⟨_, rfl, a, rfl, ⟨_, ((Same.refl H).upd hp).seq hS⟩, for_list (K := K) (a := a) (xs := ns.map V.int) (fun i σ H2 => ∃ v, σ = [some (.ref a), some (.ref p), v] ∧ Same H H2 ∧ H2 p = some (.dK (mk (once (ns.take i)))))
      ⟨none, rfl, (Same.refl H).upd hp, upd_same⟩ (fun i σ H2 _ ⟨_, _, e, _⟩ => e.seq hS) ?_ ?_⟩
    · rintro i y σ H2 hi ⟨v, rfl, sm, h2⟩
      obtain ⟨n, hni, rfl⟩ := getV hi
      refine ⟨_, rfl, _, rfl, p, _, rfl, DPut.k (k := Sum.inl n) h2 (small6 ?_), ?_⟩
      · have h1 := once_len (ns.take i)
        have h3 : (ns.take i).length ≤ ns.length := by simp; omega
        rw [mk_len]; omega
      · refine ⟨_, rfl, sm.upd hp, ?_⟩
        rw [upd_same, put_mk, List.take_add_one, hni, Option.toList_some, once_snoc]
    · rintro σ H2 ⟨v, rfl, sm, h2⟩
      refine ⟨_, rfl, q p H2 hp sm ?_⟩
      rw [h2]; simp
end

def spEach (K : PySem.W.Frag) : Sp := fun vs H Q _ => ∃ (a : Addr) (ns : List Int), vs = [.ref a] ∧ SqL K H a (ns.map V.int) ∧ ns.length ≤ 100000 ∧ ∀ l H', H l = none → Same H H' → H' l = some (.lst ((once ns).map V.int)) → Q (.ref l) H'
def spLeft (K : PySem.W.Frag) : Sp := fun vs H Q _ => ∃ (a p : Addr) (ns ts : List Int), vs = [.ref a, .ref p] ∧ SqL K H a (ns.map V.int) ∧ H p = some (.dK (mk ts)) ∧ ns.length ≤ 100000 ∧ (keptBy ns ts = true → Q .non H) ∧
  (keptBy ns ts = false → ∀ l H', H l = none → Same H H' → H' l = some (.lst ((openOf ns ts).map V.int)) → Q (.ref l) H')
section
variable {P : Program} {w : World} {K : PySem.W.Frag} {mg : Str → Option Value} {base : Heap}
theorem ok_each_once (B : Blt mg) (c_marked : Cal P w K mg base 1 "marked" p_marked (spMarked K)) (Df : Def K mg "each_once" s_each_once p_each_once) : Cal P w K mg base 2 "each_once" p_each_once (spEach K) := by
  refine Df.cal sc_each_once (fun vs H Q E h => ?_) (fun f cdv A outer s H vs Q E hr h => ?_)
  · obtain ⟨a, ns, rfl, _⟩ := h; rfl
  · obtain ⟨a, ns, rfl, hS, hz, q⟩ := h
    refine ⟨_, (pss_one (ps_ret (pe_callTy (call_listD rfl) (by rfl) B.list_ bt_list (pa_cons (pe_def c_marked hr (by decide) (pa_cons (pv 0) pa_nil)) pa_nil)))), ?_⟩
    refine ⟨_, rfl, a, ns, rfl, hS, hz, fun p H1 hp sm h1 => ⟨p, _, rfl, .inl h1, fun l hl => q l _ (sm.free hl) (sm.upd (sm.free hl)) ?_⟩⟩
    rw [upd_same, keys_mk]
theorem ok_left_open (B : Blt mg) (c_each_once : Cal P w K mg base 2 "each_once" p_each_once (spEach K)) (Df : Def K mg "left_open" s_left_open p_left_open) : Cal P w K mg base 3 "left_open" p_left_open (spLeft K) := by
  refine Df.cal sc_left_open (fun vs H Q E h => ?_) (fun f cdv A outer s H vs Q E hr h => ?_)
  · obtain ⟨a, p, ns, ts, rfl, _⟩ := h; rfl
  · obtain ⟨a, p, ns, ts, rfl, hS, hp, hz, q1, q2⟩ := h
    have hu := hu_of hr
    refine ⟨_, (pss_cons (ps_for PassesOwn.never rfl (pi_list (pv 0)) (pg_name (i := 2) sc_left_open.nd rfl (Or.inl rfl))
 (pss_one (ps_if (pt_cmp (pc_din hu (pv 2) (pv 1)))
 (pss_one (ps_ret pe_non))
 pss_nil)))
 (pss_one (ps_ret (pe_comp (fvn := ["taken"]) (js := [1]) rfl (pi_list (pe_def c_each_once hr (by decide) (pa_cons (pv 0) pa_nil))) (.cons rfl (by first | exact .inl rfl | exact .inr rfl) rfl .nil) ⟨by decide +kernel, rfl, by decide +kernel, rfl, by decide +kernel, by decide +kernel⟩ (fun _ _ _ _ _ => (pts_one (pt_cmp (pc_dnotin hu (pe_un un_neg (pv 0)) (pv 1))))) (fun _ _ _ _ _ => (pv 0)))))), ?_⟩
    refine ⟨_, rfl, a, rfl, ⟨_, hS⟩, for_list (K := K) (a := a) (xs := ns.map V.int) (fun i σ H2 => ∃ v, σ = [some (.ref a), some (.ref p), v] ∧ H2 = H ∧ ∀ n ∈ ns.take i, ¬ n ∈ ts)
      ⟨none, rfl, rfl, by simp⟩ (fun i σ H2 _ ⟨_, _, e, _⟩ => by rw [e]; exact hS) ?_ ?_⟩
    · rintro i y σ H2 hi ⟨v, rfl, rfl, hno⟩
      obtain ⟨n, hni, rfl⟩ := getV hi
      refine ⟨_, rfl, _, rfl, p, _, rfl, DGet.k (k := Sum.inl n) hp, _, rfl, ?_⟩
      rw [has_mk]
      refine ite2 (fun c => ?_) (fun c => ?_)
      · refine q1 ?_
        exact List.any_eq_true.mpr ⟨n, List.mem_of_getElem? hni, c⟩
      · refine ⟨_, rfl, rfl, fun m hm => ?_⟩
        rw [List.take_add_one, hni] at hm
        rcases List.mem_append.mp hm with z | z
        · exact hno m z
        · have : m = n := by simpa using z
          rw [this]; exact fun z => c (decide_eq_true z)
    · rintro σ H2 ⟨v, rfl, rfl, hno⟩
      have hk : keptBy ns ts = false := by
        unfold keptBy
        rw [List.any_eq_false]
        intro n hm z
        exact hno n (by simpa using hm) (of_decide_eq_true z)
      refine ⟨_, rfl, a, ns, rfl, hS, hz, fun l H1 hl sm h1 => ⟨l, rfl, ⟨_, SqL.of h1⟩, ?_⟩⟩
      have hp1 := sm _ _ hp
      refine comp_pure (xs := once ns) (g := V.int) (fun n => !decide (-n ∈ ts)) V.int (small6' (by have := once_len ns; omega)) (SqL.of h1) (fun x _ R hR => ?_) (fun x _ _ R hR => ⟨_, rfl, hR⟩) (fun l2 hl2 => ?_)
      · refine ⟨_, rfl, x, rfl, _, rfl, p, _, rfl, DGet.k (k := Sum.inl (-x)) hp1, _, rfl, ?_⟩
        rw [has_mk]; exact hR
      · exact q2 hk l2 _ (sm.free hl2) (sm.upd (sm.free hl2)) upd_same
end

/-! ### trails -/
def wv : Option Int → V
  | none => .non
  | some j => .int j
def wd : Option Int → D
  | none => .non
  | some j => .int j
theorem at_w {H : Hp} (o : Option Int) : At H (wd o) (wv o) := by
  cases o <;> (unfold At wd wv; rfl)
abbrev Pr := Addr × Int × Option Int
def refs (qs : List Pr) : List V := qs.map fun q => V.ref q.1
def TrOk (H : Hp) (qs : List Pr) : Prop := ∀ q ∈ qs, H q.1 = some (.tup [.int q.2.1, wv q.2.2])
def lets (qs : List Pr) : List Int := qs.map fun q => q.2.1
def trD (qs : List Pr) : List D := qs.map fun q => D.tup [.int q.2.1, wd q.2.2]
theorem TrOk.mono {H H' : Hp} {qs : List Pr} (h : TrOk H qs) (e : Same H H') : TrOk H' qs := fun q hq => e _ _ (h q hq)
theorem TrOk.snoc {H : Hp} {qs : List Pr} {q : Pr} (h : TrOk H qs) (hq : H q.1 = some (.tup [.int q.2.1, wv q.2.2])) : TrOk H (qs ++ [q]) := fun x hx => by
  rcases List.mem_append.mp hx with z | z
  · exact h x z
  · have : x = q := by simpa using z
    rw [this]; exact hq
theorem at_pair {H : Hp} {p : Addr} {n : Int} {o : Option Int} (h : H p = some (.tup [.int n, wv o])) : At H (.tup [.int n, wd o]) (.ref p) := by
  unfold At
  exact ⟨p, _, rfl, h, AtL.cons (by unfold At; rfl) (AtL.cons (at_w o) AtL.nil)⟩
theorem trails_at {H : Hp} : ∀ {qs : List Pr}, TrOk H qs → AtL H (trD qs) (refs qs)
  | [], _ => AtL.nil
  | q :: qs, h => AtL.cons (at_pair (h q List.mem_cons_self)) (trails_at fun x hx => h x (List.mem_cons_of_mem _ hx))
theorem trail_at {H : Hp} {qs : List Pr} {a : Addr} (h : TrOk H qs) (ha : H a = some (.lst (refs qs))) : At H (.lst (trD qs)) (.ref a) := by
  unfold At
  exact ⟨a, _, rfl, ha, trails_at h⟩
theorem wd_size (o : Option Int) : (wd o).size = 1 := by cases o <;> rfl
theorem wd_plain (o : Option Int) : (wd o).plain = true := by cases o <;> rfl
theorem sizes_trD : ∀ qs : List Pr, sizes (trD qs) = 3 * qs.length
  | [] => rfl
  | q :: qs => by
    show (D.tup [.int q.2.1, wd q.2.2]).size + sizes (trD qs) = _
    rw [sizes_trD qs, D.size, sizes, sizes, sizes, wd_size, D.size, List.length_cons]; omega
theorem plains_trD : ∀ qs : List Pr, plains (trD qs) = true
  | [] => rfl
  | q :: qs => by
    show ((D.tup [.int q.2.1, wd q.2.2]).plain && plains (trD qs)) = true
    rw [plains_trD qs, D.plain, plains, plains, plains, wd_plain, D.plain]; rfl
theorem refs_len (qs : List Pr) : (refs qs).length = qs.length := by simp [refs]

def spLetters (K : PySem.W.Frag) : Sp := fun vs H Q _ => ∃ (a : Addr) (qs : List Pr), vs = [.ref a] ∧ SqL K H a (refs qs) ∧ TrOk H qs ∧ qs.length ≤ 100000 ∧ ∀ l H', H l = none → Same H H' → H' l = some (.lst ((lets qs).map V.int)) → Q (.ref l) H'
section
variable {P : Program} {w : World} {K : PySem.W.Frag} {mg : Str → Option Value} {base : Heap}
theorem ok_letters_of (Df : Def K mg "letters_of" s_letters_of p_letters_of) : Cal P w K mg base 1 "letters_of" p_letters_of (spLetters K) := by
  refine Df.cal sc_letters_of (fun vs H Q E h => ?_) (fun f cdv A outer s H vs Q E hr h => ?_)
  · obtain ⟨a, qs, rfl, _⟩ := h; rfl
  · obtain ⟨a, qs, rfl, hS, hT, hz, q⟩ := h
    refine ⟨_, (pss_one (ps_ret (pe_comp (fvn := []) (js := []) rfl (pi_list (pv 0)) .nil ⟨by decide +kernel, rfl, by decide +kernel, rfl, by decide +kernel, by decide +kernel⟩ (fun _ _ _ _ _ => pts_nil) (fun _ _ _ _ _ => (pe_ix (ix_tupK (K := K) rfl) (pv 0) pe_int (fun _ _ => rfl)))))), ?_⟩
    refine ⟨_, rfl, a, rfl, ⟨_, hS⟩, ?_⟩
    refine comp_pure (xs := qs) (g := fun q => V.ref q.1) (fun _ => true) (fun q => V.int q.2.1) (small6' (by omega)) hS (fun x _ R hR => hR) (fun x hx _ R hR => ?_) (fun l2 hl2 => ?_)
    · exact ⟨_, rfl, x.1, _, _, _, rfl, rfl, SqT.of (hT x hx), rfl, hR⟩
    · refine q l2 _ hl2 ((Same.refl H).upd hl2) ?_
      rw [upd_same, filt_true]; simp [lets, List.map_map, Function.comp_def]
end

/-! ### wishes as they lie -/
abbrev Wr := Addr × List Int
def wrefs (ws : List Wr) : List V := ws.map fun p => V.ref p.1
def WsOk (H : Hp) (ws : List Wr) : Prop := ∀ p ∈ ws, H p.1 = some (.lst (p.2.map V.int))
def wl (ws : List Wr) : List (List Int) := ws.map fun p => p.2
def wsD (ws : List Wr) : List D := ws.map fun p => D.lst (dInts p.2)
theorem WsOk.mono {H H' : Hp} {ws : List Wr} (h : WsOk H ws) (e : Same H H') : WsOk H' ws := fun q hq => e _ _ (h q hq)
theorem wrefs_len (ws : List Wr) : (wrefs ws).length = ws.length := by simp [wrefs]
theorem wl_len (ws : List Wr) : (wl ws).length = ws.length := by simp [wl]
theorem wss_at {H : Hp} : ∀ {ws : List Wr}, WsOk H ws → AtL H (wsD ws) (wrefs ws)
  | [], _ => AtL.nil
  | q :: ws, h => AtL.cons (At.ofInts (h q List.mem_cons_self)) (wss_at fun x hx => h x (List.mem_cons_of_mem _ hx))
theorem ws_at {H : Hp} {ws : List Wr} {a : Addr} (h : WsOk H ws) (ha : H a = some (.lst (wrefs ws))) : At H (.lst (wsD ws)) (.ref a) := by
  unfold At
  exact ⟨a, _, rfl, ha, wss_at h⟩
theorem wr_get {ws : List Wr} {i : Nat} {y : V} (h : (wrefs ws)[i]? = some y) : ∃ q, ws[i]? = some q ∧ y = .ref q.1 := by
  obtain ⟨q, h1, h2⟩ := getV (f := fun p : Wr => V.ref p.1) h
  exact ⟨q, h1, h2⟩
def cV : Option Nat → V
  | none => .non
  | some n => .int n
theorem cnt_congr {w T T' : List Int} (h : ∀ x, x ∈ T ↔ x ∈ T') : cnt w T = cnt w T' := by
  unfold cnt
  rw [keptBy_congr h, openOf_congr h]
theorem brokenAt_congr {W : List (List Int)} {T T' : List Int} (h : ∀ x, x ∈ T ↔ x ∈ T') : brokenAt W T = brokenAt W T' := by
  unfold brokenAt
  congr 1
  funext w
  rw [cnt_congr h]

def spBroken (K : PySem.W.Frag) : Sp := fun vs H Q _ => ∃ (a b : Addr) (ws : List Wr) (qs : List Pr), vs = [.ref a, .ref b] ∧ SqL K H a (wrefs ws) ∧ WsOk H ws ∧ SqL K H b (refs qs) ∧ TrOk H qs ∧ qs.length ≤ 100000 ∧ (∀ p ∈ ws, p.2.length ≤ 100000) ∧ ∀ H', Same H H' → Q (cV (brokenAt (wl ws) (lets qs))) H'
section
variable {P : Program} {w : World} {K : PySem.W.Frag} {mg : Str → Option Value} {base : Heap}
theorem ok_broken (B : Blt mg) (c_marked : Cal P w K mg base 1 "marked" p_marked (spMarked K)) (c_letters_of : Cal P w K mg base 1 "letters_of" p_letters_of (spLetters K)) (c_left_open : Cal P w K mg base 3 "left_open" p_left_open (spLeft K)) (Df : Def K mg "broken" s_broken p_broken) :
    Cal P w K mg base 4 "broken" p_broken (spBroken K) := by
  refine Df.cal sc_broken (fun vs H Q E h => ?_) (fun f cdv A outer s H vs Q E hr h => ?_)
  · obtain ⟨a, b, ws, qs, rfl, _⟩ := h; rfl
  · obtain ⟨a, b, ws, qs, rfl, hS, hW, hT, hO, hz, hz2, q⟩ := h
    refine ⟨_, (pss_cons (ps_set (i := 2) sc_broken.nd rfl (Or.inl rfl) (pe_def c_marked hr (by decide) (pa_cons (pe_def c_letters_of hr (by decide) (pa_cons (pv 1) pa_nil)) pa_nil)))
 (pss_cons (ps_for PassesOwn.never rfl (pi_enum B.enumerate_ (pv 0)) (pg_tup rfl (pgs_cons (pg_name (i := 3) sc_broken.nd rfl (Or.inl rfl)) (pgs_cons (pg_name (i := 4) sc_broken.nd rfl (Or.inl rfl)) pgs_nil)))
 (pss_one (ps_if (pt_cmpR (op_eqL (hu0 hr)) (pe_def c_left_open hr (by decide) (pa_cons (pv 4) (pa_cons (pv 2) pa_nil))) (pe_lst pa_nil) (nomark _))
 (pss_one (ps_ret (pv 3)))
 pss_nil)))
 (pss_one (ps_ret pe_non)))), ?_⟩
    refine ⟨_, rfl, b, qs, rfl, hT, hO, hz, fun l H1 hl sm1 h1 => ?_⟩
    refine ⟨l, lets qs, rfl, SqL.of h1, by simp [lets]; omega, fun p H2 hp sm2 h2 => ?_⟩
    have sm := sm1.trans sm2
    have eb : brokenAt (wl ws) (once (lets qs)) = brokenAt (wl ws) (lets qs) := brokenAt_congr fun x => mem_once
    rw [← eb] at q
    generalize once (lets qs) = T at h2 q
    refine ⟨_, rfl, a, rfl, ⟨_, sm.seq hS⟩, for_enum (K := K) (a := a) (xs := wrefs ws) (fun i σ H3 => ∃ v3 v4, σ = [some (.ref a), some (.ref b), some (.ref p), v3, v4] ∧ Same H2 H3 ∧ ∀ j w, j < i → (wl ws)[j]? = some w → cnt w T ≠ some 0)
      ⟨none, none, rfl, Same.refl _, fun j w hj => by omega⟩ (fun i σ H3 _ ⟨_, _, _, e, _⟩ => (sm.trans e).seq hS) ?_ ?_⟩
    · rintro i y σ H3 pt hi ⟨v3, v4, rfl, sm3, hno⟩ hpt
      obtain ⟨wr, hwi, rfl⟩ := wr_get hi
      have hmem := List.mem_of_getElem? hwi
      have hwl : (wl ws)[i]? = some wr.2 := by unfold wl; rw [List.getElem?_map, hwi]; rfl
      have sm4 : Same H2 (upd H3 pt (.tup [.int i, .ref wr.1])) := sm3.upd (sm3.free hpt)
      have hw4 : upd H3 pt (.tup [.int i, .ref wr.1]) wr.1 = some (.lst (wr.2.map V.int)) := (sm.trans sm4) _ _ (hW wr hmem)
      have hp4 := sm4 _ _ h2
      refine ⟨pt, _, rfl, SqT.of upd_same, rfl, _, _, rfl, _, _, rfl, rfl, ?_⟩
      refine ⟨_, rfl, _, rfl, wr.1, p, wr.2, T, rfl, SqL.of hw4, hp4, hz2 wr hmem, fun hk => ?_, fun hk l5 H5 hl5 sm5 h5 => ?_⟩
      · refine ⟨by decide, fun pn hpn => .inr ⟨rfl, ⟨pn, _, rfl, SqL.of upd_same⟩, _, rfl, iteF ?_⟩⟩
        refine ⟨_, _, rfl, sm4.upd (sm4.free hpn), fun j w hj hw => ?_⟩
        by_cases e : j = i
        · subst e
          rw [hwl] at hw; cases hw
          unfold cnt; rw [if_pos hk]; simp
        · exact hno j w (by omega) hw
      · have ec : cnt wr.2 T = some (openOf wr.2 T).length := by unfold cnt; rw [if_neg (by simp [hk])]
        refine ⟨by decide, fun pn hpn => .inl ⟨((openOf wr.2 T).map V.int).isEmpty, ⟨l5, pn, _, [], rfl, rfl, SqL.of (by rw [upd_ne (ne_of_none h5 hpn)]; exact h5), SqL.of upd_same, .inl ⟨rfl, rfl⟩⟩, _, rfl, ?_⟩⟩
        have sm6 : Same H2 (upd H5 pn (.lst [])) := (sm4.trans sm5).upd ((sm4.trans sm5).free hpn)
        cases ho : openOf wr.2 T with
        | nil =>
          refine iteT ⟨_, rfl, ?_⟩
          have e0 : brokenAt (wl ws) T = some i := by
            unfold brokenAt
            have hlt : i < (wl ws).length := (List.getElem?_eq_some_iff.mp hwl).1
            have hg : (wl ws)[i] = wr.2 := by rw [List.getElem?_eq_getElem hlt] at hwl; exact Option.some.inj hwl
            refine List.findIdx?_eq_some_iff_getElem.mpr ⟨hlt, ?_, fun j hj => ?_⟩
            · rw [hg, ec, ho]; simp
            · have := hno j (wl ws)[j] hj (by simp [Nat.lt_trans hj hlt])
              simp [this]
          have := q _ (sm.trans sm6)
          rw [e0] at this
          exact this
        | cons x xs =>
          refine iteF ⟨_, _, rfl, sm6, fun j w hj hw => ?_⟩
          by_cases e : j = i
          · subst e
            rw [hwl] at hw; cases hw
            rw [ec, ho]; simp
          · exact hno j w (by omega) hw
    · rintro σ H3 ⟨v3, v4, rfl, sm3, hno⟩
      have e0 : brokenAt (wl ws) T = none := by
        unfold brokenAt
        rw [List.findIdx?_eq_none_iff]
        intro w hw
        obtain ⟨j, hj, e⟩ := List.mem_iff_getElem.mp hw
        have := hno j w (by rw [wrefs_len, ← wl_len]; exact hj) (by rw [List.getElem?_eq_getElem hj, e])
        simp [this]
      have := q _ (sm.trans sm3)
      rw [e0] at this
      exact this
end

/-! ### places -/
def idxs (W : List (List Int)) (n : Int) : List Nat := (List.range W.length).filter fun i => decide (n ∈ W.getD i [])
abbrev Mp := Int × Addr × List Nat
def mkvs (M : List Mp) : List (Key × V) := M.map fun m => ((Sum.inl m.1 : Key), V.ref m.2.1)
def iv (l : List Nat) : List V := l.map fun (i : Nat) => V.int i
def lookM (M : List Mp) (n : Int) : Option Mp := M.find? fun m => decide (m.1 = n)
def ilook (M : List Mp) (n : Int) : List Nat := match lookM M n with
  | some m => m.2.2
  | none => []
structure MIs (H : Hp) (M : List Mp) : Prop where
  ok : ∀ m ∈ M, H m.2.1 = some (.lst (iv m.2.2))
  kn : (M.map (·.1)).Nodup
  an : (M.map (·.2.1)).Nodup
theorem val_mkvs (n : Int) : ∀ M : List Mp, valV (mkvs M) (Sum.inl n : Key) = (lookM M n).map fun m => V.ref m.2.1
  | [] => rfl
  | m :: M => by
    show valV (((Sum.inl m.1 : Key), V.ref m.2.1) :: mkvs M) (Sum.inl n : Key) = _
    unfold lookM
    by_cases e : m.1 = n
    · rw [valV_pos (by rw [e]), List.find?_cons]; simp [e]
    · rw [valV_neg (fun z => e (Sum.inl.inj z)), List.find?_cons, val_mkvs n M]; simp [e, lookM]
theorem lookM_some {M : List Mp} {n : Int} {m : Mp} (h : lookM M n = some m) : m ∈ M ∧ m.1 = n := by
  unfold lookM at h
  exact ⟨List.mem_of_find?_eq_some h, by have := List.find?_some h; simpa using this⟩
theorem key_inj {M : List Mp} (kn : (M.map (·.1)).Nodup) {m m' : Mp} (h : m ∈ M) (h' : m' ∈ M) (e : m.1 = m'.1) : m = m' := by
  induction M with
  | nil => simp at h
  | cons a M ih =>
    rw [List.map_cons, List.nodup_cons] at kn
    rcases List.mem_cons.mp h with z | z <;> rcases List.mem_cons.mp h' with y | y
    · rw [z, y]
    · exact absurd (List.mem_map.mpr ⟨m', y, by rw [← e, z]⟩) kn.1
    · exact absurd (List.mem_map.mpr ⟨m, z, by rw [e, y]⟩) kn.1
    · exact ih kn.2 z y
theorem adr_inj {M : List Mp} (an : (M.map (·.2.1)).Nodup) {m m' : Mp} (h : m ∈ M) (h' : m' ∈ M) (e : m.2.1 = m'.2.1) : m = m' := by
  induction M with
  | nil => simp at h
  | cons a M ih =>
    rw [List.map_cons, List.nodup_cons] at an
    rcases List.mem_cons.mp h with z | z <;> rcases List.mem_cons.mp h' with y | y
    · rw [z, y]
    · exact absurd (List.mem_map.mpr ⟨m', y, by rw [← e, z]⟩) an.1
    · exact absurd (List.mem_map.mpr ⟨m, z, by rw [e, y]⟩) an.1
    · exact ih an.2 z y
def addM (M : List Mp) (n : Int) (i : Nat) : List Mp := M.map fun m => if m.1 = n then (m.1, m.2.1, m.2.2 ++ [i]) else m
theorem addM_kvs (M : List Mp) (n : Int) (i : Nat) : mkvs (addM M n i) = mkvs M := by
  unfold mkvs addM
  rw [List.map_map]
  refine List.map_congr_left fun m _ => ?_
  by_cases e : m.1 = n <;> simp [e]
theorem addM_look (M : List Mp) (n : Int) (i : Nat) (x : Int) : lookM (addM M n i) x = (lookM M x).map fun m => if m.1 = n then (m.1, m.2.1, m.2.2 ++ [i]) else m := by
  unfold lookM addM
  induction M with
  | nil => rfl
  | cons m M ih =>
    rw [List.map_cons, List.find?_cons, List.find?_cons]
    have e : (if m.1 = n then (m.1, m.2.1, m.2.2 ++ [i]) else m : Mp).1 = m.1 := by split <;> rfl
    rw [e]
    by_cases h : m.1 = x
    · simp [h]
    · simp only [h, decide_false]; exact ih
theorem addM_ilook {M : List Mp} {n : Int} {i : Nat} {m : Mp} (hm : lookM M n = some m) (x : Int) : ilook (addM M n i) x = if x = n then ilook M n ++ [i] else ilook M x := by
  unfold ilook
  rw [addM_look]
  by_cases e : x = n
  · subst e
    rw [if_pos rfl, hm]
    have := (lookM_some hm).2
    simp [this]
  · rw [if_neg e]
    cases h : lookM M x with
    | none => rfl
    | some m' =>
      have := (lookM_some h).2
      have e' : ¬ m'.1 = n := fun z => e (this ▸ z)
      simp [e']
theorem newM_ilook {M : List Mp} {n : Int} {i : Nat} {p : Addr} (hm : lookM M n = none) (x : Int) : ilook (M ++ [(n, p, [i])]) x = if x = n then ilook M n ++ [i] else ilook M x := by
  unfold ilook
  have e0 : lookM (M ++ [(n, p, [i])]) x = (lookM M x).or (if n = x then some (n, p, [i]) else none) := by
    unfold lookM
    rw [List.find?_append]
    congr 1
    by_cases h : n = x <;> simp [h]
  rw [e0]
  by_cases e : x = n
  · subst e
    rw [hm]; simp
  · rw [if_neg e]
    have : ¬ n = x := fun z => e z.symm
    rw [if_neg this]
    cases lookM M x <;> rfl
theorem MIs.add {H : Hp} {M : List Mp} {n : Int} {i : Nat} {m : Mp} (h : MIs H M) (hm : lookM M n = some m) : MIs (upd H m.2.1 (.lst (iv m.2.2 ++ [.int i]))) (addM M n i) := by
  obtain ⟨hm1, hm2⟩ := lookM_some hm
  refine ⟨fun m' h' => ?_, ?_, ?_⟩
  · obtain ⟨m0, h0, rfl⟩ := List.mem_map.mp h'
    by_cases e : m0.1 = n
    · have : m0 = m := key_inj h.kn h0 hm1 (e.trans hm2.symm)
      subst this
      rw [if_pos e]
      show upd H m0.2.1 _ m0.2.1 = some (.lst (iv (m0.2.2 ++ [i])))
      rw [upd_same]; simp [iv]
    · rw [if_neg e]
      have : m0.2.1 ≠ m.2.1 := fun z => e (by rw [adr_inj h.an h0 hm1 z]; exact hm2)
      rw [upd_ne this]; exact h.ok m0 h0
  · have : (addM M n i).map (·.1) = M.map (·.1) := by
      unfold addM; rw [List.map_map]
      refine List.map_congr_left fun m _ => ?_
      show (if m.1 = n then _ else m : Mp).1 = m.1
      split <;> rfl
    rw [this]; exact h.kn
  · have : (addM M n i).map (·.2.1) = M.map (·.2.1) := by
      unfold addM; rw [List.map_map]
      refine List.map_congr_left fun m _ => ?_
      show (if m.1 = n then _ else m : Mp).2.1 = m.2.1
      split <;> rfl
    rw [this]; exact h.an
theorem MIs.new {H H' : Hp} {M : List Mp} {n : Int} {i : Nat} {p : Addr} (h : MIs H M) (hm : lookM M n = none) (hp : ∀ m ∈ M, m.2.1 ≠ p) (hk : ∀ m ∈ M, H' m.2.1 = H m.2.1) (hp2 : H' p = some (.lst (iv [i]))) : MIs H' (M ++ [(n, p, [i])]) := by
  refine ⟨fun m h' => ?_, ?_, ?_⟩
  · rcases List.mem_append.mp h' with z | z
    · rw [hk m z]; exact h.ok m z
    · have : m = (n, p, [i]) := by simpa using z
      rw [this]; exact hp2
  · rw [List.map_append]
    refine List.nodup_append.mpr ⟨h.kn, by simp, fun a ha b hb e => ?_⟩
    have hb' : b = n := by simpa using hb
    obtain ⟨m, hm1, hm2⟩ := List.mem_map.mp ha
    unfold lookM at hm
    have := List.find?_eq_none.mp hm m hm1
    exact this (decide_eq_true (by rw [hm2, e, hb']))
  · rw [List.map_append]
    refine List.nodup_append.mpr ⟨h.an, by simp, fun a ha b hb e => ?_⟩
    have hb' : b = p := by simpa using hb
    obtain ⟨m, hm1, hm2⟩ := List.mem_map.mp ha
    exact hp m hm1 (by rw [hm2, e, hb'])
theorem MIs.mono {H H' : Hp} {M : List Mp} (h : MIs H M) (e : ∀ m ∈ M, H' m.2.1 = H m.2.1) : MIs H' M := ⟨fun m hm => by rw [e m hm]; exact h.ok m hm, h.kn, h.an⟩
theorem idxs_take {W : List (List Int)} {i : Nat} {w : List Int} (h : W[i]? = some w) (x : Int) : idxs (W.take (i + 1)) x = idxs (W.take i) x ++ (if x ∈ w then [i] else []) := by
  have hi : i < W.length := (List.getElem?_eq_some_iff.mp h).1
  have e1 : (W.take (i + 1)).length = i + 1 := by simp; omega
  have e2 : (W.take i).length = i := by simp; omega
  unfold idxs
  rw [e1, e2, List.range_succ, List.filter_append]
  congr 1
  · refine List.filter_congr fun j hj => ?_
    have hj' : j < i := by simpa using hj
    have a1 : (W.take (i + 1)).getD j [] = W.getD j [] := by rw [List.getD_eq_getElem?_getD, List.getD_eq_getElem?_getD, List.getElem?_take_of_lt (by omega)]
    have a2 : (W.take i).getD j [] = W.getD j [] := by rw [List.getD_eq_getElem?_getD, List.getD_eq_getElem?_getD, List.getElem?_take_of_lt (by omega)]
    rw [a1, a2]
  · have a1 : (W.take (i + 1)).getD i [] = w := by rw [List.getD_eq_getElem?_getD, List.getElem?_take_of_lt (by omega), h]; rfl
    rw [List.filter_cons, List.filter_nil]
    simp only [a1]
    by_cases e : x ∈ w <;> simp [e]
def total (W : List (List Int)) : Nat := (W.map List.length).sum
theorem total_take {W : List (List Int)} {i : Nat} {w : List Int} (h : W[i]? = some w) : total (W.take (i + 1)) = total (W.take i) + w.length := by
  unfold total
  rw [List.take_add_one, h]; simp
theorem total_le (W : List (List Int)) (i : Nat) : total (W.take i) ≤ total W := by
  unfold total
  have : W = W.take i ++ W.drop i := (List.take_append_drop i W).symm
  rw [show (W.map List.length).sum = ((W.take i ++ W.drop i).map List.length).sum by rw [← this], List.map_append, List.sum_append]
  omega

/-! ### take_into -/
def Keep (c : Addr) (H H' : Hp) : Prop := ∀ b o, b ≠ c → H b = some o → H' b = some o
theorem Keep.refl (c : Addr) (H : Hp) : Keep c H H := fun _ _ _ h => h
theorem Keep.trans {c : Addr} {H H1 H2 : Hp} (a : Keep c H H1) (b : Keep c H1 H2) : Keep c H H2 := fun x o n h => b x o n (a x o n h)
theorem Keep.of {c : Addr} {H H' : Hp} (s : Same H H') : Keep c H H' := fun x o _ h => s x o h
theorem Keep.upd {c : Addr} {H H' : Hp} {o : HO} (a : Keep c H H') : Keep c H (L2.upd H' c o) := fun x u n h => by rw [upd_ne n]; exact a x u n h
theorem range_set {α : Type} {n j : Nat} (f : Nat → α) (v : α) : ((List.range n).map f).set j v = (List.range n).map fun i => if i = j then v else f i := by
  refine List.ext_getElem (by simp) fun i h1 h2 => ?_
  rw [List.getElem_set]
  simp only [List.getElem_map, List.getElem_range]
  by_cases e : j = i
  · subst e; simp
  · have : ¬ i = j := fun z => e z.symm
    simp [e, this]
theorem ixN_nat {n i : Nat} (h : i < n) : ixN n (i : Int) = some i := by
  unfold ixN
  rw [if_pos (by omega), if_pos (by omega)]; simp
theorem ixN_rg {α : Type} {f : Nat → α} {n i : Nat} (h : i < n) : ixN ((List.range n).map f).length (i : Int) = some i := ixN_nat (by simpa using h)
theorem rg_get {α : Type} {f : Nat → α} {n i : Nat} (h : i < n) : ((List.range n).map f)[i]? = some (f i) := by simp [h]
theorem mem_take_succ {α : Type} {l : List α} {j : Nat} {a : α} (h : l[j]? = some a) (x : α) : x ∈ l.take (j + 1) ↔ x ∈ l.take j ∨ x = a := by
  rw [List.take_add_one, h]; simp
theorem not_mem_take {l : List Nat} {j : Nat} {a : Nat} (nd : l.Nodup) (h : l[j]? = some a) : ¬ a ∈ l.take j := fun z => by
  obtain ⟨j', hj', e⟩ := List.mem_iff_getElem.mp z
  rw [List.getElem_take] at e
  have hjl : j < l.length := (List.getElem?_eq_some_iff.mp h).1
  have hj2 : j' < j := by simp at hj'; omega
  have e2 : l[j]'hjl = a := by rw [List.getElem?_eq_getElem hjl] at h; exact Option.some.inj h
  have := (List.getElem_inj (h₀ := by omega) (h₁ := hjl) nd).mp (e.trans e2.symm)
  omega
theorem iv_get {l : List Nat} {j : Nat} {y : V} (h : (iv l)[j]? = some y) : ∃ i, l[j]? = some i ∧ y = .int (i : Int) := getV h
/-- what places.get(x, []) hands out -/
theorem look_get {H : Hp} {M : List Mp} {pd pe : Addr} (x : Int) (hd : H pd = some (.dK (mkvs M))) (hM : MIs H M) (hpe : H pe = none) :
    ∃ o, DGet (upd H pe (.lst [])) pd (.int x) o ∧ ∃ b : Addr, (upd H pe (.lst [])) b = some (.lst (iv (ilook M x))) ∧ (b = pe ∨ ∃ m ∈ M, b = m.2.1) ∧ o.getD (.ref pe) = .ref b := by
  have npe : pd ≠ pe := ne_of_none hd hpe
  refine ⟨_, DGet.k (k := Sum.inl x) (by rw [upd_ne npe]; exact hd), ?_⟩
  rw [val_mkvs]
  cases hl : lookM M x with
  | none =>
    refine ⟨pe, ?_, .inl rfl, rfl⟩
    rw [upd_same]; unfold ilook; rw [hl]; rfl
  | some m =>
    obtain ⟨h1, h2⟩ := lookM_some hl
    refine ⟨m.2.1, ?_, .inr ⟨m, h1, rfl⟩, rfl⟩
    rw [upd_ne (ne_of_none (hM.ok m h1) hpe)]
    unfold ilook; rw [hl]; exact hM.ok m h1

/-! ### the tally of a wish -/
def soN (v T : List Int) : Nat := ((once v).filter fun n => decide (n ∈ T)).length
def leftN (v T : List Int) : Nat := (openOf v T).length
theorem count_one {l : List Int} (nd : l.Nodup) (a : Int) : (l.filter fun n => decide (n = a)).length = if a ∈ l then 1 else 0 := by
  induction l with
  | nil => rfl
  | cons b l ih =>
    have h := List.nodup_cons.mp nd
    rw [List.filter_cons]
    by_cases e : b = a
    · subst e
      have : (l.filter fun n => decide (n = b)) = [] := List.filter_eq_nil_iff.mpr fun n hn => by
        simp; intro z; subst z; exact h.1 hn
      simp [this]
    · have e' : ¬ a = b := fun z => e z.symm
      simp [e, e', ih h.2]
theorem soN_snoc {v T : List Int} {x : Int} (hx : ¬ x ∈ T) : soN v (T ++ [x]) = soN v T + (if x ∈ v then 1 else 0) := by
  unfold soN
  have e := count_one (once_nodup v) x
  have : ∀ l : List Int, (l.filter fun n => decide (n ∈ T ++ [x])).length = (l.filter fun n => decide (n ∈ T)).length + (l.filter fun n => decide (n = x)).length := by
    intro l
    induction l with
    | nil => rfl
    | cons b l ih =>
      rw [List.filter_cons, List.filter_cons, List.filter_cons]
      by_cases h1 : b ∈ T
      · have h2 : b ≠ x := fun z => hx (z ▸ h1)
        simp [h1, h2] at ih ⊢; omega
      · by_cases h2 : b = x
        · simp [h1, h2, hx] at ih ⊢; omega
        · simp [h1, h2] at ih ⊢; omega
  rw [this, e]
  congr 1
  by_cases h : x ∈ v
  · rw [if_pos h, if_pos (mem_once.mpr h)]
  · rw [if_neg h, if_neg (fun z => h (mem_once.mp z))]
theorem leftN_snoc {v T : List Int} {x : Int} (hx : ¬ x ∈ T) : leftN v (T ++ [x]) + (if -x ∈ v then 1 else 0) = leftN v T := by
  unfold leftN
  rw [openOf_snoc]
  by_cases h : -x ∈ v
  · rw [if_pos h]
    have hm : -x ∈ openOf v T := List.mem_filter.mpr ⟨mem_once.mpr h, by simp [hx]⟩
    exact filter_ne_len (openOf_nodup v T) hm
  · rw [if_neg h]
    have : (openOf v T).filter (fun n => !decide (n = -x)) = openOf v T := List.filter_eq_self.mpr fun n hn => by
      have : n ≠ -x := fun e => h (e ▸ mem_once.mp (List.mem_filter.mp hn).1)
      simp [this]
    rw [this]; rfl
theorem kept_soN {v T : List Int} : keptBy v T = true ↔ soN v T ≠ 0 := by
  unfold keptBy soN
  rw [List.any_eq_true]
  constructor
  · rintro ⟨n, hn, e⟩
    have : n ∈ (once v).filter fun n => decide (n ∈ T) := List.mem_filter.mpr ⟨mem_once.mpr hn, e⟩
    intro z
    rw [List.length_eq_zero_iff.mp z] at this
    cases this
  · intro h
    obtain ⟨n, hn⟩ := List.exists_mem_of_length_pos (Nat.pos_of_ne_zero h)
    obtain ⟨a, b⟩ := List.mem_filter.mp hn
    exact ⟨n, mem_once.mp a, b⟩
theorem cnt_tally (v T : List Int) : cnt v T = if soN v T = 0 then some (leftN v T) else none := by
  unfold cnt
  by_cases h : soN v T = 0
  · have : ¬ keptBy v T = true := fun z => kept_soN.mp z h
    rw [if_neg this, if_pos h]; rfl
  · rw [if_pos (kept_soN.mpr h), if_neg h]
/-- what failing and forcing hold -/
structure FG (so left F G : List Int) : Prop where
  fn : F.Nodup
  gn : G.Nodup
  f : ∀ j, j ∈ F ↔ ∃ i : Nat, j = (i : Int) ∧ so[i]? = some 0 ∧ left[i]? = some 0
  g : ∀ j, j ∈ G ↔ ∃ i : Nat, j = (i : Int) ∧ so[i]? = some 0 ∧ left[i]? = some 1
/-- sorted in: the number i, where so and left may have changed at i alone -/
theorem FG.sort {so left so' left' F G F' G' : List Int} {i : Nat} (h : FG so left F G) (hs : ∀ k, k ≠ i → so'[k]? = so[k]?) (hl : ∀ k, k ≠ i → left'[k]? = left[k]?) (fn : F'.Nodup) (gn : G'.Nodup)
    (hF : ∀ j, j ∈ F' ↔ (j ∈ F ∧ j ≠ (i : Int)) ∨ (j = (i : Int) ∧ so'[i]? = some 0 ∧ left'[i]? = some 0)) (hG : ∀ j, j ∈ G' ↔ (j ∈ G ∧ j ≠ (i : Int)) ∨ (j = (i : Int) ∧ so'[i]? = some 0 ∧ left'[i]? = some 1)) : FG so' left' F' G' := by
  refine ⟨fn, gn, fun j => ?_, fun j => ?_⟩
  · rw [hF]
    constructor
    · rintro (⟨a, b⟩ | ⟨a, b, c⟩)
      · obtain ⟨k, e, p, q⟩ := (h.f j).mp a
        have hk : k ≠ i := fun z => b (by rw [e, z])
        exact ⟨k, e, by rw [hs k hk]; exact p, by rw [hl k hk]; exact q⟩
      · exact ⟨i, a, b, c⟩
    · rintro ⟨k, e, p, q⟩
      by_cases hk : k = i
      · subst hk; exact .inr ⟨e, p, q⟩
      · exact .inl ⟨(h.f j).mpr ⟨k, e, by rw [← hs k hk]; exact p, by rw [← hl k hk]; exact q⟩, fun z => hk (by omega)⟩
  · rw [hG]
    constructor
    · rintro (⟨a, b⟩ | ⟨a, b, c⟩)
      · obtain ⟨k, e, p, q⟩ := (h.g j).mp a
        have hk : k ≠ i := fun z => b (by rw [e, z])
        exact ⟨k, e, by rw [hs k hk]; exact p, by rw [hl k hk]; exact q⟩
      · exact ⟨i, a, b, c⟩
    · rintro ⟨k, e, p, q⟩
      by_cases hk : k = i
      · subst hk; exact .inr ⟨e, p, q⟩
      · exact .inl ⟨(h.g j).mpr ⟨k, e, by rw [← hs k hk]; exact p, by rw [← hl k hk]; exact q⟩, fun z => hk (by omega)⟩
/-- not sorted in: at i there is too much left, ahead and behind -/
theorem FG.skip {so left so' left' F G : List Int} {i : Nat} (h : FG so left F G) (hs : ∀ k, k ≠ i → so'[k]? = so[k]?) (hl : ∀ k, k ≠ i → left'[k]? = left[k]?) (h1 : ∀ z, left[i]? = some z → 1 < z) (h2 : ∀ z, left'[i]? = some z → 1 < z) : FG so' left' F G := by
  have key : ∀ (c j : Int), (c = 0 ∨ c = 1) → ((∃ k : Nat, j = (k : Int) ∧ so[k]? = some 0 ∧ left[k]? = some c) ↔ ∃ k : Nat, j = (k : Int) ∧ so'[k]? = some 0 ∧ left'[k]? = some c) := by
    intro c j hc
    constructor
    · rintro ⟨k, e, p, q⟩
      have hk : k ≠ i := fun z => by have := h1 c (z ▸ q); omega
      exact ⟨k, e, by rw [hs k hk]; exact p, by rw [hl k hk]; exact q⟩
    · rintro ⟨k, e, p, q⟩
      have hk : k ≠ i := fun z => by have := h2 c (z ▸ q); omega
      exact ⟨k, e, by rw [← hs k hk]; exact p, by rw [← hl k hk]; exact q⟩
  exact ⟨h.fn, h.gn, fun j => (h.f j).trans (key 0 j (.inl rfl)), fun j => (h.g j).trans (key 1 j (.inr rfl))⟩

/-! ### a tally as it lies -/
structure Tly where
  aw : Addr
  at_ : Addr
  ad : Addr
  ap : Addr
  aso : Addr
  al : Addr
  af : Addr
  ao : Addr
  ws : List Wr
  qs : List Pr
  T : List Int
  M : List Mp
  so : List Int
  left : List Int
  F : List Int
  G : List Int
def flds (x : Tly) : List (Str × V) := putF "forcing" (.ref x.ao) (putF "failing" (.ref x.af) (putF "left" (.ref x.al) (putF "so" (.ref x.aso) (putF "places" (.ref x.ap) (putF "taken" (.ref x.ad) (putF "trail" (.ref x.at_) (putF "wishes" (.ref x.aw) [])))))))
theorem fl_wishes (x : Tly) : (flds x).lookup ("wishes" : Str) = some (.ref x.aw) := by
  unfold flds
  rw [lookup_putF, if_neg (by decide +kernel), lookup_putF, if_neg (by decide +kernel), lookup_putF, if_neg (by decide +kernel), lookup_putF, if_neg (by decide +kernel), lookup_putF, if_neg (by decide +kernel), lookup_putF, if_neg (by decide +kernel), lookup_putF, if_neg (by decide +kernel), lookup_putF, if_pos rfl]
theorem fl_trail (x : Tly) : (flds x).lookup ("trail" : Str) = some (.ref x.at_) := by
  unfold flds
  rw [lookup_putF, if_neg (by decide +kernel), lookup_putF, if_neg (by decide +kernel), lookup_putF, if_neg (by decide +kernel), lookup_putF, if_neg (by decide +kernel), lookup_putF, if_neg (by decide +kernel), lookup_putF, if_neg (by decide +kernel), lookup_putF, if_pos rfl]
theorem fl_taken (x : Tly) : (flds x).lookup ("taken" : Str) = some (.ref x.ad) := by
  unfold flds
  rw [lookup_putF, if_neg (by decide +kernel), lookup_putF, if_neg (by decide +kernel), lookup_putF, if_neg (by decide +kernel), lookup_putF, if_neg (by decide +kernel), lookup_putF, if_neg (by decide +kernel), lookup_putF, if_pos rfl]
theorem fl_places (x : Tly) : (flds x).lookup ("places" : Str) = some (.ref x.ap) := by
  unfold flds
  rw [lookup_putF, if_neg (by decide +kernel), lookup_putF, if_neg (by decide +kernel), lookup_putF, if_neg (by decide +kernel), lookup_putF, if_neg (by decide +kernel), lookup_putF, if_pos rfl]
theorem fl_so (x : Tly) : (flds x).lookup ("so" : Str) = some (.ref x.aso) := by
  unfold flds
  rw [lookup_putF, if_neg (by decide +kernel), lookup_putF, if_neg (by decide +kernel), lookup_putF, if_neg (by decide +kernel), lookup_putF, if_pos rfl]
theorem fl_left (x : Tly) : (flds x).lookup ("left" : Str) = some (.ref x.al) := by
  unfold flds
  rw [lookup_putF, if_neg (by decide +kernel), lookup_putF, if_neg (by decide +kernel), lookup_putF, if_pos rfl]
theorem fl_failing (x : Tly) : (flds x).lookup ("failing" : Str) = some (.ref x.af) := by
  unfold flds
  rw [lookup_putF, if_neg (by decide +kernel), lookup_putF, if_pos rfl]
theorem fl_forcing (x : Tly) : (flds x).lookup ("forcing" : Str) = some (.ref x.ao) := by
  unfold flds
  rw [lookup_putF, if_pos rfl]
theorem fl_no (x : Tly) {m : Str} (h1 : ¬ m = "forcing") (h2 : ¬ m = "failing") (h3 : ¬ m = "left") (h4 : ¬ m = "so") (h5 : ¬ m = "places") (h6 : ¬ m = "taken") (h7 : ¬ m = "trail") (h8 : ¬ m = "wishes") : (flds x).lookup m = none := by
  unfold flds
  rw [lookup_putF, if_neg h1, lookup_putF, if_neg h2, lookup_putF, if_neg h3, lookup_putF, if_neg h4, lookup_putF, if_neg h5, lookup_putF, if_neg h6, lookup_putF, if_neg h7, lookup_putF, if_neg h8]
  rfl
structure TyAt (C : Addr) (H : Hp) (p : Addr) (x : Tly) : Prop where
  ob : ∃ dx, H p = some (.ins C dx (flds x))
  hw : H x.aw = some (.lst (wrefs x.ws))
  ht : H x.at_ = some (.lst (refs x.qs))
  hd : H x.ad = some (.dK (mk x.T))
  hp : H x.ap = some (.dK (mkvs x.M))
  hM : MIs H x.M
  hs : H x.aso = some (.lst (x.so.map V.int))
  hl : H x.al = some (.lst (x.left.map V.int))
  hf : H x.af = some (.dK (mk x.F))
  hg : H x.ao = some (.dK (mk x.G))
  wo : WsOk H x.ws
  to : TrOk H x.qs
  nl : x.aw ≠ x.at_ ∧ x.aw ≠ x.aso ∧ x.aw ≠ x.al ∧ x.at_ ≠ x.aso ∧ x.at_ ≠ x.al ∧ x.aso ≠ x.al
  nd : x.ad ≠ x.ap ∧ x.ad ≠ x.af ∧ x.ad ≠ x.ao ∧ x.ap ≠ x.af ∧ x.ap ≠ x.ao ∧ x.af ≠ x.ao
  nm : ∀ m ∈ x.M, m.2.1 ≠ x.aw ∧ m.2.1 ≠ x.at_ ∧ m.2.1 ≠ x.aso ∧ m.2.1 ≠ x.al
  nw : ∀ r ∈ x.ws, r.1 ≠ x.aw ∧ r.1 ≠ x.at_ ∧ r.1 ≠ x.aso ∧ r.1 ≠ x.al ∧ ∀ m ∈ x.M, r.1 ≠ m.2.1
/-- the objects of a tally -/
def foot (p : Addr) (x : Tly) (b : Addr) : Prop := b = p ∨ b = x.aw ∨ b = x.at_ ∨ b = x.ad ∨ b = x.ap ∨ b = x.aso ∨ b = x.al ∨ b = x.af ∨ b = x.ao ∨ ∃ m ∈ x.M, b = m.2.1
structure Fr (p : Addr) (x x' : Tly) (H H' : Hp) : Prop where
  out : ∀ b o, H b = some o → ¬ foot p x b → H' b = some o
  inn : ∀ b, foot p x' b → foot p x b ∨ H b = none
theorem Fr.refl (p : Addr) (x : Tly) (H : Hp) : Fr p x x H H := ⟨fun _ _ h _ => h, fun _ h => .inl h⟩
theorem Fr.trans {p : Addr} {x y z : Tly} {H H1 H2 : Hp} (a : Fr p x y H H1) (b : Fr p y z H1 H2) : Fr p x z H H2 := by
  have step : ∀ c, H1 c = none → foot p x c ∨ H c = none := fun c h => by
    cases e : H c with
    | none => exact .inr rfl
    | some o =>
      by_cases hf : foot p x c
      · exact .inl hf
      · rw [a.out c o e hf] at h; cases h
  refine ⟨fun c o h hf => b.out c o (a.out c o h hf) fun hy => ?_, fun c hz => ?_⟩
  · rcases a.inn c hy with z | z
    · exact hf z
    · rw [h] at z; cases z
  · rcases b.inn c hz with hy | h
    · exact a.inn c hy
    · exact step c h
/-- the rest of the heap may grow -/
theorem Fr.same {p : Addr} {x : Tly} {H H' : Hp} (s : Same H H') : Fr p x x H H' := ⟨fun b o h _ => s b o h, fun _ h => .inl h⟩
theorem TyAt.same {C : Addr} {H H' : Hp} {p : Addr} {x : Tly} (h : TyAt C H p x) (s : Same H H') : TyAt C H' p x :=
  ⟨let ⟨dx, e⟩ := h.ob; ⟨dx, s _ _ e⟩, s _ _ h.hw, s _ _ h.ht, s _ _ h.hd, s _ _ h.hp, h.hM.mono fun m hm => by rw [s _ _ (h.hM.ok m hm), h.hM.ok m hm], s _ _ h.hs, s _ _ h.hl, s _ _ h.hf, s _ _ h.hg, h.wo.mono s, h.to.mono s, h.nl, h.nd, h.nm, h.nw⟩
theorem upd_fr {p : Addr} {x x' : Tly} {H : Hp} {z : Addr} {o : HO} (hz : foot p x z) (hi : ∀ b, foot p x' b → foot p x b ∨ H b = none) : Fr p x x' H (upd H z o) :=
  ⟨fun b u h hf => by rw [upd_ne (fun e => hf (by rw [e]; exact hz))]; exact h, hi⟩
section
variable {C : Addr} {H : Hp} {p : Addr} {x : Tly} (h : TyAt C H p x)
include h
theorem TyAt.p_ne {z : Addr} {o : HO} (hz : H z = some o) (hk : ∀ C dx fs, o ≠ .ins C dx fs) : p ≠ z := by
  obtain ⟨dx, e⟩ := h.ob
  exact ne_of e hz (fun q => hk _ _ _ q.symm)
theorem TyAt.t_ne {z : Addr} {o : HO} (hz : H z = some o) (hk : ∀ vs, o ≠ .tup vs) : ∀ q ∈ x.qs, q.1 ≠ z := fun q hq => ne_of (h.to q hq) hz (fun e => hk _ e.symm)
/-- a dict of the tally is written -/
theorem TyAt.setF (F' : List Int) : TyAt C (upd H x.af (.dK (My.mk F'))) p { x with F := F' } := by
  have k1 : ∀ {z : Addr} {vs : List V}, H z = some (.lst vs) → upd H x.af (.dK (My.mk F')) z = some (.lst vs) := fun {z vs} e => by rw [upd_ne (ne_of e h.hf (by intro q; cases q))]; exact e
  have k2 : ∀ {z : Addr} {o : HO}, z ≠ x.af → H z = some o → upd H x.af (.dK (My.mk F')) z = some o := fun n e => by rw [upd_ne n]; exact e
  obtain ⟨dx, e⟩ := h.ob
  exact ⟨⟨dx, k2 (h.p_ne h.hf (by intro a b c q; cases q)) e⟩, k1 h.hw, k1 h.ht, k2 h.nd.2.1 h.hd, k2 h.nd.2.2.2.1 h.hp, h.hM.mono fun m hm => by rw [k1 (h.hM.ok m hm), h.hM.ok m hm], k1 h.hs, k1 h.hl, upd_same, k2 h.nd.2.2.2.2.2.symm h.hg, fun r hr => k1 (h.wo r hr), fun q hq => k2 (h.t_ne h.hf (by intro a q; cases q) q hq) (h.to q hq), h.nl, h.nd, h.nm, h.nw⟩
theorem TyAt.setG (G' : List Int) : TyAt C (upd H x.ao (.dK (My.mk G'))) p { x with G := G' } := by
  have k1 : ∀ {z : Addr} {vs : List V}, H z = some (.lst vs) → upd H x.ao (.dK (My.mk G')) z = some (.lst vs) := fun {z vs} e => by rw [upd_ne (ne_of e h.hg (by intro q; cases q))]; exact e
  have k2 : ∀ {z : Addr} {o : HO}, z ≠ x.ao → H z = some o → upd H x.ao (.dK (My.mk G')) z = some o := fun n e => by rw [upd_ne n]; exact e
  obtain ⟨dx, e⟩ := h.ob
  exact ⟨⟨dx, k2 (h.p_ne h.hg (by intro a b c q; cases q)) e⟩, k1 h.hw, k1 h.ht, k2 h.nd.2.2.1 h.hd, k2 h.nd.2.2.2.2.1 h.hp, h.hM.mono fun m hm => by rw [k1 (h.hM.ok m hm), h.hM.ok m hm], k1 h.hs, k1 h.hl, k2 h.nd.2.2.2.2.2 h.hf, upd_same, fun r hr => k1 (h.wo r hr), fun q hq => k2 (h.t_ne h.hg (by intro a q; cases q) q hq) (h.to q hq), h.nl, h.nd, h.nm, h.nw⟩
theorem TyAt.setT (T' : List Int) : TyAt C (upd H x.ad (.dK (My.mk T'))) p { x with T := T' } := by
  have k1 : ∀ {z : Addr} {vs : List V}, H z = some (.lst vs) → upd H x.ad (.dK (My.mk T')) z = some (.lst vs) := fun {z vs} e => by rw [upd_ne (ne_of e h.hd (by intro q; cases q))]; exact e
  have k2 : ∀ {z : Addr} {o : HO}, z ≠ x.ad → H z = some o → upd H x.ad (.dK (My.mk T')) z = some o := fun n e => by rw [upd_ne n]; exact e
  obtain ⟨dx, e⟩ := h.ob
  exact ⟨⟨dx, k2 (h.p_ne h.hd (by intro a b c q; cases q)) e⟩, k1 h.hw, k1 h.ht, upd_same, k2 h.nd.1.symm h.hp, h.hM.mono fun m hm => by rw [k1 (h.hM.ok m hm), h.hM.ok m hm], k1 h.hs, k1 h.hl, k2 h.nd.2.1.symm h.hf, k2 h.nd.2.2.1.symm h.hg, fun r hr => k1 (h.wo r hr), fun q hq => k2 (h.t_ne h.hd (by intro a q; cases q) q hq) (h.to q hq), h.nl, h.nd, h.nm, h.nw⟩
/-- a list of the tally is written -/
theorem TyAt.setS (so' : List Int) : TyAt C (upd H x.aso (.lst (so'.map V.int))) p { x with so := so' } := by
  have k1 : ∀ {z : Addr} {kvs : List (Key × V)}, H z = some (.dK kvs) → upd H x.aso (.lst (so'.map V.int)) z = some (.dK kvs) := fun {z vs} e => by rw [upd_ne (ne_of e h.hs (by intro q; cases q))]; exact e
  have k2 : ∀ {z : Addr} {o : HO}, z ≠ x.aso → H z = some o → upd H x.aso (.lst (so'.map V.int)) z = some o := fun n e => by rw [upd_ne n]; exact e
  obtain ⟨dx, e⟩ := h.ob
  exact ⟨⟨dx, k2 (h.p_ne h.hs (by intro a b c q; cases q)) e⟩, k2 h.nl.2.1 h.hw, k2 h.nl.2.2.2.1 h.ht, k1 h.hd, k1 h.hp, h.hM.mono fun m hm => by rw [k2 (h.nm m hm).2.2.1 (h.hM.ok m hm), h.hM.ok m hm], upd_same, k2 h.nl.2.2.2.2.2.symm h.hl, k1 h.hf, k1 h.hg, fun r hr => k2 (h.nw r hr).2.2.1 (h.wo r hr), fun q hq => k2 (h.t_ne h.hs (by intro a q; cases q) q hq) (h.to q hq), h.nl, h.nd, h.nm, h.nw⟩
theorem TyAt.setL (left' : List Int) : TyAt C (upd H x.al (.lst (left'.map V.int))) p { x with left := left' } := by
  have k1 : ∀ {z : Addr} {kvs : List (Key × V)}, H z = some (.dK kvs) → upd H x.al (.lst (left'.map V.int)) z = some (.dK kvs) := fun {z vs} e => by rw [upd_ne (ne_of e h.hl (by intro q; cases q))]; exact e
  have k2 : ∀ {z : Addr} {o : HO}, z ≠ x.al → H z = some o → upd H x.al (.lst (left'.map V.int)) z = some o := fun n e => by rw [upd_ne n]; exact e
  obtain ⟨dx, e⟩ := h.ob
  exact ⟨⟨dx, k2 (h.p_ne h.hl (by intro a b c q; cases q)) e⟩, k2 h.nl.2.2.1 h.hw, k2 h.nl.2.2.2.2.1 h.ht, k1 h.hd, k1 h.hp, h.hM.mono fun m hm => by rw [k2 (h.nm m hm).2.2.2 (h.hM.ok m hm), h.hM.ok m hm], k2 h.nl.2.2.2.2.2 h.hs, upd_same, k1 h.hf, k1 h.hg, fun r hr => k2 (h.nw r hr).2.2.2.1 (h.wo r hr), fun q hq => k2 (h.t_ne h.hl (by intro a q; cases q) q hq) (h.to q hq), h.nl, h.nd, h.nm, h.nw⟩
/-- the trail is written -/
theorem TyAt.setQ {qs' : List Pr} (ho : TrOk H qs') : TyAt C (upd H x.at_ (.lst (refs qs'))) p { x with qs := qs' } := by
  have k1 : ∀ {z : Addr} {kvs : List (Key × V)}, H z = some (.dK kvs) → upd H x.at_ (.lst (refs qs')) z = some (.dK kvs) := fun {z vs} e => by rw [upd_ne (ne_of e h.ht (by intro q; cases q))]; exact e
  have k2 : ∀ {z : Addr} {o : HO}, z ≠ x.at_ → H z = some o → upd H x.at_ (.lst (refs qs')) z = some o := fun n e => by rw [upd_ne n]; exact e
  obtain ⟨dx, e⟩ := h.ob
  exact ⟨⟨dx, k2 (h.p_ne h.ht (by intro a b c q; cases q)) e⟩, k2 h.nl.1 h.hw, upd_same, k1 h.hd, k1 h.hp, h.hM.mono fun m hm => by rw [k2 (h.nm m hm).2.1 (h.hM.ok m hm), h.hM.ok m hm], k2 h.nl.2.2.2.1.symm h.hs, k2 h.nl.2.2.2.2.1.symm h.hl, k1 h.hf, k1 h.hg, fun r hr => k2 (h.nw r hr).2.1 (h.wo r hr), fun q hq => k2 (ne_of (ho q hq) h.ht (by intro z; cases z)) (ho q hq), h.nl, h.nd, h.nm, h.nw⟩
end
/-- the class as the top has left it -/
structure TallyCls (K : PySem.W.Frag) (mg : Str → Option Value) (C : Addr) : Prop where
  cl : Cls K C
  n1 : NoAttr K C "wishes"
  n2 : NoAttr K C "trail"
  n3 : NoAttr K C "taken"
  n4 : NoAttr K C "places"
  n5 : NoAttr K C "so"
  n6 : NoAttr K C "left"
  n7 : NoAttr K C "failing"
  n8 : NoAttr K C "forcing"
  mgC : mg "Tally" = some (.ref C)
  mks : PySem.W.makesIn K C = true
  kc : PySem.W.keepIn K (.ref C) = true

theorem iteN {c A B : Prop} [Decidable c] (h : ¬ c) (b : B) : if decide c = true then A else B := by
  rw [decide_eq_false h]; exact iteF b
theorem iteY {c A B : Prop} [Decidable c] (h : c) (a : A) : if decide c = true then A else B := by
  rw [decide_eq_true h]; exact iteT a

theorem drop_mk (l : List Int) (n : Int) : dropK (mk l) (Sum.inl n : Key) = mk (l.filter fun z => !decide (z = n)) := by
  unfold dropK mk
  rw [List.filter_map]
  congr 1
  refine List.filter_congr fun z _ => ?_
  show decide ((Sum.inl z : Key) ≠ Sum.inl n) = !decide (z = n)
  by_cases h : z = n
  · subst h; simp
  · simp [h]
theorem val_mk (l : List Int) (n : Int) : valV (mk l) (Sum.inl n : Key) = none → l.filter (fun z => !decide (z = n)) = l := fun e => by
  have h := has_mk l n
  rw [e] at h
  have hn : ¬ n ∈ l := fun z => by rw [decide_eq_true z] at h; cases h
  exact List.filter_eq_self.mpr fun z hz => by
    have : z ≠ n := fun q => hn (q ▸ hz)
    simp [this]
def wo (l : List Int) (i : Nat) : List Int := l.filter fun z => !decide (z = (i : Int))
theorem mem_wo {l : List Int} {i : Nat} {j : Int} : j ∈ wo l i ↔ j ∈ l ∧ j ≠ (i : Int) := by unfold wo; rw [List.mem_filter]; simp
theorem wo_nodup {l : List Int} {i : Nat} (h : l.Nodup) : (wo l i).Nodup := h.sublist List.filter_sublist
theorem wo_len (l : List Int) (i : Nat) : (wo l i).length ≤ l.length := List.length_filter_le _ _
def spSort (C : Addr) : Sp := fun vs H Q _ => ∃ (p : Addr) (x : Tly) (i : Nat) (a b : Int), vs = [.ref p, .int i] ∧ TyAt C H p x ∧ x.so[i]? = some a ∧ x.left[i]? = some b ∧ x.F.length ≤ 100000 ∧ x.G.length ≤ 100000 ∧ x.F.Nodup ∧ x.G.Nodup ∧
  ∀ (F' G' : List Int) (H' : Hp), TyAt C H' p { x with F := F', G := G' } → Fr p x { x with F := F', G := G' } H H' → F'.Nodup → G'.Nodup → (∀ j, j ∈ F' ↔ (j ∈ x.F ∧ j ≠ (i : Int)) ∨ (j = (i : Int) ∧ a = 0 ∧ b = 0)) → (∀ j, j ∈ G' ↔ (j ∈ x.G ∧ j ≠ (i : Int)) ∨ (j = (i : Int) ∧ a = 0 ∧ b = 1)) → Q .non H'
theorem foot_f {p : Addr} {x : Tly} : foot p x x.af := .inr (.inr (.inr (.inr (.inr (.inr (.inr (.inl rfl)))))))
theorem foot_g {p : Addr} {x : Tly} : foot p x x.ao := .inr (.inr (.inr (.inr (.inr (.inr (.inr (.inr (.inl rfl))))))))
section
variable {P : Program} {w : World} {K : PySem.W.Frag} {mg : Str → Option Value} {base : Heap} {C : Addr}
theorem ok_sort_in (T : TallyCls K mg C) (Df : MDef K C "sort_in" "Tally.sort_in" s_Tally_sort_in p_Tally_sort_in) : MCal P w K mg base 1 C "sort_in" p_Tally_sort_in (spSort C) := by
  refine Df.cal sc_Tally_sort_in (fun vs H Q E h => ?_) (fun f cdv A outer s H vs Q E hr h => ?_)
  · obtain ⟨p, x, i, a, b, rfl, _⟩ := h; rfl
  · obtain ⟨p, x, i, a, b, rfl, hx, ha, hb, hzF, hzG, nF, nG, q⟩ := h
    have hu := hu_of hr
    have cl := T.cl
    refine ⟨_, (pss_cons (ps_expr (pe_dpop2 (pe_fld (pv 0) rfl) (pv 1) pe_non ⟨rfl, rfl, rfl, rfl⟩))
 (pss_cons (ps_expr (pe_dpop2 (pe_fld (pv 0) rfl) (pv 1) pe_non ⟨rfl, rfl, rfl, rfl⟩))
 (pss_one (ps_if (pt_cmpR op_eq (pe_ix ix_list (pe_fld (pv 0) rfl) (pv 1) (fun _ _ => rfl)) pe_int (nomark _))
 (pss_one (ps_if (pt_cmpR op_eq (pe_ix ix_list (pe_fld (pv 0) rfl) (pv 1) (fun _ _ => rfl)) pe_int (nomark _))
 (pss_one (ps_dput hu (pe_fld (pv 0) rfl) (pv 1) pe_bl rfl))
 (pss_one (ps_if (pt_cmpR op_eq (pe_ix ix_list (pe_fld (pv 0) rfl) (pv 1) (fun _ _ => rfl)) pe_int (nomark _))
 (pss_one (ps_dput hu (pe_fld (pv 0) rfl) (pv 1) pe_bl rfl))
 pss_nil))))
 pss_nil)))), ?_⟩
    refine rd_cut (fun σ Hx => σ = [some (.ref p), some (.int i)] ∧ TyAt C Hx p { x with F := wo x.F i } ∧ Fr p x { x with F := wo x.F i } H Hx) (fun N hN => ?_) ?_
    · obtain ⟨dx, ob⟩ := hx.ob
      refine ⟨_, rfl, p, C, dx, _, _, rfl, ob, T.cl, T.n7, fl_failing x, x.af, rfl, .inl ⟨_, .inl hx.hf⟩, _, rfl, _, Sum.inl (i : Int), hx.hf, rfl, fun v _ => ?_, fun e => ?_⟩
      · rw [drop_mk]
        exact hN _ _ ⟨rfl, hx.setF _, upd_fr foot_f fun _ h => .inl h⟩
      · have ew : wo x.F i = x.F := val_mk _ _ e
        refine hN _ _ ⟨rfl, ?_, ?_⟩
        · rw [ew]; exact hx
        · rw [ew]; exact Fr.refl _ _ _
    rintro σ H1 ⟨rfl, hx1, fr1⟩
    refine rd_cut (fun σ Hx => σ = [some (.ref p), some (.int i)] ∧ TyAt C Hx p { x with F := wo x.F i, G := wo x.G i } ∧ Fr p x { x with F := wo x.F i, G := wo x.G i } H Hx) (fun N hN => ?_) ?_
    · obtain ⟨dx, ob⟩ := hx1.ob
      refine ⟨_, rfl, p, C, dx, _, _, rfl, ob, T.cl, T.n8, fl_forcing _, x.ao, rfl, .inl ⟨_, .inl hx1.hg⟩, _, rfl, _, Sum.inl (i : Int), hx1.hg, rfl, fun v _ => ?_, fun e => ?_⟩
      · rw [drop_mk]
        exact hN _ _ ⟨rfl, hx1.setG _, fr1.trans (upd_fr foot_g fun _ h => .inl h)⟩
      · have ew : wo x.G i = x.G := val_mk _ _ e
        refine hN _ _ ⟨rfl, ?_, ?_⟩
        · rw [ew]; exact hx1
        · rw [ew]; exact fr1
    rintro σ H2 ⟨rfl, hx2, fr2⟩
    obtain ⟨dx, ob⟩ := hx2.ob
    have hat : atI (x.so.map V.int) (i : Int) = some (.int a) := atI_nat (by simp [ha])
    have hbt : atI (x.left.map V.int) (i : Int) = some (.int b) := atI_nat (by simp [hb])
    have nFi : ¬ (i : Int) ∈ wo x.F i := fun z => (mem_wo.mp z).2 rfl
    have nGi : ¬ (i : Int) ∈ wo x.G i := fun z => (mem_wo.mp z).2 rfl
    have lF := wo_len x.F i
    have lG := wo_len x.G i
    refine ⟨_, rfl, p, C, dx, _, _, rfl, ob, T.cl, T.n5, fl_so _, _, rfl, x.aso, _, _, _, rfl, rfl, SqL.of hx2.hs, hat, rfl, _, rfl, ite2 (fun c => ?_) (fun c => ?_)⟩
    · have a0 : a = 0 := by have := of_decide_eq_true c; injection this
      refine ⟨_, rfl, p, C, dx, _, _, rfl, ob, T.cl, T.n6, fl_left _, _, rfl, x.al, _, _, _, rfl, rfl, SqL.of hx2.hl, hbt, rfl, _, rfl, ite2 (fun c2 => ?_) (fun c2 => ?_)⟩
      · have b0 : b = 0 := by have := of_decide_eq_true c2; injection this
        refine ⟨_, rfl, p, C, dx, _, _, rfl, ob, T.cl, T.n7, fl_failing _, _, rfl, x.af, _, rfl, DPut.k (k := Sum.inl (i : Int)) hx2.hf (small6 (by rw [mk_len]; show (wo x.F i).length ≤ _; omega)), ?_⟩
        rw [put_mk]
        have eF : onceF (wo x.F i) (i : Int) = wo x.F i ++ [(i : Int)] := by unfold onceF; rw [if_neg nFi]
        show Q .non (upd H2 x.af (.dK (mk (onceF (wo x.F i) (i : Int)))))
        rw [eF]
        refine q _ _ _ (hx2.setF _) (fr2.trans (upd_fr foot_f fun _ h => .inl h)) ?_ (wo_nodup nG) (fun j => ?_) (fun j => ?_)
        · rw [List.nodup_append]
          exact ⟨wo_nodup nF, by simp, fun u hu v hv => by have : v = (i : Int) := by simpa using hv
                                                           rw [this]; intro z; exact nFi (z ▸ hu)⟩
        · rw [List.mem_append, mem_wo]; simp [a0, b0]
        · rw [mem_wo]; simp [b0]
      · have b0 : b ≠ 0 := fun z => c2 (by rw [z]; exact decide_eq_true rfl)
        refine ⟨_, rfl, p, C, dx, _, _, rfl, ob, T.cl, T.n6, fl_left _, _, rfl, x.al, _, _, _, rfl, rfl, SqL.of hx2.hl, hbt, rfl, _, rfl, ite2 (fun c3 => ?_) (fun c3 => ?_)⟩
        · have b1 : b = 1 := by have := of_decide_eq_true c3; injection this
          refine ⟨_, rfl, p, C, dx, _, _, rfl, ob, T.cl, T.n8, fl_forcing _, _, rfl, x.ao, _, rfl, DPut.k (k := Sum.inl (i : Int)) hx2.hg (small6 (by rw [mk_len]; show (wo x.G i).length ≤ _; omega)), ?_⟩
          rw [put_mk]
          have eG : onceF (wo x.G i) (i : Int) = wo x.G i ++ [(i : Int)] := by unfold onceF; rw [if_neg nGi]
          show Q .non (upd H2 x.ao (.dK (mk (onceF (wo x.G i) (i : Int)))))
          rw [eG]
          refine q _ _ _ (hx2.setG _) (fr2.trans (upd_fr foot_g fun _ h => .inl h)) (wo_nodup nF) ?_ (fun j => ?_) (fun j => ?_)
          · rw [List.nodup_append]
            exact ⟨wo_nodup nG, by simp, fun u hu v hv => by have : v = (i : Int) := by simpa using hv
                                                             rw [this]; intro z; exact nGi (z ▸ hu)⟩
          · rw [mem_wo]; simp [b1]
          · rw [List.mem_append, mem_wo]; simp [a0, b1]
        · have b1 : b ≠ 1 := fun z => c3 (by rw [z]; exact decide_eq_true rfl)
          refine q _ _ _ hx2 fr2 (wo_nodup nF) (wo_nodup nG) (fun j => ?_) (fun j => ?_)
          · rw [mem_wo]; simp [b0]
          · rw [mem_wo]; simp [b1]
    · have a0 : a ≠ 0 := fun z => c (by rw [z]; exact decide_eq_true rfl)
      refine q _ _ _ hx2 fr2 (wo_nodup nF) (wo_nodup nG) (fun j => ?_) (fun j => ?_)
      · rw [mem_wo]; simp [a0]
      · rw [mem_wo]; simp [a0]
end

theorem pigeon : ∀ (c : Nat) (lo : Int) (l : List Int), l.Nodup → (∀ x ∈ l, lo < x ∧ x ≤ lo + c) → l.length ≤ c
  | 0, lo, l, _, h => by
    cases l with
    | nil => simp
    | cons x r => have := h x List.mem_cons_self; omega
  | c + 1, lo, l, nd, h => by
    have hf : (l.filter fun x => !decide (x = lo + (c : Int) + 1)).length ≤ c := by
      refine pigeon c lo _ (nd.sublist List.filter_sublist) fun x hx => ?_
      obtain ⟨h1, h2⟩ := List.mem_filter.mp hx
      have h3 := h x h1
      have h4 : x ≠ lo + (c : Int) + 1 := by simpa using h2
      omega
    by_cases e : lo + (c : Int) + 1 ∈ l
    · have := filter_ne_len nd e; omega
    · have : (l.filter fun x => !decide (x = lo + (c : Int) + 1)) = l := List.filter_eq_self.mpr fun x hx => by
        have : x ≠ lo + (c : Int) + 1 := fun z => e (z ▸ hx)
        simp [this]
      rw [this] at hf; omega

def addAt (xs : List Int) (ks : List Nat) (c : Int) : List Int := (List.range xs.length).map fun k => xs.getD k 0 + (if k ∈ ks then c else 0)
theorem addAt_len (xs : List Int) (ks : List Nat) (c : Int) : (addAt xs ks c).length = xs.length := by simp [addAt]
theorem addAt_nil (xs : List Int) (c : Int) : addAt xs [] c = xs := by
  refine List.ext_getElem? fun k => ?_
  unfold addAt
  by_cases h : k < xs.length
  · rw [List.getElem?_map, List.getElem?_range h]; simp [h]
  · rw [List.getElem?_eq_none (by simp; omega), List.getElem?_eq_none (by omega)]
theorem addAt_get {xs : List Int} {ks : List Nat} {c : Int} {k : Nat} (h : k < xs.length) : (addAt xs ks c)[k]? = some (xs.getD k 0 + (if k ∈ ks then c else 0)) := by
  unfold addAt
  rw [List.getElem?_map, List.getElem?_range h]; rfl
theorem addAt_none {xs : List Int} {ks : List Nat} {c : Int} {k : Nat} (h : ¬ k < xs.length) : (addAt xs ks c)[k]? = none := List.getElem?_eq_none (by rw [addAt_len]; omega)
theorem addAt_step {xs : List Int} {ks : List Nat} {c : Int} {j k : Nat} (hk : ks[j]? = some k) (hn : ¬ k ∈ ks.take j) : (addAt xs (ks.take j) c).set k (xs.getD k 0 + c) = addAt xs (ks.take (j + 1)) c := by
  unfold addAt
  rw [range_set]
  refine List.map_congr_left fun t _ => ?_
  by_cases e : t = k
  · subst e; rw [if_pos rfl, if_pos ((mem_take_succ hk t).mpr (.inr rfl))]
  · rw [if_neg e]
    by_cases z : t ∈ ks.take j
    · rw [if_pos z, if_pos ((mem_take_succ hk t).mpr (.inl z))]
    · rw [if_neg z, if_neg (fun y => ((mem_take_succ hk t).mp y).elim z e)]
theorem addAt_other {xs : List Int} {ks : List Nat} {c : Int} {j k t : Nat} (hk : ks[j]? = some k) (ht : t ≠ k) : (addAt xs (ks.take (j + 1)) c)[t]? = (addAt xs (ks.take j) c)[t]? := by
  by_cases h : t < xs.length
  · rw [addAt_get h, addAt_get h]
    by_cases z : t ∈ ks.take j
    · rw [if_pos z, if_pos ((mem_take_succ hk t).mpr (.inl z))]
    · rw [if_neg z, if_neg (fun y => ((mem_take_succ hk t).mp y).elim z ht)]
  · rw [addAt_none h, addAt_none h]
theorem FG.lenF {so left F G : List Int} (h : FG so left F G) : F.length ≤ so.length := by
  refine pigeon so.length (-1) F h.fn fun j hj => ?_
  obtain ⟨i, e, p, _⟩ := (h.f j).mp hj
  have := (List.getElem?_eq_some_iff.mp p).1
  omega
theorem FG.lenG {so left F G : List Int} (h : FG so left F G) : G.length ≤ so.length := by
  refine pigeon so.length (-1) G h.gn fun j hj => ?_
  obtain ⟨i, e, p, _⟩ := (h.g j).mp hj
  have := (List.getElem?_eq_some_iff.mp p).1
  omega
def spCountL (C : Addr) : Sp := fun vs H Q _ => ∃ (p : Addr) (x : Tly) (l c : Int), vs = [.ref p, .int l, .int c] ∧ (c = 1 ∨ c = -1) ∧ TyAt C H p x ∧ FG x.so x.left x.F x.G ∧ x.left.length = x.so.length ∧ x.so.length ≤ 100000 ∧ (∀ y, ∀ i ∈ ilook x.M y, i < x.so.length) ∧ (∀ y, (ilook x.M y).Nodup) ∧
  ∀ (F' G' : List Int) (H' : Hp), TyAt C H' p { x with so := addAt x.so (ilook x.M l) c, left := addAt x.left (ilook x.M (-l)) (-c), F := F', G := G' } → Fr p x { x with so := addAt x.so (ilook x.M l) c, left := addAt x.left (ilook x.M (-l)) (-c), F := F', G := G' } H H' →
    FG (addAt x.so (ilook x.M l) c) (addAt x.left (ilook x.M (-l)) (-c)) F' G' → Q .non H'
theorem foot_s {p : Addr} {x : Tly} : foot p x x.aso := .inr (.inr (.inr (.inr (.inr (.inl rfl)))))
theorem foot_l {p : Addr} {x : Tly} : foot p x x.al := .inr (.inr (.inr (.inr (.inr (.inr (.inl rfl))))))
theorem foot_m {p : Addr} {x : Tly} {m : Mp} (h : m ∈ x.M) : foot p x m.2.1 := .inr (.inr (.inr (.inr (.inr (.inr (.inr (.inr (.inr ⟨m, h, rfl⟩))))))))
/-- nothing new lies in the tally -/
theorem foot_new {C : Addr} {H : Hp} {p : Addr} {x : Tly} (h : TyAt C H p x) {z : Addr} (hz : H z = none) : ¬ foot p x z := by
  rintro (e | e | e | e | e | e | e | e | e | ⟨m, hm, e⟩)
  · obtain ⟨dx, ob⟩ := h.ob; rw [e, ob] at hz; cases hz
  · rw [e, h.hw] at hz; cases hz
  · rw [e, h.ht] at hz; cases hz
  · rw [e, h.hd] at hz; cases hz
  · rw [e, h.hp] at hz; cases hz
  · rw [e, h.hs] at hz; cases hz
  · rw [e, h.hl] at hz; cases hz
  · rw [e, h.hf] at hz; cases hz
  · rw [e, h.hg] at hz; cases hz
  · rw [e, h.hM.ok m hm] at hz; cases hz
section
variable {P : Program} {w : World} {K : PySem.W.Frag} {mg : Str → Option Value} {base : Heap} {C : Addr}
theorem ok_count_letter (T : TallyCls K mg C) (m_sort_in : MCal P w K mg base 1 C "sort_in" p_Tally_sort_in (spSort C)) (Df : MDef K C "count_letter" "Tally.count_letter" s_Tally_count_letter p_Tally_count_letter) : MCal P w K mg base 2 C "count_letter" p_Tally_count_letter (spCountL C) := by
  refine Df.cal sc_Tally_count_letter (fun vs H Q E h => ?_) (fun f cdv A outer s H vs Q E hr h => ?_)
  · obtain ⟨p, x, l, c, rfl, _⟩ := h; rfl
  · obtain ⟨p, x, l, c, rfl, hc, hx, hFG, hll, hn, hlt, hnd, q⟩ := h
    have hu := hu_of hr
    have cl := T.cl
    refine ⟨_, (pss_cons (ps_for PassesOwn.never rfl (pi_list (pe_dget2 hu (pe_fld (pv 0) rfl) (pv 1) (pe_lst pa_nil) ⟨rfl, rfl, rfl, rfl⟩)) (pg_name (i := 3) sc_Tally_count_letter.nd rfl (Or.inl rfl))
 (pss_cons (ps_augS (pe_fld (pv 0) rfl) (pv 3) get_list (pv 2) ip_add set_list)
 (pss_one (ps_if (pt_cmpR op_le (pe_ix ix_list (pe_fld (pv 0) rfl) (pv 3) (fun _ _ => rfl)) pe_int (nomark _))
 (pss_one (ps_expr (pe_mdef m_sort_in cl hr (by decide) (pv 0) (pa_cons (pv 3) pa_nil))))
 pss_nil))))
 (pss_one (ps_for PassesOwn.never rfl (pi_list (pe_dget2 hu (pe_fld (pv 0) rfl) (pe_un un_neg (pv 1)) (pe_lst pa_nil) ⟨rfl, rfl, rfl, rfl⟩)) (pg_name (i := 3) sc_Tally_count_letter.nd rfl (Or.inl rfl))
 (pss_cons (ps_augS (pe_fld (pv 0) rfl) (pv 3) get_list (pv 2) ip_sub set_list)
 (pss_one (ps_if (pt_cmpR op_le (pe_ix ix_list (pe_fld (pv 0) rfl) (pv 3) (fun _ _ => rfl)) pe_int (nomark _))
 (pss_one (ps_expr (pe_mdef m_sort_in cl hr (by decide) (pv 0) (pa_cons (pv 3) pa_nil))))
 pss_nil)))))), ?_⟩
    have noS : ∀ y : Tly, (flds y).lookup ("sort_in" : Str) = none := fun y => fl_no y (by decide +kernel) (by decide +kernel) (by decide +kernel) (by decide +kernel) (by decide +kernel) (by decide +kernel) (by decide +kernel) (by decide +kernel)
    refine rd_cut (fun σ Hx => ∃ (F' G' : List Int) (v : Option V), σ = [some (.ref p), some (.int l), some (.int c), v] ∧ TyAt C Hx p { x with so := addAt x.so (ilook x.M l) c, F := F', G := G' } ∧ Fr p x { x with so := addAt x.so (ilook x.M l) c, F := F', G := G' } H Hx ∧ FG (addAt x.so (ilook x.M l) c) x.left F' G') (fun N hN => ?_) ?_
    · obtain ⟨dx, ob⟩ := hx.ob
      refine ⟨_, rfl, p, C, dx, _, _, rfl, ob, T.cl, T.n4, fl_places x, x.ap, rfl, .inl ⟨_, .inl hx.hp⟩, _, rfl, by decide, fun pe hpe => ?_⟩
      obtain ⟨o, ho, b, hb, hbb, eo⟩ := look_get l hx.hp hx.hM hpe
      have s1 : Same H (upd H pe (.lst [])) := (Same.refl H).upd hpe
      have hx1 := hx.same s1
      have hpe1 : ¬ foot p x pe := foot_new hx hpe
      generalize upd H pe (.lst []) = H1 at s1 hx1 ho hb
      have stay : ∀ (y : Tly) (Hx : Hp), y.M = x.M → Fr p x y H1 Hx → TyAt C Hx p y → Hx b = some (.lst (iv (ilook x.M l))) := fun y Hx ey fr hy => by
        rcases hbb with e | ⟨m, hm, e⟩
        · exact fr.out b _ hb (by rw [e]; exact hpe1)
        · have h1 := hx1.hM.ok m hm
          have h2 := hy.hM.ok m (by rw [ey]; exact hm)
          rw [e] at hb ⊢
          rw [h1] at hb
          rw [h2]; exact hb
      refine ⟨o, ho, b, eo, ⟨_, SqL.of hb⟩, for_list (K := K) (a := b) (xs := iv (ilook x.M l)) (fun j σ Hx => ∃ (F' G' : List Int) (v : Option V), σ = [some (.ref p), some (.int l), some (.int c), v] ∧ TyAt C Hx p { x with so := addAt x.so ((ilook x.M l).take j) c, F := F', G := G' } ∧ Fr p x { x with so := addAt x.so ((ilook x.M l).take j) c, F := F', G := G' } H1 Hx ∧ FG (addAt x.so ((ilook x.M l).take j) c) x.left F' G')
        ⟨x.F, x.G, none, rfl, by rw [List.take_zero, addAt_nil]; exact hx1, by rw [List.take_zero, addAt_nil]; exact Fr.refl _ _ _, by rw [List.take_zero, addAt_nil]; exact hFG⟩ (fun j σ Hx _ hh => by
        obtain ⟨F', G', v, rfl, hy, fr, _⟩ := hh
        exact SqL.of (stay _ _ (by rfl) fr hy)) ?_ ?_⟩
      · rintro j y σ Hx hj ⟨F', G', v, rfl, hy, fr, fg⟩
        obtain ⟨k, hk, rfl⟩ := iv_get hj
        have hkn : k < x.so.length := hlt l k (List.mem_of_getElem? hk)
        have hnt := not_mem_take (hnd l) hk
        obtain ⟨dy, oy⟩ := hy.ob
        have hget : ((addAt x.so ((ilook x.M l).take j) c).map V.int)[k]? = some (.int (x.so.getD k 0)) := by
          rw [List.getElem?_map, addAt_get hkn, if_neg hnt]; simp
        refine ⟨_, rfl, p, C, dy, _, _, rfl, oy, T.cl, T.n5, fl_so _, _, rfl, x.aso, _, k, .int (x.so.getD k 0), rfl, rfl, SqL.of hy.hs, hget, _, rfl, _, _, rfl, rfl, x.aso, _, _, k, rfl, rfl, hy.hs, ixN_nat (by simpa [addAt_len] using hkn), ?_⟩
        have est : ((addAt x.so ((ilook x.M l).take j) c).map V.int).set k (.int (x.so.getD k 0 + c)) = (addAt x.so ((ilook x.M l).take (j + 1)) c).map V.int := by
          rw [← addAt_step hk hnt, List.map_set]
        dsimp only
        rw [est]
        have hy2 := hy.setS (addAt x.so ((ilook x.M l).take (j + 1)) c)
        have fr2 : Fr p x { x with so := addAt x.so ((ilook x.M l).take (j + 1)) c, F := F', G := G' } H1 (upd Hx x.aso (.lst ((addAt x.so ((ilook x.M l).take (j + 1)) c).map V.int))) := fr.trans (upd_fr foot_s fun _ h => .inl h)
        generalize upd Hx x.aso (.lst ((addAt x.so ((ilook x.M l).take (j + 1)) c).map V.int)) = H2 at hy2 fr2
        obtain ⟨dz, oz⟩ := hy2.ob
        have hlk : x.left[k]? = some (x.left.getD k 0) := by
          have : k < x.left.length := by omega
          simp [this]
        have hlat : atI (x.left.map V.int) (k : Int) = some (.int (x.left.getD k 0)) := atI_nat (by rw [List.getElem?_map, hlk]; rfl)
        have hs' : ∀ t, t ≠ k → (addAt x.so ((ilook x.M l).take (j + 1)) c)[t]? = (addAt x.so ((ilook x.M l).take j) c)[t]? := fun t ht => addAt_other hk ht
        refine ⟨_, rfl, p, C, dz, _, _, rfl, oz, T.cl, T.n6, fl_left _, _, rfl, x.al, _, _, _, rfl, rfl, SqL.of hy2.hl, hlat, _, _, rfl, rfl, _, rfl, ite2 (fun c1 => ?_) (fun c1 => ?_)⟩
        · refine ⟨_, rfl, p, dz, _, rfl, oz, noS _, _, rfl, p, _, k, _, _, rfl, hy2, addAt_get hkn, hlk, by have := fg.lenF; rw [addAt_len] at this; show F'.length ≤ _; omega, by have := fg.lenG; rw [addAt_len] at this; show G'.length ≤ _; omega, fg.fn, fg.gn, fun F2 G2 H3 hy3 fr3 n1 n2 mF mG => ?_⟩
          refine ⟨F2, G2, _, rfl, hy3, fr2.trans fr3, fg.sort hs' (fun _ _ => rfl) n1 n2 (fun i => ?_) (fun i => ?_)⟩
          · rw [mF, addAt_get hkn, hlk]; simp
          · rw [mG, addAt_get hkn, hlk]; simp
        · have c1' : ¬ x.left.getD k 0 ≤ 2 := fun z => c1 (decide_eq_true z)
          exact ⟨F', G', _, rfl, hy2, fr2, fg.skip hs' (fun _ _ => rfl) (fun z hz => by rw [hlk] at hz; cases hz; omega) (fun z hz => by rw [hlk] at hz; cases hz; omega)⟩
      · rintro σ Hx ⟨F', G', v, rfl, hy, fr, fg⟩
        have el : (ilook x.M l).take (iv (ilook x.M l)).length = ilook x.M l := by simp [iv]
        rw [el] at hy fr fg
        exact hN _ _ ⟨F', G', v, rfl, hy, (Fr.same s1).trans fr, fg⟩
    rintro σ H1 ⟨F1, G1, v1, rfl, hy1, fr1, fg1⟩
    obtain ⟨dx, ob⟩ := hy1.ob
    refine ⟨_, rfl, p, C, dx, _, _, rfl, ob, T.cl, T.n4, fl_places _, x.ap, rfl, .inl ⟨_, .inl hy1.hp⟩, _, rfl, _, rfl, by decide, fun pe hpe => ?_⟩
    obtain ⟨o, ho, b, hb, hbb, eo⟩ := look_get (-l) hy1.hp hy1.hM hpe
    have s1 : Same H1 (upd H1 pe (.lst [])) := (Same.refl H1).upd hpe
    have hx1 := hy1.same s1
    have hpe1 := foot_new hy1 hpe
    generalize upd H1 pe (.lst []) = H2 at s1 hx1 ho hb
    have stay : ∀ (y : Tly) (Hx : Hp), y.M = x.M → Fr p { x with so := addAt x.so (ilook x.M l) c, F := F1, G := G1 } y H2 Hx → TyAt C Hx p y → Hx b = some (.lst (iv (ilook x.M (-l)))) := fun y Hx ey fr hy => by
      rcases hbb with e | ⟨m, hm, e⟩
      · exact fr.out b _ hb (by rw [e]; exact hpe1)
      · have h1 := hx1.hM.ok m hm
        have h2 := hy.hM.ok m (by rw [ey]; exact hm)
        rw [e] at hb ⊢
        rw [h1] at hb
        rw [h2]; exact hb
    refine ⟨o, ho, b, eo, ⟨_, SqL.of hb⟩, for_list (K := K) (a := b) (xs := iv (ilook x.M (-l))) (fun j σ Hx => ∃ (F' G' : List Int) (v : Option V), σ = [some (.ref p), some (.int l), some (.int c), v] ∧ TyAt C Hx p { x with so := addAt x.so (ilook x.M l) c, left := addAt x.left ((ilook x.M (-l)).take j) (-c), F := F', G := G' } ∧ Fr p { x with so := addAt x.so (ilook x.M l) c, F := F1, G := G1 } { x with so := addAt x.so (ilook x.M l) c, left := addAt x.left ((ilook x.M (-l)).take j) (-c), F := F', G := G' } H2 Hx ∧ FG (addAt x.so (ilook x.M l) c) (addAt x.left ((ilook x.M (-l)).take j) (-c)) F' G')
      ⟨F1, G1, v1, rfl, by rw [List.take_zero, addAt_nil]; exact hx1, by rw [List.take_zero, addAt_nil]; exact Fr.refl _ _ _, by rw [List.take_zero, addAt_nil]; exact fg1⟩ (fun j σ Hx _ hh => by
        obtain ⟨F', G', v, rfl, hy, fr, _⟩ := hh
        exact SqL.of (stay _ _ (by rfl) fr hy)) ?_ ?_⟩
    · rintro j y σ Hx hj ⟨F', G', v, rfl, hy, fr, fg⟩
      obtain ⟨k, hk, rfl⟩ := iv_get hj
      have hkn : k < x.so.length := hlt (-l) k (List.mem_of_getElem? hk)
      have hkl : k < x.left.length := by omega
      have hnt := not_mem_take (hnd (-l)) hk
      obtain ⟨dy, oy⟩ := hy.ob
      have hget : ((addAt x.left ((ilook x.M (-l)).take j) (-c)).map V.int)[k]? = some (.int (x.left.getD k 0)) := by
        rw [List.getElem?_map, addAt_get hkl, if_neg hnt]; simp
      refine ⟨_, rfl, p, C, dy, _, _, rfl, oy, T.cl, T.n6, fl_left _, _, rfl, x.al, _, k, .int (x.left.getD k 0), rfl, rfl, SqL.of hy.hl, hget, _, rfl, _, _, rfl, rfl, x.al, _, _, k, rfl, rfl, hy.hl, ixN_nat (by simpa [addAt_len] using hkl), ?_⟩
      have est : ((addAt x.left ((ilook x.M (-l)).take j) (-c)).map V.int).set k (.int (x.left.getD k 0 - c)) = (addAt x.left ((ilook x.M (-l)).take (j + 1)) (-c)).map V.int := by
        rw [← addAt_step hk hnt, List.map_set, Int.sub_eq_add_neg]
      dsimp only
      rw [est]
      have hy2 := hy.setL (addAt x.left ((ilook x.M (-l)).take (j + 1)) (-c))
      have fr2 : Fr p { x with so := addAt x.so (ilook x.M l) c, F := F1, G := G1 } { x with so := addAt x.so (ilook x.M l) c, left := addAt x.left ((ilook x.M (-l)).take (j + 1)) (-c), F := F', G := G' } H2 (upd Hx x.al (.lst ((addAt x.left ((ilook x.M (-l)).take (j + 1)) (-c)).map V.int))) := fr.trans (upd_fr foot_l fun _ h => .inl h)
      generalize upd Hx x.al (.lst ((addAt x.left ((ilook x.M (-l)).take (j + 1)) (-c)).map V.int)) = H3 at hy2 fr2
      obtain ⟨dz, oz⟩ := hy2.ob
      have hmk : k ∈ (ilook x.M (-l)).take (j + 1) := (mem_take_succ hk k).mpr (.inr rfl)
      have hlk : (addAt x.left ((ilook x.M (-l)).take (j + 1)) (-c))[k]? = some (x.left.getD k 0 + -c) := by rw [addAt_get hkl, if_pos hmk]
      have hlo : (addAt x.left ((ilook x.M (-l)).take j) (-c))[k]? = some (x.left.getD k 0) := by rw [addAt_get hkl, if_neg hnt]; simp
      have hlat : atI ((addAt x.left ((ilook x.M (-l)).take (j + 1)) (-c)).map V.int) (k : Int) = some (.int (x.left.getD k 0 + -c)) := atI_nat (by rw [List.getElem?_map, hlk]; rfl)
      have hl' : ∀ t, t ≠ k → (addAt x.left ((ilook x.M (-l)).take (j + 1)) (-c))[t]? = (addAt x.left ((ilook x.M (-l)).take j) (-c))[t]? := fun t ht => addAt_other hk ht
      have hso := addAt_get (xs := x.so) (ks := ilook x.M l) (c := c) hkn
      refine ⟨_, rfl, p, C, dz, _, _, rfl, oz, T.cl, T.n6, fl_left _, _, rfl, x.al, _, _, _, rfl, rfl, SqL.of hy2.hl, hlat, _, _, rfl, rfl, _, rfl, ite2 (fun c1 => ?_) (fun c1 => ?_)⟩
      · refine ⟨_, rfl, p, dz, _, rfl, oz, noS _, _, rfl, p, _, k, _, _, rfl, hy2, hso, hlk, by have := fg.lenF; rw [addAt_len] at this; show F'.length ≤ _; omega, by have := fg.lenG; rw [addAt_len] at this; show G'.length ≤ _; omega, fg.fn, fg.gn, fun F2 G2 H4 hy3 fr3 n1 n2 mF mG => ?_⟩
        refine ⟨F2, G2, _, rfl, hy3, fr2.trans fr3, fg.sort (fun _ _ => rfl) hl' n1 n2 (fun i => ?_) (fun i => ?_)⟩
        · rw [mF, hso, hlk]; simp
        · rw [mG, hso, hlk]; simp
      · have c1' : ¬ x.left.getD k 0 + -c ≤ 2 := fun z => c1 (decide_eq_true z)
        exact ⟨F', G', _, rfl, hy2, fr2, fg.skip (fun _ _ => rfl) hl' (fun z hz => by rw [hlo] at hz; cases hz; omega) (fun z hz => by rw [hlk] at hz; cases hz; omega)⟩
    · rintro σ Hx ⟨F', G', v, rfl, hy, fr, fg⟩
      have el : (ilook x.M (-l)).take (iv (ilook x.M (-l))).length = ilook x.M (-l) := by simp [iv]
      rw [el] at hy fr fg
      exact q F' G' Hx hy ((fr1.trans (Fr.same s1)).trans fr) fg
end

theorem idxs_nd (W : List (List Int)) (n : Int) : (idxs W n).Nodup := List.nodup_range.sublist List.filter_sublist
theorem in_idxs {W : List (List Int)} {n : Int} {i : Nat} : i ∈ idxs W n ↔ i < W.length ∧ n ∈ W.getD i [] := by
  unfold idxs; simp
theorem addAt_map {W : List (List Int)} {f g : List Int → Int} {l c : Int} (h : ∀ v, g v = f v + if l ∈ v then c else 0) : addAt (W.map f) (idxs W l) c = W.map g := by
  refine List.ext_getElem? fun k => ?_
  by_cases hk : k < W.length
  · rw [addAt_get (by simpa using hk), List.getElem?_map]
    have e1 : (W.map f).getD k 0 = f (W.getD k []) := by simp [hk]
    have e2 : W[k]? = some (W.getD k []) := by simp [hk]
    rw [e1, e2, Option.map_some, h (W.getD k [])]
    congr 2
    by_cases z : l ∈ W.getD k []
    · rw [if_pos z, if_pos (in_idxs.mpr ⟨hk, z⟩)]
    · rw [if_neg z, if_neg (fun y => z (in_idxs.mp y).2)]
  · rw [addAt_none (by simpa using hk), List.getElem?_eq_none (by simpa using hk)]
/-- a tally that is right -/
structure Tal (C : Addr) (H : Hp) (p : Addr) (x : Tly) : Prop where
  ty : TyAt C H p x
  T : x.T = lets x.qs
  pl : ∀ y, ilook x.M y = idxs (wl x.ws) y
  so : x.so = (wl x.ws).map fun v => (soN v x.T : Int)
  lf : x.left = (wl x.ws).map fun v => (leftN v x.T : Int)
  fg : FG x.so x.left x.F x.G
theorem Tal.same {C : Addr} {H H' : Hp} {p : Addr} {x : Tly} (h : Tal C H p x) (s : Same H H') : Tal C H' p x := ⟨h.ty.same s, h.T, h.pl, h.so, h.lf, h.fg⟩
theorem Tal.lens {C : Addr} {H : Hp} {p : Addr} {x : Tly} (h : Tal C H p x) : x.so.length = x.ws.length ∧ x.left.length = x.ws.length := by
  rw [h.so, h.lf]; simp [wl]
def spPut (C : Addr) : Sp := fun vs H Q _ => ∃ (p : Addr) (x : Tly) (l : Int) (o : Option Int), vs = [.ref p, .int l, wv o] ∧ Tal C H p x ∧ ¬ l ∈ x.T ∧ ¬ -l ∈ x.T ∧ x.ws.length ≤ 100000 ∧ x.qs.length < 100000 ∧
  ∀ (pt : Addr) (x' : Tly) (H' : Hp), Tal C H' p x' → Fr p x x' H H' → x'.ws = x.ws → x'.qs = x.qs ++ [(pt, l, o)] → x'.at_ = x.at_ → Q .non H'
theorem foot_d {p : Addr} {x : Tly} : foot p x x.ad := .inr (.inr (.inr (.inl rfl)))
theorem foot_t {p : Addr} {x : Tly} : foot p x x.at_ := .inr (.inr (.inl rfl))
section
variable {P : Program} {w : World} {K : PySem.W.Frag} {mg : Str → Option Value} {base : Heap} {C : Addr}
theorem ok_put (T : TallyCls K mg C) (m_count_letter : MCal P w K mg base 2 C "count_letter" p_Tally_count_letter (spCountL C)) (Df : MDef K C "put" "Tally.put" s_Tally_put p_Tally_put) : MCal P w K mg base 3 C "put" p_Tally_put (spPut C) := by
  refine Df.cal sc_Tally_put (fun vs H Q E h => ?_) (fun f cdv A outer s H vs Q E hr h => ?_)
  · obtain ⟨p, x, l, o, rfl, _⟩ := h; rfl
  · obtain ⟨p, x, l, o, rfl, hx, hl, hnl, hz, hq, q⟩ := h
    have hu := hu_of hr
    have cl := T.cl
    refine ⟨_, (pss_cons (ps_expr (pe_bm PySem.F.plainAttrs_list PySem.F.slot_list_append PySem.F.type_list_append mt_append (pe_fld (pv 0) rfl) (pa_cons (pe_tup (pa_cons (pv 1) (pa_cons (pv 2) pa_nil))) pa_nil)))
 (pss_cons (ps_dput hu (pe_fld (pv 0) rfl) (pv 1) pe_bl rfl)
 (pss_one (ps_expr (pe_mdef m_count_letter cl hr (by decide) (pv 0) (pa_cons (pv 1) (pa_cons pe_int pa_nil))))))), ?_⟩
    obtain ⟨dx, ob⟩ := hx.ty.ob
    have hTl : x.T.length < 100000 := by rw [hx.T]; simpa [lets] using hq
    refine ⟨_, rfl, p, C, dx, _, _, rfl, ob, T.cl, T.n2, fl_trail x, .inl ⟨rfl, _, SqL.of hx.ty.ht⟩, _, rfl, _, rfl, len2, fun pt hpt => ⟨x.at_, _, _, rfl, rfl, by rw [upd_ne (ne_of_none hx.ty.ht hpt)]; exact hx.ty.ht, small6 (by rw [refs_len]; omega), ?_⟩⟩
    have s1 : Same H (upd H pt (.tup [.int l, wv o])) := (Same.refl H).upd hpt
    have h1 := hx.ty.same s1
    have hp1 : upd H pt (.tup [.int l, wv o]) pt = some (.tup [.int l, wv o]) := upd_same
    have fr1 : Fr p x x H (upd H pt (.tup [.int l, wv o])) := Fr.same s1
    generalize upd H pt (.tup [.int l, wv o]) = H1 at s1 h1 hp1 fr1
    have er : refs x.qs ++ [V.ref pt] = refs (x.qs ++ [(pt, l, o)]) := by simp [refs]
    dsimp only
    rw [er]
    have h2 := h1.setQ (qs' := x.qs ++ [(pt, l, o)]) (h1.to.snoc hp1)
    have fr2 : Fr p x { x with qs := x.qs ++ [(pt, l, o)] } H (upd H1 x.at_ (.lst (refs (x.qs ++ [(pt, l, o)])))) := fr1.trans (upd_fr foot_t fun _ h => .inl h)
    generalize upd H1 x.at_ (.lst (refs (x.qs ++ [(pt, l, o)]))) = H2 at h2 fr2
    obtain ⟨dy, oy⟩ := h2.ob
    refine ⟨_, rfl, p, C, dy, _, _, rfl, oy, T.cl, T.n3, fl_taken _, _, rfl, x.ad, _, rfl, DPut.k (k := Sum.inl l) h2.hd (small6 (by rw [mk_len]; show x.T.length ≤ _; omega)), ?_⟩
    rw [put_mk]
    have eT : onceF x.T l = x.T ++ [l] := by unfold onceF; rw [if_neg hl]
    have eT' : onceF ({ x with qs := x.qs ++ [(pt, l, o)] } : Tly).T l = x.T ++ [l] := eT
    rw [eT']
    have h3 := h2.setT (x.T ++ [l])
    have fr3 : Fr p x { x with qs := x.qs ++ [(pt, l, o)], T := x.T ++ [l] } H (upd H2 x.ad (.dK (mk (x.T ++ [l])))) := fr2.trans (upd_fr foot_d fun _ h => .inl h)
    generalize upd H2 x.ad (.dK (mk (x.T ++ [l]))) = H3 at h3 fr3
    obtain ⟨dz, oz⟩ := h3.ob
    have noC : (flds { x with qs := x.qs ++ [(pt, l, o)], T := x.T ++ [l] }).lookup ("count_letter" : Str) = none := fl_no _ (by decide +kernel) (by decide +kernel) (by decide +kernel) (by decide +kernel) (by decide +kernel) (by decide +kernel) (by decide +kernel) (by decide +kernel)
    obtain ⟨e1, e2⟩ := hx.lens
    have eso : addAt x.so (idxs (wl x.ws) l) 1 = (wl x.ws).map fun v => (soN v (x.T ++ [l]) : Int) := by
      rw [hx.so]
      refine addAt_map fun v => ?_
      rw [soN_snoc hl]
      split <;> simp
    have elf : addAt x.left (idxs (wl x.ws) (-l)) (-1) = (wl x.ws).map fun v => (leftN v (x.T ++ [l]) : Int) := by
      rw [hx.lf]
      refine addAt_map fun v => ?_
      have := leftN_snoc (v := v) (T := x.T) (x := l) hl
      split <;> simp_all <;> omega
    refine ⟨_, rfl, p, dz, _, rfl, oz, noC, _, rfl, p, _, l, 1, rfl, .inl rfl, h3, hx.fg, by show x.left.length = x.so.length; omega, by show x.so.length ≤ _; omega, fun y i hi => ?_, fun y => ?_, fun F' G' H' h4 fr4 fg4 => ?_⟩
    · have hi' : i ∈ ilook x.M y := hi
      rw [hx.pl y] at hi'
      have := (in_idxs.mp hi').1
      rw [wl_len] at this
      show i < x.so.length
      omega
    · show (ilook x.M y).Nodup
      rw [hx.pl y]; exact idxs_nd _ _
    · refine q pt _ H' ⟨h4, ?_, hx.pl, ?_, ?_, fg4⟩ (fr3.trans fr4) rfl rfl rfl
      · show x.T ++ [l] = lets (x.qs ++ [(pt, l, o)])
        rw [hx.T]; simp [lets]
      · show addAt x.so (ilook x.M l) 1 = _
        rw [hx.pl l]; exact eso
      · show addAt x.left (ilook x.M (-l)) (-1) = _
        rw [hx.pl (-l)]; exact elf
end

theorem idxs_snoc (W : List (List Int)) (v : List Int) (y : Int) : idxs (W ++ [v]) y = idxs W y ++ (if y ∈ v then [W.length] else []) := by
  have h : (W ++ [v])[W.length]? = some v := by simp
  have := idxs_take h y
  rw [List.take_left, show (W ++ [v]).take (W.length + 1) = W ++ [v] by rw [List.take_of_length_le (by simp)]] at this
  exact this
section
variable {C : Addr} {H : Hp} {p : Addr} {x : Tly} (h : TyAt C H p x)
include h
theorem TyAt.setW {ws' : List Wr} (ho : WsOk H ws') (hn : ∀ r ∈ ws', r.1 ≠ x.aw ∧ r.1 ≠ x.at_ ∧ r.1 ≠ x.aso ∧ r.1 ≠ x.al ∧ ∀ m ∈ x.M, r.1 ≠ m.2.1) : TyAt C (upd H x.aw (.lst (wrefs ws'))) p { x with ws := ws' } := by
  have k1 : ∀ {z : Addr} {kvs : List (Key × V)}, H z = some (.dK kvs) → upd H x.aw (.lst (wrefs ws')) z = some (.dK kvs) := fun {z vs} e => by rw [upd_ne (ne_of e h.hw (by intro q; cases q))]; exact e
  have k2 : ∀ {z : Addr} {o : HO}, z ≠ x.aw → H z = some o → upd H x.aw (.lst (wrefs ws')) z = some o := fun n e => by rw [upd_ne n]; exact e
  obtain ⟨dx, e⟩ := h.ob
  exact ⟨⟨dx, k2 (h.p_ne h.hw (by intro a b c q; cases q)) e⟩, upd_same, k2 h.nl.1.symm h.ht, k1 h.hd, k1 h.hp, h.hM.mono fun m hm => by rw [k2 (h.nm m hm).1 (h.hM.ok m hm), h.hM.ok m hm], k2 h.nl.2.1.symm h.hs, k2 h.nl.2.2.1.symm h.hl, k1 h.hf, k1 h.hg, fun r hr => k2 (hn r hr).1 (ho r hr), fun q hq => k2 (h.t_ne h.hw (by intro a q; cases q) q hq) (h.to q hq), h.nl, h.nd, h.nm, hn⟩
theorem TyAt.addMp {n : Int} {i : Nat} {m : Mp} (hm : lookM x.M n = some m) : TyAt C (upd H m.2.1 (.lst (iv m.2.2 ++ [.int i]))) p { x with M := addM x.M n i } := by
  obtain ⟨hm1, hm2⟩ := lookM_some hm
  have hmm := h.hM.ok m hm1
  have k1 : ∀ {z : Addr} {kvs : List (Key × V)}, H z = some (.dK kvs) → upd H m.2.1 (.lst (iv m.2.2 ++ [.int i])) z = some (.dK kvs) := fun {z vs} e => by rw [upd_ne (ne_of e hmm (by intro q; cases q))]; exact e
  have k2 : ∀ {z : Addr} {o : HO}, z ≠ m.2.1 → H z = some o → upd H m.2.1 (.lst (iv m.2.2 ++ [.int i])) z = some o := fun n e => by rw [upd_ne n]; exact e
  obtain ⟨n1, n2, n3, n4⟩ := h.nm m hm1
  have back : ∀ m' ∈ addM x.M n i, ∃ m0 ∈ x.M, m'.2.1 = m0.2.1 := fun m' hm' => by
    obtain ⟨m0, h0, rfl⟩ := List.mem_map.mp hm'
    exact ⟨m0, h0, by split <;> rfl⟩
  obtain ⟨dx, e⟩ := h.ob
  refine ⟨⟨dx, k2 (h.p_ne hmm (by intro a b c q; cases q)) e⟩, k2 n1.symm h.hw, k2 n2.symm h.ht, k1 h.hd, ?_, h.hM.add hm, k2 n3.symm h.hs, k2 n4.symm h.hl, k1 h.hf, k1 h.hg, fun r hr => k2 ((h.nw r hr).2.2.2.2 m hm1) (h.wo r hr), fun q hq => k2 (h.t_ne hmm (by intro a q; cases q) q hq) (h.to q hq), h.nl, h.nd, fun m' hm' => ?_, fun r hr => ?_⟩
  · show upd H m.2.1 _ x.ap = some (.dK (mkvs (addM x.M n i)))
    rw [addM_kvs]; exact k1 h.hp
  · obtain ⟨m0, h0, e0⟩ := back m' hm'
    rw [e0]; exact h.nm m0 h0
  · obtain ⟨a1, a2, a3, a4, a5⟩ := h.nw r hr
    refine ⟨a1, a2, a3, a4, fun m' hm' => ?_⟩
    obtain ⟨m0, h0, e0⟩ := back m' hm'
    rw [e0]; exact a5 m0 h0
theorem TyAt.addFr {n : Int} {i : Nat} {m : Mp} {o : HO} (hm : lookM x.M n = some m) : Fr p x { x with M := addM x.M n i } H (upd H m.2.1 o) := by
  obtain ⟨hm1, hm2⟩ := lookM_some hm
  refine upd_fr (foot_m hm1) fun b hb => .inl ?_
  rcases hb with e | e | e | e | e | e | e | e | e | ⟨m', hm', e⟩
  · exact .inl e
  · exact .inr (.inl e)
  · exact .inr (.inr (.inl e))
  · exact .inr (.inr (.inr (.inl e)))
  · exact .inr (.inr (.inr (.inr (.inl e))))
  · exact .inr (.inr (.inr (.inr (.inr (.inl e)))))
  · exact .inr (.inr (.inr (.inr (.inr (.inr (.inl e))))))
  · exact .inr (.inr (.inr (.inr (.inr (.inr (.inr (.inl e)))))))
  · exact .inr (.inr (.inr (.inr (.inr (.inr (.inr (.inr (.inl e))))))))
  · obtain ⟨m0, h0, rfl⟩ := List.mem_map.mp hm'
    have e0 : (if m0.1 = n then (m0.1, m0.2.1, m0.2.2 ++ [i]) else m0 : Mp).2.1 = m0.2.1 := by split <;> rfl
    rw [e, e0]; exact foot_m h0
theorem TyAt.newMp {n : Int} {i : Nat} {pe : Addr} (hm : lookM x.M n = none) (hpe : H pe = none) : TyAt C (upd (upd (upd H pe (.lst [])) x.ap (.dK (mkvs x.M ++ [((Sum.inl n : Key), V.ref pe)]))) pe (.lst ([] ++ [.int i]))) p { x with M := x.M ++ [(n, pe, [i])] } := by
  have k : ∀ {z : Addr} {o : HO}, z ≠ x.ap → H z = some o → upd (upd (upd H pe (.lst [])) x.ap (.dK (mkvs x.M ++ [((Sum.inl n : Key), V.ref pe)]))) pe (.lst ([] ++ [.int i])) z = some o := fun {z o} nz e => by
    have n1 : z ≠ pe := ne_of_none e hpe
    rw [upd_ne n1, upd_ne nz, upd_ne n1]; exact e
  have kl : ∀ {z : Addr} {vs : List V}, H z = some (.lst vs) → z ≠ x.ap := fun {z vs} e => ne_of e h.hp (by intro q; cases q)
  have ne : ∀ {z : Addr} {o : HO}, H z = some o → z ≠ pe := fun e => ne_of_none e hpe
  have nap : x.ap ≠ pe := ne h.hp
  obtain ⟨dx, e⟩ := h.ob
  refine ⟨⟨dx, k (h.p_ne h.hp (by intro a b c q; cases q)) e⟩, k (kl h.hw) h.hw, k (kl h.ht) h.ht, k h.nd.1 h.hd, ?_, ?_, k (kl h.hs) h.hs, k (kl h.hl) h.hl, k h.nd.2.2.2.1.symm h.hf, k h.nd.2.2.2.2.1.symm h.hg, fun r hr => k (kl (h.wo r hr)) (h.wo r hr), fun q hq => k (h.t_ne h.hp (by intro a q; cases q) q hq) (h.to q hq), h.nl, h.nd, fun m' hm' => ?_, fun r hr => ?_⟩
  · rw [upd_ne nap, upd_same]; simp [mkvs]
  · exact MIs.new h.hM hm (fun m hm => ne (h.hM.ok m hm)) (fun m hm => by rw [k (kl (h.hM.ok m hm)) (h.hM.ok m hm), h.hM.ok m hm]) (by rw [upd_same]; rfl)
  · rcases List.mem_append.mp hm' with z | z
    · exact h.nm m' z
    · have : m' = (n, pe, [i]) := by simpa using z
      rw [this]; exact ⟨(ne h.hw).symm, (ne h.ht).symm, (ne h.hs).symm, (ne h.hl).symm⟩
  · obtain ⟨a1, a2, a3, a4, a5⟩ := h.nw r hr
    refine ⟨a1, a2, a3, a4, fun m' hm' => ?_⟩
    rcases List.mem_append.mp hm' with z | z
    · exact a5 m' z
    · have : m' = (n, pe, [i]) := by simpa using z
      rw [this]; exact ne (h.wo r hr)
theorem TyAt.newFr {n : Int} {i : Nat} {pe : Addr} {o1 o2 o3 : HO} (hpe : H pe = none) : Fr p x { x with M := x.M ++ [(n, pe, [i])] } H (upd (upd (upd H pe o1) x.ap o2) pe o3) := by
  refine ⟨fun b o hb hf => ?_, fun b hb => ?_⟩
  · have n1 : b ≠ pe := ne_of_none hb hpe
    have n2 : b ≠ x.ap := fun z => hf (.inr (.inr (.inr (.inr (.inl z)))))
    rw [upd_ne n1, upd_ne n2, upd_ne n1]; exact hb
  · rcases hb with e | e | e | e | e | e | e | e | e | ⟨m', hm', e⟩
    · exact .inl (.inl e)
    · exact .inl (.inr (.inl e))
    · exact .inl (.inr (.inr (.inl e)))
    · exact .inl (.inr (.inr (.inr (.inl e))))
    · exact .inl (.inr (.inr (.inr (.inr (.inl e)))))
    · exact .inl (.inr (.inr (.inr (.inr (.inr (.inl e))))))
    · exact .inl (.inr (.inr (.inr (.inr (.inr (.inr (.inl e)))))))
    · exact .inl (.inr (.inr (.inr (.inr (.inr (.inr (.inr (.inl e))))))))
    · exact .inl (.inr (.inr (.inr (.inr (.inr (.inr (.inr (.inr (.inl e)))))))))
    · rcases List.mem_append.mp hm' with z | z
      · exact .inl (by rw [e]; exact foot_m z)
      · have : m' = (n, pe, [i]) := by simpa using z
        exact .inr (by rw [e, this]; exact hpe)
end

def spPutW (C : Addr) : Sp := fun vs H Q _ => ∃ (p a : Addr) (x : Tly) (v : List Int), vs = [.ref p, .ref a] ∧ Tal C H p x ∧ H a = some (.lst (v.map V.int)) ∧ ¬ foot p x a ∧ v.length ≤ 100000 ∧ x.ws.length < 100000 ∧ x.M.length + v.length ≤ 100000 ∧
  ∀ (x' : Tly) (H' : Hp), Tal C H' p x' → Fr p x x' H H' → x'.ws = x.ws ++ [(a, v)] → x'.qs = x.qs → x'.at_ = x.at_ → x'.M.length ≤ x.M.length + v.length → Q .non H'
theorem rd_cb {r : List V → Hp → VK → Prop} {t : TA} {σ : L2.St} {H : Hp} {Q : VK} (h : t σ H fun vs H1 => r vs H1 Q) : tCB r t σ H Q := h
theorem foot_sub {p : Addr} {x : Tly} {M M' : List Mp} {b : Addr} (h : foot p { x with M := M' } b) (hs : ∀ m' ∈ M', ∃ m0 ∈ M, m'.2.1 = m0.2.1) : foot p { x with M := M } b := by
  rcases h with e | e | e | e | e | e | e | e | e | ⟨m', hm', e⟩
  · exact .inl e
  · exact .inr (.inl e)
  · exact .inr (.inr (.inl e))
  · exact .inr (.inr (.inr (.inl e)))
  · exact .inr (.inr (.inr (.inr (.inl e))))
  · exact .inr (.inr (.inr (.inr (.inr (.inl e)))))
  · exact .inr (.inr (.inr (.inr (.inr (.inr (.inl e))))))
  · exact .inr (.inr (.inr (.inr (.inr (.inr (.inr (.inl e)))))))
  · exact .inr (.inr (.inr (.inr (.inr (.inr (.inr (.inr (.inl e))))))))
  · obtain ⟨m0, h0, e0⟩ := hs m' hm'
    exact .inr (.inr (.inr (.inr (.inr (.inr (.inr (.inr (.inr ⟨m0, h0, by rw [e, e0]⟩))))))))
theorem foot_w {p : Addr} {x : Tly} : foot p x x.aw := .inr (.inl rfl)
section
variable {P : Program} {w : World} {K : PySem.W.Frag} {mg : Str → Option Value} {base : Heap} {C : Addr}
theorem ok_put_wish (B : Blt mg) (T : TallyCls K mg C) (m_sort_in : MCal P w K mg base 1 C "sort_in" p_Tally_sort_in (spSort C)) (c_each_once : Cal P w K mg base 2 "each_once" p_each_once (spEach K)) (Df : MDef K C "put_wish" "Tally.put_wish" s_Tally_put_wish p_Tally_put_wish) : MCal P w K mg base 3 C "put_wish" p_Tally_put_wish (spPutW C) := by
  refine Df.cal sc_Tally_put_wish (fun vs H Q E h => ?_) (fun f cdv A outer s H vs Q E hr h => ?_)
  · obtain ⟨p, a, x, v, rfl, _⟩ := h; rfl
  · obtain ⟨p, a, x, v, rfl, hx, ha, hna, hv, hz, hMz, q⟩ := h
    have hu := hu_of hr
    have cl := T.cl
    refine ⟨_, (pss_cons (ps_set (i := 2) sc_Tally_put_wish.nd rfl (Or.inl rfl) (pe_callB call_len_seq (by rfl) B.len_ PySem.boot_len (pa_cons (pe_fld (pv 0) rfl) pa_nil)))
 (pss_cons (ps_set (i := 3) sc_Tally_put_wish.nd rfl (Or.inl rfl) (pe_def c_each_once hr (by decide) (pa_cons (pv 1) pa_nil)))
 (pss_cons (ps_expr (pe_bm PySem.F.plainAttrs_list PySem.F.slot_list_append PySem.F.type_list_append mt_append (pe_fld (pv 0) rfl) (pa_cons (pv 1) pa_nil)))
 (pss_cons (ps_expr (pe_bm PySem.F.plainAttrs_list PySem.F.slot_list_append PySem.F.type_list_append mt_append (pe_fld (pv 0) rfl) (pa_cons (pe_callB call_len_seq (by rfl) B.len_ PySem.boot_len (pa_cons (pe_comp (fvn := ["self"]) (js := [0]) rfl (pi_list (pv 3)) (.cons rfl (by first | exact .inl rfl | exact .inr rfl) rfl .nil) ⟨by decide +kernel, rfl, by decide +kernel, rfl, by decide +kernel, by decide +kernel⟩ (fun _ _ _ _ _ => (pts_one (pt_cmp (pc_din hu (pv 0) (pe_fldK (K := K) rfl (pv 1) rfl))))) (fun _ _ _ _ _ => (pv 0))) pa_nil)) pa_nil)))
 (pss_cons (ps_expr (pe_bm PySem.F.plainAttrs_list PySem.F.slot_list_append PySem.F.type_list_append mt_append (pe_fld (pv 0) rfl) (pa_cons (pe_callB call_len_seq (by rfl) B.len_ PySem.boot_len (pa_cons (pe_comp (fvn := ["self"]) (js := [0]) rfl (pi_list (pv 3)) (.cons rfl (by first | exact .inl rfl | exact .inr rfl) rfl .nil) ⟨by decide +kernel, rfl, by decide +kernel, rfl, by decide +kernel, by decide +kernel⟩ (fun _ _ _ _ _ => (pts_one (pt_cmp (pc_dnotin hu (pe_un un_neg (pv 0)) (pe_fldK (K := K) rfl (pv 1) rfl))))) (fun _ _ _ _ _ => (pv 0))) pa_nil)) pa_nil)))
 (pss_cons (ps_for PassesOwn.never rfl (pi_list (pv 3)) (pg_name (i := 4) sc_Tally_put_wish.nd rfl (Or.inl rfl))
 (pss_one (ps_expr (pe_bm PySem.F.plainAttrs_list PySem.F.slot_list_append PySem.F.type_list_append mt_append (pe_dsetdef (pe_fld (pv 0) rfl) (pv 4) (pe_lst pa_nil) ⟨rfl, rfl, rfl, rfl⟩) (pa_cons (pv 2) pa_nil)))))
 (pss_one (ps_expr (pe_mdef m_sort_in cl hr (by decide) (pv 0) (pa_cons (pv 2) pa_nil)))))))))), ?_⟩
    obtain ⟨dx, ob⟩ := hx.ty.ob
    have en : (wrefs x.ws).length = x.ws.length := wrefs_len _
    obtain ⟨ls1, ls2⟩ := hx.lens
    refine ⟨_, rfl, p, C, dx, _, _, rfl, ob, T.cl, T.n1, fl_wishes x, x.aw, _, rfl, .inl (SqL.of hx.ty.hw), ?_⟩
    refine ⟨_, rfl, a, v, rfl, SqL.of ha, hv, fun lo H1 hlo s1 h1lo => ?_⟩
    have h1 := hx.ty.same s1
    have fr1 : Fr p x x H H1 := Fr.same s1
    have nlo : ¬ foot p x lo := foot_new hx.ty hlo
    have hv2 : (once v).length ≤ 100000 := by have := once_len v; omega
    have h1a := s1 _ _ ha
    have hne : ∀ b, foot p x b → a ≠ b := fun b hb e => hna (e ▸ hb)
    obtain ⟨dx1, ob1⟩ := h1.ob
    dsimp only [gName]
    rw [en]
    -- the wish
    refine rd_cut (fun σ Hx => σ = [some (.ref p), some (.ref a), some (.int x.ws.length), some (.ref lo), none] ∧ TyAt C Hx p { x with ws := x.ws ++ [(a, v)] } ∧ Fr p x { x with ws := x.ws ++ [(a, v)] } H Hx ∧ Hx lo = some (.lst ((once v).map V.int))) (fun N hN => ?_) ?_
    · refine ⟨_, rfl, p, C, dx1, _, _, rfl, ob1, T.cl, T.n1, fl_wishes x, .inl ⟨rfl, _, SqL.of h1.hw⟩, _, rfl, x.aw, _, _, rfl, rfl, h1.hw, small6 (by omega), ?_⟩
      have er : wrefs x.ws ++ [V.ref a] = wrefs (x.ws ++ [(a, v)]) := by simp [wrefs]
      dsimp only
      rw [er]
      refine hN _ _ ⟨rfl, h1.setW (fun r hr => ?_) (fun r hr => ?_), fr1.trans (upd_fr foot_w fun _ h => .inl h), ?_⟩
      · rcases List.mem_append.mp hr with z | z
        · exact h1.wo r z
        · have : r = (a, v) := by simpa using z
          rw [this]; exact h1a
      · rcases List.mem_append.mp hr with z | z
        · exact h1.nw r z
        · have : r = (a, v) := by simpa using z
          rw [this]
          exact ⟨hne _ foot_w, hne _ foot_t, hne _ foot_s, hne _ foot_l, fun m hm => hne _ (foot_m hm)⟩
      · rw [upd_ne (fun e => nlo (by rw [e]; exact foot_w))]; exact h1lo
    rintro σ H2 ⟨rfl, h2, fr2, h2lo⟩
    -- so
    refine rd_cut (fun σ Hx => σ = [some (.ref p), some (.ref a), some (.int x.ws.length), some (.ref lo), none] ∧ TyAt C Hx p { x with ws := x.ws ++ [(a, v)], so := x.so ++ [(soN v x.T : Int)] } ∧ Fr p x { x with ws := x.ws ++ [(a, v)], so := x.so ++ [(soN v x.T : Int)] } H Hx ∧ Hx lo = some (.lst ((once v).map V.int))) (fun N hN => ?_) ?_
    · obtain ⟨d2, ob2⟩ := h2.ob
      refine ⟨_, rfl, p, C, d2, _, _, rfl, ob2, T.cl, T.n5, fl_so _, .inl ⟨rfl, _, SqL.of h2.hs⟩, ?_⟩
      refine rd_cons (ta := tCB _ _) (rd_cb (rd_cons (ta := tComp _ _ _ _) (tcomp_list (K := K) ?_)))
      refine ⟨_, rfl, lo, rfl, ⟨_, SqL.of h2lo⟩, ?_⟩
      refine comp_pure (xs := once v) (g := V.int) (fun n => decide (n ∈ x.T)) V.int (small6' (by omega)) (SqL.of h2lo) (fun n _ R hR => ?_) (fun n _ _ R hR => ⟨_, rfl, hR⟩) (fun l2 hl2 => ?_)
      · refine ⟨_, rfl, _, rfl, p, C, d2, _, _, rfl, ob2, T.cl, T.n3, fl_taken _, x.ad, _, rfl, DGet.k (k := Sum.inl n) h2.hd, _, rfl, ?_⟩
        rw [has_mk]; exact hR
      · have s3 : Same H2 (upd H2 l2 (.lst (((once v).filter fun n => decide (n ∈ x.T)).map V.int))) := (Same.refl H2).upd hl2
        have h3 := h2.same s3
        have h3l : upd H2 l2 (.lst (((once v).filter fun n => decide (n ∈ x.T)).map V.int)) l2 = some (.lst (((once v).filter fun n => decide (n ∈ x.T)).map V.int)) := upd_same
        have h3lo := s3 _ _ h2lo
        have fr3 := fr2.trans (Fr.same (p := p) (x := { x with ws := x.ws ++ [(a, v)] }) s3)
        generalize upd H2 l2 (.lst (((once v).filter fun n => decide (n ∈ x.T)).map V.int)) = H3 at s3 h3 h3l h3lo fr3
        refine ⟨l2, _, rfl, .inl (SqL.of h3l), x.aso, _, _, rfl, rfl, h3.hs, small6 (by rw [List.length_map]; show x.so.length ≤ _; omega), ?_⟩
        have er : x.so.map V.int ++ [V.int ((((once v).filter fun n => decide (n ∈ x.T)).map V.int).length : Nat)] = (x.so ++ [(soN v x.T : Int)]).map V.int := by simp [soN]
        dsimp only
        rw [er]
        refine hN _ _ ⟨rfl, h3.setS _, fr3.trans (upd_fr foot_s fun _ h => .inl h), ?_⟩
        rw [upd_ne (fun e => nlo (by rw [e]; exact foot_s))]; exact h3lo
    rintro σ H3 ⟨rfl, h3, fr3, h3lo⟩
    -- left
    refine rd_cut (fun σ Hx => σ = [some (.ref p), some (.ref a), some (.int x.ws.length), some (.ref lo), none] ∧ TyAt C Hx p { x with ws := x.ws ++ [(a, v)], so := x.so ++ [(soN v x.T : Int)], left := x.left ++ [(leftN v x.T : Int)] } ∧ Fr p x { x with ws := x.ws ++ [(a, v)], so := x.so ++ [(soN v x.T : Int)], left := x.left ++ [(leftN v x.T : Int)] } H Hx ∧ Hx lo = some (.lst ((once v).map V.int))) (fun N hN => ?_) ?_
    · obtain ⟨d3, ob3⟩ := h3.ob
      refine ⟨_, rfl, p, C, d3, _, _, rfl, ob3, T.cl, T.n6, fl_left _, .inl ⟨rfl, _, SqL.of h3.hl⟩, ?_⟩
      refine rd_cons (ta := tCB _ _) (rd_cb (rd_cons (ta := tComp _ _ _ _) (tcomp_list (K := K) ?_)))
      refine ⟨_, rfl, lo, rfl, ⟨_, SqL.of h3lo⟩, ?_⟩
      refine comp_pure (xs := once v) (g := V.int) (fun n => !decide (-n ∈ x.T)) V.int (small6' (by omega)) (SqL.of h3lo) (fun n _ R hR => ?_) (fun n _ _ R hR => ⟨_, rfl, hR⟩) (fun l2 hl2 => ?_)
      · refine ⟨_, rfl, n, rfl, _, rfl, p, C, d3, _, _, rfl, ob3, T.cl, T.n3, fl_taken _, x.ad, _, rfl, DGet.k (k := Sum.inl (-n)) h3.hd, _, rfl, ?_⟩
        rw [has_mk]; exact hR
      · have s4 : Same H3 (upd H3 l2 (.lst (((once v).filter fun n => !decide (-n ∈ x.T)).map V.int))) := (Same.refl H3).upd hl2
        have h4 := h3.same s4
        have h4l : upd H3 l2 (.lst (((once v).filter fun n => !decide (-n ∈ x.T)).map V.int)) l2 = some (.lst (((once v).filter fun n => !decide (-n ∈ x.T)).map V.int)) := upd_same
        have h4lo := s4 _ _ h3lo
        have fr4 := fr3.trans (Fr.same (p := p) (x := { x with ws := x.ws ++ [(a, v)], so := x.so ++ [(soN v x.T : Int)] }) s4)
        generalize upd H3 l2 (.lst (((once v).filter fun n => !decide (-n ∈ x.T)).map V.int)) = H4 at s4 h4 h4l h4lo fr4
        refine ⟨l2, _, rfl, .inl (SqL.of h4l), x.al, _, _, rfl, rfl, h4.hl, small6 (by rw [List.length_map]; show x.left.length ≤ _; omega), ?_⟩
        have er : x.left.map V.int ++ [V.int ((((once v).filter fun n => !decide (-n ∈ x.T)).map V.int).length : Nat)] = (x.left ++ [(leftN v x.T : Int)]).map V.int := by simp [leftN, openOf]
        dsimp only
        rw [er]
        refine hN _ _ ⟨rfl, h4.setL _, fr4.trans (upd_fr foot_l fun _ h => .inl h), ?_⟩
        rw [upd_ne (fun e => nlo (by rw [e]; exact foot_l))]; exact h4lo
    rintro σ H4 ⟨rfl, h4, fr4, h4lo⟩
    -- places
    refine rd_cut (fun σ Hx => ∃ (M' : List Mp) (v5 : Option V), σ = [some (.ref p), some (.ref a), some (.int x.ws.length), some (.ref lo), v5] ∧ TyAt C Hx p { x with ws := x.ws ++ [(a, v)], so := x.so ++ [(soN v x.T : Int)], left := x.left ++ [(leftN v x.T : Int)], M := M' } ∧ Fr p x { x with ws := x.ws ++ [(a, v)], so := x.so ++ [(soN v x.T : Int)], left := x.left ++ [(leftN v x.T : Int)], M := M' } H Hx ∧
        (∀ y, ilook M' y = idxs (wl x.ws ++ [v]) y) ∧ M'.length ≤ x.M.length + v.length) (fun N hN => ?_) ?_
    · refine ⟨_, rfl, lo, rfl, ⟨_, SqL.of h4lo⟩, for_list (K := K) (a := lo) (xs := (once v).map V.int) (fun j σ Hx => ∃ (M' : List Mp) (v5 : Option V), σ = [some (.ref p), some (.ref a), some (.int x.ws.length), some (.ref lo), v5] ∧ TyAt C Hx p { x with ws := x.ws ++ [(a, v)], so := x.so ++ [(soN v x.T : Int)], left := x.left ++ [(leftN v x.T : Int)], M := M' } ∧ Fr p x { x with ws := x.ws ++ [(a, v)], so := x.so ++ [(soN v x.T : Int)], left := x.left ++ [(leftN v x.T : Int)], M := M' } H Hx ∧
        (∀ y, ilook M' y = idxs (wl x.ws) y ++ (if y ∈ (once v).take j then [x.ws.length] else [])) ∧ M'.length ≤ x.M.length + j ∧ Hx lo = some (.lst ((once v).map V.int)) ∧ ¬ foot p { x with M := M' } lo)
        ⟨x.M, none, rfl, h4, fr4, fun y => by rw [hx.pl y]; simp, by omega, h4lo, nlo⟩ (fun j σ Hx _ hh => by
          obtain ⟨_, _, _, _, _, _, _, e, _⟩ := hh
          exact SqL.of e) ?_ ?_⟩
      · rintro j y σ H5 hj ⟨M5, v5, rfl, h5, fr5, hI5, hl5, h5lo, nlo5⟩
        obtain ⟨n, hnj, rfl⟩ := getV hj
        have hjl : j < (once v).length := (List.getElem?_eq_some_iff.mp hnj).1
        have hov := once_len v
        have hnot : ¬ n ∈ (once v).take j := fun z => by
          obtain ⟨j', hj', e⟩ := List.mem_iff_getElem.mp z
          rw [List.getElem_take] at e
          have hj2 : j' < j := by simp at hj'; omega
          have e2 : (once v)[j]'hjl = n := by rw [List.getElem?_eq_getElem hjl] at hnj; exact Option.some.inj hnj
          have := (List.getElem_inj (h₀ := by omega) (h₁ := hjl) (once_nodup v)).mp (e.trans e2.symm)
          omega
        have htk : ∀ y, y ∈ (once v).take (j + 1) ↔ y ∈ (once v).take j ∨ y = n := fun y => by
          rw [List.take_add_one, hnj]; simp
        have hil5 : ilook M5 n = idxs (wl x.ws) n := by rw [hI5 n, if_neg hnot]; simp
        have hidl : (idxs (wl x.ws) n).length ≤ x.ws.length := by
          unfold idxs
          have := List.length_filter_le (fun i => decide (n ∈ (wl x.ws).getD i [])) (List.range (wl x.ws).length)
          rw [List.length_range] at this
          have e := wl_len x.ws
          omega
        have grow : ∀ M6 : List Mp, (∀ y, ilook M6 y = if y = n then ilook M5 n ++ [x.ws.length] else ilook M5 y) → ∀ y, ilook M6 y = idxs (wl x.ws) y ++ (if y ∈ (once v).take (j + 1) then [x.ws.length] else []) := fun M6 h6 y => by
          rw [h6 y]
          by_cases e : y = n
          · subst e
            rw [if_pos rfl, hil5, if_pos ((htk y).mpr (.inr rfl))]
          · rw [if_neg e, hI5 y]
            congr 1
            by_cases z : y ∈ (once v).take j
            · rw [if_pos z, if_pos ((htk y).mpr (.inl z))]
            · rw [if_neg z, if_neg (fun q => (htk y).mp q |>.elim z e)]
        obtain ⟨d5, ob5⟩ := h5.ob
        have h5d : H5 x.ap = some (.dK (mkvs M5)) := h5.hp
        refine ⟨_, rfl, p, C, d5, _, _, rfl, ob5, T.cl, T.n4, fl_places _, x.ap, rfl, .inl ⟨_, .inl h5d⟩, _, rfl, by decide, fun pe hpe => ?_⟩
        have npe : x.ap ≠ pe := ne_of_none h5d hpe
        have npl : lo ≠ pe := ne_of_none h5lo hpe
        refine ⟨mkvs M5, Sum.inl n, by rw [upd_ne npe]; exact h5d, rfl, small6 (by simp [mkvs]; omega), fun u hu => ?_, fun hu => ?_⟩
        · rw [val_mkvs] at hu
          cases hlk : lookM M5 n with
          | none => rw [hlk] at hu; cases hu
          | some m =>
            rw [hlk] at hu
            have ev : u = .ref m.2.1 := (Option.some.inj hu).symm
            subst ev
            obtain ⟨hm1, hm2⟩ := lookM_some hlk
            have s6 : Same H5 (upd H5 pe (.lst [])) := (Same.refl H5).upd hpe
            have h6 := h5.same s6
            have h6lo := s6 _ _ h5lo
            have fr6 := fr5.trans (Fr.same (p := p) s6)
            generalize upd H5 pe (.lst []) = H6 at s6 h6 h6lo fr6
            have hmm : H6 m.2.1 = some (.lst (iv m.2.2)) := h6.hM.ok m hm1
            have eil : ilook M5 n = m.2.2 := by unfold ilook; rw [hlk]
            refine ⟨.inl ⟨rfl, _, SqL.of hmm⟩, _, rfl, m.2.1, _, _, rfl, rfl, hmm, small6 (by simp [iv]; rw [← eil, hil5]; omega), ?_⟩
            have nlm : lo ≠ m.2.1 := fun e => nlo5 (by rw [e]; exact foot_m (x := { x with M := M5 }) hm1)
            have back : ∀ m' ∈ addM M5 n x.ws.length, ∃ m0 ∈ M5, m'.2.1 = m0.2.1 := fun m' hm' => by
              obtain ⟨m0, h0, rfl⟩ := List.mem_map.mp hm'
              exact ⟨m0, h0, by split <;> rfl⟩
            refine ⟨addM M5 n x.ws.length, _, rfl, h6.addMp (i := x.ws.length) hlk, fr6.trans (h6.addFr hlk), grow _ (fun y => addM_ilook hlk y), by unfold addM; rw [List.length_map]; omega, by rw [upd_ne nlm]; exact h6lo, ?_⟩
            exact fun hf => nlo5 (foot_sub hf fun m' hm' => by
              obtain ⟨m0, h0, e0⟩ := back m' hm'
              exact ⟨m0, h0, e0⟩)
        · rw [val_mkvs] at hu
          have hlk : lookM M5 n = none := by
            cases hlk : lookM M5 n with
            | none => rfl
            | some m => rw [hlk] at hu; cases hu
          have hnk : valV (mkvs M5) (Sum.inl n : Key) = none := by rw [val_mkvs, hlk]; rfl
          rw [putK_new _ hnk]
          have hpe6 : upd (upd H5 pe (.lst [])) x.ap (.dK (mkvs M5 ++ [((Sum.inl n : Key), V.ref pe)])) pe = some (.lst []) := by rw [upd_ne npe.symm, upd_same]
          refine ⟨.inl ⟨rfl, _, SqL.of hpe6⟩, _, rfl, pe, _, _, rfl, rfl, hpe6, by decide, ?_⟩
          have nla : lo ≠ x.ap := ne_of h5lo h5d (by intro z; cases z)
          refine ⟨M5 ++ [(n, pe, [x.ws.length])], _, rfl, h5.newMp (i := x.ws.length) hlk hpe, fr5.trans (h5.newFr hpe), grow _ (fun y => newM_ilook hlk y), by simp; omega, by rw [upd_ne npl, upd_ne nla, upd_ne npl]; exact h5lo, ?_⟩
          rintro (e | e | e | e | e | e | e | e | e | ⟨m', hm', e⟩)
          · exact nlo5 (.inl e)
          · exact nlo5 (.inr (.inl e))
          · exact nlo5 (.inr (.inr (.inl e)))
          · exact nlo5 (.inr (.inr (.inr (.inl e))))
          · exact nlo5 (.inr (.inr (.inr (.inr (.inl e)))))
          · exact nlo5 (.inr (.inr (.inr (.inr (.inr (.inl e))))))
          · exact nlo5 (.inr (.inr (.inr (.inr (.inr (.inr (.inl e)))))))
          · exact nlo5 (.inr (.inr (.inr (.inr (.inr (.inr (.inr (.inl e))))))))
          · exact nlo5 (.inr (.inr (.inr (.inr (.inr (.inr (.inr (.inr (.inl e)))))))))
          · rcases List.mem_append.mp hm' with z | z
            · exact nlo5 (by rw [e]; exact foot_m (x := { x with M := M5 }) z)
            · have : m' = (n, pe, [x.ws.length]) := by simpa using z
              exact npl (by rw [e, this])
      · rintro σ H5 ⟨M5, v5, rfl, h5, fr5, hI5, hl5, h5lo, nlo5⟩
        have hov := once_len v
        refine hN _ _ ⟨M5, v5, rfl, h5, fr5, fun y => ?_, by rw [List.length_map] at hl5; omega⟩
        rw [hI5 y, idxs_snoc, wl_len]
        congr 1
        have : y ∈ (once v).take ((once v).map V.int).length ↔ y ∈ v := by simp [mem_once]
        by_cases e : y ∈ v
        · rw [if_pos e, if_pos (this.mpr e)]
        · rw [if_neg e, if_neg (fun z => e (this.mp z))]
    rintro σ H5 ⟨M5, v5, rfl, h5, fr5, hI5, hl5⟩
    obtain ⟨d5, ob5⟩ := h5.ob
    have noS : ∀ y : Tly, (flds y).lookup ("sort_in" : Str) = none := fun y => fl_no y (by decide +kernel) (by decide +kernel) (by decide +kernel) (by decide +kernel) (by decide +kernel) (by decide +kernel) (by decide +kernel) (by decide +kernel)
    have g1 : (x.so ++ [(soN v x.T : Int)])[x.ws.length]? = some (soN v x.T : Int) := by rw [← ls1]; simp
    have g2 : (x.left ++ [(leftN v x.T : Int)])[x.ws.length]? = some (leftN v x.T : Int) := by rw [← ls2]; simp
    have oth : ∀ (l : List Int) (u : Int) (k : Nat), l.length = x.ws.length → k ≠ x.ws.length → (l ++ [u])[k]? = l[k]? := fun l u k hl hk => by
      by_cases z : k < l.length
      · rw [List.getElem?_append_left z]
      · rw [List.getElem?_eq_none (by simp; omega), List.getElem?_eq_none (by omega)]
    have lF := hx.fg.lenF
    have lG := hx.fg.lenG
    refine ⟨_, rfl, p, d5, _, rfl, ob5, noS _, _, rfl, p, _, x.ws.length, _, _, rfl, h5, g1, g2, by show x.F.length ≤ _; omega, by show x.G.length ≤ _; omega, hx.fg.fn, hx.fg.gn, fun F' G' H6 h6 fr6 nF nG mF mG => ?_⟩
    refine q _ H6 ⟨h6, hx.T, fun y => ?_, ?_, ?_, hx.fg.sort (i := x.ws.length) (fun k hk => oth _ _ k ls1 hk) (fun k hk => oth _ _ k ls2 hk) nF nG (fun j => ?_) (fun j => ?_)⟩ (fr5.trans fr6) rfl rfl rfl hl5
    · show ilook M5 y = idxs (wl (x.ws ++ [(a, v)])) y
      rw [hI5 y]; simp [wl]
    · show x.so ++ [(soN v x.T : Int)] = (wl (x.ws ++ [(a, v)])).map fun v => (soN v x.T : Int)
      rw [hx.so]; simp [wl]
    · show x.left ++ [(leftN v x.T : Int)] = (wl (x.ws ++ [(a, v)])).map fun v => (leftN v x.T : Int)
      rw [hx.lf]; simp [wl]
    · rw [mF, g1, g2]; simp
    · rw [mG, g1, g2]; simp
end

/-- what __init__ has made so far -/
structure NwL (C dx p : Addr) (H0 H : Hp) (fs : List (Str × V)) (L : List (Addr × HO)) : Prop where
  sm : Same H0 H
  hp : H p = some (.ins C dx fs)
  p0 : H0 p = none
  ok : ∀ b ∈ L, H b.1 = some b.2 ∧ H0 b.1 = none ∧ b.1 ≠ p
  nd : (L.map (·.1)).Nodup
  len : fs.length ≤ L.length
theorem NwL.add {C dx p : Addr} {H0 H : Hp} {fs : List (Str × V)} {L : List (Addr × HO)} (h : NwL C dx p H0 H fs L) (f : Str) {pe : Addr} {o : HO} (hpe : H pe = none) : NwL C dx p H0 (upd (upd H pe o) p (.ins C dx (putF f (.ref pe) fs))) (putF f (.ref pe) fs) ((pe, o) :: L) := by
  have n1 : p ≠ pe := ne_of_none h.hp hpe
  have h0 := h.sm.free hpe
  refine ⟨(h.sm.upd h0).upd h.p0, upd_same, h.p0, fun b hb => ?_, ?_, Nat.le_trans (length_putF f (.ref pe) fs) (by have := h.len; simp; omega)⟩
  · rcases List.mem_cons.mp hb with z | z
    · rw [z]; exact ⟨by rw [upd_ne n1.symm, upd_same], h0, n1.symm⟩
    · obtain ⟨a1, a2, a3⟩ := h.ok b z
      exact ⟨by rw [upd_ne a3, upd_ne (ne_of_none a1 hpe)]; exact a1, a2, a3⟩
  · rw [List.map_cons]
    refine List.nodup_cons.mpr ⟨fun z => ?_, h.nd⟩
    obtain ⟨b, hb, e⟩ := List.mem_map.mp z
    have := (h.ok b hb).1
    rw [show b.1 = pe from e, hpe] at this
    cases this
def spInit (K : PySem.W.Frag) (C : Addr) : Sp := fun vs H Q _ => ∃ (p a dx : Addr) (H0 : Hp) (ws : List Wr), vs = [.ref p, .ref a] ∧ NwL C dx p H0 H [] [] ∧ SqL K H0 a (wrefs ws) ∧ WsOk H0 ws ∧ ws.length ≤ 100000 ∧ total (wl ws) ≤ 100000 ∧
  ∀ (x' : Tly) (H' : Hp), Tal C H' p x' → x'.ws = ws → x'.qs = [] → Same H0 H' → (∀ b, foot p x' b → H0 b = none) → x'.M.length ≤ total (wl ws) → Q .non H'
section
variable {P : Program} {w : World} {K : PySem.W.Frag} {mg : Str → Option Value} {base : Heap} {C : Addr}
theorem ok_init (T : TallyCls K mg C) (m_put_wish : MCal P w K mg base 3 C "put_wish" p_Tally_put_wish (spPutW C)) (Df : MDef K C "__init__" "Tally.__init__" s_Tally_init p_Tally_init) : Made P w K mg base 4 "Tally" C p_Tally_init (spInit K C) := by
  have G : MCal P w K mg base 4 C "__init__" p_Tally_init (spInit K C) := by
    refine Df.cal sc_Tally_init (fun vs H Q E h => ?_) (fun f cdv A outer s H vs Q E hr h => ?_)
    · obtain ⟨p, a, dx, H0, ws, rfl, _⟩ := h; rfl
    · obtain ⟨p, a, dx, H0, ws, rfl, h0, hS, hW, hz, hz2, q⟩ := h
      have hu := hu_of hr
      have cl := T.cl
      refine ⟨_, (pss_cons (ps_fld (pv 0) (pe_lst pa_nil) rfl)
 (pss_cons (ps_fld (pv 0) (pe_lst pa_nil) rfl)
 (pss_cons (ps_fld (pv 0) pe_dnewK rfl)
 (pss_cons (ps_fld (pv 0) pe_dnewK rfl)
 (pss_cons (ps_fld (pv 0) (pe_lst pa_nil) rfl)
 (pss_cons (ps_fld (pv 0) (pe_lst pa_nil) rfl)
 (pss_cons (ps_fld (pv 0) pe_dnewK rfl)
 (pss_cons (ps_fld (pv 0) pe_dnewK rfl)
 (pss_one (ps_for PassesOwn.never rfl (pi_list (pv 1)) (pg_name (i := 2) sc_Tally_init.nd rfl (Or.inl rfl))
 (pss_one (ps_expr (pe_mdef m_put_wish cl hr (by decide) (pv 0) (pa_cons (pv 2) pa_nil)))))))))))))), ?_⟩
      refine ⟨by decide, fun a1 e1 => ?_⟩
      have n1 : p ≠ a1 := ne_of_none h0.hp e1
      have k1 := h0.len
      refine ⟨_, rfl, p, C, dx, _, rfl, by rw [upd_ne n1]; exact h0.hp, T.cl, T.n1, Nat.lt_of_le_of_lt k1 (by simp), ?_⟩
      have h1 := h0.add "wishes" (o := .lst []) e1
      generalize upd (upd H a1 (.lst [])) p (.ins C dx (putF "wishes" (.ref a1) [])) = H1 at h1
      refine ⟨by decide, fun a2 e2 => ?_⟩
      have n2 : p ≠ a2 := ne_of_none h1.hp e2
      have k2 := h1.len
      refine ⟨_, rfl, p, C, dx, _, rfl, by rw [upd_ne n2]; exact h1.hp, T.cl, T.n2, Nat.lt_of_le_of_lt k2 (by simp), ?_⟩
      have h2 := h1.add "trail" (o := .lst []) e2
      generalize upd (upd H1 a2 (.lst [])) p (.ins C dx (putF "trail" (.ref a2) (putF "wishes" (.ref a1) []))) = H2 at h2
      intro a3 e3
      have n3 : p ≠ a3 := ne_of_none h2.hp e3
      have k3 := h2.len
      refine ⟨_, rfl, p, C, dx, _, rfl, by rw [upd_ne n3]; exact h2.hp, T.cl, T.n3, Nat.lt_of_le_of_lt k3 (by simp), ?_⟩
      have h3 := h2.add "taken" (o := .dK []) e3
      generalize upd (upd H2 a3 (.dK [])) p (.ins C dx (putF "taken" (.ref a3) (putF "trail" (.ref a2) (putF "wishes" (.ref a1) [])))) = H3 at h3
      intro a4 e4
      have n4 : p ≠ a4 := ne_of_none h3.hp e4
      have k4 := h3.len
      refine ⟨_, rfl, p, C, dx, _, rfl, by rw [upd_ne n4]; exact h3.hp, T.cl, T.n4, Nat.lt_of_le_of_lt k4 (by simp), ?_⟩
      have h4 := h3.add "places" (o := .dK []) e4
      generalize upd (upd H3 a4 (.dK [])) p (.ins C dx (putF "places" (.ref a4) (putF "taken" (.ref a3) (putF "trail" (.ref a2) (putF "wishes" (.ref a1) []))))) = H4 at h4
      refine ⟨by decide, fun a5 e5 => ?_⟩
      have n5 : p ≠ a5 := ne_of_none h4.hp e5
      have k5 := h4.len
      refine ⟨_, rfl, p, C, dx, _, rfl, by rw [upd_ne n5]; exact h4.hp, T.cl, T.n5, Nat.lt_of_le_of_lt k5 (by simp), ?_⟩
      have h5 := h4.add "so" (o := .lst []) e5
      generalize upd (upd H4 a5 (.lst [])) p (.ins C dx (putF "so" (.ref a5) (putF "places" (.ref a4) (putF "taken" (.ref a3) (putF "trail" (.ref a2) (putF "wishes" (.ref a1) [])))))) = H5 at h5
      refine ⟨by decide, fun a6 e6 => ?_⟩
      have n6 : p ≠ a6 := ne_of_none h5.hp e6
      have k6 := h5.len
      refine ⟨_, rfl, p, C, dx, _, rfl, by rw [upd_ne n6]; exact h5.hp, T.cl, T.n6, Nat.lt_of_le_of_lt k6 (by simp), ?_⟩
      have h6 := h5.add "left" (o := .lst []) e6
      generalize upd (upd H5 a6 (.lst [])) p (.ins C dx (putF "left" (.ref a6) (putF "so" (.ref a5) (putF "places" (.ref a4) (putF "taken" (.ref a3) (putF "trail" (.ref a2) (putF "wishes" (.ref a1) []))))))) = H6 at h6
      intro a7 e7
      have n7 : p ≠ a7 := ne_of_none h6.hp e7
      have k7 := h6.len
      refine ⟨_, rfl, p, C, dx, _, rfl, by rw [upd_ne n7]; exact h6.hp, T.cl, T.n7, Nat.lt_of_le_of_lt k7 (by simp), ?_⟩
      have h7 := h6.add "failing" (o := .dK []) e7
      generalize upd (upd H6 a7 (.dK [])) p (.ins C dx (putF "failing" (.ref a7) (putF "left" (.ref a6) (putF "so" (.ref a5) (putF "places" (.ref a4) (putF "taken" (.ref a3) (putF "trail" (.ref a2) (putF "wishes" (.ref a1) [])))))))) = H7 at h7
      intro a8 e8
      have n8 : p ≠ a8 := ne_of_none h7.hp e8
      have k8 := h7.len
      refine ⟨_, rfl, p, C, dx, _, rfl, by rw [upd_ne n8]; exact h7.hp, T.cl, T.n8, Nat.lt_of_le_of_lt k8 (by simp), ?_⟩
      have h8 := h7.add "forcing" (o := .dK []) e8
      generalize upd (upd H7 a8 (.dK [])) p (.ins C dx (putF "forcing" (.ref a8) (putF "failing" (.ref a7) (putF "left" (.ref a6) (putF "so" (.ref a5) (putF "places" (.ref a4) (putF "taken" (.ref a3) (putF "trail" (.ref a2) (putF "wishes" (.ref a1) []))))))))) = H8 at h8
      have g1 := h8.ok (a1, .lst []) (by simp)
      have g2 := h8.ok (a2, .lst []) (by simp)
      have g3 := h8.ok (a3, .dK []) (by simp)
      have g4 := h8.ok (a4, .dK []) (by simp)
      have g5 := h8.ok (a5, .lst []) (by simp)
      have g6 := h8.ok (a6, .lst []) (by simp)
      have g7 := h8.ok (a7, .dK []) (by simp)
      have g8 := h8.ok (a8, .dK []) (by simp)
      have nd := h8.nd
      simp only [List.map_cons, List.map_nil, List.nodup_cons, List.mem_cons, not_or] at nd
      obtain ⟨⟨b87, b86, b85, b84, b83, b82, b81, _⟩, ⟨b76, b75, b74, b73, b72, b71, _⟩, ⟨b65, b64, b63, b62, b61, _⟩, ⟨b54, b53, b52, b51, _⟩, ⟨b43, b42, b41, _⟩, ⟨b32, b31, _⟩, ⟨b21, _⟩, _⟩ := nd
      have hT : Tal C H8 p ⟨a1, a2, a3, a4, a5, a6, a7, a8, [], [], [], [], [], [], [], []⟩ :=
        ⟨⟨⟨dx, h8.hp⟩, g1.1, g2.1, g3.1, g4.1, ⟨(fun m hm => nomatch hm), List.nodup_nil, List.nodup_nil⟩, g5.1, g6.1, g7.1, g8.1, (fun _ h => nomatch h), (fun _ h => nomatch h), ⟨Ne.symm b21, Ne.symm b51, Ne.symm b61, Ne.symm b52, Ne.symm b62, Ne.symm b65⟩, ⟨Ne.symm b43, Ne.symm b73, Ne.symm b83, Ne.symm b74, Ne.symm b84, Ne.symm b87⟩, (fun _ h => nomatch h), (fun _ h => nomatch h)⟩,
          rfl, fun y => rfl, rfl, rfl, ⟨List.nodup_nil, List.nodup_nil, fun j => ⟨(fun h => nomatch h), fun ⟨i, _, h, _⟩ => by simp at h⟩, fun j => ⟨(fun h => nomatch h), fun ⟨i, _, h, _⟩ => by simp at h⟩⟩⟩
      have hF : ∀ b, foot p ⟨a1, a2, a3, a4, a5, a6, a7, a8, [], [], [], [], [], [], [], []⟩ b → H0 b = none := by
        rintro b (e | e | e | e | e | e | e | e | e | ⟨m, hm, e⟩)
        · rw [e]; exact h8.p0
        · rw [e]; exact g1.2.1
        · rw [e]; exact g2.2.1
        · rw [e]; exact g3.2.1
        · rw [e]; exact g4.2.1
        · rw [e]; exact g5.2.1
        · rw [e]; exact g6.2.1
        · rw [e]; exact g7.2.1
        · rw [e]; exact g8.2.1
        · cases hm
      have sm8 := h8.sm
      clear h1 h2 h3 h4 h5 h6 h7 h8
      have wl_i : ∀ {i : Nat} {wr : Wr}, ws[i]? = some wr → (wl ws)[i]? = some wr.2 := fun {i wr} h => by unfold wl; rw [List.getElem?_map, h]; rfl
      refine ⟨_, rfl, a, rfl, ⟨_, sm8.seq hS⟩, for_list (K := K) (a := a) (xs := wrefs ws) (fun j σ Hx => ∃ (x : Tly) (v : Option V), σ = [some (.ref p), some (.ref a), v] ∧ Tal C Hx p x ∧ x.ws = ws.take j ∧ x.qs = [] ∧ Same H0 Hx ∧ (∀ b, foot p x b → H0 b = none) ∧ x.M.length ≤ total ((wl ws).take j))
        ⟨_, none, rfl, hT, by simp, rfl, sm8, hF, Nat.zero_le _⟩ (fun j σ Hx _ hh => by
          obtain ⟨_, _, _, _, _, _, e, _⟩ := hh
          exact e.seq hS) ?_ ?_⟩
      · rintro j y σ Hx hj ⟨x, v, rfl, hx, ew, eq, sm, hf, hm⟩
        obtain ⟨wr, hwj, rfl⟩ := wr_get hj
        have hmem := List.mem_of_getElem? hwj
        have hjl : j < ws.length := (List.getElem?_eq_some_iff.mp hwj).1
        have t1 := total_take (wl_i hwj)
        have t2 := total_le (wl ws) (j + 1)
        obtain ⟨d, obx⟩ := hx.ty.ob
        have noP : (flds x).lookup ("put_wish" : Str) = none := fl_no x (by decide +kernel) (by decide +kernel) (by decide +kernel) (by decide +kernel) (by decide +kernel) (by decide +kernel) (by decide +kernel) (by decide +kernel)
        refine ⟨_, rfl, p, d, _, rfl, obx, noP, _, rfl, p, wr.1, x, wr.2, rfl, hx, sm _ _ (hW wr hmem), fun z => ?_, by omega, by rw [ew]; simp; omega, by omega, fun x' H' hx' fr ew' eq' _ hm' => ⟨x', _, rfl, hx', ?_, by rw [eq', eq], ?_, ?_, by omega⟩⟩
        · have := hf _ z
          rw [hW wr hmem] at this; cases this
        · rw [ew', ew, List.take_add_one, hwj]; simp
        · intro b o hb
          exact fr.out b o (sm b o hb) fun z => by rw [hf b z] at hb; cases hb
        · intro b hb
          rcases fr.inn b hb with z | z
          · exact hf b z
          · exact sm.free z
      · rintro σ Hx ⟨x, v, rfl, hx, ew, eq, sm, hf, hm⟩
        rw [wrefs_len] at ew hm
        rw [List.take_length] at ew
        rw [← wl_len ws, List.take_length] at hm
        exact q x Hx hx ew eq sm hf hm
  obtain ⟨f, fd, F, M, hb⟩ := G.ex
  exact ⟨f, fd, F, ⟨T.mks, M.at_, M.fn, T.kc⟩, hb, T.mgC⟩
end

theorem next_none1 {W : List (List Int)} {T : List Int} (h : brokenAt W T ≠ none) : nextOf W T = none := by
  unfold nextOf
  cases hb : brokenAt W T with
  | none => exact absurd hb h
  | some i => rfl
theorem next_none2 {W : List (List Int)} {T : List Int} (h : brokenAt W T = none) (h' : oneAt W T = none) : nextOf W T = none := by
  unfold nextOf; rw [h, h']
theorem next_some {W : List (List Int)} {T : List Int} {i : Nat} (h : brokenAt W T = none) (h' : oneAt W T = some i) : ∃ x, nextOf W T = some (x, i) := by
  unfold nextOf; rw [h, h']; exact ⟨_, rfl⟩

abbrev Nw := Addr × Int × Nat
def np (t : Nw) : Pr := (t.1, t.2.1, some (t.2.2 : Int))
def nn (t : Nw) : Int × Nat := (t.2.1, t.2.2)
theorem lets_append (qs rs : List Pr) : lets (qs ++ rs) = lets qs ++ lets rs := by simp [lets]
theorem lets_np (ts : List Nw) : lets (ts.map np) = ts.map (·.2.1) := by unfold lets; rw [List.map_map]; rfl
theorem tal_c {C : Addr} {H : Hp} {p : Addr} {x : Tly} (h : Tal C H p x) (c : Nat) (j : Int) : (∃ i : Nat, j = (i : Int) ∧ x.so[i]? = some 0 ∧ x.left[i]? = some (c : Int)) ↔ ∃ i : Nat, j = (i : Int) ∧ i < (wl x.ws).length ∧ cnt ((wl x.ws).getD i []) x.T = some c := by
  constructor
  · rintro ⟨i, e, a, b⟩
    rw [h.so, List.getElem?_map] at a
    rw [h.lf, List.getElem?_map] at b
    cases hw : (wl x.ws)[i]? with
    | none => rw [hw] at a; cases a
    | some v =>
      rw [hw] at a b
      have a' : (soN v x.T : Int) = 0 := Option.some.inj a
      have b' : (leftN v x.T : Int) = c := Option.some.inj b
      have hg : (wl x.ws).getD i [] = v := by simp [List.getD, hw]
      refine ⟨i, e, (List.getElem?_eq_some_iff.mp hw).1, ?_⟩
      rw [hg, cnt_tally, if_pos (by omega)]
      congr 1; omega
  · rintro ⟨i, e, hi, hc⟩
    have hw : (wl x.ws)[i]? = some ((wl x.ws).getD i []) := by simp [hi]
    rw [cnt_tally] at hc
    by_cases z : soN ((wl x.ws).getD i []) x.T = 0
    · rw [if_pos z] at hc
      have hc' := Option.some.inj hc
      refine ⟨i, e, ?_, ?_⟩
      · rw [h.so, List.getElem?_map, hw, Option.map_some, z]; rfl
      · rw [h.lf, List.getElem?_map, hw, Option.map_some, hc']
    · rw [if_neg z] at hc; cases hc
theorem tal_F {C : Addr} {H : Hp} {p : Addr} {x : Tly} (h : Tal C H p x) (j : Int) : j ∈ x.F ↔ ∃ i : Nat, j = (i : Int) ∧ i < (wl x.ws).length ∧ cnt ((wl x.ws).getD i []) x.T = some 0 := (h.fg.f j).trans (tal_c h 0 j)
theorem tal_G {C : Addr} {H : Hp} {p : Addr} {x : Tly} (h : Tal C H p x) (j : Int) : j ∈ x.G ↔ ∃ i : Nat, j = (i : Int) ∧ i < (wl x.ws).length ∧ cnt ((wl x.ws).getD i []) x.T = some 1 := (h.fg.g j).trans (tal_c h 1 j)
theorem findF_none {W : List (List Int)} {T : List Int} {c : Nat} {F : List Int} (h : ∀ j, j ∈ F ↔ ∃ i : Nat, j = (i : Int) ∧ i < W.length ∧ cnt (W.getD i []) T = some c) : F = [] ↔ W.findIdx? (fun w => decide (cnt w T = some c)) = none := by
  rw [List.findIdx?_eq_none_iff]
  constructor
  · intro e w hw
    obtain ⟨i, hi, rfl⟩ := List.mem_iff_getElem.mp hw
    refine decide_eq_false fun z => ?_
    have : (i : Int) ∈ F := (h i).mpr ⟨i, rfl, hi, by simpa [hi] using z⟩
    rw [e] at this; cases this
  · intro hn
    refine List.eq_nil_iff_forall_not_mem.mpr fun j hj => ?_
    obtain ⟨i, e, hi, hc⟩ := (h j).mp hj
    have := hn W[i] (List.getElem_mem hi)
    have hg : W.getD i [] = W[i] := by simp [hi]
    rw [hg] at hc
    rw [decide_eq_true hc] at this; cases this
theorem findF_min {W : List (List Int)} {T : List Int} {c : Nat} {F : List Int} (h : ∀ j, j ∈ F ↔ ∃ i : Nat, j = (i : Int) ∧ i < W.length ∧ cnt (W.getD i []) T = some c) {y : Int} (hy : y ∈ F) (hm : ∀ z ∈ F, y ≤ z) : ∃ i : Nat, y = (i : Int) ∧ W.findIdx? (fun w => decide (cnt w T = some c)) = some i := by
  obtain ⟨i, e, hi, hc⟩ := (h y).mp hy
  refine ⟨i, e, ?_⟩
  rw [List.findIdx?_eq_some_iff_getElem]
  have hg : ∀ k (hk : k < W.length), W.getD k [] = W[k] := fun k hk => by simp [hk]
  refine ⟨hi, ?_, fun k hk => ?_⟩
  · rw [hg i hi] at hc; exact decide_eq_true hc
  · intro z
    have z' : cnt W[k] T = some c := of_decide_eq_true z
    have : (k : Int) ∈ F := (h k).mpr ⟨k, rfl, by omega, by rw [hg k (by omega)]; exact z'⟩
    have := hm _ this
    omega
def spGoOn (C : Addr) : Sp := fun vs H Q _ => ∃ (p : Addr) (x : Tly), vs = [.ref p] ∧ Tal C H p x ∧ x.qs.length + x.ws.length ≤ 99000 ∧ (∀ r ∈ x.ws, r.2.length ≤ 100000) ∧
  ∀ (ts : List Nw) (x' : Tly) (H' : Hp), Tal C H' p x' → Fr p x x' H H' → x'.ws = x.ws → x'.qs = x.qs ++ ts.map np → x'.at_ = x.at_ → Run (wl x.ws) x.T (ts.map nn) → Q .non H'
section
variable {P : Program} {w : World} {K : PySem.W.Frag} {mg : Str → Option Value} {base : Heap} {C : Addr}
theorem ok_go_on (B : Blt mg) (T : TallyCls K mg C) (m_put : MCal P w K mg base 3 C "put" p_Tally_put (spPut C)) (c_left_open : Cal P w K mg base 3 "left_open" p_left_open (spLeft K)) (Df : MDef K C "go_on" "Tally.go_on" s_Tally_go_on p_Tally_go_on) : MCal P w K mg base 4 C "go_on" p_Tally_go_on (spGoOn C) := by
  refine Df.cal sc_Tally_go_on (fun vs H Q E h => ?_) (fun f cdv A outer s H vs Q E hr h => ?_)
  · obtain ⟨p, x, rfl, _⟩ := h; rfl
  · obtain ⟨p, x0, rfl, hx0, hz, hlen, q⟩ := h
    have hu := hu_of hr
    have cl := T.cl
    refine ⟨_, (pss_one (ps_while PassesOwn.never (PW.pt (pw_and (pt_truth (pe_fld (pv 0) rfl) (fun _ => rfl)) (pw_and1 (pt_not (pt_truth (pe_fld (pv 0) rfl) (fun _ => rfl))))))
 (pss_cons (ps_set (i := 1) sc_Tally_go_on.nd rfl (Or.inl rfl) (pe_callB (call_minD rfl) (by rfl) B.min_ bt_min (pa_cons (pe_fld (pv 0) rfl) pa_nil)))
 (pss_one (ps_expr (pe_mdef m_put cl hr (by decide) (pv 0) (pa_cons (pe_ix ix_list (pe_def c_left_open hr (by decide) (pa_cons (pe_ix ix_list (pe_fld (pv 0) rfl) (pv 1) (fun _ _ => rfl)) (pa_cons (pe_fld (pv 0) rfl) pa_nil))) pe_int (fun _ _ => rfl)) (pa_cons (pv 1) pa_nil)))))))), ?_⟩
    have noP : ∀ y : Tly, (flds y).lookup ("put" : Str) = none := fun y => fl_no y (by decide +kernel) (by decide +kernel) (by decide +kernel) (by decide +kernel) (by decide +kernel) (by decide +kernel) (by decide +kernel) (by decide +kernel)
    refine ⟨fun m σ Hx => ∃ (x : Tly) (ts : List Nw) (v : Option V), m = live (wl x0.ws) x.T ∧ σ = [some (.ref p), v] ∧ Tal C Hx p x ∧ Fr p x0 x H Hx ∧ x.ws = x0.ws ∧ x.qs = x0.qs ++ ts.map np ∧ x.at_ = x0.at_ ∧
        (∀ r, Run (wl x0.ws) x.T r → Run (wl x0.ws) x0.T (ts.map nn ++ r)) ∧ ts.length + live (wl x0.ws) x.T ≤ x0.ws.length,
      ⟨_, x0, [], none, rfl, rfl, hx0, Fr.refl _ _ _, rfl, by simp, rfl, fun r hr => by simpa using hr, by have := live_le (wl x0.ws) x0.T; rw [wl_len] at this; simpa using this⟩, ?_⟩
    rintro m σ Hx ⟨x, ts, v, rfl, rfl, hx, fr, ew, eq, ea, hrun, hlive⟩
    obtain ⟨d, ob⟩ := hx.ty.ob
    have stop : nextOf (wl x0.ws) x.T = none → Q .non Hx := fun hn => by
      have := hrun [] (Run.stop hn)
      rw [List.append_nil] at this
      exact q ts x Hx hx fr ew eq ea this
    have hF := findF_none (tal_F hx)
    have hG := findF_none (tal_G hx)
    rw [ew] at hF hG
    refine ⟨_, rfl, p, C, d, _, _, rfl, ob, T.cl, T.n8, fl_forcing _, _, .inr (.inr ⟨_, hx.ty.hg, rfl⟩), ite2 (fun c1 => ?_) (fun c1 => ?_)⟩
    · have g0 : x.G ≠ [] := fun z => by rw [z] at c1; cases c1
      refine ⟨_, rfl, p, C, d, _, _, rfl, ob, T.cl, T.n7, fl_failing _, _, .inr (.inr ⟨_, hx.ty.hf, rfl⟩), ite2 (fun c2 => ?_) (fun c2 => ?_)⟩
      · have f0 : x.F = [] := by
          cases hf : x.F with
          | nil => rfl
          | cons u r => rw [hf] at c2; cases c2
        have hb : brokenAt (wl x0.ws) x.T = none := hF.mp f0
        refine ⟨_, fun σ' H' h => h, ?_⟩
        refine ⟨_, rfl, p, C, d, _, _, rfl, ob, T.cl, T.n8, fl_forcing _, x.ao, _, x.G, rfl, .inl hx.ty.hg, by simp [mk], g0, fun y hy hmin => ?_⟩
        obtain ⟨i, rfl, ho⟩ := findF_min (tal_G hx) hy hmin
        rw [ew] at ho
        obtain ⟨l, hn⟩ := next_some hb ho
        obtain ⟨_, _, wx, hwi, hk, hox, hxw, hxT, hnxT⟩ := next_facts hn
        obtain ⟨wr, hwr, ewx⟩ : ∃ wr : Wr, x.ws[i]? = some wr ∧ wr.2 = wx := by
          rw [ew]
          unfold wl at hwi
          rw [List.getElem?_map] at hwi
          cases hx : x0.ws[i]? with
          | none => rw [hx] at hwi; cases hwi
          | some wr => rw [hx] at hwi; exact ⟨wr, rfl, Option.some.inj hwi⟩
        subst ewx
        have hmem := List.mem_of_getElem? hwr
        have hli := live_lt hn
        refine ⟨_, rfl, p, d, _, rfl, ob, noP _, _, rfl, p, C, d, _, _, rfl, ob, T.cl, T.n1, fl_wishes _, _, rfl, x.aw, _, _, _, rfl, rfl, SqL.of hx.ty.hw, atI_nat (v := .ref wr.1) (by unfold wrefs; rw [List.getElem?_map, hwr]; rfl), _, rfl, p, C, d, _, _, rfl, ob, T.cl, T.n3, fl_taken _, wr.1, x.ad, wr.2, x.T, rfl, SqL.of (hx.ty.wo wr hmem), hx.ty.hd, hlen wr (by rw [← ew]; exact hmem), fun hk' => ?_, fun _ l7 H7 hl7 sm7 h7 => ⟨l7, _, _, .int l, rfl, rfl, SqL.of h7, ?_, ?_⟩⟩
        · rw [hk] at hk'; cases hk'
        · rw [hox]; rfl
        refine ⟨_, rfl, p, x, l, some (i : Int), rfl, hx.same sm7, hxT, hnxT, by rw [ew]; omega, by rw [eq]; simp; omega, fun pt x' H' hx' fr' ew' eq' ea' => ?_⟩
        have eT : x'.T = x.T ++ [l] := by rw [hx'.T, eq', lets_append, ← hx.T]; rfl
        refine ⟨live (wl x0.ws) x'.T, by rw [eT]; exact hli, x', ts ++ [(pt, l, i)], _, rfl, rfl, hx', (fr.trans (Fr.same sm7)).trans fr', by rw [ew', ew], by rw [eq', eq]; simp [np], by rw [ea', ea], fun r hr => ?_, by rw [eT]; simp; omega⟩
        rw [eT] at hr
        have := hrun _ (Run.step hn hr)
        simpa [nn] using this
      · have f0 : x.F ≠ [] := fun z => by rw [z] at c2; exact c2 rfl
        exact stop (next_none1 fun z => f0 (hF.mpr z))
    · have g0 : x.G = [] := by
        cases hg : x.G with
        | nil => rfl
        | cons u r => rw [hg] at c1; exact absurd rfl c1
      have ho : oneAt (wl x0.ws) x.T = none := hG.mp g0
      refine iteF (stop ?_)
      cases hb : brokenAt (wl x0.ws) x.T with
      | none => exact next_none2 hb ho
      | some i => exact next_none1 (by rw [hb]; simp)
end

/-- no lamp twice -/
def Dis (T : List Int) : Prop := ∀ (k : Nat) (l : Int), T[k]? = some l → ¬ l ∈ T.take k ∧ ¬ -l ∈ T.take k
def spForced2 (K : PySem.W.Frag) : Sp := fun vs H Q _ => ∃ (a b : Addr) (ws : List Wr) (qs : List Pr), vs = [.ref a, .ref b] ∧ SqL K H a (wrefs ws) ∧ WsOk H ws ∧ SqL K H b (refs qs) ∧ TrOk H qs ∧ Dis (lets qs) ∧ qs.length + ws.length ≤ 99000 ∧ total (wl ws) ≤ 100000 ∧
  ∀ (l : Addr) (rs : List Pr) (ts : List Nw) (H' : Hp), H l = none → Same H H' → H' l = some (.lst (refs (rs ++ ts.map np))) → TrOk H' (rs ++ ts.map np) → rs.map (·.2) = qs.map (·.2) → Run (wl ws) (lets qs) (ts.map nn) → Q (.ref l) H'
theorem lets_snd {qs rs : List Pr} (h : rs.map (·.2) = qs.map (·.2)) : lets rs = lets qs := by
  have : ∀ qs : List Pr, lets qs = (qs.map (·.2)).map (·.1) := fun qs => by simp [lets]
  rw [this, this, h]
section
variable {P : Program} {w : World} {K : PySem.W.Frag} {mg : Str → Option Value} {base : Heap} {C : Addr}
theorem ok_forced2 (T : TallyCls K mg C) (mk_Tally : Made P w K mg base 4 "Tally" C p_Tally_init (spInit K C)) (m_put : MCal P w K mg base 3 C "put" p_Tally_put (spPut C)) (m_go_on : MCal P w K mg base 4 C "go_on" p_Tally_go_on (spGoOn C)) (Df : Def K mg "forced" s_forced p_forced) : Cal P w K mg base 6 "forced" p_forced (spForced2 K) := by
  refine Df.cal sc_forced (fun vs H Q E h => ?_) (fun f cdv A outer s H vs Q E hr h => ?_)
  · obtain ⟨a, b, ws, qs, rfl, _⟩ := h; rfl
  · obtain ⟨a, b, ws, qs, rfl, hS, hW, hT, hO, hD, hz, hz2, q⟩ := h
    have hu := hu_of hr
    have cl := T.cl
    refine ⟨_, (pss_cons (ps_set (i := 2) sc_forced.nd rfl (Or.inl rfl) (pe_made mk_Tally hr (by decide) (pa_cons (pv 0) pa_nil)))
 (pss_cons (ps_for PassesOwn.never rfl (pi_list (pv 1)) (pg_name (i := 3) sc_forced.nd rfl (Or.inl rfl))
 (pss_one (ps_expr (pe_mdef m_put cl hr (by decide) (pv 2) (pa_cons (pe_ix ix_seq (pv 3) pe_int (fun _ _ => rfl)) (pa_cons (pe_ix ix_seq (pv 3) pe_int (fun _ _ => rfl)) pa_nil))))))
 (pss_cons (ps_expr (pe_mdef0 m_go_on cl hr (by decide) (pv 2)))
 (pss_one (ps_ret (pe_fld (pv 2) rfl)))))), ?_⟩
    have wlen : ∀ r ∈ ws, r.2.length ≤ 100000 := fun r hr => by
      obtain ⟨i, hi⟩ := List.mem_iff_getElem?.mp hr
      have h1 : (wl ws)[i]? = some r.2 := by unfold wl; rw [List.getElem?_map, hi]; rfl
      have h2 := total_take h1
      have h3 := total_le (wl ws) (i + 1)
      omega
    refine ⟨_, rfl, fun p dx hp hdx ndx => ?_⟩
    have sm0 : Same H (upd (upd H dx (.own p)) p (.ins C dx [])) := ((Same.refl H).upd hdx).upd hp
    refine ⟨p, a, dx, H, ws, rfl, ⟨sm0, upd_same, hp, (fun _ h => nomatch h), List.nodup_nil, Nat.le_refl _⟩, hS, hW, by omega, hz2, fun x0 H1 hx0 ew eq sm1 hf hm => ⟨rfl, ?_⟩⟩
    have hp0 : foot p x0 p := .inl rfl
    dsimp only [gName]
    refine rd_cut (fun σ Hx => ∃ (x : Tly) (rs : List Pr) (v : Option V), σ = [some (.ref a), some (.ref b), some (.ref p), v] ∧ Tal C Hx p x ∧ x.ws = ws ∧ x.qs = rs ∧ rs.map (·.2) = qs.map (·.2) ∧ Same H Hx ∧ ∀ b, foot p x b → H b = none) (fun N hN => ?_) ?_
    · refine ⟨_, rfl, b, rfl, ⟨_, sm1.seq hT⟩, for_list (K := K) (a := b) (xs := refs qs) (fun j σ Hx => ∃ (x : Tly) (v : Option V), σ = [some (.ref a), some (.ref b), some (.ref p), v] ∧ Tal C Hx p x ∧ x.ws = ws ∧ x.qs.map (·.2) = (qs.take j).map (·.2) ∧ Same H Hx ∧ ∀ b, foot p x b → H b = none)
        ⟨x0, none, rfl, hx0, ew, by rw [eq]; simp, sm1, hf⟩ (fun j σ Hx _ hh => by
          obtain ⟨_, _, _, _, _, _, e, _⟩ := hh
          exact e.seq hT) ?_ ?_⟩
      · rintro j y σ Hx hj ⟨x, v, rfl, hx, ew, eq, sm, hf⟩
        obtain ⟨t, htj, rfl⟩ := getV (f := fun q : Pr => V.ref q.1) hj
        have hmem := List.mem_of_getElem? htj
        have hjl : j < qs.length := (List.getElem?_eq_some_iff.mp htj).1
        have ht := sm _ _ (hO t hmem)
        obtain ⟨d, ob⟩ := hx.ty.ob
        have noP : (flds x).lookup ("put" : Str) = none := fl_no x (by decide +kernel) (by decide +kernel) (by decide +kernel) (by decide +kernel) (by decide +kernel) (by decide +kernel) (by decide +kernel) (by decide +kernel)
        have eT : x.T = (lets qs).take j := by rw [hx.T, lets_snd eq]; simp [lets, List.map_take]
        have hl : x.qs.length = j := by have := congrArg List.length eq; simp at this; omega
        obtain ⟨d1, d2⟩ := hD j t.2.1 (by unfold lets; rw [List.getElem?_map, htj]; rfl)
        refine ⟨_, rfl, p, d, _, rfl, ob, noP, _, rfl, .inr (.inl ⟨t.1, _, _, _, rfl, rfl, SqT.of ht, rfl, _, rfl, .inr (.inl ⟨t.1, _, _, _, rfl, rfl, SqT.of ht, rfl, p, x, t.2.1, t.2.2, rfl, hx, by rw [eT]; exact d1, by rw [eT]; exact d2, by rw [ew]; omega, by omega, fun pt x' H' hx' fr ew' eq' _ => ⟨x', _, rfl, hx', by rw [ew', ew], ?_, ?_, ?_⟩⟩)⟩)⟩
        · rw [eq', List.map_append, eq, List.take_add_one, htj]; simp
        · intro b o hb
          exact fr.out b o (sm b o hb) fun z => by rw [hf b z] at hb; cases hb
        · intro b hb
          rcases fr.inn b hb with z | z
          · exact hf b z
          · exact sm.free z
      · rintro σ Hx ⟨x, v, rfl, hx, ew, eq, sm, hf⟩
        rw [refs_len, List.take_length] at eq
        exact hN _ _ ⟨x, x.qs, v, rfl, hx, ew, rfl, eq, sm, hf⟩
    rintro σ H2 ⟨x, rs, v, rfl, hx, ew, eq, er, sm, hf⟩
    obtain ⟨d, ob⟩ := hx.ty.ob
    have noG : (flds x).lookup ("go_on" : Str) = none := fl_no x (by decide +kernel) (by decide +kernel) (by decide +kernel) (by decide +kernel) (by decide +kernel) (by decide +kernel) (by decide +kernel) (by decide +kernel)
    have hl : x.qs.length = qs.length := by have := congrArg List.length er; rw [eq]; simpa using this
    refine ⟨_, rfl, p, d, _, rfl, ob, noG, p, x, rfl, hx, by rw [ew]; omega, by rw [ew]; exact wlen, fun ts x' H' hx' fr ew' eq' ea' hrun => ?_⟩
    obtain ⟨d', ob'⟩ := hx'.ty.ob
    have hat := hf _ (foot_t (p := p) (x := x))
    refine ⟨_, rfl, p, C, d', _, _, rfl, ob', T.cl, T.n2, fl_trail x', ?_⟩
    rw [ea']
    refine q x.at_ rs ts H' hat (fun b o hb => fr.out b o (sm b o hb) fun z => by rw [hf b z] at hb; cases hb) ?_ ?_ er ?_
    · rw [← ea', hx'.ty.ht, eq', eq]
    · rw [← eq, ← eq']; exact hx'.ty.to
    · rw [← ew, ← lets_snd er, ← eq, ← hx.T]; exact hrun
end

/-- what the law gathers -/
def gath (ws ls : List Int) : List Int := (once ws).filter fun n => !decide (n ∈ ls) && !decide (-n ∈ ls)
theorem gath_snoc (ws ls : List Int) (x : Int) : gath (ws ++ [x]) ls = if x ∈ ls then gath ws ls else if -x ∈ ls then gath ws ls else if x ∈ gath ws ls then gath ws ls else gath ws ls ++ [x] := by
  unfold gath
  rw [once_snoc]
  unfold onceF
  by_cases h1 : x ∈ ls
  · rw [if_pos h1]
    by_cases h : x ∈ once ws
    · rw [if_pos h]
    · rw [if_neg h, List.filter_append]; simp [h1]
  · rw [if_neg h1]
    by_cases h2 : -x ∈ ls
    · rw [if_pos h2]
      by_cases h : x ∈ once ws
      · rw [if_pos h]
      · rw [if_neg h, List.filter_append]; simp [h2]
    · rw [if_neg h2]
      by_cases h : x ∈ once ws
      · rw [if_pos h, if_pos]
        exact List.mem_filter.mpr ⟨h, by simp [h1, h2]⟩
      · rw [if_neg h, if_neg (fun z => h (List.mem_filter.mp z).1), List.filter_append]; simp [h1, h2]
theorem gath_open {ws ls : List Int} (h : keptBy ws ls = false) : gath ws ls = openOf ws ls := by
  unfold gath openOf
  refine List.filter_congr fun n hn => ?_
  have : ¬ n ∈ ls := by
    intro z
    unfold keptBy at h
    rw [List.any_eq_false] at h
    exact h n (mem_once.mp hn) (decide_eq_true z)
  simp [this]
theorem gath_len (ws ls : List Int) : (gath ws ls).length ≤ ws.length := Nat.le_trans (List.length_filter_le _ _) (once_len ws)

theorem inV_ints (x : Int) (ls : List Int) : inV (.int x) (ls.map V.int) = decide (x ∈ ls) := by
  unfold inV
  rw [List.any_map, Bool.eq_iff_iff, List.any_eq_true]
  constructor
  · rintro ⟨y, hy, e⟩
    have e' : (y == x) = true := e
    rw [← eq_of_beq e']; exact decide_eq_true hy
  · intro h
    exact ⟨x, of_decide_eq_true h, by show (x == x) = true; simp⟩
theorem flat_ints (ls : List Int) : (ls.map V.int).all flatV = true := by
  rw [List.all_map]; simp [Function.comp_def, flatV]
theorem if_in {x : Int} {ls : List Int} {A B : Prop} (h1 : x ∈ ls → A) (h2 : ¬ x ∈ ls → B) : if (if false = true then !inV (.int x) (ls.map V.int) else inV (.int x) (ls.map V.int)) = true then A else B := by
  rw [inV_ints, if_neg Bool.false_ne_true]
  exact ite2 (fun c => h1 (of_decide_eq_true c)) fun c => h2 fun z => c (decide_eq_true z)
theorem if_notIn {x : Int} {ls : List Int} {A B : Prop} (h1 : ¬ x ∈ ls → A) (h2 : x ∈ ls → B) : if (if true = true then !inV (.int x) (ls.map V.int) else inV (.int x) (ls.map V.int)) = true then A else B := by
  rw [inV_ints, if_pos rfl]
  refine ite2 (fun c => h1 ?_) fun c => h2 ?_
  · intro z; rw [decide_eq_true z] at c; cases c
  · by_cases z : x ∈ ls
    · exact z
    · exact absurd (by rw [decide_eq_false z]; rfl) c

def spLOpen (K : PySem.W.Frag) : Sp := fun vs H Q _ => ∃ (a b : Addr) (ns ls : List Int), vs = [.ref a, .ref b] ∧ SqL K H a (ns.map V.int) ∧ SqL K H b (ls.map V.int) ∧ ns.length ≤ 100000 ∧ (keptBy ns ls = true → ∀ H', Same H H' → Q .non H') ∧
  (keptBy ns ls = false → ∀ l H', H l = none → Same H H' → H' l = some (.lst ((openOf ns ls).map V.int)) → Q (.ref l) H')
def bI : Option Nat → Int
  | none => -1
  | some i => i
def spLBroken (K : PySem.W.Frag) : Sp := fun vs H Q _ => ∃ (a b : Addr) (ws : List Wr) (T : List Int), vs = [.ref a, .ref b] ∧ SqL K H a (wrefs ws) ∧ WsOk H ws ∧ SqL K H b (T.map V.int) ∧ ws.length ≤ 100000 ∧ (∀ p ∈ ws, p.2.length ≤ 100000) ∧ ∀ H', Same H H' → Q (.int (bI (brokenAt (wl ws) T))) H'
def spLNext (K : PySem.W.Frag) : Sp := fun vs H Q _ => ∃ (a b : Addr) (ws : List Wr) (T : List Int), vs = [.ref a, .ref b] ∧ SqL K H a (wrefs ws) ∧ WsOk H ws ∧ SqL K H b (T.map V.int) ∧ ws.length ≤ 100000 ∧ (∀ p ∈ ws, p.2.length ≤ 100000) ∧
  (nextOf (wl ws) T = none → ∀ H', Same H H' → Q .non H') ∧ (∀ x i, nextOf (wl ws) T = some (x, i) → ∀ p H', H p = none → Same H H' → H' p = some (.tup [.int x, .int i]) → Q (.ref p) H')
theorem find_first {W : List (List Int)} {T : List Int} {k i : Nat} {w : List Int} (hw : W[i]? = some w) (hc : cnt w T = some k) (hno : ∀ j v, j < i → W[j]? = some v → cnt v T ≠ some k) : (W.findIdx? fun w => decide (cnt w T = some k)) = some i := by
  refine List.findIdx?_eq_some_iff_getElem.mpr ?_
  obtain ⟨hi, e⟩ := List.getElem?_eq_some_iff.mp hw
  refine ⟨hi, by rw [e]; exact decide_eq_true hc, fun j hj => ?_⟩
  have := hno j W[j] hj (by simp)
  simp [this]
theorem find_none {W : List (List Int)} {T : List Int} {k n : Nat} (hn : W.length ≤ n) (hno : ∀ j v, j < n → W[j]? = some v → cnt v T ≠ some k) : (W.findIdx? fun w => decide (cnt w T = some k)) = none := by
  rw [List.findIdx?_eq_none_iff]
  intro w hw
  obtain ⟨j, hj, rfl⟩ := List.mem_iff_getElem.mp hw
  exact decide_eq_false (hno j _ (by omega) (by simp))
section
variable {P : Program} {w : World} {K : PySem.W.Frag} {mg : Str → Option Value} {base : Heap}
theorem ok_l_open (Df : Def K mg "_law_open" s_l_open p_l_open) : Cal P w K mg base 1 "_law_open" p_l_open (spLOpen K) := by
  refine Df.cal sc_l_open (fun vs H Q E h => ?_) (fun f cdv A outer s H vs Q E hr h => ?_)
  · obtain ⟨a, b, ns, ls, rfl, _⟩ := h; rfl
  · obtain ⟨a, b, ns, ls, rfl, hS, hL, hz, q1, q2⟩ := h
    refine ⟨_, (pss_cons (ps_set (i := 2) sc_l_open.nd rfl (Or.inl rfl) (pe_lst pa_nil))
 (pss_cons (ps_for PassesOwn.never rfl (pi_list (pv 0)) (pg_name (i := 3) sc_l_open.nd rfl (Or.inl rfl))
 (pss_cons (ps_if (pt_cmpR op_in_seq (pv 3) (pv 1) (by with_unfolding_all rfl))
 (pss_one (ps_ret pe_non))
 pss_nil)
 (pss_one (ps_if (PW.pt (pw_and (pt_cmpR op_notIn_seq (pe_un un_neg (pv 3)) (pv 1) (by with_unfolding_all rfl)) (pw_and1 (pt_cmpR op_notIn_seq (pv 3) (pv 2) (by with_unfolding_all rfl)))))
 (pss_one (ps_expr (pe_bm PySem.F.plainAttrs_list PySem.F.slot_list_append PySem.F.type_list_append mt_append (pv 2) (pa_cons (pv 3) pa_nil))))
 pss_nil))))
 (pss_one (ps_ret (pv 2))))), ?_⟩
    refine ⟨by decide, fun l hl => ?_⟩
    refine ⟨_, rfl, a, rfl, ⟨_, ((Same.refl H).upd hl).seq hS⟩, for_list (K := K) (a := a) (xs := ns.map V.int) (fun i σ H2 => ∃ v3, σ = [some (.ref a), some (.ref b), some (.ref l), v3] ∧ Same H H2 ∧ H2 l = some (.lst ((gath (ns.take i) ls).map V.int)) ∧ keptBy (ns.take i) ls = false)
      ⟨none, rfl, (Same.refl H).upd hl, by rw [upd_same]; rfl, by simp [keptBy]⟩ (fun i σ H2 _ ⟨_, _, e, _⟩ => e.seq hS) ?_ ?_⟩
    · rintro i y σ H2 hi ⟨v3, rfl, sm, h2, hk⟩
      obtain ⟨n, hni, rfl⟩ := getV hi
      have et : ns.take (i + 1) = ns.take i ++ [n] := by rw [List.take_add_one, hni]; rfl
      have ek : keptBy (ns.take (i + 1)) ls = (keptBy (ns.take i) ls || decide (n ∈ ls)) := by rw [et]; unfold keptBy; rw [List.any_append]; simp
      refine ⟨_, rfl, _, rfl, b, _, rfl, .inl (sm.seq hL), rfl, flat_ints _, _, rfl, if_in (fun hin => ?_) (fun hni2 => ?_)⟩
      · refine q1 ?_ H2 sm
        unfold keptBy
        exact List.any_eq_true.mpr ⟨n, List.mem_of_getElem? hni, decide_eq_true hin⟩
      · have hk' : keptBy (ns.take (i + 1)) ls = false := by rw [ek, hk, decide_eq_false hni2]; rfl
        have eg := gath_snoc (ns.take i) ls n
        rw [← et, if_neg hni2] at eg
        refine ⟨_, rfl, n, rfl, _, rfl, b, _, rfl, .inl (sm.seq hL), rfl, flat_ints _, _, rfl, if_notIn (fun hm => ?_) (fun hm => ?_)⟩
        · rw [if_neg hm] at eg
          refine ⟨_, rfl, _, rfl, l, _, rfl, .inl (SqL.of h2), rfl, flat_ints _, _, rfl, if_notIn (fun hg => ?_) (fun hg => ?_)⟩
          · rw [if_neg hg] at eg
            refine ⟨_, rfl, .inl ⟨rfl, _, SqL.of h2⟩, _, rfl, l, _, _, rfl, rfl, h2, small6 (by have := gath_len (ns.take i) ls; have := List.length_take_le i ns; simp at *; omega), ?_⟩
            refine ⟨_, rfl, sm.upd hl, ?_, hk'⟩
            rw [upd_same, eg]; simp
          · rw [if_pos hg] at eg
            exact ⟨_, rfl, sm, by rw [eg]; exact h2, hk'⟩
        · rw [if_pos hm] at eg
          exact iteF ⟨_, rfl, sm, by rw [eg]; exact h2, hk'⟩
    · rintro σ H2 ⟨v3, rfl, sm, h2, hk⟩
      have e : ns.take (ns.map V.int).length = ns := by simp
      rw [e] at h2 hk
      refine ⟨_, rfl, q2 hk l H2 hl sm ?_⟩
      rw [h2, gath_open hk]
theorem ok_l_broken_at (B : Blt mg) (c_l_open : Cal P w K mg base 1 "_law_open" p_l_open (spLOpen K)) (Df : Def K mg "_law_broken_at" s_l_broken_at p_l_broken_at) : Cal P w K mg base 2 "_law_broken_at" p_l_broken_at (spLBroken K) := by
  refine Df.cal sc_l_broken_at (fun vs H Q E h => ?_) (fun f cdv A outer s H vs Q E hr h => ?_)
  · obtain ⟨a, b, ws, T, rfl, _⟩ := h; rfl
  · obtain ⟨a, b, ws, T, rfl, hS, hW, hT, hz, hz2, q⟩ := h
    refine ⟨_, (pss_cons (ps_for PassesOwn.never rfl (pi_range1 (by rfl) B.range_ (pa_cons (pe_callB call_len_seq (by rfl) B.len_ PySem.boot_len (pa_cons (pv 0) pa_nil)) pa_nil)) (pg_name (i := 2) sc_l_broken_at.nd rfl (Or.inl rfl))
 (pss_one (ps_if (pt_cmpR (op_eqL (hu0 hr)) (pe_def c_l_open hr (by decide) (pa_cons (pe_ix ix_list (pv 0) (pv 2) (fun _ _ => rfl)) (pa_cons (pv 1) pa_nil))) (pe_lst pa_nil) (nomark _))
 (pss_one (ps_ret (pv 2)))
 pss_nil)))
 (pss_one (ps_ret (pe_un un_neg pe_int)))), ?_⟩
    have wl0 := wrefs_len ws
    refine ⟨_, rfl, a, _, rfl, .inl hS, _, rfl, by omega, by omega, ?_⟩
    have en : (((wrefs ws).length : Nat) : Int).toNat = ws.length := by omega
    rw [en]
    refine for_range (fun i σ H2 => ∃ v2, σ = [some (.ref a), some (.ref b), v2] ∧ Same H H2 ∧ ∀ j v, j < i → (wl ws)[j]? = some v → cnt v T ≠ some 0) ⟨none, rfl, Same.refl _, fun j v h => by omega⟩ ?_ ?_
    · rintro i σ H2 hi ⟨v2, rfl, sm, hno⟩
      obtain ⟨wr, hwr⟩ : ∃ wr, ws[i]? = some wr := ⟨ws[i], by simp⟩
      have hmem := List.mem_of_getElem? hwr
      have hwl : (wl ws)[i]? = some wr.2 := by unfold wl; rw [List.getElem?_map, hwr]; rfl
      have step : ∀ (c : cnt wr.2 T ≠ some 0), ∀ j v, j < i + 1 → (wl ws)[j]? = some v → cnt v T ≠ some 0 := fun c j v hj hv => by
        by_cases e : j = i
        · subst e; rw [hwl] at hv; cases hv; exact c
        · exact hno j v (by omega) hv
      have ga : atI (wrefs ws) (0 + (i : Int)) = some (.ref wr.1) := by
        rw [Int.zero_add]; exact atI_nat (by unfold wrefs; rw [List.getElem?_map, hwr]; rfl)
      refine ⟨_, rfl, _, rfl, a, _, _, _, rfl, rfl, sm.seq hS, ga, _, rfl, wr.1, b, wr.2, T, rfl, SqL.of (sm _ _ (hW wr hmem)), sm.seq hT, hz2 wr hmem, fun hk H3 sm3 => ?_, fun hk l H3 hl sm3 h3 => ?_⟩
      · have ec : cnt wr.2 T ≠ some 0 := by unfold cnt; rw [if_pos hk]; simp
        refine ⟨by decide, fun pn hpn => .inr ⟨rfl, ⟨pn, _, rfl, SqL.of upd_same⟩, _, rfl, iteF ⟨_, rfl, (sm.trans sm3).upd ((sm.trans sm3).free hpn), step ec⟩⟩⟩
      · have ec : cnt wr.2 T = some (openOf wr.2 T).length := by unfold cnt; rw [if_neg (by simp [hk])]
        refine ⟨by decide, fun pn hpn => .inl ⟨((openOf wr.2 T).map V.int).isEmpty, ⟨l, pn, _, [], rfl, rfl, SqL.of (by rw [upd_ne (ne_of_none h3 hpn)]; exact h3), SqL.of upd_same, .inl ⟨rfl, rfl⟩⟩, _, rfl, ?_⟩⟩
        have sm4 : Same H (upd H3 pn (.lst [])) := (sm.trans sm3).upd ((sm.trans sm3).free hpn)
        cases ho : openOf wr.2 T with
        | nil =>
          have e0 : brokenAt (wl ws) T = some i := find_first hwl (by rw [ec, ho]; rfl) hno
          rw [e0] at q
          refine iteT ⟨_, rfl, ?_⟩
          have := q _ sm4
          rw [Int.zero_add]; exact this
        | cons x xs => exact iteF ⟨_, rfl, sm4, step (by rw [ec, ho]; simp)⟩
    · rintro σ H2 ⟨v2, rfl, sm, hno⟩
      have e0 : brokenAt (wl ws) T = none := find_none (by rw [wl_len]; exact Nat.le_refl _) hno
      rw [e0] at q
      exact ⟨_, rfl, q _ sm⟩
theorem ok_l_next (B : Blt mg) (c_l_open : Cal P w K mg base 1 "_law_open" p_l_open (spLOpen K)) (c_l_broken_at : Cal P w K mg base 2 "_law_broken_at" p_l_broken_at (spLBroken K)) (Df : Def K mg "_law_next" s_l_next p_l_next) : Cal P w K mg base 3 "_law_next" p_l_next (spLNext K) := by
  refine Df.cal sc_l_next (fun vs H Q E h => ?_) (fun f cdv A outer s H vs Q E hr h => ?_)
  · obtain ⟨a, b, ws, T, rfl, _⟩ := h; rfl
  · obtain ⟨a, b, ws, T, rfl, hS0, hW0, hT0, hz, hz2, q1, q2⟩ := h
    refine ⟨_, (pss_cons (ps_if (pt_cmpR op_ge (pe_def c_l_broken_at hr (by decide) (pa_cons (pv 0) (pa_cons (pv 1) pa_nil))) pe_int (nomark _))
 (pss_one (ps_ret pe_non))
 pss_nil)
 (pss_cons (ps_for PassesOwn.never rfl (pi_range1 (by rfl) B.range_ (pa_cons (pe_callB call_len_seq (by rfl) B.len_ PySem.boot_len (pa_cons (pv 0) pa_nil)) pa_nil)) (pg_name (i := 2) sc_l_next.nd rfl (Or.inl rfl))
 (pss_cons (ps_set (i := 3) sc_l_next.nd rfl (Or.inl rfl) (pe_def c_l_open hr (by decide) (pa_cons (pe_ix ix_list (pv 0) (pv 2) (fun _ _ => rfl)) (pa_cons (pv 1) pa_nil))))
 (pss_one (ps_if (PW.pt (pw_and (pt_cmpR op_notN (pv 3) pe_non (nomark _)) (pw_and1 (pt_cmpR op_eq (pe_callB call_len_seq (by rfl) B.len_ PySem.boot_len (pa_cons (pv 3) pa_nil)) pe_int (nomark _)))))
 (pss_one (ps_ret (pe_tup (pa_cons (pe_ix ix_seq (pv 3) pe_int (fun _ _ => rfl)) (pa_cons (pv 2) pa_nil)))))
 pss_nil))))
 (pss_one (ps_ret pe_non)))), ?_⟩
    refine ⟨_, rfl, _, rfl, a, b, ws, T, rfl, hS0, hW0, hT0, hz, hz2, fun H1 sm1 => ?_⟩
    have hS := sm1.seq hS0
    have hW := hW0.mono sm1
    have hT := sm1.seq hT0
    refine ⟨_, _, rfl, rfl, _, rfl, ?_⟩
    cases hb : brokenAt (wl ws) T with
    | some i =>
      refine ite2 (fun _ => q1 (next_none1 (by rw [hb]; simp)) _ sm1) fun c => absurd (decide_eq_true ?_) c
      show (0 : Int) ≤ (i : Int)
      omega
    | none =>
      refine ite2 (fun c => absurd (of_decide_eq_true c) ?_) fun _ => ?_
      · show ¬ (0 : Int) ≤ -1
        omega
      have wl0 := wrefs_len ws
      refine ⟨_, rfl, a, _, rfl, .inl hS, _, rfl, by omega, by omega, ?_⟩
      have en : (((wrefs ws).length : Nat) : Int).toNat = ws.length := by omega
      rw [en]
      refine for_range (fun i σ H2 => ∃ v2 v3, σ = [some (.ref a), some (.ref b), v2, v3] ∧ Same H1 H2 ∧ ∀ j v, j < i → (wl ws)[j]? = some v → cnt v T ≠ some 1) ⟨none, none, rfl, Same.refl _, fun j v h => by omega⟩ ?_ ?_
      · rintro i σ H2 hi ⟨v2, v3, rfl, sm, hno⟩
        obtain ⟨wr, hwr⟩ : ∃ wr, ws[i]? = some wr := ⟨ws[i], by simp⟩
        have hmem := List.mem_of_getElem? hwr
        have hwl : (wl ws)[i]? = some wr.2 := by unfold wl; rw [List.getElem?_map, hwr]; rfl
        have step : ∀ (c : cnt wr.2 T ≠ some 1), ∀ j v, j < i + 1 → (wl ws)[j]? = some v → cnt v T ≠ some 1 := fun c j v hj hv => by
          by_cases e : j = i
          · subst e; rw [hwl] at hv; cases hv; exact c
          · exact hno j v (by omega) hv
        have ga : atI (wrefs ws) (0 + (i : Int)) = some (.ref wr.1) := by
          rw [Int.zero_add]; exact atI_nat (by unfold wrefs; rw [List.getElem?_map, hwr]; rfl)
        refine ⟨_, rfl, _, rfl, a, _, _, _, rfl, rfl, sm.seq hS, ga, _, rfl, wr.1, b, wr.2, T, rfl, SqL.of (sm _ _ (hW wr hmem)), sm.seq hT, hz2 wr hmem, fun hk H3 sm3 => ?_, fun hk l H3 hl sm3 h3 => ?_⟩
        · have ec : cnt wr.2 T ≠ some 1 := by unfold cnt; rw [if_pos hk]; simp
          exact ⟨_, rfl, rfl, _, rfl, iteF (iteF ⟨_, _, rfl, sm.trans sm3, step ec⟩)⟩
        · have ec : cnt wr.2 T = some (openOf wr.2 T).length := by unfold cnt; rw [if_neg (by simp [hk])]
          refine ⟨_, rfl, rfl, _, rfl, iteT ⟨_, rfl, l, _, rfl, .inl (SqL.of h3), ?_⟩⟩
          have sm4 := sm.trans sm3
          refine ⟨rfl, _, rfl, ite2 (fun c => ?_) fun c => ?_⟩
          · have c' : (openOf wr.2 T).length = 1 := by
              have := of_decide_eq_true c
              simp at this; omega
            obtain ⟨x, hx⟩ := List.length_eq_one_iff.mp c'
            have ho : oneAt (wl ws) T = some i := find_first hwl (by rw [ec, c']) hno
            have hn : nextOf (wl ws) T = some (x, i) := by
              obtain ⟨y, hy⟩ := next_some hb ho
              obtain ⟨_, _, w', hw', _, hox, _⟩ := next_facts hy
              rw [hwl] at hw'; cases hw'
              rw [hx] at hox
              have : x = y := by simpa using hox
              rw [this]; exact hy
            rw [hx] at h3
            refine ⟨_, rfl, .inl ⟨l, _, _, .int x, rfl, rfl, SqL.of h3, rfl, _, rfl, len2, fun pt hpt => ?_⟩⟩
            have := q2 x i hn pt _ (((sm1.trans sm4)).free hpt) ((sm1.trans sm4).upd ((sm1.trans sm4).free hpt)) upd_same
            rw [Int.zero_add]; exact this
          · refine ⟨_, _, rfl, sm4, step ?_⟩
            rw [ec]
            intro z
            apply c
            apply decide_eq_true
            have := Option.some.inj z
            simp [this]
      · rintro σ H2 ⟨v2, v3, rfl, sm, hno⟩
        have e0 : oneAt (wl ws) T = none := find_none (by rw [wl_len]; exact Nat.le_refl _) hno
        exact q1 (next_none2 hb e0) _ (sm1.trans sm)
end

/-! ### wishes drawn -/
def Lm (lo c : Nat) (x : Int) : Prop := lo < x.natAbs ∧ x.natAbs ≤ c
def WsDrawn (c : Nat) (ws : List Wr) : Prop := ∀ wr ∈ ws, wr.2 ≠ [] ∧ wr.2.length ≤ 3 ∧ ∀ x ∈ wr.2, Lm 0 c x
def spWishes (K : PySem.W.Frag) : Sp := fun vs H Q _ => ∃ (a : Addr) (cells : List Int) (c : Nat), vs = [.ref a, .int c] ∧ SqL K H a (cells.map V.int) ∧ 0 < c ∧ c ≤ 1000 ∧ cells.length ≤ 1000 ∧
  ∀ (l : Addr) (ws : List Wr) (H' : Hp), H l = none → Same H H' → H' l = some (.lst (wrefs ws)) → WsOk H' ws → WsDrawn c ws → (∀ wr ∈ ws, H wr.1 = none ∧ wr.1 ≠ l) → total (wl ws) = cells.length → Q (.ref l) H'
theorem wrefs_snoc (ws : List Wr) (p : Wr) : wrefs (ws ++ [p]) = wrefs ws ++ [V.ref p.1] := by simp [wrefs]
theorem wl_snoc (ws : List Wr) (p : Wr) : wl (ws ++ [p]) = wl ws ++ [p.2] := by simp [wl]
theorem total_snoc (W : List (List Int)) (v : List Int) : total (W ++ [v]) = total W + v.length := by simp [total]
theorem len_le_total : ∀ {W : List (List Int)}, (∀ v ∈ W, v ≠ []) → W.length ≤ total W
  | [], _ => Nat.zero_le _
  | v :: W, h => by
    have h1 := len_le_total fun u hu => h u (List.mem_cons_of_mem _ hu)
    have h2 : 0 < v.length := List.length_pos_iff.mpr (h v List.mem_cons_self)
    simp only [total, List.map_cons, List.sum_cons, List.length_cons] at h1 ⊢
    omega
theorem drawn_len {c : Nat} {ws : List Wr} (h : WsDrawn c ws) : ws.length ≤ total (wl ws) := by
  have := len_le_total (W := wl ws) fun v hv => by
    obtain ⟨wr, hw, rfl⟩ := List.mem_map.mp hv
    exact (h wr hw).1
  rw [wl_len] at this; exact this
section
variable {P : Program} {w : World} {K : PySem.W.Frag} {mg : Str → Option Value} {base : Heap}
theorem ok_l_wishes_of (B : Blt mg) (Df : Def K mg "_law_wishes_of" s_l_wishes_of p_l_wishes_of) : Cal P w K mg base 1 "_law_wishes_of" p_l_wishes_of (spWishes K) := by
  refine Df.cal sc_l_wishes_of (fun vs H Q E h => ?_) (fun f cdv A outer s H vs Q E hr h => ?_)
  · obtain ⟨a, cells, c, rfl, _⟩ := h; rfl
  · obtain ⟨a, cells, c, rfl, hS, hc0, hc1, hz, q⟩ := h
    refine ⟨_, (pss_cons (ps_set (i := 2) sc_l_wishes_of.nd rfl (Or.inl rfl) (pe_lst pa_nil))
 (pss_cons (ps_set (i := 3) sc_l_wishes_of.nd rfl (Or.inl rfl) (pe_lst pa_nil))
 (pss_cons (ps_for PassesOwn.never rfl (pi_range1 (by rfl) B.range_ (pa_cons (pe_callB call_len_seq (by rfl) B.len_ PySem.boot_len (pa_cons (pv 0) pa_nil)) pa_nil)) (pg_name (i := 4) sc_l_wishes_of.nd rfl (Or.inl rfl))
 (pss_cons (ps_set (i := 5) sc_l_wishes_of.nd rfl (Or.inl rfl) (pe_ix ix_seq (pv 0) (pv 4) (fun _ _ => rfl)))
 (pss_cons (ps_set (i := 6) sc_l_wishes_of.nd rfl (Or.inl rfl) (pe_op op_sub pe_int (pe_op op_mul pe_int (pe_op op_mod (pv 5) pe_int))))
 (pss_cons (ps_set (i := 3) sc_l_wishes_of.nd rfl (Or.inl rfl) (pe_op op_cat (pv 3) (pe_lst (pa_cons (pe_op op_mul (pe_op op_add pe_int (pe_op op_mod (pe_op op_add (pe_op op_fdiv (pv 5) pe_int) (pv 4)) (pv 1))) (pv 6)) pa_nil))))
 (pss_one (ps_if (PW.pt (pw_or (pt_cmpR op_gt (pe_callB call_len_seq (by rfl) B.len_ PySem.boot_len (pa_cons (pv 3) pa_nil)) (pe_op op_add pe_int (pe_op op_mod (pe_op op_fdiv (pv 5) pe_int) pe_int)) (nomark _)) (pw_or1 (pt_cmpR op_eq (pe_op op_mod (pe_op op_fdiv (pv 5) pe_int) pe_int) pe_int (nomark _)))))
 (pss_cons (ps_expr (pe_bm PySem.F.plainAttrs_list PySem.F.slot_list_append PySem.F.type_list_append mt_append (pv 2) (pa_cons (pv 3) pa_nil)))
 (pss_one (ps_set (i := 3) sc_l_wishes_of.nd rfl (Or.inl rfl) (pe_lst pa_nil))))
 pss_nil))))))
 (pss_cons (ps_if (pt_cmpR (op_neL (hu0 hr)) (pv 3) (pe_lst pa_nil) (nomark _))
 (pss_one (ps_expr (pe_bm PySem.F.plainAttrs_list PySem.F.slot_list_append PySem.F.type_list_append mt_append (pv 2) (pa_cons (pv 3) pa_nil))))
 pss_nil)
 (pss_one (ps_ret (pv 2))))))), ?_⟩
    refine ⟨by decide, fun l hl => ⟨by decide, fun cw0 hcw0 => ?_⟩⟩
    have n0 : cw0 ≠ l := (ne_of_none upd_same hcw0).symm
    have hcw0' : H cw0 = none := by rw [upd_ne n0] at hcw0; exact hcw0
    have sm0 : Same H (upd (upd H l (.lst [])) cw0 (.lst [])) := ((Same.refl H).upd hl).upd hcw0'
    have hlm : (cells.map V.int).length = cells.length := by simp
    refine ⟨_, rfl, a, _, rfl, .inl (sm0.seq hS), _, rfl, by omega, by omega, ?_⟩
    have en : (((cells.map V.int).length : Nat) : Int).toNat = cells.length := by omega
    rw [en]
    refine for_range (fun i σ H2 => ∃ (cw : Addr) (cur : List Int) (ws : List Wr) (o4 o5 o6 : Option V), σ = [some (.ref a), some (.int c), some (.ref l), some (.ref cw), o4, o5, o6] ∧ Same H H2 ∧ H2 l = some (.lst (wrefs ws)) ∧ WsOk H2 ws ∧ H2 cw = some (.lst (cur.map V.int)) ∧ cw ≠ l ∧ H cw = none ∧
      (∀ wr ∈ ws, H wr.1 = none ∧ wr.1 ≠ l) ∧ WsDrawn c ws ∧ cur.length ≤ 2 ∧ (∀ x ∈ cur, Lm 0 c x) ∧ total (wl ws) + cur.length = i)
      ⟨cw0, [], [], none, none, none, rfl, sm0, by rw [upd_ne n0.symm, upd_same]; rfl, (fun _ h => nomatch h), by rw [upd_same]; rfl, n0, hcw0', (fun _ h => nomatch h), (fun _ h => nomatch h), by simp, (fun _ h => nomatch h), rfl⟩ ?_ ?_
    · rintro i σ H2 hi ⟨cw, cur, ws, o4, o5, o6, rfl, sm, h2, hW, hcw, ncl, hcwH, hfr, hdr, hcl, hco, htot⟩
      have ga : atI (cells.map V.int) (0 + (i : Int)) = some (.int (cells.getD i 0)) := by
        rw [Int.zero_add]; exact atI_nat (by simp [hi])
      generalize cells.getD i 0 = cell at ga
      have hlw := drawn_len hdr
      refine ⟨_, rfl, _, rfl, .inl ⟨a, _, _, _, rfl, rfl, sm.seq hS, ga, ?_⟩⟩
      refine ⟨_, rfl, _, _, rfl, rfl, (by show (0 : Int) < 2; decide), _, _, rfl, rfl, .inl ⟨by decide, by decide⟩, _, _, rfl, rfl, ?_⟩
      have hz1 : 0 ≤ (cell / 20 + (0 + (i : Int))) % (c : Int) ∧ (cell / 20 + (0 + (i : Int))) % (c : Int) < c := ⟨Int.emod_nonneg _ (by omega), Int.emod_lt_of_pos _ (by omega)⟩
      have hz2 : 0 ≤ cell % 2 ∧ cell % 2 < 2 := ⟨Int.emod_nonneg _ (by decide), Int.emod_lt_of_pos _ (by decide)⟩
      have hL : Lm 0 c ((1 + (cell / 20 + (0 + (i : Int))) % (c : Int)) * (1 - 2 * (cell % 2))) := by
        generalize (cell / 20 + (0 + (i : Int))) % (c : Int) = z1 at hz1
        generalize cell % 2 = z2 at hz2
        have : z2 = 0 ∨ z2 = 1 := by omega
        unfold Lm
        rcases this with rfl | rfl <;> constructor <;> omega
      refine ⟨_, rfl, _, rfl, _, _, rfl, rfl, ⟨by decide, by decide⟩, _, rfl, _, _, rfl, rfl, _, rfl, _, _, rfl, rfl, (by show (0 : Int) < (c : Int); omega), _, _, rfl, rfl, _, rfl, _, _, rfl, rfl, .inr ⟨by omega, by omega⟩, len1, fun pl hpl => ?_⟩
      dsimp only
      generalize (1 + (cell / 20 + (0 + (i : Int))) % (c : Int)) * (1 - 2 * (cell % 2)) = L at hL
      have npl : cw ≠ pl := ne_of_none hcw hpl
      refine ⟨cw, pl, _, _, rfl, rfl, by rw [upd_ne npl]; exact hcw, upd_same, by have := sizeLine_eq; simp; omega, fun nw hnw => ?_⟩
      have hnw2 : H2 nw = none := by
        by_cases e : nw = pl
        · rw [e, upd_same] at hnw; cases hnw
        · rw [upd_ne e] at hnw; exact hnw
      have hnwH : H nw = none := sm.free hnw2
      have nwl : nw ≠ l := (ne_of_none h2 hnw2).symm
      have nlp : l ≠ pl := ne_of_none h2 hpl
      have sm3 : Same H (upd (upd H2 pl (.lst [.int L])) nw (.lst (cur.map V.int ++ [.int L]))) := (sm.upd (sm.free hpl)).upd hnwH
      have h3l : upd (upd H2 pl (.lst [.int L])) nw (.lst (cur.map V.int ++ [.int L])) l = some (.lst (wrefs ws)) := by rw [upd_ne nwl.symm, upd_ne nlp]; exact h2
      have h3n : upd (upd H2 pl (.lst [.int L])) nw (.lst (cur.map V.int ++ [.int L])) nw = some (.lst ((cur ++ [L]).map V.int)) := by rw [upd_same]; simp
      have h3W : WsOk (upd (upd H2 pl (.lst [.int L])) nw (.lst (cur.map V.int ++ [.int L]))) ws := fun wr hwr => by
        have := hW wr hwr
        rw [upd_ne (ne_of_none this hnw2), upd_ne (ne_of_none this hpl)]; exact this
      generalize upd (upd H2 pl (.lst [.int L])) nw (.lst (cur.map V.int ++ [.int L])) = H3 at sm3 h3l h3n h3W
      have hco' : ∀ x ∈ cur ++ [L], Lm 0 c x := fun x hx => by
        rcases List.mem_append.mp hx with z | z
        · exact hco x z
        · have : x = L := by simpa using z
          rw [this]; exact hL
      refine ⟨_, rfl, nw, _, rfl, .inl (SqL.of h3n), _, rfl, _, _, rfl, rfl, ⟨by decide, by decide⟩, _, _, rfl, rfl, (by show (0 : Int) < 2; decide), _, _, rfl, rfl, _, _, rfl, rfl, _, rfl, ite2 (fun t1 => ?_) fun t1 => ?_⟩
      · refine iteT ?_
        refine ⟨_, rfl, .inl ⟨rfl, _, SqL.of h3l⟩, _, rfl, l, _, _, rfl, rfl, h3l, small6 (by rw [wrefs_len]; omega), ?_⟩
        refine ⟨by decide, fun ne hne => ?_⟩
        have n1 : ne ≠ l := (ne_of_none upd_same hne).symm
        have hne3 : H3 ne = none := by rw [upd_ne n1] at hne; exact hne
        have n2 : nw ≠ ne := ne_of_none h3n hne3
        have sm4 : Same H (upd (upd H3 l (.lst (wrefs ws ++ [.ref nw]))) ne (.lst [])) := (sm3.upd hl).upd (sm3.free hne3)
        refine ⟨ne, [], ws ++ [(nw, cur ++ [L])], _, _, _, rfl, sm4, by rw [upd_ne n1.symm, upd_same, wrefs_snoc], fun wr hwr => ?_, by rw [upd_same]; rfl, n1, sm3.free hne3, fun wr hwr => ?_, fun wr hwr => ?_, by simp, (fun _ h => nomatch h), ?_⟩
        · rcases List.mem_append.mp hwr with z | z
          · have := h3W wr z
            rw [upd_ne (ne_of_none this hne3), upd_ne (hfr wr z).2]; exact this
          · have : wr = (nw, cur ++ [L]) := by simpa using z
            rw [this]
            show upd _ ne _ nw = _
            rw [upd_ne n2, upd_ne nwl]; exact h3n
        · rcases List.mem_append.mp hwr with z | z
          · exact hfr wr z
          · have : wr = (nw, cur ++ [L]) := by simpa using z
            rw [this]; exact ⟨hnwH, nwl⟩
        · rcases List.mem_append.mp hwr with z | z
          · exact hdr wr z
          · have : wr = (nw, cur ++ [L]) := by simpa using z
            rw [this]; exact ⟨by simp, by simp; omega, hco'⟩
        · rw [wl_snoc, total_snoc]; simp; omega
      · refine ⟨_, rfl, _, _, rfl, rfl, ⟨by decide, by decide⟩, _, _, rfl, rfl, (by show (0 : Int) < 5; decide), rfl, _, rfl, ite2 (fun t2 => ?_) fun t2 => ?_⟩
        · refine ⟨_, rfl, .inl ⟨rfl, _, SqL.of h3l⟩, _, rfl, l, _, _, rfl, rfl, h3l, small6 (by rw [wrefs_len]; omega), ?_⟩
          refine ⟨by decide, fun ne hne => ?_⟩
          have n1 : ne ≠ l := (ne_of_none upd_same hne).symm
          have hne3 : H3 ne = none := by rw [upd_ne n1] at hne; exact hne
          have n2 : nw ≠ ne := ne_of_none h3n hne3
          have sm4 : Same H (upd (upd H3 l (.lst (wrefs ws ++ [.ref nw]))) ne (.lst [])) := (sm3.upd hl).upd (sm3.free hne3)
          refine ⟨ne, [], ws ++ [(nw, cur ++ [L])], _, _, _, rfl, sm4, by rw [upd_ne n1.symm, upd_same, wrefs_snoc], fun wr hwr => ?_, by rw [upd_same]; rfl, n1, sm3.free hne3, fun wr hwr => ?_, fun wr hwr => ?_, by simp, (fun _ h => nomatch h), ?_⟩
          · rcases List.mem_append.mp hwr with z | z
            · have := h3W wr z
              rw [upd_ne (ne_of_none this hne3), upd_ne (hfr wr z).2]; exact this
            · have : wr = (nw, cur ++ [L]) := by simpa using z
              rw [this]
              show upd _ ne _ nw = _
              rw [upd_ne n2, upd_ne nwl]; exact h3n
          · rcases List.mem_append.mp hwr with z | z
            · exact hfr wr z
            · have : wr = (nw, cur ++ [L]) := by simpa using z
              rw [this]; exact ⟨hnwH, nwl⟩
          · rcases List.mem_append.mp hwr with z | z
            · exact hdr wr z
            · have : wr = (nw, cur ++ [L]) := by simpa using z
              rw [this]; exact ⟨by simp, by simp; omega, hco'⟩
          · rw [wl_snoc, total_snoc]; simp; omega
        · have hm : cell / 2 % 2 < 2 := Int.emod_lt_of_pos _ (by decide)
          have hlen : (cur ++ [L]).length ≤ 2 := by
            have : ¬ (1 + cell / 2 % 2 < (((cur ++ [L]).map V.int).length : Int)) := fun z => t1 (decide_eq_true z)
            rw [List.length_map] at this; omega
          exact ⟨nw, cur ++ [L], ws, _, _, _, rfl, sm3, h3l, h3W, h3n, nwl, hnwH, hfr, hdr, hlen, hco', by simp; omega⟩
    · rintro σ H2 ⟨cw, cur, ws, o4, o5, o6, rfl, sm, h2, hW, hcw, ncl, hcwH, hfr, hdr, hcl, hco, htot⟩
      have hlw := drawn_len hdr
      refine ⟨_, rfl, by decide, fun pn hpn => ?_⟩
      have n1 : cw ≠ pn := ne_of_none hcw hpn
      have n2 : l ≠ pn := ne_of_none h2 hpn
      refine ⟨(cur.map V.int).isEmpty, ⟨cw, pn, _, [], rfl, rfl, SqL.of (by rw [upd_ne n1]; exact hcw), SqL.of upd_same, .inl ⟨rfl, rfl⟩⟩, _, rfl, ?_⟩
      have sm3 : Same H (upd H2 pn (.lst [])) := sm.upd (sm.free hpn)
      have h3l : upd H2 pn (.lst []) l = some (.lst (wrefs ws)) := by rw [upd_ne n2]; exact h2
      have h3c : upd H2 pn (.lst []) cw = some (.lst (cur.map V.int)) := by rw [upd_ne n1]; exact hcw
      have h3W : WsOk (upd H2 pn (.lst [])) ws := hW.mono ((Same.refl H2).upd hpn)
      generalize upd H2 pn (.lst []) = H3 at sm3 h3l h3c h3W
      cases cur with
      | nil => exact iteF ⟨_, rfl, q l ws H3 hl sm3 h3l h3W hdr hfr (by simpa using htot)⟩
      | cons x xs =>
        refine iteT ⟨_, rfl, .inl ⟨rfl, _, SqL.of h3l⟩, _, rfl, l, _, _, rfl, rfl, h3l, small6 (by rw [wrefs_len]; simp at htot; omega), ?_⟩
        refine ⟨_, rfl, q l (ws ++ [(cw, x :: xs)]) _ hl (sm3.upd hl) (by rw [upd_same, wrefs_snoc]) (fun wr hwr => ?_) (fun wr hwr => ?_) (fun wr hwr => ?_) ?_⟩
        · rcases List.mem_append.mp hwr with z | z
          · have := h3W wr z
            rw [upd_ne (hfr wr z).2]; exact this
          · have : wr = (cw, x :: xs) := by simpa using z
            rw [this]
            show upd _ l _ cw = _
            rw [upd_ne ncl]; exact h3c
        · rcases List.mem_append.mp hwr with z | z
          · exact hdr wr z
          · have : wr = (cw, x :: xs) := by simpa using z
            rw [this]; exact ⟨by simp, by simp at hcl ⊢; omega, hco⟩
        · rcases List.mem_append.mp hwr with z | z
          · exact hfr wr z
          · have : wr = (cw, x :: xs) := by simpa using z
            rw [this]; exact ⟨hcwH, ncl⟩
        · rw [wl_snoc, total_snoc]; exact htot
end

def absN (x : Int) : Int := (x.natAbs : Int)
theorem run_nodup {W : List (List Int)} {lo c : Nat} (hW : ∀ v ∈ W, ∀ x ∈ v, Lm lo c x) {T : List Int} {r : List (Int × Nat)} (h : Run W T r) (nd : (T.map absN).Nodup) (hb : ∀ x ∈ T, Lm lo c x) :
    ((T ++ r.map (·.1)).map absN).Nodup ∧ ∀ x ∈ T ++ r.map (·.1), Lm lo c x := by
  induction h with
  | stop h => simpa using ⟨nd, hb⟩
  | @step T x i r hn hr ih =>
    obtain ⟨_, _, v, hv, _, _, hxv, hxT, hnT⟩ := next_facts hn
    have hx : Lm lo c x := hW v (List.mem_of_getElem? hv) x hxv
    have := ih (by
      rw [List.map_append]
      refine List.nodup_append.mpr ⟨nd, by simp, fun a ha b hb' e => ?_⟩
      obtain ⟨y, hy, rfl⟩ := List.mem_map.mp ha
      have hb2 : b = absN x := by simpa using hb'
      rw [hb2] at e
      have : y = x ∨ y = -x := by unfold absN at e; omega
      rcases this with z | z
      · exact hxT (z ▸ hy)
      · exact hnT (z ▸ hy)) (fun y hy => by
      rcases List.mem_append.mp hy with z | z
      · exact hb y z
      · have : y = x := by simpa using z
        rw [this]; exact hx)
    simpa [List.append_assoc] using this
theorem run_len {W : List (List Int)} {lo c : Nat} (hW : ∀ v ∈ W, ∀ x ∈ v, Lm lo (c + lo) x) {T : List Int} {r : List (Int × Nat)} (h : Run W T r) (nd : (T.map absN).Nodup) (hb : ∀ x ∈ T, Lm lo (c + lo) x) : T.length + r.length ≤ c := by
  obtain ⟨h1, h2⟩ := run_nodup hW h nd hb
  have := pigeon c lo _ h1 fun x hx => by
    obtain ⟨y, hy, rfl⟩ := List.mem_map.mp hx
    have := h2 y hy
    unfold Lm at this; unfold absN; omega
  simpa using this
theorem cut_to {xs : List V} {n : Nat} (h : n ≤ xs.length) : cutV xs none (some (n : Int)) = xs.take n := by
  unfold cutV
  have e1 : HT.sIx xs.length 0 none = 0 := rfl
  have e2 : HT.sIx xs.length xs.length (some (n : Int)) = n := by rw [HT.sIx_nat]; omega
  rw [e1, e2]; simp
theorem wsD_wl (ws : List Wr) : wsD ws = (wl ws).map fun v => D.lst (dInts v) := by unfold wsD wl; rw [List.map_map]; rfl
theorem sizes_wsD : ∀ ws : List Wr, sizes (wsD ws) = total (wl ws) + ws.length
  | [] => rfl
  | p :: ws => by
    show (D.lst (dInts p.2)).size + sizes (wsD ws) = _
    rw [sizes_wsD ws, D.size, sizes_ints]
    simp only [wl, total, List.map_cons, List.sum_cons, List.length_cons]; omega
theorem plains_wsD : ∀ ws : List Wr, plains (wsD ws) = true
  | [] => rfl
  | p :: ws => by
    show ((D.lst (dInts p.2)).plain && plains (wsD ws)) = true
    rw [plains_wsD ws, D.plain, plains_ints]; rfl
theorem nn_np {ts ts' : List Nw} (h : ts.map nn = ts'.map nn) : trD (ts.map np) = trD (ts'.map np) := by
  have e : ∀ l : List Nw, trD (l.map np) = (l.map nn).map fun p => D.tup [.int p.1, wd (some (p.2 : Int))] := fun l => by
    unfold trD; rw [List.map_map, List.map_map]; rfl
  rw [e, e, h]
theorem trD_append (qs rs : List Pr) : trD (qs ++ rs) = trD qs ++ trD rs := by simp [trD]

/-! ### farther -/
def fa (far n : Int) : Int := n + far * (1 - 2 * (if decide (n < 0) = true then 1 else 0))
theorem fa_neg (n far : Int) (hn : n ≠ 0) : fa far (-n) = -fa far n := by
  unfold fa
  by_cases h : n < 0
  · have h' : ¬ (-n < 0) := by omega
    simp only [decide_eq_true h, decide_eq_false h', if_true, Bool.false_eq_true, if_false]; omega
  · have h' : -n < 0 := by omega
    simp only [decide_eq_true h', decide_eq_false h, if_true, Bool.false_eq_true, if_false]; omega
theorem fa_inj {far a b : Int} (hf : 0 ≤ far) (ha : a ≠ 0) (hb : b ≠ 0) (h : fa far a = fa far b) : a = b := by
  unfold fa at h
  by_cases h1 : a < 0 <;> by_cases h2 : b < 0 <;> simp only [decide_eq_true, decide_eq_false, h1, h2, not_false_eq_true, if_true, Bool.false_eq_true, if_false] at h <;> omega
theorem fa_ne {far a : Int} (hf : 0 ≤ far) (ha : a ≠ 0) : fa far a ≠ 0 := by
  unfold fa
  by_cases h1 : a < 0 <;> simp only [decide_eq_true, decide_eq_false, h1, not_false_eq_true, if_true, Bool.false_eq_true, if_false] <;> omega
theorem fa_mem {far : Int} (hf : 0 ≤ far) {ls : List Int} (hl : ∀ x ∈ ls, x ≠ 0) {n : Int} (hn : n ≠ 0) : fa far n ∈ ls.map (fa far) ↔ n ∈ ls := by
  rw [List.mem_map]
  constructor
  · rintro ⟨x, hx, e⟩
    rw [← fa_inj hf (hl x hx) hn e]; exact hx
  · exact fun h => ⟨n, h, rfl⟩
theorem once_map {far : Int} (hf : 0 ≤ far) : ∀ (ns acc : List Int), (∀ x ∈ ns, x ≠ 0) → (∀ x ∈ acc, x ≠ 0) → (ns.map (fa far)).foldl onceF (acc.map (fa far)) = (ns.foldl onceF acc).map (fa far)
  | [], _, _, _ => rfl
  | n :: ns, acc, h1, h2 => by
    rw [List.map_cons, List.foldl_cons, List.foldl_cons]
    have hn : n ≠ 0 := h1 n List.mem_cons_self
    have e : onceF (acc.map (fa far)) (fa far n) = (onceF acc n).map (fa far) := by
      unfold onceF
      by_cases h : n ∈ acc
      · rw [if_pos h, if_pos ((fa_mem hf h2 hn).mpr h)]
      · rw [if_neg h, if_neg (fun z => h ((fa_mem hf h2 hn).mp z))]; simp
    rw [e]
    refine once_map hf ns _ (fun x hx => h1 x (List.mem_cons_of_mem _ hx)) fun x hx => ?_
    rcases mem_onceF.mp hx with z | z
    · exact h2 x z
    · rw [z]; exact hn
theorem openOf_map {far : Int} (hf : 0 ≤ far) {ns ls : List Int} (h1 : ∀ x ∈ ns, x ≠ 0) (h2 : ∀ x ∈ ls, x ≠ 0) : openOf (ns.map (fa far)) (ls.map (fa far)) = (openOf ns ls).map (fa far) := by
  unfold openOf
  have e : once (ns.map (fa far)) = (once ns).map (fa far) := once_map hf ns [] h1 (by simp)
  rw [e, List.filter_map]
  congr 1
  refine List.filter_congr fun n hn => ?_
  have hn0 : n ≠ 0 := h1 n (mem_once.mp hn)
  show (!decide (-(fa far n) ∈ ls.map (fa far))) = _
  rw [← fa_neg n far hn0]
  congr 1
  exact decide_eq_decide.mpr (fa_mem hf h2 (by omega))
theorem keptBy_map {far : Int} (hf : 0 ≤ far) {ns ls : List Int} (h1 : ∀ x ∈ ns, x ≠ 0) (h2 : ∀ x ∈ ls, x ≠ 0) : keptBy (ns.map (fa far)) (ls.map (fa far)) = keptBy ns ls := by
  unfold keptBy
  rw [List.any_map]
  rw [Bool.eq_iff_iff, List.any_eq_true, List.any_eq_true]
  constructor
  · rintro ⟨n, hn, e⟩
    exact ⟨n, hn, decide_eq_true ((fa_mem hf h2 (h1 n hn)).mp (of_decide_eq_true e))⟩
  · rintro ⟨n, hn, e⟩
    exact ⟨n, hn, decide_eq_true ((fa_mem hf h2 (h1 n hn)).mpr (of_decide_eq_true e))⟩

def spFarther (K : PySem.W.Frag) : Sp := fun vs H Q _ => ∃ (a : Addr) (ns : List Int) (far : Int), vs = [.ref a, .int far] ∧ SqL K H a (ns.map V.int) ∧ ns.length ≤ 100000 ∧ 0 ≤ far ∧ far ≤ 1000 ∧ ∀ l H', H l = none → Same H H' → H' l = some (.lst ((ns.map (fa far)).map V.int)) → Q (.ref l) H'
section
variable {P : Program} {w : World} {K : PySem.W.Frag} {mg : Str → Option Value} {base : Heap}
theorem ok_l_farther (B : Blt mg) (Df : Def K mg "_law_farther" s_l_farther p_l_farther) : Cal P w K mg base 1 "_law_farther" p_l_farther (spFarther K) := by
  refine Df.cal sc_l_farther (fun vs H Q E h => ?_) (fun f cdv A outer s H vs Q E hr h => ?_)
  · obtain ⟨a, ns, far, rfl, _⟩ := h; rfl
  · obtain ⟨a, ns, far, rfl, hS, hz, f0, f1, q⟩ := h
    refine ⟨_, (pss_one (ps_ret (pe_comp (fvn := ["_law_far"]) (js := [1]) rfl (pi_list (pv 0)) (.cons rfl (by first | exact .inl rfl | exact .inr rfl) rfl .nil) ⟨by decide +kernel, rfl, by decide +kernel, rfl, by decide +kernel, by decide +kernel⟩ (fun _ _ _ _ _ => pts_nil) (fun _ _ _ _ _ => (pe_op op_add (pv 0) (pe_op op_mul (pv 1) (pe_op op_sub pe_int (pe_op op_mul pe_int (pe_callTy call_int1 (by rfl) B.int_ bt_int (pa_cons (pe_cmpR op_lt (pv 0) pe_int (nomark _)) pa_nil)))))))))), ?_⟩
    refine ⟨_, rfl, a, rfl, ⟨_, hS⟩, ?_⟩
    refine comp_pure (xs := ns) (g := V.int) (fun _ => true) (fun n => V.int (fa far n)) (small6' (by omega)) hS (fun x _ R hR => hR) (fun x _ _ R hR => ?_) (fun l2 hl2 => ?_)
    · exact ⟨_, rfl, _, rfl, _, rfl, _, _, rfl, rfl, .inr ⟨_, rfl, _, _, rfl, rfl, .inl ⟨by decide, by decide⟩, _, _, rfl, rfl, _, _, rfl, rfl, .inl ⟨by omega, by omega⟩, _, _, rfl, rfl, hR⟩⟩
    · refine q l2 _ hl2 ((Same.refl H).upd hl2) ?_
      rw [upd_same, filt_true, List.map_map]; rfl
end

def spWhole : Sp := fun vs H Q _ => ∃ (v : V) (t : Ty), vs = [v] ∧ TyIs H v t ∧ Q (.bl (decide (t = .int))) H
section
variable {P : Program} {w : World} {K : PySem.W.Frag} {mg : Str → Option Value} {base : Heap}
theorem ok_l_whole (B : Blt mg) (Df : Def K mg "_law_whole" s_l_whole p_l_whole) : Cal P w K mg base 1 "_law_whole" p_l_whole spWhole := by
  refine Df.cal sc_l_whole (fun vs H Q E h => ?_) (fun f cdv A outer s H vs Q E hr h => ?_)
  · obtain ⟨v, t, rfl, _⟩ := h; rfl
  · obtain ⟨v, t, rfl, ty, q⟩ := h
    refine ⟨_, (pss_one (ps_ret (pe_and (pe_callB call_isi (by rfl) B.isinstance_ bt_isinstance (pa_cons (pv 0) (pa_cons (pe_ty B.int_ bt_int) pa_nil))) (pe_one (pe_not (pe_callB call_isi (by rfl) B.isinstance_ bt_isinstance (pa_cons (pv 0) (pa_cons (pe_ty B.bool_ bt_bool) pa_nil)))))))), ?_⟩
    refine ⟨_, rfl, v, t, .int, rfl, ty, _, rfl, ?_⟩
    cases t with
    | int => exact iteT ⟨_, rfl, v, .int, .bl, rfl, ty, _, rfl, q⟩
    | bl => exact iteT ⟨_, rfl, v, .bl, .bl, rfl, ty, _, rfl, q⟩
    | non => exact iteF q
    | str => exact iteF q
    | lst => exact iteF q
    | tup => exact iteF q
end

def spAt (K : PySem.W.Frag) : Sp := fun vs H Q _ => ∃ (a : Addr) (ns : List Int) (k : Nat), vs = [.ref a, .int k] ∧ SqL K H a (ns.map V.int) ∧ Q (.int (ns.getD k 0)) H
section
variable {P : Program} {w : World} {K : PySem.W.Frag} {mg : Str → Option Value} {base : Heap}
theorem ok_l_at (B : Blt mg) (Df : Def K mg "_law_at" s_l_at p_l_at) : Cal P w K mg base 1 "_law_at" p_l_at (spAt K) := by
  refine Df.cal sc_l_at (fun vs H Q E h => ?_) (fun f cdv A outer s H vs Q E hr h => ?_)
  · obtain ⟨a, ns, k, rfl, _⟩ := h; rfl
  · obtain ⟨a, ns, k, rfl, ha, q⟩ := h
    refine ⟨_, (pss_cons (ps_if (pt_cmpR op_lt (pv 1) (pe_callB call_len_seq (by rfl) B.len_ PySem.boot_len (pa_cons (pv 0) pa_nil)) (nomark _))
 (pss_one (ps_ret (pe_ix ix_list (pv 0) (pv 1) (fun _ _ => rfl))))
 pss_nil)
 (pss_one (ps_ret pe_int))), ?_⟩
    refine ⟨_, rfl, _, rfl, a, _, rfl, .inl ha, _, _, rfl, rfl, _, rfl, ite2 (fun c => ?_) (fun c => ?_)⟩
    · have c' : k < ns.length := by
        have := of_decide_eq_true c
        simp at this; omega
      refine ⟨_, rfl, _, rfl, a, _, _, .int (ns.getD k 0), rfl, rfl, ha, atI_nat (by simp [c']), q⟩
    · have c' : ¬ k < ns.length := by
        intro z
        apply c
        apply decide_eq_true
        simp; omega
      have : ns.getD k 0 = 0 := by simp [List.getD, Nat.not_lt.mp c']
      rw [this] at q
      exact q
end

def spAlike : Sp := fun vs H Q _ => ∃ (v1 v2 : V) (d : D), vs = [v1, v2] ∧ At H d v1 ∧ At H d v2 ∧ d.plain = true ∧ d.size ≤ 1000000 ∧ ∀ H', Same H H' → Q (.bl true) H'
section
variable {P : Program} {w : World} {K : PySem.W.Frag} {mg : Str → Option Value} {base : Heap}
theorem ok_l_alike (B : Blt mg) (c_l_whole : Cal P w K mg base 1 "_law_whole" p_l_whole spWhole) (Df : Def K mg "_law_alike" s_l_alike p_l_alike) : Cal P w K mg base 2 "_law_alike" p_l_alike spAlike := by
  refine Df.cal sc_l_alike (fun vs H Q E h => ?_) (fun f cdv A outer s H vs Q E hr h => ?_)
  · obtain ⟨v1, v2, d, rfl, _⟩ := h; rfl
  · obtain ⟨v1, v2, d, rfl, a1, a2, hpl, hz, q⟩ := h
    refine ⟨_, (pss_cons (ps_set (i := 2) sc_l_alike.nd rfl (Or.inl rfl) (pe_lst (pa_cons (pv 0) pa_nil)))
 (pss_cons (ps_set (i := 3) sc_l_alike.nd rfl (Or.inl rfl) (pe_lst (pa_cons (pv 1) pa_nil)))
 (pss_cons (ps_while PassesOwn.never (pt_cmpR (op_neL (hu0 hr)) (pv 3) (pe_lst pa_nil) (nomark _))
 (pss_cons (ps_set (i := 4) sc_l_alike.nd rfl (Or.inl rfl) (pe_bm0 PySem.F.plainAttrs_list PySem.F.slot_list_pop PySem.F.type_list_pop mt_pop (pv 2)))
 (pss_cons (ps_set (i := 5) sc_l_alike.nd rfl (Or.inl rfl) (pe_bm0 PySem.F.plainAttrs_list PySem.F.slot_list_pop PySem.F.type_list_pop mt_pop (pv 3)))
 (pss_one (ps_if (pt_val (pe_callB call_isiT (by rfl) B.isinstance_ bt_isinstance (pa_cons (pv 5) (pa_cons (pe_tup (pa_cons (pe_ty B.list_ bt_list) (pa_cons (pe_ty B.tuple_ bt_tuple) pa_nil))) pa_nil))))
 (pss_cons (ps_if (pt_cmpR op_ne (pe_callB call_isi (by rfl) B.isinstance_ bt_isinstance (pa_cons (pv 4) (pa_cons (pe_ty B.list_ bt_list) pa_nil))) (pe_callB call_isi (by rfl) B.isinstance_ bt_isinstance (pa_cons (pv 5) (pa_cons (pe_ty B.list_ bt_list) pa_nil))) (nomark _))
 (pss_one (ps_ret pe_bl))
 pss_nil)
 (pss_cons (ps_if (PW.pt (pw_or (pt_cmpR op_ne (pe_callB call_isi (by rfl) B.isinstance_ bt_isinstance (pa_cons (pv 4) (pa_cons (pe_ty B.tuple_ bt_tuple) pa_nil))) (pe_callB call_isi (by rfl) B.isinstance_ bt_isinstance (pa_cons (pv 5) (pa_cons (pe_ty B.tuple_ bt_tuple) pa_nil))) (nomark _)) (pw_or1 (pt_cmpR op_ne (pe_callB call_len_seq (by rfl) B.len_ PySem.boot_len (pa_cons (pv 4) pa_nil)) (pe_callB call_len_seq (by rfl) B.len_ PySem.boot_len (pa_cons (pv 5) pa_nil)) (nomark _)))))
 (pss_one (ps_ret pe_bl))
 pss_nil)
 (pss_cons (ps_expr (pe_bm PySem.F.plainAttrs_list PySem.F.slot_list_extend PySem.F.type_list_extend mt_extendLT (pv 2) (pa_cons (pv 4) pa_nil)))
 (pss_one (ps_expr (pe_bm PySem.F.plainAttrs_list PySem.F.slot_list_extend PySem.F.type_list_extend mt_extendLT (pv 3) (pa_cons (pv 5) pa_nil)))))))
 (pss_one (ps_if (pt_cmpR op_isN (pv 5) pe_non (nomark _))
 (pss_one (ps_if (pt_cmpR op_notN (pv 4) pe_non (nomark _))
 (pss_one (ps_ret pe_bl))
 pss_nil))
 (pss_one (ps_if (pt_val (pe_callB call_isi (by rfl) B.isinstance_ bt_isinstance (pa_cons (pv 5) (pa_cons (pe_ty B.bool_ bt_bool) pa_nil))))
 (pss_one (ps_if (PW.pt (pw_or (pt_not (pt_val (pe_callB call_isi (by rfl) B.isinstance_ bt_isinstance (pa_cons (pv 4) (pa_cons (pe_ty B.bool_ bt_bool) pa_nil))))) (pw_or1 (pt_cmpR op_ne (pv 4) (pv 5) (nomark _)))))
 (pss_one (ps_ret pe_bl))
 pss_nil))
 (pss_one (ps_if (PW.pt (pw_or (pt_not (pt_val (pe_def c_l_whole hr (by decide) (pa_cons (pv 4) pa_nil)))) (pw_or1 (pt_cmpR op_ne (pv 4) (pv 5) (nomark _)))))
 (pss_one (ps_ret pe_bl))
 pss_nil)))))))))))
 (pss_one (ps_ret pe_bl))))), ?_⟩
    refine ⟨_, rfl, len1, fun l hl => ?_⟩
    refine ⟨_, rfl, len1, fun r hr0 => ?_⟩
    have nlr : l ≠ r := ne_of_none upd_same hr0
    have hr1 : H r = none := by rw [upd_ne nlr.symm] at hr0; exact hr0
    refine ⟨fun m σ H2 => ∃ ds Ls Rs o1 o2, σ = [some v1, some v2, some (.ref l), some (.ref r), o1, o2] ∧ Same H H2 ∧ H2 l = some (.lst Ls) ∧ H2 r = some (.lst Rs) ∧ AtL H ds Ls ∧ AtL H ds Rs ∧ plains ds = true ∧ sizes ds ≤ 1000000 ∧ m = sizes ds,
      ⟨_, [d], [v1], [v2], none, none, rfl, ((Same.refl H).upd hl).upd hr1, by rw [upd_ne nlr, upd_same], upd_same, AtL.cons a1 AtL.nil, AtL.cons a2 AtL.nil, by simp [plains, hpl], by simpa [sizes] using hz, rfl⟩, ?_⟩
    rintro m σ H2 ⟨ds, Ls, Rs, o1, o2, rfl, sm, hL, hR, aL, aR, hp, hsz, rfl⟩
    refine ⟨_, rfl, by decide, fun p hp0 => ?_⟩
    have npr : r ≠ p := ne_of_none hR hp0
    have npl : l ≠ p := ne_of_none hL hp0
    refine ⟨Rs.isEmpty, ⟨r, p, Rs, [], rfl, rfl, SqL.of (by rw [upd_ne npr]; exact hR), SqL.of upd_same, .inl ⟨rfl, rfl⟩⟩, _, rfl, ?_⟩
    rcases snoc_cases ds with rfl | ⟨ds', d', rfl⟩
    · have : Rs = [] := by unfold AtL at aR; exact aR
      subst this
      refine iteF ?_
      exact q _ (sm.upd (sm.free hp0))
    · obtain ⟨Ls', x1, rfl, aL', ax1⟩ := aL.last
      obtain ⟨Rs', x2, rfl, aR', ax2⟩ := aR.last
      have ene : (Rs' ++ [x2]).isEmpty = false := by simp
      rw [ene]
      refine iteT ⟨fun σ' H' => ∃ m', m' < sizes (ds' ++ [d']) ∧ ∃ ds Ls Rs o1 o2, σ' = [some v1, some v2, some (.ref l), some (.ref r), o1, o2] ∧ Same H H' ∧ H' l = some (.lst Ls) ∧ H' r = some (.lst Rs) ∧ AtL H ds Ls ∧ AtL H ds Rs ∧ plains ds = true ∧ sizes ds ≤ 1000000 ∧ m' = sizes ds, fun _ _ h => h, ?_⟩
      -- one = left.pop(); two = right.pop()
      have hL3 : upd H2 p (.lst []) l = some (.lst (Ls' ++ [x1])) := by rw [upd_ne npl]; exact hL
      refine ⟨_, rfl, .inl ⟨rfl, _, SqL.of hL3⟩, l, _, x1, rfl, rfl, hL3, by simp, ?_⟩
      have hR4 : upd (upd H2 p (.lst [])) l (.lst (Ls' ++ [x1]).dropLast) r = some (.lst (Rs' ++ [x2])) := by rw [upd_ne nlr.symm, upd_ne npr]; exact hR
      refine ⟨_, rfl, .inl ⟨rfl, _, SqL.of hR4⟩, r, _, x2, rfl, rfl, hR4, by simp, ?_⟩
      have sm5 : Same H (upd (upd (upd H2 p (.lst [])) l (.lst (Ls' ++ [x1]).dropLast)) r (.lst (Rs' ++ [x2]).dropLast)) := ((sm.upd (sm.free hp0)).upd hl).upd hr1
      have hL5 : (upd (upd (upd H2 p (.lst [])) l (.lst (Ls' ++ [x1]).dropLast)) r (.lst (Rs' ++ [x2]).dropLast)) l = some (.lst Ls') := by rw [upd_ne nlr, upd_same]; simp
      have hR5 : (upd (upd (upd H2 p (.lst [])) l (.lst (Ls' ++ [x1]).dropLast)) r (.lst (Rs' ++ [x2]).dropLast)) r = some (.lst Rs') := by rw [upd_same]; simp
      generalize (upd (upd (upd H2 p (.lst [])) l (.lst (Ls' ++ [x1]).dropLast)) r (.lst (Rs' ++ [x2]).dropLast)) = H5 at sm5 hL5 hR5
      have e1 : plains ds' = true ∧ d'.plain = true := by
        rw [plains_append] at hp
        simpa [plains] using hp
      have e2 : sizes (ds' ++ [d']) = sizes ds' + d'.size := by rw [sizes_append]; simp [sizes]
      -- isinstance(two, (list, tuple))
      refine ⟨_, rfl, by decide, fun pt hpt => ?_⟩
      have npt : r ≠ pt := ne_of_none hR5 hpt
      have nlt : l ≠ pt := ne_of_none hL5 hpt
      have sm6 : Same H (upd H5 pt (.tup [.ty "list", .ty "tuple"])) := sm5.upd (sm5.free hpt)
      have hL6 : upd H5 pt (.tup [.ty "list", .ty "tuple"]) l = some (.lst Ls') := by rw [upd_ne nlt]; exact hL5
      have hR6 : upd H5 pt (.tup [.ty "list", .ty "tuple"]) r = some (.lst Rs') := by rw [upd_ne npt]; exact hR5
      have hP6 : upd H5 pt (.tup [.ty "list", .ty "tuple"]) pt = some (.tup [.ty "list", .ty "tuple"]) := upd_same
      generalize upd H5 pt (.tup [.ty "list", .ty "tuple"]) = H6 at sm6 hL6 hR6 hP6
      have fin : ∀ o1 o2, ∃ m', m' < sizes (ds' ++ [d']) ∧ ∃ ds Ls Rs o1' o2', [some v1, some v2, some (V.ref l), some (V.ref r), o1, o2] = [some v1, some v2, some (.ref l), some (.ref r), o1', o2'] ∧ Same H H6 ∧ H6 l = some (.lst Ls) ∧ H6 r = some (.lst Rs) ∧ AtL H ds Ls ∧ AtL H ds Rs ∧ plains ds = true ∧ sizes ds ≤ 1000000 ∧ m' = sizes ds :=
        fun o1 o2 => ⟨sizes ds', by have : 1 ≤ d'.size := (by cases d' <;> simp [D.size] <;> omega); omega, ds', Ls', Rs', o1, o2, rfl, sm6, hL6, hR6, aL', aR', e1.1, by omega, rfl⟩
      have isi : ∀ {t : Ty} {R : Prop}, TyIs H6 x2 t → (∀ k : Bool, k = ([Ty.lst, Ty.tup].any (Ty.isa t)) → R) → R := fun _ h => h _ rfl
      cases d' with
      | str x => exact absurd e1.2 (by simp [D.plain])
      | non =>
        unfold At at ax1 ax2; subst ax1 ax2
        refine ⟨_, pt, .non, [.lst, .tup], rfl, hP6, trivial, _, rfl, iteF ?_⟩
        refine ⟨_, rfl, rfl, _, rfl, iteT ?_⟩
        refine ⟨_, rfl, rfl, _, rfl, iteF ?_⟩
        exact fin _ _
      | bl b =>
        unfold At at ax1 ax2; subst ax1 ax2
        refine ⟨_, pt, .bl, [.lst, .tup], rfl, hP6, trivial, _, rfl, iteF ?_⟩
        refine ⟨_, rfl, rfl, _, rfl, iteF ?_⟩
        refine ⟨_, rfl, _, .bl, .bl, rfl, trivial, _, rfl, iteT ?_⟩
        refine ⟨_, rfl, _, .bl, .bl, rfl, trivial, _, rfl, iteF ?_⟩
        refine ⟨_, rfl, _, rfl, rfl, _, rfl, iteNS rfl ?_⟩
        exact fin _ _
      | int b =>
        unfold At at ax1 ax2; subst ax1 ax2
        refine ⟨_, pt, .int, [.lst, .tup], rfl, hP6, trivial, _, rfl, iteF ?_⟩
        refine ⟨_, rfl, rfl, _, rfl, iteF ?_⟩
        refine ⟨_, rfl, _, .int, .bl, rfl, trivial, _, rfl, iteF ?_⟩
        refine ⟨_, rfl, _, .int, rfl, trivial, _, rfl, iteF ?_⟩
        refine ⟨_, rfl, _, rfl, rfl, _, rfl, iteNS rfl ?_⟩
        exact fin _ _
      | lst es =>
        have ax1' := ax1.mono sm6
        have ax2' := ax2.mono sm6
        unfold At at ax1 ax2 ax1' ax2'
        obtain ⟨p1, w1, rfl, g1, k1⟩ := ax1
        obtain ⟨p2, w2, rfl, g2, k2⟩ := ax2
        have g1' := sm6 _ _ g1
        have g2' := sm6 _ _ g2
        have T1 : TyIs H6 (.ref p1) .lst := ⟨_, .inl g1'⟩
        have T2 : TyIs H6 (.ref p2) .lst := ⟨_, .inl g2'⟩
        have lw : w1.length = w2.length := by rw [← k1.length, ← k2.length]
        have el : es.length ≤ sizes es := length_sizes es
        have e3 : sizes (ds' ++ [D.lst es]) = sizes ds' + (1 + sizes es) := e2
        have eL := aL'.length
        have eR := aR'.length
        have lL := length_sizes ds'
        have np2 : p2 ≠ l := ne_of_none g2 hl
        refine ⟨_, pt, .lst, [.lst, .tup], rfl, hP6, T2, _, rfl, iteT ?_⟩
        refine ⟨_, rfl, _, .lst, .lst, rfl, T1, _, rfl, _, .lst, .lst, rfl, T2, rfl, _, rfl, iteNS rfl ?_⟩
        refine ⟨_, rfl, _, .lst, .tup, rfl, T1, _, rfl, _, .lst, .tup, rfl, T2, rfl, _, rfl, iteNS rfl ?_⟩
        refine ⟨_, rfl, p1, _, rfl, .inl (SqL.of g1'), _, rfl, p2, _, rfl, .inl (SqL.of g2'), rfl, _, rfl, iteNS (by rw [lw]) ?_⟩
        refine ⟨_, rfl, .inl ⟨rfl, _, SqL.of hL6⟩, _, rfl, l, p1, _, _, rfl, rfl, hL6, .inl g1', small6' (by have := k1.length; omega), ?_⟩
        have hR7 : upd H6 l (.lst (Ls' ++ w1)) r = some (.lst Rs') := by rw [upd_ne nlr.symm]; exact hR6
        refine ⟨_, rfl, .inl ⟨rfl, _, SqL.of hR7⟩, _, rfl, r, p2, _, _, rfl, rfl, hR7, .inl (by rw [upd_ne np2]; exact g2'), small6' (by have := k2.length; omega), ?_⟩
        exact ⟨sizes (ds' ++ es), by rw [sizes_append, e3]; omega, ds' ++ es, Ls' ++ w1, Rs' ++ w2, _, _, rfl, (sm6.upd hl).upd hr1, by rw [upd_ne nlr, upd_same], upd_same, aL'.append k1, aR'.append k2, by rw [plains_append]; simpa [D.plain] using e1, by rw [sizes_append]; omega, rfl⟩
      | tup es =>
        unfold At at ax1 ax2
        obtain ⟨p1, w1, rfl, g1, k1⟩ := ax1
        obtain ⟨p2, w2, rfl, g2, k2⟩ := ax2
        have g1' := sm6 _ _ g1
        have g2' := sm6 _ _ g2
        have T1 : TyIs H6 (.ref p1) .tup := ⟨_, g1'⟩
        have T2 : TyIs H6 (.ref p2) .tup := ⟨_, g2'⟩
        have lw : w1.length = w2.length := by rw [← k1.length, ← k2.length]
        have el : es.length ≤ sizes es := length_sizes es
        have e3 : sizes (ds' ++ [D.tup es]) = sizes ds' + (1 + sizes es) := e2
        have eL := aL'.length
        have eR := aR'.length
        have lL := length_sizes ds'
        have np2 : p2 ≠ l := ne_of_none g2 hl
        refine ⟨_, pt, .tup, [.lst, .tup], rfl, hP6, T2, _, rfl, iteT ?_⟩
        refine ⟨_, rfl, _, .tup, .lst, rfl, T1, _, rfl, _, .tup, .lst, rfl, T2, rfl, _, rfl, iteNS rfl ?_⟩
        refine ⟨_, rfl, _, .tup, .tup, rfl, T1, _, rfl, _, .tup, .tup, rfl, T2, rfl, _, rfl, iteNS rfl ?_⟩
        refine ⟨_, rfl, p1, _, rfl, .inr (SqT.of g1'), _, rfl, p2, _, rfl, .inr (SqT.of g2'), rfl, _, rfl, iteNS (by rw [lw]) ?_⟩
        refine ⟨_, rfl, .inl ⟨rfl, _, SqL.of hL6⟩, _, rfl, l, p1, _, _, rfl, rfl, hL6, .inr g1', small6' (by have := k1.length; omega), ?_⟩
        have hR7 : upd H6 l (.lst (Ls' ++ w1)) r = some (.lst Rs') := by rw [upd_ne nlr.symm]; exact hR6
        refine ⟨_, rfl, .inl ⟨rfl, _, SqL.of hR7⟩, _, rfl, r, p2, _, _, rfl, rfl, hR7, .inr (by rw [upd_ne np2]; exact g2'), small6' (by have := k2.length; omega), ?_⟩
        exact ⟨sizes (ds' ++ es), by rw [sizes_append, e3]; omega, ds' ++ es, Ls' ++ w1, Rs' ++ w2, _, _, rfl, (sm6.upd hl).upd hr1, by rw [upd_ne nlr, upd_same], upd_same, aL'.append k1, aR'.append k2, by rw [plains_append]; simpa [D.plain] using e1, by rw [sizes_append]; omega, rfl⟩
end

def spLaw (K : PySem.W.Frag) : Sp := fun vs H Q _ => ∃ (a : Addr) (ns : List Int), vs = [.ref a] ∧ SqL K H a (ns.map V.int) ∧ ns.length ≤ 63 ∧ ∀ H', Q (.bl true) H'

abbrev lawK : Nat := 7
section
variable {P : Program} {w : World} {K : PySem.W.Frag} {mg : Str → Option Value} {base : Heap}
set_option maxHeartbeats 4000000
theorem trD_snd {qs rs : List Pr} (h : rs.map (·.2) = qs.map (·.2)) : trD rs = trD qs := by
  have : ∀ qs : List Pr, trD qs = (qs.map (·.2)).map fun p => D.tup [.int p.1, wd p.2] := fun qs => by simp [trD]
  rw [this, this, h]
theorem dis_abs {T : List Int} (h : (T.map absN).Nodup) : Dis T := by
  intro k l hk
  have hlt : k < T.length := (List.getElem?_eq_some_iff.mp hk).1
  have key : ∀ y ∈ T.take k, absN y ≠ absN l := fun y hy e => by
    obtain ⟨j, hj, ej⟩ := List.mem_iff_getElem.mp hy
    rw [List.getElem_take] at ej
    have hj' : j < k := by simp at hj; omega
    have e1 : (T.map absN)[j]'(by simp; omega) = (T.map absN)[k]'(by simpa using hlt) := by
      have : T[k] = l := by rw [List.getElem?_eq_getElem hlt] at hk; exact Option.some.inj hk
      simp [ej, this, e]
    have := (List.getElem_inj (h₀ := by simp; omega) (h₁ := by simpa using hlt) h).mp e1
    omega
  exact ⟨fun z => key l z rfl, fun z => key (-l) z (by unfold absN; omega)⟩
theorem ok_law {f : Addr} {fd : FuncData} (F : Fun K "law" "law" s_law f fd) (B : Blt mg) (D__wall : Def K mg "_wall" s__wall p__wall) (D_left_open : Def K mg "left_open" s_left_open p_left_open) (D_each_once : Def K mg "each_once" s_each_once p_each_once) (D_marked : Def K mg "marked" s_marked p_marked)
    (D_broken : Def K mg "broken" s_broken p_broken) (D_forced : Def K mg "forced" s_forced p_forced) (D_letters_of : Def K mg "letters_of" s_letters_of p_letters_of) 
    (D_whole : Def K mg "_law_whole" s_l_whole p_l_whole) (D_at : Def K mg "_law_at" s_l_at p_l_at) (D_alike : Def K mg "_law_alike" s_l_alike p_l_alike) (D_wishes : Def K mg "_law_wishes_of" s_l_wishes_of p_l_wishes_of) (D_open : Def K mg "_law_open" s_l_open p_l_open) (D_broken_at : Def K mg "_law_broken_at" s_l_broken_at p_l_broken_at)
    (D_next : Def K mg "_law_next" s_l_next p_l_next) (D_farther : Def K mg "_law_farther" s_l_farther p_l_farther)
    {C : Addr} (T : TallyCls K mg C) (M_init : MDef K C "__init__" "Tally.__init__" s_Tally_init p_Tally_init) (M_put_wish : MDef K C "put_wish" "Tally.put_wish" s_Tally_put_wish p_Tally_put_wish) (M_put : MDef K C "put" "Tally.put" s_Tally_put p_Tally_put) (M_take_off : MDef K C "take_off" "Tally.take_off" s_Tally_take_off p_Tally_take_off)
    (M_count_letter : MDef K C "count_letter" "Tally.count_letter" s_Tally_count_letter p_Tally_count_letter) (M_sort_in : MDef K C "sort_in" "Tally.sort_in" s_Tally_sort_in p_Tally_sort_in) (M_first_broken : MDef K C "first_broken" "Tally.first_broken" s_Tally_first_broken p_Tally_first_broken) (M_go_on : MDef K C "go_on" "Tally.go_on" s_Tally_go_on p_Tally_go_on) : FnOk P w K mg base CX0 lawK f fd ["_law_script"] (spLaw K) := by
  have c_marked : Cal P w K mg base 1 "marked" p_marked (spMarked K) := ok_marked D_marked
  have c_each_once : Cal P w K mg base 2 "each_once" p_each_once (spEach K) := ok_each_once B c_marked D_each_once
  have c_left_open : Cal P w K mg base 3 "left_open" p_left_open (spLeft K) := ok_left_open B c_each_once D_left_open
  have c_letters_of : Cal P w K mg base 1 "letters_of" p_letters_of (spLetters K) := ok_letters_of D_letters_of
  have m_sort_in : MCal P w K mg base 1 C "sort_in" p_Tally_sort_in (spSort C) := ok_sort_in T M_sort_in
  have m_count_letter : MCal P w K mg base 2 C "count_letter" p_Tally_count_letter (spCountL C) := ok_count_letter T m_sort_in M_count_letter
  have m_put : MCal P w K mg base 3 C "put" p_Tally_put (spPut C) := ok_put T m_count_letter M_put
  have m_put_wish : MCal P w K mg base 3 C "put_wish" p_Tally_put_wish (spPutW C) := ok_put_wish B T m_sort_in c_each_once M_put_wish
  have mk_Tally : Made P w K mg base 4 "Tally" C p_Tally_init (spInit K C) := ok_init T m_put_wish M_init
  have m_go_on : MCal P w K mg base 4 C "go_on" p_Tally_go_on (spGoOn C) := ok_go_on B T m_put c_left_open M_go_on
  have c_forced : Cal P w K mg base 6 "forced" p_forced (spForced2 K) := ok_forced2 T mk_Tally m_put m_go_on D_forced
  have c_broken : Cal P w K mg base 4 "broken" p_broken (spBroken K) := ok_broken B c_marked c_letters_of c_left_open D_broken
  have c_l_whole : Cal P w K mg base 1 "_law_whole" p_l_whole spWhole := ok_l_whole B D_whole
  have c_l_at : Cal P w K mg base 1 "_law_at" p_l_at (spAt K) := ok_l_at B D_at
  have c_l_alike : Cal P w K mg base 2 "_law_alike" p_l_alike spAlike := ok_l_alike B c_l_whole D_alike
  have c_l_wishes_of : Cal P w K mg base 1 "_law_wishes_of" p_l_wishes_of (spWishes K) := ok_l_wishes_of B D_wishes
  have c_l_open : Cal P w K mg base 1 "_law_open" p_l_open (spLOpen K) := ok_l_open D_open
  have c_l_broken_at : Cal P w K mg base 2 "_law_broken_at" p_l_broken_at (spLBroken K) := ok_l_broken_at B c_l_open D_broken_at
  have c_l_next : Cal P w K mg base 3 "_law_next" p_l_next (spLNext K) := ok_l_next B c_l_open c_l_broken_at D_next
  have c_l_farther : Cal P w K mg base 1 "_law_farther" p_l_farther (spFarther K) := ok_l_farther B D_farther
  refine F.ok sc_law (fun vs H Q E h => ?_) (fun cdv A outer s H vs Q E hr h => ?_)
  · obtain ⟨a, ns, rfl, _⟩ := h; rfl
  · obtain ⟨a, ns, rfl, hS, hlen, k⟩ := h
    -- from handed on
    obtain ⟨u7, hu7, key7⟩ : ∃ u, PSs (cxOf CX0 P w K mg base n_law "law" (defScope s_law) f cdv A outer s H E).nox ((defBody s_law).drop 7) u ∧
        ∀ (c far : Nat) (lw ls : Addr) (ws : List Wr) (qs : List Pr) (H1 : Hp) (o5 o6 : Option V), Same H H1 → H1 lw = some (.lst (wrefs ws)) → WsOk H1 ws → (∀ v ∈ wl ws, ∀ x ∈ v, Lm far (c + far) x) → total (wl ws) ≤ 1000 → ws.length ≤ 1000 →
          H1 ls = some (.lst (refs qs)) → TrOk H1 qs → ((lets qs).map absN).Nodup → (∀ x ∈ lets qs, Lm far (c + far) x) → c ≤ 1000 →
          u { nx := fun _ H' => Q .non H', rt := Q } [some (.ref a), some (.int c), some (.ref lw), some (.int far), some (.ref ls), o5, o6, none, none, none, none, none, none, none, none, none] H1 := by
      refine ⟨_, (pss_cons (ps_comp (i := 7) sc_law.nd rfl (Or.inl rfl) (fvn := []) (js := []) rfl (pi_list (pv 2)) .nil ⟨by decide +kernel, rfl, by decide +kernel, rfl, by decide +kernel, by decide +kernel⟩ (fun _ _ _ _ _ => pts_nil) (fun _ _ _ _ _ => (pe_callTy (call_list_ofK (K := K) rfl) (by rfl) B.list_ bt_list (pa_cons (pv 0) pa_nil))))
 (pss_cons (ps_set (i := 8) sc_law.nd rfl (Or.inl rfl) (pe_callTy call_list_of (by rfl) B.list_ bt_list (pa_cons (pv 4) pa_nil)))
 (pss_cons (ps_set (i := 9) sc_law.nd rfl (Or.inl rfl) (pe_def c_forced hr (by decide) (pa_cons (pv 7) (pa_cons (pv 8) pa_nil))))
 (pss_cons (ps_if (PW.pt (pw_or (pt_not (pt_val (pe_callB call_isi (by rfl) B.isinstance_ bt_isinstance (pa_cons (pv 9) (pa_cons (pe_ty B.list_ bt_list) pa_nil))))) (pw_or (pt_cmpR op_lt (pe_callB call_len_seq (by rfl) B.len_ PySem.boot_len (pa_cons (pv 9) pa_nil)) (pe_callB call_len_seq (by rfl) B.len_ PySem.boot_len (pa_cons (pv 4) pa_nil)) (nomark _)) (pw_or1 (pt_cmpR op_gt (pe_callB call_len_seq (by rfl) B.len_ PySem.boot_len (pa_cons (pv 9) pa_nil)) (pv 1) (nomark _))))))
 (pss_one (ps_ret pe_bl))
 pss_nil)
 (pss_cons (ps_if (PW.pt (pw_or (pt_not (pt_val (pe_def c_l_alike hr (by decide) (pa_cons (pv 7) (pa_cons (pv 2) pa_nil))))) (pw_or1 (pt_not (pt_val (pe_def c_l_alike hr (by decide) (pa_cons (pv 8) (pa_cons (pv 4) pa_nil))))))))
 (pss_one (ps_ret pe_bl))
 pss_nil)
 (pss_cons (ps_if (pt_not (pt_val (pe_def c_l_alike hr (by decide) (pa_cons (pe_slice sl_list (pv 9) po_none (po_some (pe_callB call_len_seq (by rfl) B.len_ PySem.boot_len (pa_cons (pv 4) pa_nil)))) (pa_cons (pv 4) pa_nil)))))
 (pss_one (ps_ret pe_bl))
 pss_nil)
 (pss_cons (ps_comp (i := 10) sc_law.nd rfl (Or.inl rfl) (fvn := []) (js := []) rfl (pi_list (pv 4)) .nil ⟨by decide +kernel, rfl, by decide +kernel, rfl, by decide +kernel, by decide +kernel⟩ (fun _ _ _ _ _ => pts_nil) (fun _ _ _ _ _ => (pe_ix (ix_tupK (K := K) rfl) (pv 0) pe_int (fun _ _ => rfl))))
 (pss_cons (ps_for PassesOwn.never rfl (pi_range2 (by rfl) B.range_ (pa_cons (pe_callB call_len_seq (by rfl) B.len_ PySem.boot_len (pa_cons (pv 4) pa_nil)) (pa_cons (pe_callB call_len_seq (by rfl) B.len_ PySem.boot_len (pa_cons (pv 9) pa_nil)) pa_nil))) (pg_name (i := 11) sc_law.nd rfl (Or.inl rfl))
 (pss_cons (ps_set (i := 12) sc_law.nd rfl (Or.inl rfl) (pe_def c_l_next hr (by decide) (pa_cons (pv 2) (pa_cons (pv 10) pa_nil))))
 (pss_cons (ps_if (PW.pt (pw_or (pt_cmpR op_isN (pv 12) pe_non (nomark _)) (pw_or1 (pt_not (pt_val (pe_def c_l_alike hr (by decide) (pa_cons (pe_ix ix_list (pv 9) (pv 11) (fun _ _ => rfl)) (pa_cons (pv 12) pa_nil))))))))
 (pss_one (ps_ret pe_bl))
 pss_nil)
 (pss_one (ps_expr (pe_bm PySem.F.plainAttrs_list PySem.F.slot_list_append PySem.F.type_list_append mt_append (pv 10) (pa_cons (pe_ix ix_tup (pv 12) pe_int (fun _ _ => rfl)) pa_nil)))))))
 (pss_cons (ps_if (pt_cmpR op_notN (pe_def c_l_next hr (by decide) (pa_cons (pv 2) (pa_cons (pv 10) pa_nil))) pe_non (nomark _))
 (pss_one (ps_ret pe_bl))
 pss_nil)
 (pss_cons (ps_set (i := 13) sc_law.nd rfl (Or.inl rfl) (pe_op op_add (pe_callB call_len_seq (by rfl) B.len_ PySem.boot_len (pa_cons (pv 4) pa_nil)) (pe_op op_mod (pe_def c_l_at hr (by decide) (pa_cons (pv 0) (pa_cons pe_int pa_nil))) (pe_op op_add (pe_op op_sub (pe_callB call_len_seq (by rfl) B.len_ PySem.boot_len (pa_cons (pv 9) pa_nil)) (pe_callB call_len_seq (by rfl) B.len_ PySem.boot_len (pa_cons (pv 4) pa_nil))) pe_int))))
 (pss_cons (ps_if (pt_not (pt_val (pe_def c_l_alike hr (by decide) (pa_cons (pe_def c_forced hr (by decide) (pa_cons (pv 7) (pa_cons (pe_callTy call_list_of (by rfl) B.list_ bt_list (pa_cons (pe_slice sl_list (pv 9) po_none (po_some (pv 13))) pa_nil)) pa_nil))) (pa_cons (pv 9) pa_nil)))))
 (pss_one (ps_ret pe_bl))
 pss_nil)
 (pss_cons (ps_set (i := 14) sc_law.nd rfl (Or.inl rfl) (pe_def c_broken hr (by decide) (pa_cons (pv 7) (pa_cons (pv 9) pa_nil))))
 (pss_cons (ps_set (i := 15) sc_law.nd rfl (Or.inl rfl) (pe_def c_l_broken_at hr (by decide) (pa_cons (pv 2) (pa_cons (pv 10) pa_nil))))
 (pss_cons (ps_if (pt_cmpR op_lt (pv 15) pe_int (nomark _))
 (pss_one (ps_ret (pe_cmpR op_isN (pv 14) pe_non (nomark _))))
 pss_nil)
 (pss_one (ps_ret (pe_and (pe_def c_l_whole hr (by decide) (pa_cons (pv 14) pa_nil)) (pe_one (pe_cmpR op_eq (pv 14) (pv 15) (nomark _)))))))))))))))))))), fun c far lw ls ws qs H1 o5 o6 sm h1w hW hWb hWt hWl h1s hT hnd hb hc => ?_⟩
      refine rd_seq (t := tAsg (tComp _ _ _ _) _) (rd_asg (tcomp_list (K := K) ?_))
      refine ⟨_, rfl, lw, rfl, ⟨_, SqL.of h1w⟩, ?_⟩
      refine comp_list (K := K) (a := lw) (xs := wrefs ws) (fun i ys H2 => ∃ hs : List Wr, ys = wrefs hs ∧ Same H1 H2 ∧ WsOk H2 hs ∧ wl hs = (wl ws).take i) ⟨[], rfl, Same.refl _, (fun _ h => nomatch h), by simp [wl]⟩ (small6' (by rw [wrefs_len]; omega)) (fun i ys H2 _ ⟨_, _, e, _⟩ => SqL.of (e _ _ h1w)) ?_ ?_
      · rintro i y ys H2 N hi hyl ⟨hs, rfl, sm2, hO, hwl⟩ hN
        obtain ⟨wr, hwi, rfl⟩ := wr_get hi
        have hmem := List.mem_of_getElem? hwi
        have hwr2 : (wl ws)[i]? = some wr.2 := by unfold wl; rw [List.getElem?_map, hwi]; rfl
        refine iteT ⟨_, rfl, wr.1, _, rfl, .inl (SqL.of (sm2 _ _ (hW wr hmem))), fun pl hpl => ?_⟩
        refine hN _ _ ⟨hs ++ [(pl, wr.2)], by rw [wrefs_snoc], sm2.upd (sm2.free hpl), fun q hq => ?_, ?_⟩ (by simpa using hyl)
        · rcases List.mem_append.mp hq with z | z
          · exact (hO.mono ((Same.refl H2).upd hpl)) q z
          · have : q = (pl, wr.2) := by simpa using z
            rw [this]; exact upd_same
        · rw [wl_snoc, hwl, List.take_add_one, hwr2]; rfl
      rintro ys H2 ⟨hs, rfl, sm2, hO2, hwl⟩ lh hlh
      rw [wrefs_len, ← wl_len, List.take_length] at hwl
      have h3h : upd H2 lh (.lst (wrefs hs)) lh = some (.lst (wrefs hs)) := upd_same
      have sm3 : Same H1 (upd H2 lh (.lst (wrefs hs))) := sm2.upd (sm2.free hlh)
      have hO3 : WsOk (upd H2 lh (.lst (wrefs hs))) hs := hO2.mono ((Same.refl H2).upd hlh)
      generalize upd H2 lh (.lst (wrefs hs)) = H3 at h3h sm3 hO3
      -- begun
      refine ⟨_, rfl, ls, _, rfl, .inl (SqL.of (sm3 _ _ h1s)), fun lb hlb => ?_⟩
      have h4b : upd H3 lb (.lst (refs qs)) lb = some (.lst (refs qs)) := upd_same
      have sm34 : Same H3 (upd H3 lb (.lst (refs qs))) := (Same.refl H3).upd hlb
      generalize upd H3 lb (.lst (refs qs)) = H4 at h4b sm34
      have sm4 := sm3.trans sm34
      have hhl : hs.length = ws.length := by rw [← wl_len, hwl, wl_len]
      have hql0 := run_len (T := lets qs) (r := []) (W := []) (lo := far) (c := c) (fun _ h => nomatch h) (Run.stop rfl) hnd hb
      have hqn : qs.length = (lets qs).length := by simp [lets]
      have hql : qs.length ≤ c := by simp at hql0; omega
      refine ⟨_, rfl, _, rfl, lh, lb, hs, qs, rfl, SqL.of (sm34 _ _ h3h), hO3.mono sm34, SqL.of h4b, hT.mono sm4, dis_abs hnd, by omega, by rw [hwl]; omega, fun lf rs ts H5 hlf sm45 h5f h5F ers hrun => ?_⟩
      have hrl0 : rs.length = qs.length := by simpa using congrArg List.length ers
      have elr : lets rs = lets qs := lets_snd ers
      have etr : trD rs = trD qs := trD_snd ers
      rw [hwl] at hrun
      have sm5 := sm4.trans sm45
      have hrl := run_len hWb hrun hnd hb
      have htl : qs.length + ts.length ≤ c := by simp at hrl; omega
      have h5s := sm5 _ _ h1s
      have h5w := sm5 _ _ h1w
      have h5h := sm45 _ _ (sm34 _ _ h3h)
      have h5b := sm45 _ _ h4b
      have hO5 := (hO3.mono sm34).mono sm45
      have hW5 := hW.mono sm5
      have hT5 := hT.mono sm5
      have hF5 : TrOk H5 (rs ++ ts.map np) := h5F
      have h5t : TrOk H5 (ts.map np) := fun q hq => h5F q (List.mem_append.mpr (.inr hq))
      have h5r : TrOk H5 rs := fun q hq => h5F q (List.mem_append.mpr (.inl hq))
      have wlen' : ∀ v ∈ wl ws, v.length ≤ 100000 := fun v hv => by
        obtain ⟨i, hi⟩ := List.mem_iff_getElem?.mp hv
        have h2 := total_take hi
        have h3 := total_le (wl ws) (i + 1)
        omega
      have wlen : ∀ p ∈ ws, p.2.length ≤ 100000 := fun p hp => wlen' p.2 (List.mem_map.mpr ⟨p, hp, rfl⟩)
      have ef : (refs (rs ++ ts.map np)).length = qs.length + ts.length := by rw [refs_len]; simp; omega
      have es : (refs qs).length = qs.length := refs_len qs
      refine ⟨_, rfl, _, .lst, .lst, rfl, ⟨_, .inl h5f⟩, _, rfl, ?_⟩
      refine iteF ⟨_, rfl, lf, _, rfl, .inl (SqL.of h5f), _, rfl, ls, _, rfl, .inl (SqL.of h5s), _, _, rfl, rfl, _, rfl, ite2 (fun c0 => absurd (of_decide_eq_true c0) (by rw [ef, es]; omega)) fun _ => ?_⟩
      refine ⟨_, rfl, lf, _, rfl, .inl (SqL.of h5f), _, rfl, _, _, rfl, rfl, _, rfl, ite2 (fun c0 => absurd (of_decide_eq_true c0) (by rw [ef]; omega)) fun _ => ?_⟩
      -- handed, begun are the same
      have eD : wsD hs = wsD ws := by rw [wsD_wl, wsD_wl, hwl]
      refine ⟨_, rfl, _, rfl, _, _, .lst (wsD ws), rfl, by rw [← eD]; exact ws_at hO5 h5h, ws_at hW5 h5w, by rw [D.plain]; exact plains_wsD ws, by rw [D.size, sizes_wsD]; omega, fun H6 sm56 => ⟨_, rfl, iteF ?_⟩⟩
      refine ⟨_, rfl, _, rfl, _, _, .lst (trD qs), rfl, trail_at (hT5.mono sm56) (sm56 _ _ h5b), trail_at (hT5.mono sm56) (sm56 _ _ h5s), by rw [D.plain]; exact plains_trD qs, by rw [D.size, sizes_trD]; omega, fun H7 sm67 => ⟨_, rfl, iteF ?_⟩⟩
      have sm57 := sm56.trans sm67
      -- the beginning
      refine ⟨_, rfl, _, rfl, ls, _, rfl, .inl (SqL.of (sm57 _ _ h5s)), _, rfl, lf, _, rfl, SqL.of (sm57 _ _ h5f), fun p8 hp8 => ?_⟩
      have ec : cutV (refs (rs ++ ts.map np)) none (some (((refs qs).length : Nat) : Int)) = refs rs := by
        rw [cut_to (by rw [ef, es]; omega), es, ← hrl0]; simp [refs]
      rw [ec]
      have h8p : upd H7 p8 (.lst (refs rs)) p8 = some (.lst (refs rs)) := upd_same
      have sm78 : Same H7 (upd H7 p8 (.lst (refs rs))) := (Same.refl H7).upd hp8
      generalize upd H7 p8 (.lst (refs rs)) = H8 at h8p sm78
      have sm58 := sm57.trans sm78
      refine ⟨_, rfl, _, _, .lst (trD qs), rfl, by rw [← etr]; exact trail_at (h5r.mono sm58) h8p, trail_at (hT5.mono sm58) (sm58 _ _ h5s), by rw [D.plain]; exact plains_trD qs, by rw [D.size, sizes_trD]; omega, fun H9 sm89 => ⟨_, rfl, iteF ?_⟩⟩
      have sm59 := sm58.trans sm89
      -- letters
      dsimp only [tNext]
      refine rd_seq (t := tAsg (tComp _ _ _ _) _) (rd_asg (tcomp_list (K := K) ?_))
      refine ⟨_, rfl, ls, rfl, ⟨_, SqL.of (sm59 _ _ h5s)⟩, ?_⟩
      refine comp_pure (K := K) (a := ls) (xs := qs) (g := fun q => V.ref q.1) (fun _ => true) (fun q => V.int q.2.1) (small6' (by omega)) (SqL.of (sm59 _ _ h5s)) (fun x _ R hR => hR) (fun x hx _ R hR => ?_) (fun ll hll => ?_)
      · exact ⟨_, rfl, x.1, _, _, _, rfl, rfl, SqT.of ((hT5.mono sm59) x hx), rfl, hR⟩
      have eL : (qs.filter fun _ => true).map (fun q => V.int q.2.1) = (lets qs).map V.int := by rw [filt_true]; simp [lets, List.map_map, Function.comp_def]
      rw [eL]
      have hXl : upd H9 ll (.lst ((lets qs).map V.int)) ll = some (.lst ((lets qs).map V.int)) := upd_same
      have sm9X : Same H9 (upd H9 ll (.lst ((lets qs).map V.int))) := (Same.refl H9).upd hll
      have hll5 : H5 ll = none := sm59.free hll
      generalize upd H9 ll (.lst ((lets qs).map V.int)) = HX at hXl sm9X
      have sm5X := sm59.trans sm9X
      -- the turns
      refine ⟨_, rfl, ls, _, rfl, .inl (SqL.of (sm5X _ _ h5s)), _, rfl, lf, _, rfl, .inl (SqL.of (sm5X _ _ h5f)), _, _, rfl, ⟨by omega, by omega, by omega, by omega⟩, ?_⟩
      have en : ((((refs (rs ++ ts.map np)).length : Nat) : Int) - (((refs qs).length : Nat) : Int)).toNat = ts.length := by rw [ef, es]; omega
      rw [en]
      refine for_range (fun i σ Hi => ∃ o11 o12, σ = [some (.ref a), some (.int c), some (.ref lw), some (.int far), some (.ref ls), o5, o6, some (.ref lh), some (.ref lb), some (.ref lf), some (.ref ll), o11, o12, none, none, none] ∧ Same H5 Hi ∧
        Hi ll = some (.lst ((lets qs ++ (ts.take i).map fun t : Nw => t.2.1).map V.int)) ∧ Run (wl ws) (lets qs ++ (ts.take i).map fun t : Nw => t.2.1) ((ts.drop i).map nn)) ⟨none, none, rfl, sm5X, by simpa using hXl, by simpa using hrun⟩ ?_ ?_
      · rintro i σ Hi hi ⟨o11, o12, rfl, sm5i, hil, hir⟩
        obtain ⟨t, hti⟩ : ∃ t, ts[i]? = some t := ⟨ts[i], by simp⟩
        have hdr : ts.drop i = t :: ts.drop (i + 1) := by
          have e := List.drop_eq_getElem_cons hi
          have e2 : ts[i] = t := by rw [List.getElem?_eq_getElem hi] at hti; exact Option.some.inj hti
          rw [e2] at e; exact e
        have htk : (ts.take (i + 1)).map (fun t : Nw => t.2.1) = (ts.take i).map (fun t : Nw => t.2.1) ++ [t.2.1] := by rw [List.take_add_one, hti]; simp
        have hTl : (lets qs ++ (ts.take i).map fun t : Nw => t.2.1).length ≤ 2000 := by
          have := List.length_take_le i ts
          simp only [List.length_append, List.length_map]; omega
        generalize hTT : (lets qs ++ (ts.take i).map fun t : Nw => t.2.1) = T at hil hir hTl
        rw [hdr, List.map_cons] at hir
        cases hir with
        | step hn hr2 =>
          refine ⟨_, rfl, _, rfl, lw, ll, ws, T, rfl, SqL.of (sm5i _ _ h5w), hW5.mono sm5i, SqL.of hil, by omega, wlen, (fun hno => by rw [hn] at hno; cases hno), fun x j hx pd Hj hpd smj hj => ?_⟩
          rw [hn] at hx
          have ex : t.2.1 = x := congrArg (·.1) (Option.some.inj hx)
          have ej : t.2.2 = j := congrArg (·.2) (Option.some.inj hx)
          subst ex ej
          have sm5j := sm5i.trans smj
          have hft : Hj t.1 = some (.tup [.int t.2.1, wv (some (t.2.2 : Int))]) := sm5j _ _ (h5t (np t) (List.mem_map.mpr ⟨t, List.mem_of_getElem? hti, rfl⟩))
          have ga : atI (refs (rs ++ ts.map np)) ((((refs qs).length : Nat) : Int) + (i : Int)) = some (.ref t.1) := by
            have e : ((((refs qs).length : Nat) : Int) + (i : Int)) = ((qs.length + i : Nat) : Int) := by rw [es]; omega
            rw [e]
            refine atI_nat ?_
            unfold refs
            rw [List.getElem?_map, List.getElem?_append_right (by omega), hrl0]
            simp [hti, np]
          refine ⟨_, rfl, rfl, _, rfl, iteF ⟨_, rfl, _, rfl, lf, _, _, _, rfl, rfl, SqL.of (sm5j _ _ h5f), ga, _, rfl, _, _, .tup [.int t.2.1, wd (some (t.2.2 : Int))], rfl, at_pair hft, at_pair hj, rfl, by simp only [D.size, sizes, wd_size]; decide, fun Hk smk => ⟨_, rfl, iteF ?_⟩⟩⟩
          have hkl := smk _ _ (smj _ _ hil)
          refine ⟨_, rfl, .inl ⟨rfl, _, SqL.of hkl⟩, _, rfl, pd, _, _, .int t.2.1, rfl, rfl, SqT.of (smk _ _ hj), rfl, ll, _, _, rfl, rfl, hkl, small6 (by rw [List.length_map]; omega), ?_⟩
          refine ⟨_, _, rfl, (sm5j.trans smk).upd hll5, ?_, ?_⟩
          · rw [upd_same, htk, ← List.append_assoc, hTT]; simp
          · rw [htk, ← List.append_assoc, hTT]; exact hr2
      rintro σ Hi ⟨o11, o12, rfl, sm5i, hil, hir⟩
      rw [List.take_length] at hil hir
      rw [List.drop_length] at hir
      have hTl : (lets qs ++ ts.map fun t : Nw => t.2.1).length ≤ 2000 := by simp only [List.length_append, List.length_map]; omega
      have eT : lets (rs ++ ts.map np) = lets qs ++ ts.map fun t : Nw => t.2.1 := by rw [lets_append, lets_np, elr]
      have hnone : nextOf (wl ws) (lets qs ++ ts.map fun t : Nw => t.2.1) = none := by
        cases hir with
        | stop h => exact h
      generalize (lets qs ++ ts.map fun t : Nw => t.2.1) = T at hil hTl eT hnone
      clear hir
      refine ⟨_, rfl, _, rfl, lw, ll, ws, T, rfl, SqL.of (sm5i _ _ h5w), hW5.mono sm5i, SqL.of hil, by omega, wlen, fun _ Hj smj => ⟨rfl, _, rfl, iteF ?_⟩, (fun x j hx => by rw [hnone] at hx; cases hx)⟩
      have sm5j := sm5i.trans smj
      have hjl := smj _ _ hil
      -- half
      refine ⟨_, rfl, ls, _, rfl, .inl (SqL.of (sm5j _ _ h5s)), _, rfl, a, ns, 1, rfl, ((sm.trans sm5).trans sm5j).seq hS, _, rfl, lf, _, rfl, .inl (SqL.of (sm5j _ _ h5f)), _, rfl, ls, _, rfl, .inl (SqL.of (sm5j _ _ h5s)), _, _, rfl, rfl, _, _, rfl, rfl, _, _, rfl, rfl, (by rw [ef, es]; omega), _, _, rfl, rfl, ?_⟩
      dsimp only
      obtain ⟨m, hm, hml⟩ : ∃ m : Nat, (((refs qs).length : Nat) : Int) + ns.getD 1 0 % ((((refs (rs ++ ts.map np)).length : Nat) : Int) - (((refs qs).length : Nat) : Int) + 1) = ((qs.length + m : Nat) : Int) ∧ m ≤ ts.length := by
        have e : ((((refs (rs ++ ts.map np)).length : Nat) : Int) - (((refs qs).length : Nat) : Int) + 1) = (ts.length : Int) + 1 := by rw [ef, es]; omega
        rw [e, es]
        have h1 := Int.emod_nonneg (ns.getD 1 0) (show (ts.length : Int) + 1 ≠ 0 by omega)
        have h2 := Int.emod_lt_of_pos (ns.getD 1 0) (show (0 : Int) < (ts.length : Int) + 1 by omega)
        exact ⟨(ns.getD 1 0 % ((ts.length : Int) + 1)).toNat, by omega, by omega⟩
      rw [hm]
      have ec2 : cutV (refs (rs ++ ts.map np)) none (some ((qs.length + m : Nat) : Int)) = refs (rs ++ (ts.take m).map np) := by
        rw [cut_to (by rw [ef]; omega)]
        unfold refs
        rw [← List.map_take, List.take_append, List.take_of_length_le (by omega), ← List.map_take]
        congr 3
        congr 1; omega
      refine ⟨_, rfl, _, rfl, _, rfl, _, rfl, lf, _, rfl, SqL.of (sm5j _ _ h5f), fun p1 hp1 => ?_⟩
      rw [ec2]
      have sm1 : Same Hj (upd Hj p1 (.lst (refs (rs ++ (ts.take m).map np)))) := (Same.refl Hj).upd hp1
      have hp1' : upd Hj p1 (.lst (refs (rs ++ (ts.take m).map np))) p1 = some (.lst (refs (rs ++ (ts.take m).map np))) := upd_same
      generalize upd Hj p1 (.lst (refs (rs ++ (ts.take m).map np))) = Ha at sm1 hp1'
      refine ⟨p1, _, rfl, .inl (SqL.of hp1'), fun p2 hp2 => ?_⟩
      have sm2 : Same Ha (upd Ha p2 (.lst (refs (rs ++ (ts.take m).map np)))) := (Same.refl Ha).upd hp2
      have hp2' : upd Ha p2 (.lst (refs (rs ++ (ts.take m).map np))) p2 = some (.lst (refs (rs ++ (ts.take m).map np))) := upd_same
      generalize upd Ha p2 (.lst (refs (rs ++ (ts.take m).map np))) = Hb at sm2 hp2'
      have sm5b := sm5j.trans (sm1.trans sm2)
      have hFm : TrOk Hb (rs ++ (ts.take m).map np) := fun q hq => by
        rcases List.mem_append.mp hq with z | z
        · exact (h5r.mono sm5b) q z
        · obtain ⟨t, ht, rfl⟩ := List.mem_map.mp z
          exact (h5t.mono sm5b) (np t) (List.mem_map.mpr ⟨t, List.mem_of_mem_take ht, rfl⟩)
      have htm : (ts.take m).length ≤ ts.length := by simp; omega
      have hdm : Dis (lets (rs ++ (ts.take m).map np)) := by
        have h0 := (run_nodup hWb hrun hnd hb).1
        have e0 : lets qs ++ (ts.map nn).map (·.1) = lets (rs ++ (ts.take m).map np) ++ (ts.drop m).map fun t : Nw => t.2.1 := by
          rw [lets_append, lets_np, elr, List.append_assoc, ← List.map_append, List.take_append_drop, List.map_map]; rfl
        rw [e0, List.map_append] at h0
        exact dis_abs (List.nodup_append.mp h0).1
      refine ⟨lh, p2, hs, rs ++ (ts.take m).map np, rfl, SqL.of (sm5b _ _ h5h), hO5.mono sm5b, SqL.of hp2', hFm, hdm, by simp only [List.length_append, List.length_map]; omega, by rw [hwl]; omega, fun lg rs' ts' Hg hlg smg hgl hFg ers' hgrun => ?_⟩
      have sm5g := sm5b.trans smg
      have eU : ts'.map nn = (ts.drop m).map nn := by
        rw [hwl, lets_append, lets_np, elr] at hgrun
        have e : ts.map nn = (ts.take m).map nn ++ (ts.drop m).map nn := by rw [← List.map_append, List.take_append_drop]
        rw [e] at hrun
        have h2 := run_append hrun
        have e3 : ((ts.take m).map nn).map (·.1) = (ts.take m).map fun t : Nw => t.2.1 := by rw [List.map_map]; rfl
        rw [e3] at h2
        exact run_uniq hgrun h2
      have eD2 : trD (rs' ++ ts'.map np) = trD (rs ++ ts.map np) := by
        rw [trD_append, trD_snd ers', trD_append, trD_append, nn_np eU, List.append_assoc, ← trD_append, ← List.map_append, List.take_append_drop]
      refine ⟨_, rfl, _, _, .lst (trD (rs ++ ts.map np)), rfl, by rw [← eD2]; exact trail_at hFg hgl, trail_at (hF5.mono sm5g) (sm5g _ _ h5f), by rw [D.plain]; exact plains_trD _, by rw [D.size, sizes_trD]; simp only [List.length_append, List.length_map]; omega, fun Hh smh => ⟨_, rfl, iteF ?_⟩⟩
      have sm5h := sm5g.trans smh
      -- number, place
      refine ⟨_, rfl, _, rfl, lh, lf, hs, rs ++ ts.map np, rfl, SqL.of (sm5h _ _ h5h), hO5.mono sm5h, SqL.of (sm5h _ _ h5f), hF5.mono sm5h, by simp only [List.length_append, List.length_map]; omega, ?_, fun Hn smn => ?_⟩
      · intro p hp
        refine wlen' p.2 ?_
        rw [← hwl]; exact List.mem_map.mpr ⟨p, hp, rfl⟩
      rw [hwl, eT]
      have sm5n := sm5h.trans smn
      have hnl := smn _ _ (smh _ _ (smg _ _ (sm2 _ _ (sm1 _ _ hjl))))
      refine ⟨_, rfl, _, rfl, lw, ll, ws, T, rfl, SqL.of (sm5n _ _ h5w), hW5.mono sm5n, SqL.of hnl, by omega, wlen, fun Hm smm => ?_⟩
      refine ⟨_, rfl, _, _, rfl, rfl, _, rfl, ?_⟩
      cases hbr : brokenAt (wl ws) T with
      | none =>
        refine ite2 (fun _ => ⟨_, rfl, rfl, ?_⟩) fun c0 => absurd (decide_eq_true (by show (-1 : Int) < 0; decide)) c0
        exact k _
      | some i =>
        refine ite2 (fun c0 => absurd (of_decide_eq_true c0) (by show ¬ ((i : Int) < 0); omega)) fun _ => ?_
        refine ⟨_, rfl, _, .int, rfl, trivial, _, rfl, iteT ⟨_, rfl, _, rfl, rfl, ?_⟩⟩
        have : decide (cV (some i) = V.int (bI (some i))) = true := decide_eq_true rfl
        rw [this]
        exact k _
    -- the guesses
    obtain ⟨u5, hu5, key5⟩ : ∃ u, PSs (cxOf CX0 P w K mg base n_law "law" (defScope s_law) f cdv A outer s H E).nox ((defBody s_law).drop 5) u ∧
        ∀ (c far : Nat) (lw : Addr) (ws : List Wr) (H1 : Hp), Same H H1 → H1 lw = some (.lst (wrefs ws)) → WsOk H1 ws → (∀ v ∈ wl ws, ∀ x ∈ v, Lm far (c + far) x) → total (wl ws) ≤ 1000 → ws.length ≤ 1000 → c ≤ 1000 → far ≤ 1000 →
          u { nx := fun _ H' => Q .non H', rt := Q } [some (.ref a), some (.int c), some (.ref lw), some (.int far), none, none, none, none, none, none, none, none, none, none, none, none] H1 := by
      refine ⟨_, (pss_cons (ps_set (i := 4) sc_law.nd rfl (Or.inl rfl) (pe_lst pa_nil))
 (pss_cons (ps_for PassesOwn.never rfl (pi_range2 (by rfl) B.range_ (pa_cons pe_int (pa_cons (pe_op op_add (pv 1) pe_int) pa_nil))) (pg_name (i := 5) sc_law.nd rfl (Or.inl rfl))
 (pss_cons (ps_set (i := 6) sc_law.nd rfl (Or.inl rfl) (pe_op op_mod (pe_op op_fdiv (pe_def c_l_at hr (by decide) (pa_cons (pv 0) (pa_cons pe_int pa_nil))) (pv 5)) pe_int))
 (pss_one (ps_if (PW.pt (pw_or (pt_cmpR op_eq (pv 6) pe_int (nomark _)) (pw_or1 (pt_cmpR op_eq (pv 6) pe_int (nomark _)))))
 (pss_one (ps_expr (pe_bm PySem.F.plainAttrs_list PySem.F.slot_list_append PySem.F.type_list_append mt_append (pv 4) (pa_cons (pe_tup (pa_cons (pe_op op_mul (pe_op op_add (pv 5) (pv 3)) (pe_op op_sub pe_int (pe_op op_mul pe_int (pv 6)))) (pa_cons pe_non pa_nil))) pa_nil))))
 pss_nil))))
 hu7)), fun c far lw ws H1 sm h1w hW hWb hWt hWl hc hf => ?_⟩
      refine ⟨by decide, fun ls hls => ?_⟩
      have hlsH : H ls = none := sm.free hls
      refine ⟨_, rfl, _, _, rfl, rfl, 1, _, rfl, ⟨by decide, by decide, by omega, by omega⟩, ?_⟩
      have en : ((c : Int) + 1 - 1).toNat = c := by omega
      rw [en]
      refine for_range (fun i σ H2 => ∃ (qs : List Pr) (o5 o6 : Option V), σ = [some (.ref a), some (.int c), some (.ref lw), some (.int far), some (.ref ls), o5, o6, none, none, none, none, none, none, none, none, none] ∧ Same H1 H2 ∧ H2 ls = some (.lst (refs qs)) ∧ TrOk H2 qs ∧
        ((lets qs).map absN).Nodup ∧ (∀ x ∈ lets qs, Lm far (i + far) x) ∧ qs.length ≤ i) ⟨[], none, none, rfl, (Same.refl H1).upd hls, by rw [upd_same]; rfl, (fun _ h => nomatch h), List.nodup_nil, (fun _ h => nomatch h), Nat.le_refl _⟩ ?_ ?_
      · rintro i σ H2 hi ⟨qs, o5, o6, rfl, sm2, h2, hT, hnd, hb, hql⟩
        have hb1 : ∀ x ∈ lets qs, Lm far (i + 1 + far) x := fun x hx => by have := hb x hx; unfold Lm at this ⊢; omega
        refine ⟨_, rfl, a, ns, 1, rfl, (sm.trans sm2).seq hS, _, rfl, _, _, rfl, rfl, ⟨by omega, by omega⟩, _, _, rfl, rfl, (by show (0 : Int) < 5; decide), ?_⟩
        dsimp only
        generalize ns.getD 1 0 / (1 + (i : Int)) % 5 = way
        -- what the turn makes of a guess
        have more : ∀ (L : Int) (p : Addr), absN L = 1 + (i : Int) + (far : Int) → H2 p = none → ∃ (qs' : List Pr) (o5 o6 : Option V), [some (.ref a), some (.int c), some (.ref lw), some (.int far), some (.ref ls), some (.int (1 + (i : Int))), some (.int way), none, none, none, none, none, none, none, none, none] = [some (.ref a), some (.int c), some (.ref lw), some (.int far), some (.ref ls), o5, o6, none, none, none, none, none, none, none, none, none] ∧ Same H1 (upd (upd H2 p (.tup [.int L, .non])) ls (.lst (refs qs ++ [.ref p]))) ∧
            upd (upd H2 p (.tup [.int L, .non])) ls (.lst (refs qs ++ [.ref p])) ls = some (.lst (refs qs')) ∧ TrOk (upd (upd H2 p (.tup [.int L, .non])) ls (.lst (refs qs ++ [.ref p]))) qs' ∧ ((lets qs').map absN).Nodup ∧ (∀ x ∈ lets qs', Lm far (i + 1 + far) x) ∧ qs'.length ≤ i + 1 := by
          intro L p hL hp
          have np : ls ≠ p := ne_of_none h2 hp
          refine ⟨qs ++ [(p, L, none)], _, _, rfl, (sm2.upd (sm2.free hp)).upd hls, by rw [upd_same]; simp [refs], TrOk.snoc (fun q hq => ?_) ?_, ?_, fun x hx => ?_, by simp; omega⟩
          · have e1 : q.1 ≠ ls := fun z => by have := hT q hq; rw [z, h2] at this; cases this
            rw [upd_ne e1, upd_ne (ne_of_none (hT q hq) hp)]; exact hT q hq
          · rw [upd_ne np.symm, upd_same]; rfl
          · rw [lets_append, List.map_append]
            refine List.nodup_append.mpr ⟨hnd, by simp [lets], fun x hx y hy e => ?_⟩
            obtain ⟨z, hz, rfl⟩ := List.mem_map.mp hx
            have hy2 : y = absN L := by simpa [lets] using hy
            have := hb z hz
            rw [hy2, hL] at e
            unfold absN at e; unfold Lm at this; omega
          · rw [lets_append] at hx
            rcases List.mem_append.mp hx with z | z
            · exact hb1 x z
            · have : x = L := by simpa [lets] using z
              rw [this]; unfold absN at hL; unfold Lm; omega
        have hzq : (refs qs).length < sizeLine := small6 (by rw [refs_len]; omega)
        refine ⟨_, rfl, rfl, _, rfl, ite2 (fun c0 => ?_) fun c0 => ?_⟩
        · have e0 : way = 1 := by
            have := of_decide_eq_true c0
            injection this
          refine iteT ⟨_, rfl, .inl ⟨rfl, _, SqL.of h2⟩, _, rfl, _, rfl, _, _, rfl, rfl, _, rfl, _, _, rfl, rfl, .inl ⟨by decide, by decide⟩, _, _, rfl, rfl, _, _, rfl, rfl, .inl ⟨by omega, by omega⟩, len2, fun p hp => ?_⟩
          have np : ls ≠ p := ne_of_none h2 hp
          refine ⟨ls, _, _, rfl, rfl, by rw [upd_ne np]; exact h2, hzq, ?_⟩
          exact more _ p (by subst e0; unfold absN; omega) hp
        · refine ⟨_, rfl, rfl, _, rfl, ite2 (fun c1 => ?_) fun c1 => ?_⟩
          · have e0 : way = 2 := by
              have := of_decide_eq_true c1
              injection this
            refine ⟨_, rfl, .inl ⟨rfl, _, SqL.of h2⟩, _, rfl, _, rfl, _, _, rfl, rfl, _, rfl, _, _, rfl, rfl, .inl ⟨by decide, by decide⟩, _, _, rfl, rfl, _, _, rfl, rfl, .inl ⟨by omega, by omega⟩, len2, fun p hp => ?_⟩
            have np : ls ≠ p := ne_of_none h2 hp
            refine ⟨ls, _, _, rfl, rfl, by rw [upd_ne np]; exact h2, hzq, ?_⟩
            exact more _ p (by subst e0; unfold absN; omega) hp
          · exact ⟨qs, _, _, rfl, sm2, h2, hT, hnd, hb1, by omega⟩
      · rintro σ H2 ⟨qs, o5, o6, rfl, sm2, h2, hT, hnd, hb, hql⟩
        exact key7 c far lw ls ws qs H2 o5 o6 (sm.trans sm2) (sm2 _ _ h1w) (hW.mono sm2) hWb hWt hWl h2 hT hnd hb hc
    -- an empty wish
    obtain ⟨u4, hu4, key4⟩ : ∃ u, PSs (cxOf CX0 P w K mg base n_law "law" (defScope s_law) f cdv A outer s H E).nox ((defBody s_law).drop 4) u ∧
        ∀ (c far : Nat) (lw : Addr) (ws : List Wr) (H1 : Hp), Same H H1 → H lw = none → H1 lw = some (.lst (wrefs ws)) → WsOk H1 ws → (∀ wr ∈ ws, wr.1 ≠ lw) → (∀ v ∈ wl ws, ∀ x ∈ v, Lm far (c + far) x) → total (wl ws) ≤ 1000 → ws.length ≤ 500 → c ≤ 1000 → far ≤ 1000 →
          u { nx := fun _ H' => Q .non H', rt := Q } [some (.ref a), some (.int c), some (.ref lw), some (.int far), none, none, none, none, none, none, none, none, none, none, none, none] H1 := by
      refine ⟨_, (pss_cons (ps_if (pt_cmpR op_eq (pe_op op_mod (pe_op op_fdiv (pe_def c_l_at hr (by decide) (pa_cons (pv 0) (pa_cons pe_int pa_nil))) pe_int) pe_int) pe_int (nomark _))
 (pss_one (ps_expr (pe_bm PySem.F.plainAttrs_list PySem.F.slot_list_insert PySem.F.type_list_insert mt_insert (pv 2) (pa_cons (pe_op op_mod (pe_def c_l_at hr (by decide) (pa_cons (pv 0) (pa_cons pe_int pa_nil))) (pe_op op_add (pe_callB call_len_seq (by rfl) B.len_ PySem.boot_len (pa_cons (pv 2) pa_nil)) pe_int)) (pa_cons (pe_lst pa_nil) pa_nil)))))
 pss_nil)
 hu5), fun c far lw ws H1 sm hlw h1w hW hne hWb hWt hWl hc hf => ?_⟩
      refine ⟨_, rfl, a, ns, 0, rfl, sm.seq hS, _, _, rfl, rfl, ⟨by decide, by decide⟩, _, _, rfl, rfl, (by show (0 : Int) < 9; decide), rfl, _, rfl, ite2 (fun _ => ?_) fun _ => key5 c far lw ws H1 sm h1w hW hWb hWt (by omega) hc hf⟩
      have el := wrefs_len ws
      refine ⟨_, rfl, .inl ⟨rfl, _, SqL.of h1w⟩, _, rfl, a, ns, 1, rfl, sm.seq hS, _, rfl, lw, _, rfl, .inl (SqL.of h1w), _, _, rfl, rfl, _, _, rfl, rfl, (by rw [el]; omega), by decide, fun pe hpe => ?_⟩
      obtain ⟨m, hm, hml⟩ : ∃ m : Nat, ns.getD 1 0 % ((((wrefs ws).length : Nat) : Int) + 1) = (m : Int) ∧ m ≤ ws.length := by
        rw [el]
        have h1 := Int.emod_nonneg (ns.getD 1 0) (show (ws.length : Int) + 1 ≠ 0 by omega)
        have h2 := Int.emod_lt_of_pos (ns.getD 1 0) (show (0 : Int) < (ws.length : Int) + 1 by omega)
        exact ⟨(ns.getD 1 0 % ((ws.length : Int) + 1)).toNat, by omega, by omega⟩
      dsimp only
      rw [hm]
      have npe : lw ≠ pe := ne_of_none h1w hpe
      refine ⟨lw, wrefs ws, m, .ref pe, rfl, rfl, by rw [upd_ne npe]; exact h1w, by omega, small6 (by omega), ?_⟩
      have ew : wl (ws.take m ++ (pe, []) :: ws.drop m) = (wl ws).take m ++ [] :: (wl ws).drop m := by simp [wl, List.map_take, List.map_drop]
      have et : total ((wl ws).take m ++ [] :: (wl ws).drop m) = total (wl ws) := by
        have e : (wl ws).map List.length = ((wl ws).take m).map List.length ++ ((wl ws).drop m).map List.length := by rw [← List.map_append, List.take_append_drop]
        unfold total
        rw [e, List.map_append, List.map_cons, List.sum_append, List.sum_append, List.sum_cons, List.length_nil, Nat.zero_add]
      refine key5 c far lw (ws.take m ++ (pe, []) :: ws.drop m) _ ((sm.upd (sm.free hpe)).upd hlw) (by rw [upd_same]; simp [wrefs, List.map_take, List.map_drop]) (fun wr hwr => ?_) (fun v hv => ?_) (by rw [ew, et]; exact hWt) (by simp; omega) hc hf
      · have hcase : wr ∈ ws ∨ wr = (pe, []) := by
          rcases List.mem_append.mp hwr with z | z
          · exact .inl (List.mem_of_mem_take z)
          · rcases List.mem_cons.mp z with y | y
            · exact .inr y
            · exact .inl (List.mem_of_mem_drop y)
        rcases hcase with z | z
        · rw [upd_ne (hne wr z), upd_ne (ne_of_none (hW wr z) hpe)]; exact hW wr z
        · rw [z]
          show upd _ lw _ pe = _
          rw [upd_ne npe.symm, upd_same]; rfl
      · rw [ew] at hv
        rcases List.mem_append.mp hv with z | z
        · exact hWb v (List.mem_of_mem_take z)
        · rcases List.mem_cons.mp z with y | y
          · rw [y]; exact fun _ h => nomatch h
          · exact hWb v (List.mem_of_mem_drop y)
    -- the beginning
    refine ⟨_, (pss_cons (ps_set (i := 1) sc_law.nd rfl (Or.inl rfl) (pe_op op_add pe_int (pe_op op_mod (pe_def c_l_at hr (by decide) (pa_cons (pv 0) (pa_cons pe_int pa_nil))) pe_int)))
 (pss_cons (ps_set (i := 2) sc_law.nd rfl (Or.inl rfl) (pe_def c_l_wishes_of hr (by decide) (pa_cons (pe_slice sl_list (pv 0) (po_some pe_int) (po_some pe_int)) (pa_cons (pv 1) pa_nil))))
 (pss_cons (ps_set (i := 3) sc_law.nd rfl (Or.inr rfl) (pe_op op_mul pe_int (pe_callTy call_int1 (by rfl) B.int_ bt_int (pa_cons (pe_cmpR op_eq (pe_op op_mod (pe_op op_fdiv (pe_def c_l_at hr (by decide) (pa_cons (pv 0) (pa_cons pe_int pa_nil))) pe_int) pe_int) pe_int (nomark _)) pa_nil))))
 (pss_cons (ps_comp (i := 2) sc_law.nd rfl (Or.inl rfl) (fvn := ["_law_far"]) (js := [3]) rfl (pi_list (pv 2)) (.cons rfl (by first | exact .inl rfl | exact .inr rfl) rfl .nil) ⟨by decide +kernel, rfl, by decide +kernel, rfl, by decide +kernel, by decide +kernel⟩ (fun _ _ _ _ _ => pts_nil) (fun _ _ _ _ _ => (pe_def c_l_farther hr (by decide) (pa_cons (pv 0) (pa_cons (pv 1) pa_nil)))))
 hu4)))), ?_⟩
    refine ⟨_, rfl, a, ns, 0, rfl, hS, _, _, rfl, rfl, (by show (0 : Int) < 12; decide), _, _, rfl, rfl, ?_⟩
    obtain ⟨c, hc, hc0, hc1⟩ : ∃ c : Nat, 1 + ns.getD 0 0 % 12 = (c : Int) ∧ 0 < c ∧ c ≤ 12 := by
      have h1 := Int.emod_nonneg (ns.getD 0 0) (show (12 : Int) ≠ 0 by decide)
      have h2 := Int.emod_lt_of_pos (ns.getD 0 0) (show (0 : Int) < 12 by decide)
      exact ⟨(1 + ns.getD 0 0 % 12).toNat, by omega, by omega, by omega⟩
    dsimp only
    rw [hc]
    obtain ⟨cells, hcut, hcl⟩ : ∃ cells : List Int, cutV (ns.map V.int) (some 2) (some 32) = cells.map V.int ∧ cells.length ≤ ns.length := by
      refine ⟨(ns.drop (HT.sIx (ns.map V.int).length 0 (some 2))).take (HT.sIx (ns.map V.int).length (ns.map V.int).length (some 32) - HT.sIx (ns.map V.int).length 0 (some 2)), ?_, ?_⟩
      · unfold cutV; rw [List.map_take, List.map_drop]
      · rw [List.length_take, List.length_drop]; omega
    refine ⟨_, rfl, _, rfl, _, rfl, a, _, rfl, hS, fun p hp => ?_⟩
    rw [hcut]
    have sm1 : Same H (upd H p (.lst (cells.map V.int))) := (Same.refl H).upd hp
    have hp1 : upd H p (.lst (cells.map V.int)) p = some (.lst (cells.map V.int)) := upd_same
    generalize upd H p (.lst (cells.map V.int)) = H1 at sm1 hp1
    refine ⟨_, rfl, p, cells, c, rfl, SqL.of hp1, hc0, by omega, by omega, fun l0 ws0 H2 hl0 sm12 h2l hW2 hdr hfr htot => ?_⟩
    have sm2 := sm1.trans sm12
    have hlen0 := drawn_len hdr
    refine ⟨_, rfl, a, ns, 0, rfl, sm2.seq hS, _, _, rfl, rfl, ⟨by decide, by decide⟩, _, _, rfl, rfl, (by show (0 : Int) < 3; decide), rfl, .inr ⟨_, rfl, _, _, rfl, rfl, .inl ⟨by decide, by decide⟩, ?_⟩⟩
    obtain ⟨far, hfar, hf⟩ : ∃ far : Nat, (900 : Int) * (if decide (V.int (ns.getD 0 0 / 12 % 3) = V.int 1) = true then 1 else 0) = (far : Int) ∧ far ≤ 900 := by
      split
      · exact ⟨900, rfl, Nat.le_refl _⟩
      · exact ⟨0, rfl, Nat.zero_le _⟩
    dsimp only [gName]
    rw [hfar]
    refine rd_seq (t := tAsg (tComp _ _ _ _) _) (rd_asg (tcomp_list (K := K) ?_))
    refine ⟨_, rfl, l0, rfl, ⟨_, SqL.of h2l⟩, ?_⟩
    refine comp_list (K := K) (a := l0) (xs := wrefs ws0) (fun i ys H3 => ∃ fs : List Wr, ys = wrefs fs ∧ Same H2 H3 ∧ WsOk H3 fs ∧ wl fs = ((wl ws0).take i).map fun v => v.map (fa far)) ⟨[], rfl, Same.refl _, (fun _ h => nomatch h), by simp [wl]⟩ (small6' (by rw [wrefs_len]; omega)) (fun i ys H3 _ ⟨_, _, e, _⟩ => SqL.of (e _ _ h2l)) ?_ ?_
    · rintro i y ys H3 N hi hyl ⟨fs, rfl, sm3, hO, hwl⟩ hN
      obtain ⟨wr, hwi, rfl⟩ := wr_get hi
      have hmem := List.mem_of_getElem? hwi
      have hwr2 : (wl ws0)[i]? = some wr.2 := by unfold wl; rw [List.getElem?_map, hwi]; rfl
      have := (hdr wr hmem).2.1
      refine iteT ⟨_, rfl, _, rfl, wr.1, wr.2, far, rfl, SqL.of (sm3 _ _ (hW2 wr hmem)), by omega, by omega, by omega, fun pl H4 hpl sm4 h4 => ?_⟩
      refine hN _ _ ⟨fs ++ [(pl, wr.2.map (fa far))], by rw [wrefs_snoc], sm3.trans sm4, fun q hq => ?_, ?_⟩ (by simpa using hyl)
      · rcases List.mem_append.mp hq with z | z
        · exact (hO.mono sm4) q z
        · have : q = (pl, wr.2.map (fa far)) := by simpa using z
          rw [this]; exact h4
      · rw [wl_snoc, hwl, List.take_add_one, hwr2]; simp
    rintro ys H3 ⟨fs, rfl, sm23, hO3, hwl⟩ lw hlw
    rw [wrefs_len, ← wl_len, List.take_length] at hwl
    have sm3 := sm2.trans sm23
    have hfl : fs.length = ws0.length := by rw [← wl_len, hwl, List.length_map, wl_len]
    have htt : total (wl fs) = total (wl ws0) := by rw [hwl]; simp [total, List.map_map, Function.comp_def]
    refine key4 c far lw fs _ (sm3.upd (sm3.free hlw)) (sm3.free hlw) upd_same (hO3.mono ((Same.refl H3).upd hlw)) (fun wr hwr => ne_of_none (hO3 wr hwr) hlw) (fun v hv x hx => ?_) (by omega) (by omega) (by omega) (by omega)
    rw [hwl] at hv
    obtain ⟨v0, hv0, rfl⟩ := List.mem_map.mp hv
    obtain ⟨x0, hx0, rfl⟩ := List.mem_map.mp hx
    obtain ⟨wr, hwr, rfl⟩ := List.mem_map.mp hv0
    have := (hdr wr hwr).2.2 x0 hx0
    unfold Lm at this ⊢
    unfold fa
    by_cases h0 : x0 < 0
    · simp only [decide_eq_true h0, if_true]; omega
    · simp only [decide_eq_false h0, Bool.false_eq_true, if_false]; omega
end
theorem all_mk {l : PySem.W.OpenLaw} {w : World} {K : PySem.W.Frag} {h : Heap} {mg : Str → Option Value} {fa : Addr} (X : K.In h) (G : h.Ns mainGlobals mg) (hfa : mg "law" = some (.ref fa))
    {f__wall : Addr} {od__wall an__wall : Option Addr} {sl__wall : Array (Option Value)} {oc__wall kV__wall dc__wall pm__wall cd__wall ct__wall : Value}
    (a__wall : PySem.W.nsIn K mainGlobals "_wall" = some (some (.ref f__wall))) (l__wall : K.lookup f__wall = some ⟨oc__wall, od__wall, .func (PySem.W.fnOf "_wall" "_wall" (defArgs s__wall) (defBody s__wall) (defScope s__wall) .none kV__wall dc__wall pm__wall an__wall cd__wall ct__wall), sl__wall⟩) (c__wall : PySem.W.codeIn K cd__wall "_wall" = true) (k__wall : PySem.W.keepIn K (.ref f__wall) = true)
    {f_left_open : Addr} {od_left_open an_left_open : Option Addr} {sl_left_open : Array (Option Value)} {oc_left_open kV_left_open dc_left_open pm_left_open cd_left_open ct_left_open : Value}
    (a_left_open : PySem.W.nsIn K mainGlobals "left_open" = some (some (.ref f_left_open))) (l_left_open : K.lookup f_left_open = some ⟨oc_left_open, od_left_open, .func (PySem.W.fnOf "left_open" "left_open" (defArgs s_left_open) (defBody s_left_open) (defScope s_left_open) .none kV_left_open dc_left_open pm_left_open an_left_open cd_left_open ct_left_open), sl_left_open⟩) (c_left_open : PySem.W.codeIn K cd_left_open "left_open" = true) (k_left_open : PySem.W.keepIn K (.ref f_left_open) = true)
    {f_each_once : Addr} {od_each_once an_each_once : Option Addr} {sl_each_once : Array (Option Value)} {oc_each_once kV_each_once dc_each_once pm_each_once cd_each_once ct_each_once : Value}
    (a_each_once : PySem.W.nsIn K mainGlobals "each_once" = some (some (.ref f_each_once))) (l_each_once : K.lookup f_each_once = some ⟨oc_each_once, od_each_once, .func (PySem.W.fnOf "each_once" "each_once" (defArgs s_each_once) (defBody s_each_once) (defScope s_each_once) .none kV_each_once dc_each_once pm_each_once an_each_once cd_each_once ct_each_once), sl_each_once⟩) (c_each_once : PySem.W.codeIn K cd_each_once "each_once" = true) (k_each_once : PySem.W.keepIn K (.ref f_each_once) = true)
    {f_marked : Addr} {od_marked an_marked : Option Addr} {sl_marked : Array (Option Value)} {oc_marked kV_marked dc_marked pm_marked cd_marked ct_marked : Value}
    (a_marked : PySem.W.nsIn K mainGlobals "marked" = some (some (.ref f_marked))) (l_marked : K.lookup f_marked = some ⟨oc_marked, od_marked, .func (PySem.W.fnOf "marked" "marked" (defArgs s_marked) (defBody s_marked) (defScope s_marked) .none kV_marked dc_marked pm_marked an_marked cd_marked ct_marked), sl_marked⟩) (c_marked : PySem.W.codeIn K cd_marked "marked" = true) (k_marked : PySem.W.keepIn K (.ref f_marked) = true)
    {f_broken : Addr} {od_broken an_broken : Option Addr} {sl_broken : Array (Option Value)} {oc_broken kV_broken dc_broken pm_broken cd_broken ct_broken : Value}
    (a_broken : PySem.W.nsIn K mainGlobals "broken" = some (some (.ref f_broken))) (l_broken : K.lookup f_broken = some ⟨oc_broken, od_broken, .func (PySem.W.fnOf "broken" "broken" (defArgs s_broken) (defBody s_broken) (defScope s_broken) .none kV_broken dc_broken pm_broken an_broken cd_broken ct_broken), sl_broken⟩) (c_broken : PySem.W.codeIn K cd_broken "broken" = true) (k_broken : PySem.W.keepIn K (.ref f_broken) = true)
    {f_forced : Addr} {od_forced an_forced : Option Addr} {sl_forced : Array (Option Value)} {oc_forced kV_forced dc_forced pm_forced cd_forced ct_forced : Value}
    (a_forced : PySem.W.nsIn K mainGlobals "forced" = some (some (.ref f_forced))) (l_forced : K.lookup f_forced = some ⟨oc_forced, od_forced, .func (PySem.W.fnOf "forced" "forced" (defArgs s_forced) (defBody s_forced) (defScope s_forced) .none kV_forced dc_forced pm_forced an_forced cd_forced ct_forced), sl_forced⟩) (c_forced : PySem.W.codeIn K cd_forced "forced" = true) (k_forced : PySem.W.keepIn K (.ref f_forced) = true)
    {f_letters_of : Addr} {od_letters_of an_letters_of : Option Addr} {sl_letters_of : Array (Option Value)} {oc_letters_of kV_letters_of dc_letters_of pm_letters_of cd_letters_of ct_letters_of : Value}
    (a_letters_of : PySem.W.nsIn K mainGlobals "letters_of" = some (some (.ref f_letters_of))) (l_letters_of : K.lookup f_letters_of = some ⟨oc_letters_of, od_letters_of, .func (PySem.W.fnOf "letters_of" "letters_of" (defArgs s_letters_of) (defBody s_letters_of) (defScope s_letters_of) .none kV_letters_of dc_letters_of pm_letters_of an_letters_of cd_letters_of ct_letters_of), sl_letters_of⟩) (c_letters_of : PySem.W.codeIn K cd_letters_of "letters_of" = true) (k_letters_of : PySem.W.keepIn K (.ref f_letters_of) = true)
    {f_l_whole : Addr} {od_l_whole an_l_whole : Option Addr} {sl_l_whole : Array (Option Value)} {oc_l_whole kV_l_whole dc_l_whole pm_l_whole cd_l_whole ct_l_whole : Value}
    (a_l_whole : PySem.W.nsIn K mainGlobals "_law_whole" = some (some (.ref f_l_whole))) (l_l_whole : K.lookup f_l_whole = some ⟨oc_l_whole, od_l_whole, .func (PySem.W.fnOf "_law_whole" "_law_whole" (defArgs s_l_whole) (defBody s_l_whole) (defScope s_l_whole) .none kV_l_whole dc_l_whole pm_l_whole an_l_whole cd_l_whole ct_l_whole), sl_l_whole⟩) (c_l_whole : PySem.W.codeIn K cd_l_whole "_law_whole" = true) (k_l_whole : PySem.W.keepIn K (.ref f_l_whole) = true)
    {f_l_at : Addr} {od_l_at an_l_at : Option Addr} {sl_l_at : Array (Option Value)} {oc_l_at kV_l_at dc_l_at pm_l_at cd_l_at ct_l_at : Value}
    (a_l_at : PySem.W.nsIn K mainGlobals "_law_at" = some (some (.ref f_l_at))) (l_l_at : K.lookup f_l_at = some ⟨oc_l_at, od_l_at, .func (PySem.W.fnOf "_law_at" "_law_at" (defArgs s_l_at) (defBody s_l_at) (defScope s_l_at) .none kV_l_at dc_l_at pm_l_at an_l_at cd_l_at ct_l_at), sl_l_at⟩) (c_l_at : PySem.W.codeIn K cd_l_at "_law_at" = true) (k_l_at : PySem.W.keepIn K (.ref f_l_at) = true)
    {f_l_alike : Addr} {od_l_alike an_l_alike : Option Addr} {sl_l_alike : Array (Option Value)} {oc_l_alike kV_l_alike dc_l_alike pm_l_alike cd_l_alike ct_l_alike : Value}
    (a_l_alike : PySem.W.nsIn K mainGlobals "_law_alike" = some (some (.ref f_l_alike))) (l_l_alike : K.lookup f_l_alike = some ⟨oc_l_alike, od_l_alike, .func (PySem.W.fnOf "_law_alike" "_law_alike" (defArgs s_l_alike) (defBody s_l_alike) (defScope s_l_alike) .none kV_l_alike dc_l_alike pm_l_alike an_l_alike cd_l_alike ct_l_alike), sl_l_alike⟩) (c_l_alike : PySem.W.codeIn K cd_l_alike "_law_alike" = true) (k_l_alike : PySem.W.keepIn K (.ref f_l_alike) = true)
    {f_l_wishes_of : Addr} {od_l_wishes_of an_l_wishes_of : Option Addr} {sl_l_wishes_of : Array (Option Value)} {oc_l_wishes_of kV_l_wishes_of dc_l_wishes_of pm_l_wishes_of cd_l_wishes_of ct_l_wishes_of : Value}
    (a_l_wishes_of : PySem.W.nsIn K mainGlobals "_law_wishes_of" = some (some (.ref f_l_wishes_of))) (l_l_wishes_of : K.lookup f_l_wishes_of = some ⟨oc_l_wishes_of, od_l_wishes_of, .func (PySem.W.fnOf "_law_wishes_of" "_law_wishes_of" (defArgs s_l_wishes_of) (defBody s_l_wishes_of) (defScope s_l_wishes_of) .none kV_l_wishes_of dc_l_wishes_of pm_l_wishes_of an_l_wishes_of cd_l_wishes_of ct_l_wishes_of), sl_l_wishes_of⟩) (c_l_wishes_of : PySem.W.codeIn K cd_l_wishes_of "_law_wishes_of" = true) (k_l_wishes_of : PySem.W.keepIn K (.ref f_l_wishes_of) = true)
    {f_l_open : Addr} {od_l_open an_l_open : Option Addr} {sl_l_open : Array (Option Value)} {oc_l_open kV_l_open dc_l_open pm_l_open cd_l_open ct_l_open : Value}
    (a_l_open : PySem.W.nsIn K mainGlobals "_law_open" = some (some (.ref f_l_open))) (l_l_open : K.lookup f_l_open = some ⟨oc_l_open, od_l_open, .func (PySem.W.fnOf "_law_open" "_law_open" (defArgs s_l_open) (defBody s_l_open) (defScope s_l_open) .none kV_l_open dc_l_open pm_l_open an_l_open cd_l_open ct_l_open), sl_l_open⟩) (c_l_open : PySem.W.codeIn K cd_l_open "_law_open" = true) (k_l_open : PySem.W.keepIn K (.ref f_l_open) = true)
    {f_l_broken_at : Addr} {od_l_broken_at an_l_broken_at : Option Addr} {sl_l_broken_at : Array (Option Value)} {oc_l_broken_at kV_l_broken_at dc_l_broken_at pm_l_broken_at cd_l_broken_at ct_l_broken_at : Value}
    (a_l_broken_at : PySem.W.nsIn K mainGlobals "_law_broken_at" = some (some (.ref f_l_broken_at))) (l_l_broken_at : K.lookup f_l_broken_at = some ⟨oc_l_broken_at, od_l_broken_at, .func (PySem.W.fnOf "_law_broken_at" "_law_broken_at" (defArgs s_l_broken_at) (defBody s_l_broken_at) (defScope s_l_broken_at) .none kV_l_broken_at dc_l_broken_at pm_l_broken_at an_l_broken_at cd_l_broken_at ct_l_broken_at), sl_l_broken_at⟩) (c_l_broken_at : PySem.W.codeIn K cd_l_broken_at "_law_broken_at" = true) (k_l_broken_at : PySem.W.keepIn K (.ref f_l_broken_at) = true)
    {f_l_next : Addr} {od_l_next an_l_next : Option Addr} {sl_l_next : Array (Option Value)} {oc_l_next kV_l_next dc_l_next pm_l_next cd_l_next ct_l_next : Value}
    (a_l_next : PySem.W.nsIn K mainGlobals "_law_next" = some (some (.ref f_l_next))) (l_l_next : K.lookup f_l_next = some ⟨oc_l_next, od_l_next, .func (PySem.W.fnOf "_law_next" "_law_next" (defArgs s_l_next) (defBody s_l_next) (defScope s_l_next) .none kV_l_next dc_l_next pm_l_next an_l_next cd_l_next ct_l_next), sl_l_next⟩) (c_l_next : PySem.W.codeIn K cd_l_next "_law_next" = true) (k_l_next : PySem.W.keepIn K (.ref f_l_next) = true)
    {f_l_farther : Addr} {od_l_farther an_l_farther : Option Addr} {sl_l_farther : Array (Option Value)} {oc_l_farther kV_l_farther dc_l_farther pm_l_farther cd_l_farther ct_l_farther : Value}
    (a_l_farther : PySem.W.nsIn K mainGlobals "_law_farther" = some (some (.ref f_l_farther))) (l_l_farther : K.lookup f_l_farther = some ⟨oc_l_farther, od_l_farther, .func (PySem.W.fnOf "_law_farther" "_law_farther" (defArgs s_l_farther) (defBody s_l_farther) (defScope s_l_farther) .none kV_l_farther dc_l_farther pm_l_farther an_l_farther cd_l_farther ct_l_farther), sl_l_farther⟩) (c_l_farther : PySem.W.codeIn K cd_l_farther "_law_farther" = true) (k_l_farther : PySem.W.keepIn K (.ref f_l_farther) = true)
    {f_law : Addr} {od_law an_law : Option Addr} {sl_law : Array (Option Value)} {oc_law kV_law dc_law pm_law cd_law ct_law : Value}
    (a_law : PySem.W.nsIn K mainGlobals "law" = some (some (.ref f_law))) (l_law : K.lookup f_law = some ⟨oc_law, od_law, .func (PySem.W.fnOf "law" "law" (defArgs s_law) (defBody s_law) (defScope s_law) .none kV_law dc_law pm_law an_law cd_law ct_law), sl_law⟩) (c_law : PySem.W.codeIn K cd_law "law" = true) (k_law : PySem.W.keepIn K (.ref f_law) = true)
    (z_len : PySem.W.nsIn K mainGlobals "len" = some none) (z_abs : PySem.W.nsIn K mainGlobals "abs" = some none) (z_isinstance : PySem.W.nsIn K mainGlobals "isinstance" = some none) (z_int : PySem.W.nsIn K mainGlobals "int" = some none) (z_bool : PySem.W.nsIn K mainGlobals "bool" = some none) (z_list : PySem.W.nsIn K mainGlobals "list" = some none) (z_tuple : PySem.W.nsIn K mainGlobals "tuple" = some none) (z_str : PySem.W.nsIn K mainGlobals "str" = some none) (z_range : PySem.W.nsIn K mainGlobals "range" = some none) (z_max : PySem.W.nsIn K mainGlobals "max" = some none) (z_min : PySem.W.nsIn K mainGlobals "min" = some none) (z_sorted : PySem.W.nsIn K mainGlobals "sorted" = some none) (z_set : PySem.W.nsIn K mainGlobals "set" = some none) (z_enumerate : PySem.W.nsIn K mainGlobals "enumerate" = some none) (z_reversed : PySem.W.nsIn K mainGlobals "reversed" = some none) {C_Tally : Addr} (ya_Tally : PySem.W.nsIn K mainGlobals "Tally" = some (some (.ref C_Tally))) {f_Tally_init : Addr} {od_Tally_init an_Tally_init : Option Addr} {sl_Tally_init : Array (Option Value)} {oc_Tally_init kV_Tally_init dc_Tally_init pm_Tally_init cd_Tally_init ct_Tally_init : Value} (a_Tally_init : PySem.W.findIn K (.ref C_Tally) "__init__" = some (some (.ref f_Tally_init))) (i_Tally_init : PySem.W.isFn K (.ref f_Tally_init) = true) (l_Tally_init : K.lookup f_Tally_init = some ⟨oc_Tally_init, od_Tally_init, .func (PySem.W.fnOf "__init__" "Tally.__init__" (defArgs s_Tally_init) (defBody s_Tally_init) (defScope s_Tally_init) .none kV_Tally_init dc_Tally_init pm_Tally_init an_Tally_init cd_Tally_init ct_Tally_init), sl_Tally_init⟩) (c_Tally_init : PySem.W.codeIn K cd_Tally_init "Tally.__init__" = true) (k_Tally_init : PySem.W.keepIn K (.ref f_Tally_init) = true) {f_Tally_put_wish : Addr} {od_Tally_put_wish an_Tally_put_wish : Option Addr} {sl_Tally_put_wish : Array (Option Value)} {oc_Tally_put_wish kV_Tally_put_wish dc_Tally_put_wish pm_Tally_put_wish cd_Tally_put_wish ct_Tally_put_wish : Value} (a_Tally_put_wish : PySem.W.findIn K (.ref C_Tally) "put_wish" = some (some (.ref f_Tally_put_wish))) (i_Tally_put_wish : PySem.W.isFn K (.ref f_Tally_put_wish) = true) (l_Tally_put_wish : K.lookup f_Tally_put_wish = some ⟨oc_Tally_put_wish, od_Tally_put_wish, .func (PySem.W.fnOf "put_wish" "Tally.put_wish" (defArgs s_Tally_put_wish) (defBody s_Tally_put_wish) (defScope s_Tally_put_wish) .none kV_Tally_put_wish dc_Tally_put_wish pm_Tally_put_wish an_Tally_put_wish cd_Tally_put_wish ct_Tally_put_wish), sl_Tally_put_wish⟩) (c_Tally_put_wish : PySem.W.codeIn K cd_Tally_put_wish "Tally.put_wish" = true) (k_Tally_put_wish : PySem.W.keepIn K (.ref f_Tally_put_wish) = true) {f_Tally_put : Addr} {od_Tally_put an_Tally_put : Option Addr} {sl_Tally_put : Array (Option Value)} {oc_Tally_put kV_Tally_put dc_Tally_put pm_Tally_put cd_Tally_put ct_Tally_put : Value} (a_Tally_put : PySem.W.findIn K (.ref C_Tally) "put" = some (some (.ref f_Tally_put))) (i_Tally_put : PySem.W.isFn K (.ref f_Tally_put) = true) (l_Tally_put : K.lookup f_Tally_put = some ⟨oc_Tally_put, od_Tally_put, .func (PySem.W.fnOf "put" "Tally.put" (defArgs s_Tally_put) (defBody s_Tally_put) (defScope s_Tally_put) .none kV_Tally_put dc_Tally_put pm_Tally_put an_Tally_put cd_Tally_put ct_Tally_put), sl_Tally_put⟩) (c_Tally_put : PySem.W.codeIn K cd_Tally_put "Tally.put" = true) (k_Tally_put : PySem.W.keepIn K (.ref f_Tally_put) = true) {f_Tally_take_off : Addr} {od_Tally_take_off an_Tally_take_off : Option Addr} {sl_Tally_take_off : Array (Option Value)} {oc_Tally_take_off kV_Tally_take_off dc_Tally_take_off pm_Tally_take_off cd_Tally_take_off ct_Tally_take_off : Value} (a_Tally_take_off : PySem.W.findIn K (.ref C_Tally) "take_off" = some (some (.ref f_Tally_take_off))) (i_Tally_take_off : PySem.W.isFn K (.ref f_Tally_take_off) = true) (l_Tally_take_off : K.lookup f_Tally_take_off = some ⟨oc_Tally_take_off, od_Tally_take_off, .func (PySem.W.fnOf "take_off" "Tally.take_off" (defArgs s_Tally_take_off) (defBody s_Tally_take_off) (defScope s_Tally_take_off) .none kV_Tally_take_off dc_Tally_take_off pm_Tally_take_off an_Tally_take_off cd_Tally_take_off ct_Tally_take_off), sl_Tally_take_off⟩) (c_Tally_take_off : PySem.W.codeIn K cd_Tally_take_off "Tally.take_off" = true) (k_Tally_take_off : PySem.W.keepIn K (.ref f_Tally_take_off) = true) {f_Tally_count_letter : Addr} {od_Tally_count_letter an_Tally_count_letter : Option Addr} {sl_Tally_count_letter : Array (Option Value)} {oc_Tally_count_letter kV_Tally_count_letter dc_Tally_count_letter pm_Tally_count_letter cd_Tally_count_letter ct_Tally_count_letter : Value} (a_Tally_count_letter : PySem.W.findIn K (.ref C_Tally) "count_letter" = some (some (.ref f_Tally_count_letter))) (i_Tally_count_letter : PySem.W.isFn K (.ref f_Tally_count_letter) = true) (l_Tally_count_letter : K.lookup f_Tally_count_letter = some ⟨oc_Tally_count_letter, od_Tally_count_letter, .func (PySem.W.fnOf "count_letter" "Tally.count_letter" (defArgs s_Tally_count_letter) (defBody s_Tally_count_letter) (defScope s_Tally_count_letter) .none kV_Tally_count_letter dc_Tally_count_letter pm_Tally_count_letter an_Tally_count_letter cd_Tally_count_letter ct_Tally_count_letter), sl_Tally_count_letter⟩) (c_Tally_count_letter : PySem.W.codeIn K cd_Tally_count_letter "Tally.count_letter" = true) (k_Tally_count_letter : PySem.W.keepIn K (.ref f_Tally_count_letter) = true) {f_Tally_sort_in : Addr} {od_Tally_sort_in an_Tally_sort_in : Option Addr} {sl_Tally_sort_in : Array (Option Value)} {oc_Tally_sort_in kV_Tally_sort_in dc_Tally_sort_in pm_Tally_sort_in cd_Tally_sort_in ct_Tally_sort_in : Value} (a_Tally_sort_in : PySem.W.findIn K (.ref C_Tally) "sort_in" = some (some (.ref f_Tally_sort_in))) (i_Tally_sort_in : PySem.W.isFn K (.ref f_Tally_sort_in) = true) (l_Tally_sort_in : K.lookup f_Tally_sort_in = some ⟨oc_Tally_sort_in, od_Tally_sort_in, .func (PySem.W.fnOf "sort_in" "Tally.sort_in" (defArgs s_Tally_sort_in) (defBody s_Tally_sort_in) (defScope s_Tally_sort_in) .none kV_Tally_sort_in dc_Tally_sort_in pm_Tally_sort_in an_Tally_sort_in cd_Tally_sort_in ct_Tally_sort_in), sl_Tally_sort_in⟩) (c_Tally_sort_in : PySem.W.codeIn K cd_Tally_sort_in "Tally.sort_in" = true) (k_Tally_sort_in : PySem.W.keepIn K (.ref f_Tally_sort_in) = true) {f_Tally_first_broken : Addr} {od_Tally_first_broken an_Tally_first_broken : Option Addr} {sl_Tally_first_broken : Array (Option Value)} {oc_Tally_first_broken kV_Tally_first_broken dc_Tally_first_broken pm_Tally_first_broken cd_Tally_first_broken ct_Tally_first_broken : Value} (a_Tally_first_broken : PySem.W.findIn K (.ref C_Tally) "first_broken" = some (some (.ref f_Tally_first_broken))) (i_Tally_first_broken : PySem.W.isFn K (.ref f_Tally_first_broken) = true) (l_Tally_first_broken : K.lookup f_Tally_first_broken = some ⟨oc_Tally_first_broken, od_Tally_first_broken, .func (PySem.W.fnOf "first_broken" "Tally.first_broken" (defArgs s_Tally_first_broken) (defBody s_Tally_first_broken) (defScope s_Tally_first_broken) .none kV_Tally_first_broken dc_Tally_first_broken pm_Tally_first_broken an_Tally_first_broken cd_Tally_first_broken ct_Tally_first_broken), sl_Tally_first_broken⟩) (c_Tally_first_broken : PySem.W.codeIn K cd_Tally_first_broken "Tally.first_broken" = true) (k_Tally_first_broken : PySem.W.keepIn K (.ref f_Tally_first_broken) = true) {f_Tally_go_on : Addr} {od_Tally_go_on an_Tally_go_on : Option Addr} {sl_Tally_go_on : Array (Option Value)} {oc_Tally_go_on kV_Tally_go_on dc_Tally_go_on pm_Tally_go_on cd_Tally_go_on ct_Tally_go_on : Value} (a_Tally_go_on : PySem.W.findIn K (.ref C_Tally) "go_on" = some (some (.ref f_Tally_go_on))) (i_Tally_go_on : PySem.W.isFn K (.ref f_Tally_go_on) = true) (l_Tally_go_on : K.lookup f_Tally_go_on = some ⟨oc_Tally_go_on, od_Tally_go_on, .func (PySem.W.fnOf "go_on" "Tally.go_on" (defArgs s_Tally_go_on) (defBody s_Tally_go_on) (defScope s_Tally_go_on) .none kV_Tally_go_on dc_Tally_go_on pm_Tally_go_on an_Tally_go_on cd_Tally_go_on ct_Tally_go_on), sl_Tally_go_on⟩) (c_Tally_go_on : PySem.W.codeIn K cd_Tally_go_on "Tally.go_on" = true) (k_Tally_go_on : PySem.W.keepIn K (.ref f_Tally_go_on) = true) (yp_Tally : PySem.W.plainGet K C_Tally Str.empty = true) (yh_Tally : PySem.W.hasDictIn K C_Tally = true) (yo_Tally : PySem.W.plainOver K C_Tally = true) (ys_Tally : PySem.W.findIn K (.ref C_Tally) "__setattr__" = some (some (.builtin "object.__setattr__"))) (ym_Tally : PySem.W.makesIn K C_Tally = true) (yk_Tally : PySem.W.keepIn K (.ref C_Tally) = true) (yn_Tally_wishes : PySem.W.findIn K (.ref C_Tally) "wishes" = some none) (yn_Tally_trail : PySem.W.findIn K (.ref C_Tally) "trail" = some none) (yn_Tally_taken : PySem.W.findIn K (.ref C_Tally) "taken" = some none) (yn_Tally_places : PySem.W.findIn K (.ref C_Tally) "places" = some none) (yn_Tally_so : PySem.W.findIn K (.ref C_Tally) "so" = some none) (yn_Tally_left : PySem.W.findIn K (.ref C_Tally) "left" = some none) (yn_Tally_failing : PySem.W.findIn K (.ref C_Tally) "failing" = some none) (yn_Tally_forcing : PySem.W.findIn K (.ref C_Tally) "forcing" = some none) :
    ∃ fd : FuncData, (∀ (s : Shared) (v : Value), BindsTo s fd ⟨[v], []⟩ [("_law_script", v)]) ∧ ∀ base : Heap, K.In base → base.Ns mainGlobals mg → FnOk l.prog w K mg base CX0 lawK fa fd ["_law_script"] (spLaw K) := by
  have e := hfa.symm.trans (PySem.W.mg_of X G a_law)
  cases e
  have B : Blt mg := ⟨PySem.W.mg_none_of X G z_len, PySem.W.mg_none_of X G z_abs, PySem.W.mg_none_of X G z_isinstance, PySem.W.mg_none_of X G z_int, PySem.W.mg_none_of X G z_bool, PySem.W.mg_none_of X G z_list, PySem.W.mg_none_of X G z_tuple, PySem.W.mg_none_of X G z_str, PySem.W.mg_none_of X G z_range, PySem.W.mg_none_of X G z_max, PySem.W.mg_none_of X G z_min, PySem.W.mg_none_of X G z_sorted, PySem.W.mg_none_of X G z_set, PySem.W.mg_none_of X G z_enumerate, PySem.W.mg_none_of X G z_reversed⟩
  have D__wall : Def K mg "_wall" s__wall p__wall := def_mk (st := s__wall) X G a__wall l__wall c__wall k__wall fun _ _ _ _ _ _ us hl => match us, hl with | [_], _ => rfl
  have D_left_open : Def K mg "left_open" s_left_open p_left_open := def_mk (st := s_left_open) X G a_left_open l_left_open c_left_open k_left_open fun _ _ _ _ _ _ us hl => match us, hl with | [_, _], _ => rfl
  have D_each_once : Def K mg "each_once" s_each_once p_each_once := def_mk (st := s_each_once) X G a_each_once l_each_once c_each_once k_each_once fun _ _ _ _ _ _ us hl => match us, hl with | [_], _ => rfl
  have D_marked : Def K mg "marked" s_marked p_marked := def_mk (st := s_marked) X G a_marked l_marked c_marked k_marked fun _ _ _ _ _ _ us hl => match us, hl with | [_], _ => rfl
  have D_broken : Def K mg "broken" s_broken p_broken := def_mk (st := s_broken) X G a_broken l_broken c_broken k_broken fun _ _ _ _ _ _ us hl => match us, hl with | [_, _], _ => rfl
  have D_forced : Def K mg "forced" s_forced p_forced := def_mk (st := s_forced) X G a_forced l_forced c_forced k_forced fun _ _ _ _ _ _ us hl => match us, hl with | [_, _], _ => rfl
  have D_letters_of : Def K mg "letters_of" s_letters_of p_letters_of := def_mk (st := s_letters_of) X G a_letters_of l_letters_of c_letters_of k_letters_of fun _ _ _ _ _ _ us hl => match us, hl with | [_], _ => rfl
  have D_l_whole : Def K mg "_law_whole" s_l_whole p_l_whole := def_mk (st := s_l_whole) X G a_l_whole l_l_whole c_l_whole k_l_whole fun _ _ _ _ _ _ us hl => match us, hl with | [_], _ => rfl
  have D_l_at : Def K mg "_law_at" s_l_at p_l_at := def_mk (st := s_l_at) X G a_l_at l_l_at c_l_at k_l_at fun _ _ _ _ _ _ us hl => match us, hl with | [_, _], _ => rfl
  have D_l_alike : Def K mg "_law_alike" s_l_alike p_l_alike := def_mk (st := s_l_alike) X G a_l_alike l_l_alike c_l_alike k_l_alike fun _ _ _ _ _ _ us hl => match us, hl with | [_, _], _ => rfl
  have D_l_wishes_of : Def K mg "_law_wishes_of" s_l_wishes_of p_l_wishes_of := def_mk (st := s_l_wishes_of) X G a_l_wishes_of l_l_wishes_of c_l_wishes_of k_l_wishes_of fun _ _ _ _ _ _ us hl => match us, hl with | [_, _], _ => rfl
  have D_l_open : Def K mg "_law_open" s_l_open p_l_open := def_mk (st := s_l_open) X G a_l_open l_l_open c_l_open k_l_open fun _ _ _ _ _ _ us hl => match us, hl with | [_, _], _ => rfl
  have D_l_broken_at : Def K mg "_law_broken_at" s_l_broken_at p_l_broken_at := def_mk (st := s_l_broken_at) X G a_l_broken_at l_l_broken_at c_l_broken_at k_l_broken_at fun _ _ _ _ _ _ us hl => match us, hl with | [_, _], _ => rfl
  have D_l_next : Def K mg "_law_next" s_l_next p_l_next := def_mk (st := s_l_next) X G a_l_next l_l_next c_l_next k_l_next fun _ _ _ _ _ _ us hl => match us, hl with | [_, _], _ => rfl
  have D_l_farther : Def K mg "_law_farther" s_l_farther p_l_farther := def_mk (st := s_l_farther) X G a_l_farther l_l_farther c_l_farther k_l_farther fun _ _ _ _ _ _ us hl => match us, hl with | [_, _], _ => rfl
  refine ⟨PySem.W.fnOf "law" "law" (defArgs s_law) (defBody s_law) (defScope s_law) .none kV_law dc_law pm_law an_law cd_law ct_law, fun s v => .of_eq rfl, fun base Xb Gb => ?_⟩
  exact ok_law (fun_mk (st := s_law) l_law c_law k_law) B D__wall D_left_open D_each_once D_marked D_broken D_forced D_letters_of D_l_whole D_l_at D_l_alike D_l_wishes_of D_l_open D_l_broken_at D_l_next D_l_farther (⟨⟨yp_Tally, yh_Tally, yo_Tally, ys_Tally⟩, yn_Tally_wishes, yn_Tally_trail, yn_Tally_taken, yn_Tally_places, yn_Tally_so, yn_Tally_left, yn_Tally_failing, yn_Tally_forcing, PySem.W.mg_of X G ya_Tally, ym_Tally, yk_Tally⟩ : TallyCls K mg C_Tally) (mdef_mk (st := s_Tally_init) (ps := p_Tally_init) a_Tally_init i_Tally_init l_Tally_init c_Tally_init k_Tally_init fun _ _ _ _ _ _ us hl => match us, hl with | [_, _], _ => rfl : MDef K C_Tally "__init__" "Tally.__init__" s_Tally_init p_Tally_init) (mdef_mk (st := s_Tally_put_wish) (ps := p_Tally_put_wish) a_Tally_put_wish i_Tally_put_wish l_Tally_put_wish c_Tally_put_wish k_Tally_put_wish fun _ _ _ _ _ _ us hl => match us, hl with | [_, _], _ => rfl : MDef K C_Tally "put_wish" "Tally.put_wish" s_Tally_put_wish p_Tally_put_wish) (mdef_mk (st := s_Tally_put) (ps := p_Tally_put) a_Tally_put i_Tally_put l_Tally_put c_Tally_put k_Tally_put fun _ _ _ _ _ _ us hl => match us, hl with | [_, _, _], _ => rfl : MDef K C_Tally "put" "Tally.put" s_Tally_put p_Tally_put) (mdef_mk (st := s_Tally_take_off) (ps := p_Tally_take_off) a_Tally_take_off i_Tally_take_off l_Tally_take_off c_Tally_take_off k_Tally_take_off fun _ _ _ _ _ _ us hl => match us, hl with | [_], _ => rfl : MDef K C_Tally "take_off" "Tally.take_off" s_Tally_take_off p_Tally_take_off) (mdef_mk (st := s_Tally_count_letter) (ps := p_Tally_count_letter) a_Tally_count_letter i_Tally_count_letter l_Tally_count_letter c_Tally_count_letter k_Tally_count_letter fun _ _ _ _ _ _ us hl => match us, hl with | [_, _, _], _ => rfl : MDef K C_Tally "count_letter" "Tally.count_letter" s_Tally_count_letter p_Tally_count_letter) (mdef_mk (st := s_Tally_sort_in) (ps := p_Tally_sort_in) a_Tally_sort_in i_Tally_sort_in l_Tally_sort_in c_Tally_sort_in k_Tally_sort_in fun _ _ _ _ _ _ us hl => match us, hl with | [_, _], _ => rfl : MDef K C_Tally "sort_in" "Tally.sort_in" s_Tally_sort_in p_Tally_sort_in) (mdef_mk (st := s_Tally_first_broken) (ps := p_Tally_first_broken) a_Tally_first_broken i_Tally_first_broken l_Tally_first_broken c_Tally_first_broken k_Tally_first_broken fun _ _ _ _ _ _ us hl => match us, hl with | [_], _ => rfl : MDef K C_Tally "first_broken" "Tally.first_broken" s_Tally_first_broken p_Tally_first_broken) (mdef_mk (st := s_Tally_go_on) (ps := p_Tally_go_on) a_Tally_go_on i_Tally_go_on l_Tally_go_on c_Tally_go_on k_Tally_go_on fun _ _ _ _ _ _ us hl => match us, hl with | [_], _ => rfl : MDef K C_Tally "go_on" "Tally.go_on" s_Tally_go_on p_Tally_go_on)
theorem walk {l : PySem.W.OpenLaw} {q : Program} {loose : List Str} {XP : (Str → Option Value) → Heap → Prop} {YP : World → Heap → Prop} {d : DefRec} {K : Params → PySem.W.Frag} (hn : l.most = some 63) (hdf : d.params.defaults = [])
    (hY : ∀ (w : World) (h : Heap), YP w h → (K w.params).In h)
    (F : ∀ (w : World) (mg : Str → Option Value) (fa : Addr) (h : Heap), (K w.params).In h → h.Ns mainGlobals mg → mg d.name = some (.ref fa) →
      ∃ fd : FuncData, (∀ (s : Shared) (u : Value), BindsTo s fd ⟨[u], []⟩ [("_law_script", u)]) ∧ ∀ base : Heap, (K w.params).In base → base.Ns mainGlobals mg → FnOk l.prog w (K w.params) mg base CX0 lawK fa fd ["_law_script"] (spLaw (K w.params))) :
    PySem.W.WalkO q loose XP YP l.row.toRowW d [] (fun f vs => PySem.call f vs) :=
  L2.walk_of (n := 63) (k := lawK) (x := "_law_script") (CX := fun _ => CX0) (sp := fun w => spLaw (K w.params)) hn (by decide) hdf ⟨rfl, by decide, by decide⟩ hY F (fun _ _ a ns hl _ hS => ⟨a, ns, rfl, hS, hl, fun _ => rfl⟩) fun _ _ _ _ _ z => z
end My
open PySem PySem.W PyProof.Rows
set_option maxRecDepth 100000 in
set_option maxHeartbeats 0 in
theorem PySem.Challenge.cw_lampwish_k04_forced_holds : PySem.Challenge.rw_lampwish_k04_forced.Holds := by
  w_on; o_law; k_head; (case hw => w_witness2)
  k_fill
  refine My.walk (l := PySem.Challenge.rw_lampwish_k04_forced) rfl rfl (fun w h Y => PySem.W.kIn_of Y) ?F
  case F =>
    intro w mg fa h KX G hmg
    refine' My.all_mk KX G hmg ?a__wall ?l__wall ?c__wall ?k__wall ?a_left_open ?l_left_open ?c_left_open ?k_left_open ?a_each_once ?l_each_once ?c_each_once ?k_each_once ?a_marked ?l_marked ?c_marked ?k_marked ?a_broken ?l_broken ?c_broken ?k_broken ?a_forced ?l_forced ?c_forced ?k_forced ?a_letters_of ?l_letters_of ?c_letters_of ?k_letters_of ?a_l_whole ?l_l_whole ?c_l_whole ?k_l_whole ?a_l_at ?l_l_at ?c_l_at ?k_l_at ?a_l_alike ?l_l_alike ?c_l_alike ?k_l_alike ?a_l_wishes_of ?l_l_wishes_of ?c_l_wishes_of ?k_l_wishes_of ?a_l_open ?l_l_open ?c_l_open ?k_l_open ?a_l_broken_at ?l_l_broken_at ?c_l_broken_at ?k_l_broken_at ?a_l_next ?l_l_next ?c_l_next ?k_l_next ?a_l_farther ?l_l_farther ?c_l_farther ?k_l_farther ?a_law ?l_law ?c_law ?k_law ?z_len ?z_abs ?z_isinstance ?z_int ?z_bool ?z_list ?z_tuple ?z_str ?z_range ?z_max ?z_min ?z_sorted ?z_set ?z_enumerate ?z_reversed ?ya_Tally ?a_Tally_init ?i_Tally_init ?l_Tally_init ?c_Tally_init ?k_Tally_init ?a_Tally_put_wish ?i_Tally_put_wish ?l_Tally_put_wish ?c_Tally_put_wish ?k_Tally_put_wish ?a_Tally_put ?i_Tally_put ?l_Tally_put ?c_Tally_put ?k_Tally_put ?a_Tally_take_off ?i_Tally_take_off ?l_Tally_take_off ?c_Tally_take_off ?k_Tally_take_off ?a_Tally_count_letter ?i_Tally_count_letter ?l_Tally_count_letter ?c_Tally_count_letter ?k_Tally_count_letter ?a_Tally_sort_in ?i_Tally_sort_in ?l_Tally_sort_in ?c_Tally_sort_in ?k_Tally_sort_in ?a_Tally_first_broken ?i_Tally_first_broken ?l_Tally_first_broken ?c_Tally_first_broken ?k_Tally_first_broken ?a_Tally_go_on ?i_Tally_go_on ?l_Tally_go_on ?c_Tally_go_on ?k_Tally_go_on ?yp_Tally ?yh_Tally ?yo_Tally ?ys_Tally ?ym_Tally ?yk_Tally ?yn_Tally_wishes ?yn_Tally_trail ?yn_Tally_taken ?yn_Tally_places ?yn_Tally_so ?yn_Tally_left ?yn_Tally_failing ?yn_Tally_forcing
    (case a__wall => k_is); (case l__wall => k_is); (case c__wall => k_is); (case k__wall => k_is)
    (case a_left_open => k_is); (case l_left_open => k_is); (case c_left_open => k_is); (case k_left_open => k_is)
    (case a_each_once => k_is); (case l_each_once => k_is); (case c_each_once => k_is); (case k_each_once => k_is)
    (case a_marked => k_is); (case l_marked => k_is); (case c_marked => k_is); (case k_marked => k_is)
    (case a_broken => k_is); (case l_broken => k_is); (case c_broken => k_is); (case k_broken => k_is)
    (case a_forced => k_is); (case l_forced => k_is); (case c_forced => k_is); (case k_forced => k_is)
    (case a_letters_of => k_is); (case l_letters_of => k_is); (case c_letters_of => k_is); (case k_letters_of => k_is)
    (case a_l_whole => k_is); (case l_l_whole => k_is); (case c_l_whole => k_is); (case k_l_whole => k_is)
    (case a_l_at => k_is); (case l_l_at => k_is); (case c_l_at => k_is); (case k_l_at => k_is)
    (case a_l_alike => k_is); (case l_l_alike => k_is); (case c_l_alike => k_is); (case k_l_alike => k_is)
    (case a_l_wishes_of => k_is); (case l_l_wishes_of => k_is); (case c_l_wishes_of => k_is); (case k_l_wishes_of => k_is)
    (case a_l_open => k_is); (case l_l_open => k_is); (case c_l_open => k_is); (case k_l_open => k_is)
    (case a_l_broken_at => k_is); (case l_l_broken_at => k_is); (case c_l_broken_at => k_is); (case k_l_broken_at => k_is)
    (case a_l_next => k_is); (case l_l_next => k_is); (case c_l_next => k_is); (case k_l_next => k_is)
    (case a_l_farther => k_is); (case l_l_farther => k_is); (case c_l_farther => k_is); (case k_l_farther => k_is)
    (case a_law => k_is); (case l_law => k_is); (case c_law => k_is); (case k_law => k_is)
    (case z_len => k_is); (case z_abs => k_is); (case z_isinstance => k_is); (case z_int => k_is); (case z_bool => k_is); (case z_list => k_is); (case z_tuple => k_is); (case z_str => k_is); (case z_range => k_is); (case z_max => k_is); (case z_min => k_is); (case z_sorted => k_is); (case z_set => k_is); (case z_enumerate => k_is); (case z_reversed => k_is)
    (case ya_Tally => k_is); (case a_Tally_init => k_is); (case i_Tally_init => k_is); (case l_Tally_init => k_is); (case c_Tally_init => k_is); (case k_Tally_init => k_is); (case a_Tally_put_wish => k_is); (case i_Tally_put_wish => k_is); (case l_Tally_put_wish => k_is); (case c_Tally_put_wish => k_is); (case k_Tally_put_wish => k_is); (case a_Tally_put => k_is); (case i_Tally_put => k_is); (case l_Tally_put => k_is); (case c_Tally_put => k_is); (case k_Tally_put => k_is); (case a_Tally_take_off => k_is); (case i_Tally_take_off => k_is); (case l_Tally_take_off => k_is); (case c_Tally_take_off => k_is); (case k_Tally_take_off => k_is); (case a_Tally_count_letter => k_is); (case i_Tally_count_letter => k_is); (case l_Tally_count_letter => k_is); (case c_Tally_count_letter => k_is); (case k_Tally_count_letter => k_is); (case a_Tally_sort_in => k_is); (case i_Tally_sort_in => k_is); (case l_Tally_sort_in => k_is); (case c_Tally_sort_in => k_is); (case k_Tally_sort_in => k_is); (case a_Tally_first_broken => k_is); (case i_Tally_first_broken => k_is); (case l_Tally_first_broken => k_is); (case c_Tally_first_broken => k_is); (case k_Tally_first_broken => k_is); (case a_Tally_go_on => k_is); (case i_Tally_go_on => k_is); (case l_Tally_go_on => k_is); (case c_Tally_go_on => k_is); (case k_Tally_go_on => k_is); (case yp_Tally => k_is); (case yh_Tally => k_is); (case yo_Tally => k_is); (case ys_Tally => k_is); (case ym_Tally => k_is); (case yk_Tally => k_is); (case yn_Tally_wishes => k_is); (case yn_Tally_trail => k_is); (case yn_Tally_taken => k_is); (case yn_Tally_places => k_is); (case yn_Tally_so => k_is); (case yn_Tally_left => k_is); (case yn_Tally_failing => k_is); (case yn_Tally_forcing => k_is)
#print axioms PySem.Challenge.cw_lampwish_k04_forced_holds
