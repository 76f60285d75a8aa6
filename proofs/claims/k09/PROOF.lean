import PyProof.Rows.All
import Wide.All
import OpenK.AllK
import Wide.FinOn
import Lean
import PyProof.EqAt
import PyProof.EqKinds
import PyProof.TupleCall
import PySem.Challenge.RW_lampwish_k09_trimmed
set_option Elab.async false
set_option linter.all false
set_option maxRecDepth 100000
set_option maxHeartbeats 4000000
namespace L2
open PySem PySem.Spec PyProof.Rows
abbrev Key := Sum Int Str
def keyIs : Key → Value → Bool
  | .inl k, v => Value.isInt k v
  | .inr x, v => Value.isStrOf x v
def keyH (w : World) : Key → Int
  | .inl k => hashInt k
  | .inr x => hashStr w x
theorem keyIs_shape : ∀ {k : Key} {v : Value}, keyIs k v = true → (∃ i t, k = Sum.inl i ∧ v = Value.int i t) ∨ (∃ x t, k = Sum.inr x ∧ v = Value.str x t)
  | .inl i, v, h => by
    obtain ⟨t, e⟩ := Value.isInt_shape (k := i) (v := v) h
    exact .inl ⟨i, t, rfl, e⟩
  | .inr x, v, h => by
    obtain ⟨t, e⟩ := Value.isStrOf_shape (x := x) (v := v) h
    exact .inr ⟨x, t, rfl, e⟩
theorem keyIs_int (i : Int) (t : Tok) : keyIs (.inl i) (.int i t) = true := by simp [keyIs, Value.isInt]
theorem keyIs_str (x : Str) (t : Tok) : keyIs (.inr x) (.str x t) = true := by simp [keyIs, Value.isStrOf]
theorem key_ll (a b : Int) : decide ((Sum.inl a : Key) = Sum.inl b) = (a == b) := by
  by_cases e : a = b
  · subst e; simp
  · have h : ¬ (Sum.inl a : Key) = Sum.inl b := fun q => e (Sum.inl.inj q)
    rw [decide_eq_false h]
    exact (beq_eq_false_iff_ne.mpr e).symm
theorem key_rr (a b : Str) : decide ((Sum.inr a : Key) = Sum.inr b) = decide (a = b) := by
  by_cases e : a = b
  · subst e; simp
  · have h : ¬ (Sum.inr a : Key) = Sum.inr b := fun q => e (Sum.inr.inj q)
    rw [decide_eq_false h, decide_eq_false e]
theorem key_lr (a : Int) (b : Str) : decide ((Sum.inl a : Key) = Sum.inr b) = false := decide_eq_false (fun q => nomatch q)
theorem key_rl (a : Str) (b : Int) : decide ((Sum.inr a : Key) = Sum.inl b) = false := decide_eq_false (fun q => nomatch q)
def mixKind (prog : Program) (w : World) : PySem.KeyKind prog w Key where
  is := keyIs
  hash := keyH w
  inj := fun v a b ha hb => by
    rcases keyIs_shape ha with ⟨i, t, rfl, rfl⟩ | ⟨x, t, rfl, rfl⟩
    · rcases keyIs_shape hb with ⟨j, u, rfl, e⟩ | ⟨y, u, rfl, e⟩
      · injection e with e1 _; rw [e1]
      · exact nomatch e
    · rcases keyIs_shape hb with ⟨j, u, rfl, e⟩ | ⟨y, u, rfl, e⟩
      · exact nomatch e
      · injection e with e1 _; rw [e1]
  byValue := fun k v h => by
    rcases keyIs_shape h with ⟨i, t, rfl, rfl⟩ | ⟨x, t, rfl, rfl⟩ <;> rfl
  pyHash := fun hv h => by
    rcases keyIs_shape hv with ⟨i, t, rfl, rfl⟩ | ⟨x, t, rfl, rfl⟩
    · exact wpAny_pyHash_int h
    · exact wpAny_pyHash_str h
  eqBool := fun hu hv h => by
    rcases keyIs_shape hu with ⟨i, t, rfl, rfl⟩ | ⟨x, t, rfl, rfl⟩
    · rcases keyIs_shape hv with ⟨j, u, rfl, rfl⟩ | ⟨y, u, rfl, rfl⟩
      · rw [key_ll] at h; exact wpAny_eqBool_int h
      · rw [key_lr] at h; exact SeqAt.EqAt.int_str i t y u _ _ _ _ h
    · rcases keyIs_shape hv with ⟨j, u, rfl, rfl⟩ | ⟨y, u, rfl, rfl⟩
      · rw [key_rl] at h; exact SeqAt.EqAt.str_int x t j u _ _ _ _ h
      · rw [key_rr] at h; exact wpAny_eqBool_str h
  «strs» := fun k x t v h => by
    rcases keyIs_shape h with ⟨i, u, rfl, e⟩ | ⟨y, u, rfl, e⟩
    · exact nomatch e
    · injection e with e1 _
      subst e1
      cases v <;> rfl
theorem mixKind_int (prog : Program) (w : World) (i : Int) (t : Tok) : (mixKind prog w).is (.inl i) (.int i t) = true := keyIs_int i t
theorem mixKind_str (prog : Program) (w : World) (x : Str) (t : Tok) : (mixKind prog w).is (.inr x) (.str x t) = true := keyIs_str x t
end L2
namespace L2
open PySem PySem.Spec PyProof.Rows
inductive V where
  | non | bl (b : Bool) | int (i : Int) | str (x : Str) | byt (b : Array UInt8) | flt (b : UInt64) | ref (a : Addr) | ty (n : String)
  deriving DecidableEq
def RelV : V → Value → Prop
  | .non, u => u = Value.none
  | .bl b, u => u = Value.bool b
  | .int i, u => ∃ t, u = Value.int i t
  | .str x, u => ∃ t, u = Value.str x t
  | .byt b, u => ∃ t, u = Value.bytes b t
  | .flt b, u => ∃ t, u = Value.float b t
  | .ref a, u => u = Value.ref a
  | .ty n, u => u = Value.type n
abbrev Vals : List V → List Value → Prop := Paired RelV
theorem Vals.length {xs : List V} {us : List Value} (r : Vals xs us) : xs.length = us.length := Paired.length r
theorem Vals.get : ∀ {xs : List V} {us : List Value} {i : Nat} {x : V}, Vals xs us → xs[i]? = some x → ∃ u, us[i]? = some u ∧ RelV x u
  | _, _, _, _, .nil, e => by simp at e
  | _, _, 0, _, .cons r _, e => by simp at e; subst e; exact ⟨_, rfl, r⟩
  | _, _, i + 1, x, .cons _ t, e => by
    obtain ⟨u, h1, h2⟩ := Vals.get (i := i) (x := x) t (by simpa using e)
    exact ⟨u, by simpa using h1, h2⟩
theorem Vals.set {x : V} {u : Value} (r : RelV x u) : ∀ {xs : List V} {us : List Value} (i : Nat), Vals xs us → Vals (xs.set i x) (us.set i u)
  | _, _, _, .nil => .nil
  | _, _, 0, .cons _ t => .cons r t
  | _, _, i + 1, .cons q t => .cons q (Vals.set r i t)
theorem Vals.append : ∀ {xs ys : List V} {us ws : List Value}, Vals xs us → Vals ys ws → Vals (xs ++ ys) (us ++ ws)
  | _, _, _, _, .nil, s => s
  | _, _, _, _, .cons r t, s => .cons r (Vals.append t s)
theorem Vals.take : ∀ {xs : List V} {us : List Value} (n : Nat), Vals xs us → Vals (xs.take n) (us.take n)
  | _, _, 0, _ => .nil
  | _, _, _ + 1, .nil => .nil
  | _, _, n + 1, .cons r t => .cons r (Vals.take n t)
theorem Vals.drop : ∀ {xs : List V} {us : List Value} (n : Nat), Vals xs us → Vals (xs.drop n) (us.drop n)
  | _, _, 0, r => r
  | _, _, _ + 1, .nil => .nil
  | _, _, n + 1, .cons _ t => Vals.drop n t
def RelO : Option V → Option Value → Prop
  | some v, some u => RelV v u
  | none, none => True
  | _, _ => False
def KV {κ : Type} : List (κ × V) → List (κ × Value) → Prop := Paired fun (p : κ × V) (q : κ × Value) => p.1 = q.1 ∧ RelV p.2 q.2
def kV : Key → V
  | .inl i => .int i
  | .inr x => .str x
inductive HO where
  | lst (xs : List V)
  | tup (xs : List V)
  | dK (kvs : List (Key × V)) | dT (kvs : List (List Key × V))
  | set (S : Int → Bool) (n : Nat)
  | ins (C dx : Addr) (fs : List (Str × V))
  | own (x : Addr)
  | xd (fs : List (Str × V))
  | met (f x : Addr)
  | rng (lo hi : Int)
  | frz (o : Obj) (u : HO)
  | tbl (ps : Array Value)
  | ext (φ : Heap → Prop)
abbrev Hp := Addr → Option HO
def upd (H : Hp) (a : Addr) (o : HO) : Hp := fun b => if b = a then some o else H b
theorem upd_same {H : Hp} {a : Addr} {o : HO} : upd H a o a = some o := by unfold upd; rw [if_pos rfl]
theorem upd_ne {H : Hp} {a b : Addr} {o : HO} (h : b ≠ a) : upd H a o b = H b := by unfold upd; rw [if_neg h]
theorem ne_of {H : Hp} {a b : Addr} {o u : HO} (h : H a = some o) (h' : H b = some u) (d : o ≠ u) : a ≠ b := by
  intro e; subst e; rw [h] at h'; exact d (Option.some.inj h')
theorem ne_of_none {H : Hp} {a b : Addr} {o : HO} (h : H a = some o) (h' : H b = none) : a ≠ b := by
  intro e; subst e; rw [h] at h'; cases h'
section
variable (P : Program) (w : World)
def ObjOk (H : Hp) (h : Heap) (a : Addr) : HO → Prop
  | .lst xs => xs.length ≤ sizeLine ∧ ∃ (its : List Value) (n : Nat), Vals xs its ∧ h.get? a = some { cls := .type "list", data := .seq its.toArray n }
  | .tup xs => xs.length ≤ sizeLine ∧ ∃ its : List Value, Vals xs its ∧ IsTup h a its.toArray
  | .dK kvs => kvs.length ≤ sizeLine ∧ (a == sysModules) = false ∧ ∃ vs, KV kvs vs ∧ h.DictOf (mixKind P w) a vs
  | .dT kvs => kvs.length ≤ sizeLine ∧ (a == sysModules) = false ∧ ∃ xs : List (List Key × Addr × Value),
      Paired (fun (p : List Key × V) (q : List Key × Addr × Value) => p.1 = q.1 ∧ H q.2.1 = some (.tup (p.1.map kV)) ∧ RelV p.2 q.2.2) kvs xs ∧
      ∃ o es ep, h.get? a = some o ∧ o.ExactDict ∧ o.data = .dict es ep ∧ es.toList = xs.map (entryOfKey (tupleKind (mixKind P w))) ∧ (xs.map (·.1)).Nodup
  | .set S n => h.SetOf (intKind P w) a S n
  | .ins C dx fs => H dx = some (.own a) ∧ fs.length ≤ 1000 ∧ dx ≠ a ∧ h.get? a = some (PySem.W.instObj C dx) ∧
      ∃ mA, h.Ns1 dx mA ∧ (∀ f, RelO (fs.lookup f) (mA f)) ∧ PySem.Within mA (fs.map (·.1))
  | .own _ => ∃ o, h.get? a = some o
  | .xd fs => ∃ mA, h.Ns1 a mA ∧ ∀ f, RelO (fs.lookup f) (mA f)
  | .rng lo hi => ∃ t u v, h.get? a = some { cls := .type "range", data := .fields #[.int lo t, .int hi u, .int 1 v] }
  | .frz o u => h.get? a = some o ∧ ObjOk H h a u
  | .tbl ps => h.get? a = some { cls := .none, data := .fields ps }
  | .met f x => h.get? a = some (PySem.W.methodObj (.ref f) (.ref x))
  | .ext φ => φ h ∧ (∃ o, h.get? a = some o) ∧ ∀ h1 h2 : Heap, φ h1 → (∀ o, h1.get? a = some o → h2.get? a = some o) → φ h2
def HOk (H : Hp) (h : Heap) : Prop := ∀ a o, H a = some o → ObjOk P w H h a o
end
section
variable {P : Program} {w : World} {H H' : Hp} {h h' : Heap} {a : Addr} {o : HO}
theorem ObjOk.lt (x : ObjOk P w H h a o) : a < h.objs.size := by
  cases o with
  | lst xs => obtain ⟨_, _, _, _, e⟩ := x; exact Heap.lt_size e
  | tup xs => obtain ⟨_, _, _, p⟩ := x; exact p.lt
  | dK kvs => obtain ⟨_, _, _, _, o, _, _, e, _⟩ := x; exact Heap.lt_size e
  | dT kvs => obtain ⟨_, _, _, _, o, _, _, e, _⟩ := x; exact Heap.lt_size e
  | set S n => obtain ⟨o, _, _, _, e, _⟩ := x; exact Heap.lt_size e
  | ins C dx fs => obtain ⟨_, _, _, e, _⟩ := x; exact Heap.lt_size e
  | own y => obtain ⟨_, e⟩ := x; exact Heap.lt_size e
  | xd fs => obtain ⟨_, ⟨_, _, _, e, _⟩, _⟩ := x; exact Heap.lt_size e
  | rng lo hi => obtain ⟨_, _, _, e⟩ := x; exact Heap.lt_size e
  | frz ob u => obtain ⟨e, _⟩ := x; exact Heap.lt_size e
  | tbl ps => exact Heap.lt_size (show h.get? a = some _ from x)
  | met f y => exact Heap.lt_size (show h.get? a = some _ from x)
  | ext φ => obtain ⟨_, ⟨_, e⟩, _⟩ := x; exact Heap.lt_size e
theorem Paired.mapP {α β : Type} {F G : α → β → Prop} : ∀ {l₁ : List α} {l₂ : List β}, Paired F l₁ l₂ → (∀ a b, F a b → G a b) → Paired G l₁ l₂
  | _, _, .nil, _ => .nil
  | _, _, .cons r t, f => .cons (f _ _ r) (Paired.mapP t f)
theorem ObjOk.stay (x : ObjOk P w H h a o) (k : ∀ b u, (b = a ∨ H b = some (.own a)) → h.get? b = some u → h'.get? b = some u)
    (ho : ∀ b, H b = some (.own a) → H' b = some (.own a)) (ht : ∀ b xs, H b = some (.tup xs) → H' b = some (.tup xs)) : ObjOk P w H' h' a o := by
  induction o with
  | lst xs => obtain ⟨z, its, n, r, e⟩ := x; exact ⟨z, its, n, r, k _ _ (.inl rfl) e⟩
  | tup xs => obtain ⟨z, its, r, ob, e, c⟩ := x; exact ⟨z, its, r, ob, k _ _ (.inl rfl) e, c⟩
  | dK kvs => obtain ⟨z, y, vs, r, ob, es, ep, e, c⟩ := x; exact ⟨z, y, vs, r, ob, es, ep, k _ _ (.inl rfl) e, c⟩
  | dT kvs =>
    obtain ⟨z, y, xs, r, ob, es, ep, e, c⟩ := x
    exact ⟨z, y, xs, Paired.mapP r fun p q z => ⟨z.1, ht _ _ z.2.1, z.2.2⟩, ob, es, ep, k _ _ (.inl rfl) e, c⟩
  | set S n => obtain ⟨ob, es, ep, t, e, c⟩ := x; exact ⟨ob, es, ep, t, k _ _ (.inl rfl) e, c⟩
  | ins C dx fs =>
    obtain ⟨d, z, ne, e, mA, ⟨od, es, ep, e2, c⟩, r⟩ := x
    exact ⟨ho _ d, z, ne, k _ _ (.inl rfl) e, mA, ⟨od, es, ep, k _ _ (.inr d) e2, c⟩, r⟩
  | own y => obtain ⟨ob, e⟩ := x; exact ⟨ob, k _ _ (.inl rfl) e⟩
  | xd fs => obtain ⟨mA, ⟨od, es, ep, e, c⟩, r⟩ := x; exact ⟨mA, ⟨od, es, ep, k _ _ (.inl rfl) e, c⟩, r⟩
  | rng lo hi => obtain ⟨t, u, v, e⟩ := x; exact ⟨t, u, v, k _ _ (.inl rfl) e⟩
  | frz ob u ih => obtain ⟨e, q⟩ := x; exact ⟨k _ _ (.inl rfl) e, ih q⟩
  | tbl ps =>
    have e : h.get? a = some { cls := .none, data := .fields ps } := x
    show h'.get? a = some { cls := .none, data := .fields ps }
    exact k a _ (.inl rfl) e
  | met f y =>
    have e : h.get? a = some (PySem.W.methodObj (.ref f) (.ref y)) := x
    show h'.get? a = some (PySem.W.methodObj (.ref f) (.ref y))
    exact k a _ (.inl rfl) e
  | ext φ => obtain ⟨p, ⟨o, e⟩, st⟩ := x; exact ⟨st _ _ p fun o q => k _ _ (.inl rfl) q, ⟨o, k _ _ (.inl rfl) e⟩, st⟩
theorem HOk.lt (x : HOk P w H h) (e : H a = some o) : a < h.objs.size := (x a o e).lt
theorem HOk.fresh (x : HOk P w H h) (e : h.objs.size ≤ a) : H a = none := by
  cases q : H a with
  | none => rfl
  | some u => exact absurd (Nat.lt_of_lt_of_le (x.lt q) e) (Nat.lt_irrefl _)
theorem HOk.kept (x : HOk P w H h) (k : ∀ b u, h.get? b = some u → h'.get? b = some u) : HOk P w H h' := fun a o e =>
  (x a o e).stay (fun b u _ q => k b u q) (fun _ q => q) fun _ _ q => q
theorem HOk.laid (x : HOk P w H h) (k : ∀ b u, h.get? b = some u → h'.get? b = some u) (hp : h.objs.size ≤ a) (new : ObjOk P w (upd H a o) h' a o) : HOk P w (upd H a o) h' := fun b u e => by
  have hn := x.fresh hp
  by_cases hb : b = a
  · subst hb; rw [upd_same] at e; cases e; exact new
  · rw [upd_ne hb] at e
    exact (x b u e).stay (fun c v _ q => k c v q) (fun c q => by rw [upd_ne (ne_of_none q hn)]; exact q) fun c xs q => by rw [upd_ne (ne_of_none q hn)]; exact q
end
def Rd (H : Hp) (a : Addr) (u : HO) : Prop := H a = some u ∨ ∃ o, H a = some (.frz o u)
theorem Rd.of {H : Hp} {a : Addr} {u : HO} (h : H a = some u) : Rd H a u := .inl h
theorem Rd.ok {P : Program} {w : World} {H : Hp} {h : Heap} {a : Addr} {u : HO} (r : Rd H a u) (x : HOk P w H h) : ObjOk P w H h a u := by
  rcases r with r | ⟨o, r⟩
  · exact x a u r
  · obtain ⟨_, q⟩ := x a _ r
    exact q
def Mut : Option HO → Prop
  | some (.lst _) => True
  | some (.dK _) => True
  | some (.dT _) => True
  | some (.set _ _) => True
  | some (.ins _ _ _) => True
  | some (.ext _) => True
  | _ => False
section
variable {P : Program} {w : World} {H : Hp} {h h' : Heap} {x e : Addr} {o' : HO}
theorem HOk.write (ok : HOk P w H h) (mu : Mut (H x)) (he : e = x ∨ H e = some (.own x)) (k : ∀ b u, b ≠ e → h.get? b = some u → h'.get? b = some u) (heo : ∃ u, h'.get? e = some u)
    (new : ObjOk P w (upd H x o') h' x o') : HOk P w (upd H x o') h' := fun b u q => by
  have nown : ∀ c y, H c = some (.own y) → c ≠ x := fun c y r z => by subst z; rw [r] at mu; exact mu
  have ntup : ∀ c xs, H c = some (.tup xs) → c ≠ x := fun c xs r z => by subst z; rw [r] at mu; exact mu
  by_cases hb : b = x
  · subst hb; rw [upd_same] at q; cases q; exact new
  · rw [upd_ne hb] at q
    by_cases hbe : b = e
    · have q' : H b = some (.own x) := by
        rcases he with z | z
        · exact absurd (hbe.trans z) hb
        · rw [hbe]; exact z
      rw [q] at q'; cases q'
      obtain ⟨v, hv⟩ := heo
      exact ⟨v, by rw [hbe]; exact hv⟩
    · refine (ok b u q).stay (fun c v hc r => k c v ?_ r) (fun c r => by rw [upd_ne (nown c b r)]; exact r) fun c xs r => by rw [upd_ne (ntup c xs r)]; exact r
      rcases hc with rfl | hc
      · exact hbe
      · rintro rfl
        rcases he with z | z
        · exact nown c b hc z
        · rw [hc] at z; cases z; exact hb rfl
end
structure Un (fs ex : List Addr) (H H' : Hp) (h h' : Heap) : Prop where
  keep : ∀ b o, h.get? b = some o → H b = none → b ∉ fs → b ∉ ex → h'.get? b = some o
  slot : ∀ b o, h.get? b = some o → H b = none → b ∈ fs → b ∉ ex → ∃ sl, h'.get? b = some { o with slots := sl }
  free : ∀ b o, h.get? b = some o → H b = none → b ∉ ex → H' b = none
  there : ∀ b o, h.get? b = some o → b ∉ ex → ∃ o', h'.get? b = some o'
  tups : ∀ b xs, H b = some (.tup xs) → H' b = some (.tup xs)
  frzs : ∀ b o u, H b = some (.frz o u) → H' b = some (.frz o u)
  tbls : ∀ b ps, H b = some (.tbl ps) → ∃ more, H' b = some (.tbl (ps ++ more))
section
variable {fs fs' ex ex' : List Addr} {H H1 H2 : Hp} {h h1 h2 h' : Heap} {a x e : Addr} {o : HO}
theorem Un.any (u : Un fs ex H H1 h h1) {b : Addr} {ob : Obj} (q : h.get? b = some ob) (n : H b = none) (hx : b ∉ ex) : ∃ sl, h1.get? b = some { ob with slots := sl } := by
  by_cases hb : b ∈ fs
  · exact u.slot b ob q n hb hx
  · exact ⟨ob.slots, u.keep b ob q n hb hx⟩
theorem Un.trans (a : Un fs ex H H1 h h1) (b : Un fs ex H1 H2 h1 h2) : Un fs ex H H2 h h2 where
  keep := fun c ob q n hc hx => b.keep c ob (a.keep c ob q n hc hx) (a.free c ob q n hx) hc hx
  slot := fun c ob q n hc hx => by
    obtain ⟨sl, e1⟩ := a.slot c ob q n hc hx
    obtain ⟨sl', e2⟩ := b.slot c _ e1 (a.free c ob q n hx) hc hx
    exact ⟨sl', e2⟩
  free := fun c ob q n hx => by
    obtain ⟨o', e1⟩ := a.there c ob q hx
    exact b.free c o' e1 (a.free c ob q n hx) hx
  there := fun c ob q hx => by
    obtain ⟨o', e1⟩ := a.there c ob q hx
    exact b.there c o' e1 hx
  tups := fun c xs q => b.tups c xs (a.tups c xs q)
  frzs := fun c ob xs q => b.frzs c ob xs (a.frzs c ob xs q)
  tbls := fun c ps q => by
    obtain ⟨m1, e1⟩ := a.tbls c ps q
    obtain ⟨m2, e2⟩ := b.tbls c _ e1
    exact ⟨m1 ++ m2, by rw [e2, Array.append_assoc]⟩
theorem Un.kept (k : ∀ b u, h.get? b = some u → h'.get? b = some u) : Un fs ex H H h h' :=
  ⟨fun b ob q _ _ _ => k b ob q, fun b ob q _ _ _ => ⟨ob.slots, k b ob q⟩, fun _ _ _ n _ => n, fun b ob q _ => ⟨ob, k b ob q⟩, fun _ _ q => q, fun _ _ _ q => q, fun _ ps q => ⟨#[], by rw [q]; simp⟩⟩
theorem Un.refl : Un fs ex H H h h := Un.kept fun _ _ q => q
theorem Un.laid (k : ∀ b u, h.get? b = some u → h'.get? b = some u) (hp : h.objs.size ≤ a) (hn : H a = none) : Un fs ex H (upd H a o) h h' where
  keep := fun b u q _ _ _ => k b u q
  slot := fun b u q _ _ _ => ⟨u.slots, k b u q⟩
  free := fun b u q n _ => by rw [upd_ne (Nat.ne_of_lt (Nat.lt_of_lt_of_le (Heap.lt_size q) hp))]; exact n
  there := fun b u q _ => ⟨u, k b u q⟩
  tups := fun b xs q => by rw [upd_ne (ne_of_none q hn)]; exact q
  frzs := fun b u xs q => by rw [upd_ne (ne_of_none q hn)]; exact q
  tbls := fun b ps q => ⟨#[], by rw [upd_ne (ne_of_none q hn), q]; simp⟩
theorem Un.write (mu : Mut (H x)) (he : e = x ∨ H e = some (.own x)) (k : ∀ b u, b ≠ e → h.get? b = some u → h'.get? b = some u) (heo : ∃ u, h'.get? e = some u) : Un fs ex H (upd H x o) h h' := by
  have hx : ∀ b, H b = none → b ≠ x := fun b n z => by subst z; rw [n] at mu; exact mu
  have hb : ∀ b, H b = none → b ≠ e := fun b n z => by
    subst z
    rcases he with r | r
    · exact hx b n r
    · rw [n] at r; cases r
  have hm : ∀ b u, H b = some u → ¬ Mut (some u) → b ≠ x := fun b u q nm z => by subst z; rw [q] at mu; exact nm mu
  refine ⟨fun b u q n _ _ => k b u (hb b n) q, fun b u q n _ _ => ⟨u.slots, k b u (hb b n) q⟩, fun b u q n _ => by rw [upd_ne (hx b n)]; exact n, fun b u q _ => ?_,
    fun b xs q => by rw [upd_ne (hm b _ q fun z => z)]; exact q, fun b u xs q => by rw [upd_ne (hm b _ q fun z => z)]; exact q, fun b ps q => ⟨#[], by rw [upd_ne (hm b _ q fun z => z), q]; simp⟩⟩
  by_cases hbe : b = e
  · subst hbe; exact heo
  · exact ⟨u, k b u hbe q⟩
theorem Un.mono (u : Un fs ex H H1 h h1) (hs : ∀ b ∈ fs, b ∈ fs') (hx : ∀ b ∈ ex, b ∈ ex') : Un fs' ex' H H1 h h1 :=
  ⟨fun b ob q n hb he => u.keep b ob q n (fun z => hb (hs b z)) fun z => he (hx b z), fun _ _ q n _ he => u.any q n fun z => he (hx _ z), fun b ob q n he => u.free b ob q n fun z => he (hx b z), fun b ob q he => u.there b ob q fun z => he (hx b z), u.tups, u.frzs, u.tbls⟩
end
def trk (h : Heap) (H : Hp) : List Addr := (List.range h.objs.size).filter fun a => (H a).isSome
def hidT (h : Heap) (H : Hp) : Heap := PySem.W.hideAll h (trk h H)
theorem hidT_size (h : Heap) (H : Hp) : (hidT h H).objs.size = h.objs.size := PySem.W.hideAll_size _ _
theorem hidT_get {h : Heap} {H : Hp} {b : Addr} {o : Obj} (e : h.get? b = some o) (n : H b = none) : (hidT h H).get? b = some o :=
  PySem.W.hideAll_get _ e fun hm => by
    have q : (H b).isSome = true := (List.mem_filter.mp hm).2
    rw [n] at q; simp at q
theorem of_hidT {h : Heap} {H : Hp} {b : Addr} {o : Obj} (e : (hidT h H).get? b = some o) : h.get? b = some o ∧ H b = none := by
  have e' : h.get? b = some o := PySem.W.of_hideAll (trk h H) e
  refine ⟨e', ?_⟩
  cases q : H b with
  | none => rfl
  | some x =>
    have hm : b ∈ trk h H := List.mem_filter.mpr ⟨List.mem_range.mpr (Heap.lt_size e'), by simp [q]⟩
    have z : (hidT h H).get? b = none := PySem.W.hideAll_none (trk h H) hm
    rw [z] at e; cases e
def allNews (g h : Heap) (L : Addr) : List (Addr × Obj) := (List.range h.objs.size).filterMap fun a => if a = L ∨ (g.get? a).isSome = true then none else (h.get? a).map fun o => (a, o)
def rest (g h : Heap) (L d : Addr) : List (Addr × Obj) := (allNews g h L).filter fun p => decide (p.1 ≠ d)
end L2
namespace L2
open PySem PySem.Spec PyProof.Rows
structure Mod (K : PySem.W.Frag) (mg : Str → Option Value) (base : Heap) : Prop where
  kin : K.In base
  glob : base.Ns mainGlobals mg
  blt : ∃ mb, base.Ns builtinsNs mb ∧ ∀ x : Str, x ≠ "__name__" → mb x = bootBuiltins x
  nolimit : base.NoLimit
structure Cx where
  prog : Program
  w : World
  K : PySem.W.Frag
  mg : Str → Option Value
  base : Heap
  A : Around
  N : List Str
  s₀ : Shared
  H₀ : Hp
  env : Env
  outer : List Env
  stack : List Env
  ex : List Addr
  fn : Str → Bool
  calm : Bool
  pn : List (Addr × Obj)
  xe : Value → Shared → Prop
def frs (l : List Env) : List Addr := l.filterMap (·.frame)
abbrev Cx.fs (X : Cx) : List Addr := frs X.outer
def Vis (sc : Scope) (x : Str) : Prop := sc.names.lookup x = some .local ∨ sc.names.lookup x = some .cell ∨ sc.names.lookup x = some .free
def Loc (sc : Scope) (x : Str) : Prop := sc.names.lookup x = some .local ∨ sc.names.lookup x = some .cell
def Look (env : Env) (h : Heap) (m : Str → Option Value) (x : Str) (u : Value) : Prop :=
  (env.kindOf x = some .local ∧ m x = some u) ∨ ((env.kindOf x = some .cell ∨ env.kindOf x = some .free) ∧ ∃ c, env.cells.lookup x = some c ∧ h.IsCell c (some u))
structure Cx.Ok (X : Cx) : Prop where
  mod : Mod X.K X.mg X.base
  kind : X.env.scope.kind = .function
  glob : X.env.globals = mainGlobals
  blt : X.env.builtins = builtinsNs
  above : X.s₀.heap.objs.size ≤ X.env.locals
  inj : ∀ x y c, X.env.cells.lookup x = some c → X.env.cells.lookup y = some c → x = y
  has : ∀ x, (X.env.kindOf x = some .cell ∨ X.env.kindOf x = some .free) → ∃ c, X.env.cells.lookup x = some c
  cab : ∀ x c, X.fn x = true → X.env.cells.lookup x = some c → X.s₀.heap.objs.size ≤ c
  hd : X.calm = true → X.A.handled = none
  frames : X.A.frames = some X.stack
  stk : X.stack = X.outer ∨ (X.stack = X.env :: X.outer ∧ X.env.frame = some X.env.locals)
  exf : ∀ b ∈ X.ex, b ≠ X.env.locals ∧ ∀ x c, X.env.cells.lookup x = some c → c ≠ b
  bs : ∀ b o, X.base.get? b = some o → X.s₀.heap.get? b = some o ∧ X.H₀ b = none
  bsz : X.base.objs.size ≤ X.s₀.heap.objs.size
  noex : ∀ b o, X.base.get? b = some o → b ∉ X.ex
  exfs : ∀ b ∈ X.ex, b ∉ X.fs
  funs : X.s₀.heap.FunFrames X.base X.outer
  frf : ∀ b ∈ X.fs, X.H₀ b = none
structure Inv (X : Cx) (pins : List (Addr × Obj)) (σ : List (Option V)) (H : Hp) (s : Shared) : Prop where
  ok : X.Ok
  os : s.os = X.s₀.os
  bare : AllBare s.gens
  base : Un X.fs X.ex X.H₀ H X.s₀.heap s.heap
  loc : ∃ m, s.heap.Ns X.env.locals m ∧ ∀ (i : Nat) (x : Str) (v : V), X.N[i]? = some x → σ[i]? = some (some v) → Vis X.env.scope x → ∃ u, RelV v u ∧ Look X.env s.heap m x u
  cell : ∀ x c, X.env.cells.lookup x = some c → ∃ v, s.heap.IsCell c v
  free : H X.env.locals = none
  freeC : ∀ x c, X.env.cells.lookup x = some c → H c = none
  pin : ∀ p ∈ X.pn ++ pins, s.heap.get? p.1 = some p.2 ∧ H p.1 = none ∧ p.1 ≠ X.env.locals ∧ p.1 ∉ X.fs ∧ ∀ v, p.2.data ≠ .cell v
  hok : HOk X.prog X.w H s.heap
  len : σ.length = X.N.length
section
variable {X : Cx} {pins : List (Addr × Obj)} {σ : List (Option V)} {H H' : Hp} {s : Shared} {h' : Heap}
theorem Cx.Ok.nofr (ok : X.Ok) {b : Addr} {o : Obj} (e : X.base.get? b = some o) : b ∉ X.fs := fun hb => by
  have := (ok.funs.mem hb).1
  rw [e] at this; cases this
theorem Inv.bs (I : Inv X pins σ H s) : ∀ b o, X.base.get? b = some o → s.heap.get? b = some o ∧ H b = none := fun b o e =>
  ⟨I.base.keep b o (I.ok.bs b o e).1 (I.ok.bs b o e).2 (I.ok.nofr e) (I.ok.noex b o e), I.base.free b o (I.ok.bs b o e).1 (I.ok.bs b o e).2 (I.ok.noex b o e)⟩
theorem Inv.bk (I : Inv X pins σ H s) : ∀ b o, X.base.get? b = some o → s.heap.get? b = some o := fun b o e => (I.bs b o e).1
theorem Inv.mod (I : Inv X pins σ H s) : Mod X.K X.mg X.base := I.ok.mod
theorem Inv.kIn (I : Inv X pins σ H s) : X.K.In s.heap := I.ok.mod.kin.keeps I.bk
theorem Inv.nolimit (I : Inv X pins σ H s) : s.heap.NoLimit := I.ok.mod.nolimit.keeps I.bk
theorem Inv.fr (I : Inv X pins σ H s) : ∃ m, Fr X.base X.env.locals s.heap m :=
  let ⟨m, hn, _⟩ := I.loc
  ⟨m, hn, I.bk, Nat.le_trans I.ok.bsz I.ok.above⟩
theorem Inv.lt (I : Inv X pins σ H s) : X.env.locals < s.heap.objs.size := let ⟨_, hn, _⟩ := I.loc; hn.lt
theorem Inv.sz (I : Inv X pins σ H s) : X.s₀.heap.objs.size ≤ s.heap.objs.size := Nat.le_trans I.ok.above (Nat.le_of_lt I.lt)
theorem Inv.nofs (I : Inv X pins σ H s) {a : Addr} (h : s.heap.objs.size ≤ a) : a ∉ X.fs := fun hb => by
  obtain ⟨_, o, ho, _⟩ := I.ok.funs.mem hb
  exact absurd (Nat.lt_of_lt_of_le (Heap.lt_size ho) (Nat.le_trans I.sz h)) (Nat.lt_irrefl _)
theorem Inv.cne (I : Inv X pins σ H s) : ∀ x c, X.env.cells.lookup x = some c → c ≠ X.env.locals := fun x c e z => by
  obtain ⟨v, o, ho, hd⟩ := I.cell x c e
  obtain ⟨m, ⟨o', es, ep, ho', hd', _⟩, _⟩ := I.loc
  rw [z, ho'] at ho; cases ho; rw [hd'] at hd; cases hd
theorem Inv.funs (I : Inv X pins σ H s) : s.heap.FunFrames X.base X.outer := by
  have all : ∀ (l : List Env), (∀ b ∈ frs l, b ∈ X.fs) → X.s₀.heap.FunFrames X.base l → s.heap.FunFrames X.base l := by
    intro l
    induction l with
    | nil => intro _ _; trivial
    | cons env r ih =>
      intro hs hl
      obtain ⟨hk, ⟨L, o, hf, hn, ho, hd⟩, hr⟩ := hl
      have hL : L ∈ X.fs := hs L (by unfold frs; rw [List.filterMap_cons, hf]; exact List.mem_cons_self)
      obtain ⟨sl, e⟩ := I.base.slot L o ho (I.ok.frf L hL) hL fun z => I.ok.exfs L z hL
      exact ⟨hk, ⟨L, _, hf, hn, e, hd⟩, ih (fun b hb => hs b (by unfold frs; rw [List.filterMap_cons, hf]; exact List.mem_cons_of_mem _ hb)) hr⟩
  exact all X.outer (fun _ hb => hb) I.ok.funs
theorem Inv.stack (I : Inv X pins σ H s) : s.heap.FunFrames X.base X.stack := by
  rcases I.ok.stk with e | ⟨e, hf⟩
  · rw [e]; exact I.funs
  · rw [e]
    obtain ⟨m, hn, _⟩ := I.loc
    refine .cons (by rw [I.ok.kind]; decide) hf hn ?_ I.funs
    exact Heap.get?_none_of_le (Nat.le_trans I.ok.bsz I.ok.above)
theorem Inv.stkSub (I : Inv X pins σ H s) : ∀ b ∈ frs X.stack, b ∈ X.env.locals :: X.fs := fun b hb => by
  rcases I.ok.stk with e | ⟨e, hf⟩
  · rw [e] at hb; exact List.mem_cons_of_mem _ hb
  · rw [e] at hb
    unfold frs at hb
    rw [List.filterMap_cons, hf] at hb
    exact hb
theorem Inv.stkFree (I : Inv X pins σ H s) : ∀ b ∈ frs X.stack, H b = none := fun b hb => by
  rcases List.mem_cons.mp (I.stkSub b hb) with e | hb
  · rw [e]; exact I.free
  · obtain ⟨_, o, ho, _⟩ := I.ok.funs.mem hb
    exact I.base.free b o ho (I.ok.frf b hb) fun z => I.ok.exfs b z hb
theorem Inv.step {g' : Array GenState} {t' : Nat} {d' : Drawn} {ch : List Addr} (I : Inv X pins σ H s)
    (hch : ∀ b ∈ ch, (b ∈ X.ex ∨ X.s₀.heap.objs.size ≤ b) ∧ b ≠ X.env.locals ∧ (∀ x c, X.env.cells.lookup x = some c → c ≠ b) ∧ ∀ p ∈ X.pn ++ pins, p.1 ≠ b)
    (keep : ∀ b o, b ≠ X.env.locals → b ∉ X.fs → b ∉ ch → s.heap.get? b = some o → H b = none → h'.get? b = some o)
    (slot : ∀ b o, b ≠ X.env.locals → b ∈ X.fs → b ∉ ch → s.heap.get? b = some o → H b = none → ∃ sl, h'.get? b = some { o with slots := sl }) (free : ∀ b o, b ∉ ch → s.heap.get? b = some o → H b = none → H' b = none)
    (there : ∀ b o, b ∉ ch → s.heap.get? b = some o → ∃ o', h'.get? b = some o')
    (tups : ∀ b xs, H b = some (.tup xs) → H' b = some (.tup xs)) (frzs : ∀ b o u, H b = some (.frz o u) → H' b = some (.frz o u)) (tbls : ∀ b ps, H b = some (.tbl ps) → ∃ more, H' b = some (.tbl (ps ++ more)))
    (ns : ∀ m, s.heap.Ns X.env.locals m → h'.Ns X.env.locals m) (hok : HOk X.prog X.w H' h') (hg : AllBare g') :
    Inv X pins σ H' { s with heap := h', gens := g', drawn := d', toks := t' } := by
  have neL : ∀ b o, X.s₀.heap.get? b = some o → b ≠ X.env.locals := fun b o e => Nat.ne_of_lt (Nat.lt_of_lt_of_le (Heap.lt_size e) I.ok.above)
  have neC : ∀ b o, X.s₀.heap.get? b = some o → b ∉ X.ex → b ∉ ch := fun b o e hx hb => by
    rcases (hch b hb).1 with z | z
    · exact hx z
    · exact absurd (Nat.lt_of_lt_of_le (Heap.lt_size e) z) (Nat.lt_irrefl _)
  have cellK : ∀ x c, X.env.cells.lookup x = some c → ∀ v, s.heap.IsCell c v → h'.IsCell c v := fun x c e v ⟨o, ho, hd⟩ => by
    have nch : c ∉ ch := fun z => (hch c z).2.2.1 x c e rfl
    by_cases hc : c ∈ X.fs
    · obtain ⟨sl, q⟩ := slot c o (I.cne x c e) hc nch ho (I.freeC x c e)
      exact ⟨_, q, hd⟩
    · exact ⟨o, keep c o (I.cne x c e) hc nch ho (I.freeC x c e), hd⟩
  refine ⟨I.ok, I.os, hg, ⟨fun b o e n hb hx => ?_, fun b o e n hb hx => ?_, fun b o e n hx => ?_, fun b o e hx => ?_, fun b xs e => tups b xs (I.base.tups b xs e), fun b o xs e => frzs b o xs (I.base.frzs b o xs e), fun b ps e => ?_⟩, ?_, fun x c e => ?_, ?_, fun x c e => ?_, fun p hp => ?_, hok, I.len⟩
  · exact keep b o (neL b o e) hb (neC b o e hx) (I.base.keep b o e n hb hx) (I.base.free b o e n hx)
  · obtain ⟨sl, e1⟩ := I.base.slot b o e n hb hx
    obtain ⟨sl', e2⟩ := slot b _ (neL b o e) hb (neC b o e hx) e1 (I.base.free b o e n hx)
    exact ⟨sl', e2⟩
  · obtain ⟨o', e1⟩ := I.base.there b o e hx
    exact free b o' (neC b o e hx) e1 (I.base.free b o e n hx)
  · obtain ⟨o', e1⟩ := I.base.there b o e hx
    exact there b o' (neC b o e hx) e1
  · obtain ⟨m1, e1⟩ := I.base.tbls b ps e
    obtain ⟨m2, e2⟩ := tbls b _ e1
    exact ⟨m1 ++ m2, by rw [e2, Array.append_assoc]⟩
  · obtain ⟨m, hn, hl⟩ := I.loc
    refine ⟨m, ns m hn, fun i x v e1 e2 e3 => ?_⟩
    obtain ⟨u, r, l⟩ := hl i x v e1 e2 e3
    refine ⟨u, r, ?_⟩
    rcases l with l | ⟨k, c, e, z⟩
    · exact .inl l
    · exact .inr ⟨k, c, e, cellK x c e _ z⟩
  · obtain ⟨v, z⟩ := I.cell x c e
    exact ⟨v, cellK x c e v z⟩
  · obtain ⟨m, ⟨o, _, _, ho, _⟩, _⟩ := I.loc
    exact free _ o (fun z => (hch _ z).2.1 rfl) ho I.free
  · obtain ⟨v, o, ho, hd⟩ := I.cell x c e
    exact free c o (fun z => (hch c z).2.2.1 x c e rfl) ho (I.freeC x c e)
  · obtain ⟨e, n, ne, nf, d⟩ := I.pin p hp
    have nch : p.1 ∉ ch := fun z => (hch p.1 z).2.2.2 p hp rfl
    exact ⟨keep p.1 p.2 ne nf nch e n, free p.1 p.2 nch e n, ne, nf, d⟩
theorem Inv.un {t' : Nat} (I : Inv X pins σ H s) (u : Un X.fs [] H H' s.heap h') (hok : HOk X.prog X.w H' h') : Inv X pins σ H' { s with heap := h', toks := t' } := by
  obtain ⟨m, ⟨o, es, ep, ho, r⟩, _⟩ := id I.loc
  obtain ⟨sl, hL⟩ := u.any ho I.free (by simp)
  exact I.step (g' := s.gens) (d' := s.drawn) (ch := []) (fun _ z => nomatch z) (fun b o _ hb _ e n => u.keep b o e n hb (by simp)) (fun b o _ hb _ e n => u.slot b o e n hb (by simp)) (fun b o _ e n => u.free b o e n (by simp)) (fun b o _ e => u.there b o e (by simp)) u.tups u.frzs u.tbls (fun m' hm => by
    obtain ⟨o', es', ep', ho', r'⟩ := hm
    rw [ho] at ho'; cases ho'
    exact ⟨_, es', ep', hL, r'⟩) hok I.bare
theorem Inv.call {g' : Array GenState} {t' : Nat} {d' : Drawn} {ch : List Addr} (I : Inv X pins σ H s) (u : Un (frs X.stack) ch H H' s.heap h') (hok : HOk X.prog X.w H' h') (hg : AllBare g')
    (hch : ∀ b ∈ ch, (b ∈ X.ex ∨ X.s₀.heap.objs.size ≤ b) ∧ b ≠ X.env.locals ∧ (∀ x c, X.env.cells.lookup x = some c → c ≠ b) ∧ ∀ p ∈ X.pn ++ pins, p.1 ≠ b) :
    Inv X pins σ H' { s with heap := h', gens := g', drawn := d', toks := t' } := by
  obtain ⟨m, ⟨o, es, ep, ho, r⟩, _⟩ := id I.loc
  obtain ⟨sl, hL⟩ := u.any ho I.free fun z => (hch _ z).2.1 rfl
  exact I.step (ch := ch) hch (fun b o hL hb hc e n => u.keep b o e n (fun z => (List.mem_cons.mp (I.stkSub b z)).elim hL hb) hc) (fun b o _ _ hc e n => u.any e n hc) (fun b o hc e n => u.free b o e n hc) (fun b o hc e => u.there b o e hc) u.tups u.frzs u.tbls (fun m' hm => by
    obtain ⟨o', es', ep', ho', r'⟩ := hm
    rw [ho] at ho'; cases ho'
    exact ⟨_, es', ep', hL, r'⟩) hok hg
theorem Inv.turned {t' : Nat} {it : Addr} (I : Inv X pins σ H s) (k : ∀ b o, b ≠ it → s.heap.get? b = some o → h'.get? b = some o) (hn : H it = none) (hL : it ≠ X.env.locals)
    (h1 : it ∈ X.ex ∨ X.s₀.heap.objs.size ≤ it) (h2 : ∀ x c, X.env.cells.lookup x = some c → c ≠ it) (h3 : ∀ p ∈ X.pn ++ pins, p.1 ≠ it) : Inv X pins σ H { s with heap := h', toks := t' } := by
  have nit : ∀ b u, H b = some u → b ≠ it := fun b u e z => by rw [z, hn] at e; cases e
  refine I.step (g' := s.gens) (d' := s.drawn) (ch := [it]) (fun b hb => ?_) (fun b o _ _ hc e _ => k b o (fun z => hc (by simp [z])) e) (fun b o _ _ hc e _ => ⟨o.slots, k b o (fun z => hc (by simp [z])) e⟩) (fun _ _ _ _ n => n)
    (fun b o hc e => ⟨o, k b o (fun z => hc (by simp [z])) e⟩) (fun _ _ e => e) (fun _ _ _ e => e) (fun b ps e => ⟨#[], by rw [e]; simp⟩) (fun m hm => ?_) (fun b u e => ?_) I.bare
  · have e : b = it := by simpa using hb
    subst e
    exact ⟨h1, hL, h2, h3⟩
  · obtain ⟨o, es, ep, ho, r⟩ := hm
    exact ⟨o, es, ep, k _ o (Ne.symm hL) ho, r⟩
  · refine (I.hok b u e).stay (fun c v hc q => k c v ?_ q) (fun _ q => q) fun _ _ q => q
    rcases hc with z | z
    · rw [z]; exact nit b u e
    · exact nit c _ z
theorem Inv.tok (I : Inv X pins σ H s) (t : Nat) : Inv X pins σ H { s with toks := t } := I.un (h' := s.heap) (t' := t) Un.refl I.hok
theorem Inv.kept {t' : Nat} (I : Inv X pins σ H s) (k : ∀ b u, s.heap.get? b = some u → h'.get? b = some u) : Inv X pins σ H { s with heap := h', toks := t' } := I.un (Un.kept k) (I.hok.kept k)
theorem Inv.laid {a : Addr} {o : HO} {t' : Nat} (I : Inv X pins σ H s) (k : ∀ b u, s.heap.get? b = some u → h'.get? b = some u) (hp : s.heap.objs.size ≤ a) (new : ObjOk X.prog X.w (upd H a o) h' a o) :
    Inv X pins σ (upd H a o) { s with heap := h', toks := t' } := I.un (Un.laid k hp (I.hok.fresh hp)) (I.hok.laid k hp new)
theorem Inv.write {x e : Addr} {o : HO} {t' : Nat} (I : Inv X pins σ H s) (mu : Mut (H x)) (he : e = x ∨ H e = some (.own x)) (k : ∀ b u, b ≠ e → s.heap.get? b = some u → h'.get? b = some u) (heo : ∃ u, h'.get? e = some u)
    (new : ObjOk X.prog X.w (upd H x o) h' x o) : Inv X pins σ (upd H x o) { s with heap := h', toks := t' } := I.un (Un.write mu he k heo) (I.hok.write mu he k heo new)
theorem Inv.weak {σ' : List (Option V)} (I : Inv X pins σ H s) (hl : σ'.length = σ.length) (w : ∀ (i : Nat) v, σ'[i]? = some (some v) → σ[i]? = some (some v)) : Inv X pins σ' H s :=
  ⟨I.ok, I.os, I.bare, I.base, let ⟨m, hn, hl'⟩ := I.loc; ⟨m, hn, fun i x v e1 e2 e3 => hl' i x v e1 (w i v e2) e3⟩, I.cell, I.free, I.freeC, I.pin, I.hok, hl.trans I.len⟩
theorem Inv.pins_of {pins' : List (Addr × Obj)} (I : Inv X pins σ H s) (h : ∀ p ∈ pins', s.heap.get? p.1 = some p.2 ∧ H p.1 = none ∧ p.1 ≠ X.env.locals ∧ p.1 ∉ X.fs ∧ ∀ v, p.2.data ≠ .cell v) : Inv X pins' σ H s :=
  ⟨I.ok, I.os, I.bare, I.base, I.loc, I.cell, I.free, I.freeC, fun p hp => (List.mem_append.mp hp).elim (fun z => I.pin p (List.mem_append_left _ z)) (h p), I.hok, I.len⟩
theorem nodup_ix {N : List Str} (hN : N.Nodup) {i j : Nat} {x : Str} (a : N[i]? = some x) (b : N[j]? = some x) : i = j := by
  obtain ⟨h1, e1⟩ := List.getElem?_eq_some_iff.mp a
  obtain ⟨h2, e2⟩ := List.getElem?_eq_some_iff.mp b
  exact (List.getElem_inj hN).mp (e1.trans e2.symm)
theorem store_ok2 {M : Model} {A : Around} {E : Value → Shared → Prop} {i : Nat} {x : Str} {v : V} {u : Value} {Q : Unit → Shared → Prop} (I : Inv X pins σ H s) (hN : X.N.Nodup) (hi : X.N[i]? = some x) (hx : Loc X.env.scope x) (r : RelV v u)
    (h : ∀ s', Inv X pins (σ.set i (some v)) H s' → (∃ a, Heap.SameBut a s.heap s'.heap ∧ (a = X.env.locals ∨ X.env.cells.lookup x = some a)) → Q () s') (hf : X.fn x = true ∨ X.env.scope.names.lookup x = some .local := by first | exact .inl rfl | exact .inr rfl | assumption) : wpAny M A (storeName X.env x u) Q E s := by
  obtain ⟨m, hn, hl⟩ := id I.loc
  have hcls : (X.env.scope.kind == .class || (X.env.scope.kind == .module && X.env.locals != X.env.globals)) = false := by rw [I.ok.kind]; rfl
  have hiσ : i < σ.length := by rw [I.len]; exact (List.getElem?_eq_some_iff.mp hi).1
  have cne := I.cne
  have tracked : ∀ {a : Addr} {h' : Heap}, (∃ o, s.heap.get? a = some o ∧ H a = none) → Heap.SameBut a s.heap h' → HOk X.prog X.w H h' := fun {a h'} ha hs b ob e => by
    obtain ⟨_, _, hfree⟩ := ha
    refine (I.hok b ob e).stay (fun c w' hc q => (hs.2 c ?_).trans q) (fun _ q => q) fun _ _ q => q
    rintro rfl
    rcases hc with rfl | hc
    · rw [hfree] at e; cases e
    · rw [hfree] at hc; cases hc
  rcases hx with hk | hk
  · refine wpAny_storeName_local hk hn (fun h' hn' hs => ?_) hcls
    obtain ⟨oL, _, _, hoL, _⟩ := id hn
    refine h _ ⟨I.ok, I.os, I.bare, ⟨fun b o e n hb hx => ?_, fun b o e n hb hx => ?_, I.base.free, fun b o e hx => ?_, I.base.tups, I.base.frzs, I.base.tbls⟩, ⟨_, hn', fun j y v' e1 e2 e3 => ?_⟩, fun y c e => ?_, I.free, I.freeC, fun p hp => ?_, tracked ⟨oL, hoL, I.free⟩ hs, by simpa using I.len⟩ ⟨_, hs, .inl rfl⟩
    · exact (hs.2 b (Nat.ne_of_lt (Nat.lt_of_lt_of_le (Heap.lt_size e) I.ok.above))).trans (I.base.keep b o e n hb hx)
    · obtain ⟨sl, e1⟩ := I.base.slot b o e n hb hx
      exact ⟨sl, (hs.2 b (Nat.ne_of_lt (Nat.lt_of_lt_of_le (Heap.lt_size e) I.ok.above))).trans e1⟩
    · obtain ⟨o', e1⟩ := I.base.there b o e hx
      exact ⟨o', (hs.2 b (Nat.ne_of_lt (Nat.lt_of_lt_of_le (Heap.lt_size e) I.ok.above))).trans e1⟩
    · by_cases hj : j = i
      · subst hj
        rw [hi] at e1; cases e1
        rw [List.getElem?_set_self hiσ] at e2
        cases e2
        exact ⟨u, r, .inl ⟨hk, by simp⟩⟩
      · rw [List.getElem?_set_ne (Ne.symm hj)] at e2
        obtain ⟨u', r', q⟩ := hl j y v' e1 e2 e3
        refine ⟨u', r', ?_⟩
        rcases q with ⟨k, e⟩ | ⟨k, c, e, z⟩
        · refine .inl ⟨k, ?_⟩
          have : y ≠ x := fun e => hj (nodup_ix hN e1 (e ▸ hi))
          simp [this, e]
        · exact .inr ⟨k, c, e, z.sameBut hs (cne y c e)⟩
    · obtain ⟨w', z⟩ := I.cell y c e
      exact ⟨w', z.sameBut hs (cne y c e)⟩
    · obtain ⟨e, n, ne, nf, d⟩ := I.pin p hp
      exact ⟨(hs.2 p.1 ne).trans e, n, ne, nf, d⟩
  · have hfn : X.fn x = true := by
      rcases hf with z | z
      · exact z
      · rw [z] at hk; cases hk
    obtain ⟨c, hc⟩ := I.ok.has x (.inl hk)
    obtain ⟨w', z⟩ := I.cell x c hc
    refine wpAny_storeName_cell I.ok.kind hk hc z (fun h' hc' hs => ?_)
    obtain ⟨oc, hoc, hocd⟩ := id z
    refine h { s with heap := h' } ⟨I.ok, I.os, I.bare, ⟨fun b o e n hb hx => ?_, fun b o e n hb hx => ?_, I.base.free, fun b o e hx => ?_, I.base.tups, I.base.frzs, I.base.tbls⟩, ⟨m, hn.sameBut hs (Ne.symm (cne x c hc)), fun j y v' e1 e2 e3 => ?_⟩, fun y c' e => ?_, I.free, I.freeC, fun p hp => ?_, tracked ⟨oc, hoc, I.freeC x c hc⟩ hs, by simpa using I.len⟩ ⟨c, hs, .inr hc⟩
    · exact (hs.2 b (Nat.ne_of_lt (Nat.lt_of_lt_of_le (Heap.lt_size e) (I.ok.cab x c hfn hc)))).trans (I.base.keep b o e n hb hx)
    · obtain ⟨sl, e1⟩ := I.base.slot b o e n hb hx
      exact ⟨sl, (hs.2 b (Nat.ne_of_lt (Nat.lt_of_lt_of_le (Heap.lt_size e) (I.ok.cab x c hfn hc)))).trans e1⟩
    · obtain ⟨o', e1⟩ := I.base.there b o e hx
      exact ⟨o', (hs.2 b (Nat.ne_of_lt (Nat.lt_of_lt_of_le (Heap.lt_size e) (I.ok.cab x c hfn hc)))).trans e1⟩
    · by_cases hj : j = i
      · subst hj
        rw [hi] at e1; cases e1
        rw [List.getElem?_set_self hiσ] at e2
        cases e2
        exact ⟨u, r, .inr ⟨.inl hk, c, hc, hc'⟩⟩
      · rw [List.getElem?_set_ne (Ne.symm hj)] at e2
        obtain ⟨u', r', q⟩ := hl j y v' e1 e2 e3
        refine ⟨u', r', ?_⟩
        rcases q with q | ⟨k, c', e, z'⟩
        · exact .inl q
        · refine .inr ⟨k, c', e, z'.sameBut hs ?_⟩
          rintro rfl
          exact hj (nodup_ix hN e1 (I.ok.inj _ _ _ e hc ▸ hi))
    · by_cases hcc : c' = c
      · subst hcc; exact ⟨_, hc'⟩
      · obtain ⟨w2, z2⟩ := I.cell y c' e
        exact ⟨w2, z2.sameBut hs hcc⟩
    · obtain ⟨e, n, ne, nf, d⟩ := I.pin p hp
      refine ⟨(hs.2 p.1 ?_).trans e, n, ne, nf, d⟩
      intro q
      rw [q, hoc] at e
      have q' : oc = p.2 := Option.some.inj e
      exact d w' (by rw [← q']; exact hocd)
theorem store_ok {M : Model} {A : Around} {E : Value → Shared → Prop} {i : Nat} {x : Str} {v : V} {u : Value} {Q : Unit → Shared → Prop} (I : Inv X pins σ H s) (hN : X.N.Nodup) (hi : X.N[i]? = some x) (hx : Loc X.env.scope x) (r : RelV v u)
    (h : ∀ s', Inv X pins (σ.set i (some v)) H s' → Q () s') (hf : X.fn x = true ∨ X.env.scope.names.lookup x = some .local := by first | exact .inl rfl | exact .inr rfl | assumption) : wpAny M A (storeName X.env x u) Q E s :=
  store_ok2 I hN hi hx r (fun s' I' _ => h s' I') hf
theorem Inv.call' {s' : Shared} {ch : List Addr} (I : Inv X pins σ H s) (ho : s'.os = s.os) (u : Un (frs X.stack) ch H H' s.heap s'.heap) (hok : HOk X.prog X.w H' s'.heap) (hg : AllBare s'.gens)
    (hch : ∀ b ∈ ch, (b ∈ X.ex ∨ X.s₀.heap.objs.size ≤ b) ∧ b ≠ X.env.locals ∧ (∀ x c, X.env.cells.lookup x = some c → c ≠ b) ∧ ∀ p ∈ X.pn ++ pins, p.1 ≠ b) : Inv X pins σ H' s' := by
  obtain ⟨h', g', d', t', o'⟩ := s'
  have e : o' = s.os := ho
  subst e
  exact I.call (g' := g') (t' := t') (d' := d') u hok hg hch
end
abbrev XK := Value → Option Addr → Hp → Prop
abbrev St := List (Option V)
abbrev VK := V → Hp → Prop
abbrev TE := St → Hp → VK → Prop
abbrev TT := St → Hp → (Bool → Hp → Prop) → Prop
abbrev TA := St → Hp → (List V → Hp → Prop) → Prop
structure Ends where
  nx : St → Hp → Prop
  rt : VK
  bk : St → Hp → Prop := fun _ _ => False
  ct : St → Hp → Prop := fun _ _ => False
abbrev TS := Ends → St → Hp → Prop
def EP (X : Cx) (pins : List (Addr × Obj)) (σ : St) (Q : VK) (u : Value) (s' : Shared) : Prop := ∃ v H', Inv X pins σ H' s' ∧ RelV v u ∧ Q v H'
def TP (X : Cx) (pins : List (Addr × Obj)) (σ : St) (Q : Bool → Hp → Prop) (b : Bool) (s' : Shared) : Prop := ∃ H', Inv X pins σ H' s' ∧ Q b H'
def AP (X : Cx) (pins : List (Addr × Obj)) (σ : St) (Q : List V → Hp → Prop) (us : List Value) (s' : Shared) : Prop := ∃ vs H', Inv X pins σ H' s' ∧ Vals vs us ∧ Q vs H'
def SP (X : Cx) (pins : List (Addr × Obj)) (D : Ends) (f : Flow) (s' : Shared) : Prop :=
  match f with
  | .next => ∃ σ' H', Inv X pins σ' H' s' ∧ D.nx σ' H'
  | .brk => ∃ σ' H', Inv X pins σ' H' s' ∧ D.bk σ' H'
  | .cont => ∃ σ' H', Inv X pins σ' H' s' ∧ D.ct σ' H'
  | .ret u => ∃ v σ' H', Inv X pins σ' H' s' ∧ RelV v u ∧ D.rt v H'
def PE (X : Cx) (e : Expr) (t : TE) : Prop :=
  ∀ (pins : List (Addr × Obj)) (s : Shared) (σ : St) (H : Hp) (Q : VK), Inv X pins σ H s → t σ H Q → wpAny (model X.prog X.w) X.A (eval e X.env) (EP X pins σ Q) X.xe s
def PT (X : Cx) (e : Expr) (t : TT) : Prop :=
  ∀ (pins : List (Addr × Obj)) (s : Shared) (σ : St) (H : Hp) (Q : Bool → Hp → Prop), Inv X pins σ H s → t σ H Q → wpAny (model X.prog X.w) X.A (isTrue e X.env (eval e X.env)) (TP X pins σ Q) X.xe s
def PW (X : Cx) (e : Expr) (t : TT) : Prop :=
  ∀ (whole : Sem Value) (pins : List (Addr × Obj)) (s : Shared) (σ : St) (H : Hp) (Q : Bool → Hp → Prop), Inv X pins σ H s → t σ H Q → wpAny (model X.prog X.w) X.A (isTrue e X.env whole) (TP X pins σ Q) X.xe s
theorem PW.pt {X : Cx} {e : Expr} {t : TT} (h : PW X e t) : PT X e t := h _
def PA (X : Cx) (es : List Expr) (t : TA) : Prop :=
  ∀ (pos : Pos) (pins : List (Addr × Obj)) (s : Shared) (σ : St) (H : Hp) (Q : List V → Hp → Prop), Inv X pins σ H s → t σ H Q → wpAny (model X.prog X.w) X.A (spliced (backTo pos (starEach es X.env))) (AP X pins σ Q) X.xe s
def PS (X : Cx) (st : Stmt) (t : TS) : Prop :=
  ∀ (pins : List (Addr × Obj)) (s : Shared) (σ : St) (H : Hp) (D : Ends), Inv X pins σ H s → t D σ H → wpAny (model X.prog X.w) X.A (exec st X.env) (SP X pins D) X.xe s
def PSs (X : Cx) (st : List Stmt) (t : TS) : Prop :=
  ∀ (pins : List (Addr × Obj)) (s : Shared) (σ : St) (H : Hp) (D : Ends), Inv X pins σ H s → t D σ H → wpAny (model X.prog X.w) X.A (execs st X.env) (SP X pins D) X.xe s
theorem thn {α : Type} {t : Sem α} {Q Q' : α → Shared → Prop} {M : Model} {A : Around} {E : Value → Shared → Prop} {s : Shared} (h : wpAny M A t Q E s) (hQ : ∀ a s, Q a s → Q' a s) : wpAny M A t Q' E s := wpAny_mono h hQ fun _ _ x => x
end L2
namespace L2
open PySem PySem.Spec PyProof.Rows
section
variable {X : Cx}
def tVar (i : Nat) : TE := fun σ H Q => ∃ v, σ[i]? = some (some v) ∧ Q v H
def tC (v : V) : TE := fun _ H Q => Q v H
theorem pe_var {i : Nat} {x : Str} {pos : Pos} (hN : X.N[i]? = some x) (hv : Vis X.env.scope x) (hd : (x == ("__debug__" : Str)) = false := by decide) (hcd : (x == ("__classdict__" : Str)) = false := by decide) : PE X (.Name x pos) (tVar i) := by
  intro pins s σ H Q I h
  obtain ⟨v, e, h⟩ := h
  obtain ⟨m, hn, hl⟩ := I.loc
  obtain ⟨u, r, l⟩ := hl i x v hN e hv
  have fin : EP X pins σ Q u s := ⟨v, H, I, r, h⟩
  rcases l with ⟨hk, hm⟩ | ⟨hk, c, hc, hcell⟩
  · exact wpAny_Name (wpAny_loadName_local I.ok.kind hk hn hm fin) hd
  · rcases hk with hk | hk
    · exact wpAny_Name (wpAny_loadName_cell I.ok.kind hk hc hcell fin) hd
    · exact wpAny_Name (wpAny_loadName_free I.ok.kind hk hc hcell fin hcd) hd
theorem pe_int {i j pos} : PE X (.Constant (.int i) j pos) (tC (.int i)) := fun _ _ _ H _ I h => wpAny_Constant_int ⟨.int i, H, I.tok _, ⟨_, rfl⟩, h⟩
theorem pe_bl {b j pos} : PE X (.Constant (.bool b) j pos) (tC (.bl b)) := fun _ _ _ H _ I h => Constant_bool ⟨.bl b, H, I, rfl, h⟩
theorem pe_non {j pos} : PE X (.Constant .none j pos) (tC .non) := fun _ _ _ H _ I h => Constant_none ⟨.non, H, I, rfl, h⟩
def Gl (X : Cx) (x : Str) : Prop := X.env.kindOf x = some .globalImplicit
theorem ld_glob {E : Value → Shared → Prop} {pins : List (Addr × Obj)} {s : Shared} {σ : St} {H : Hp} {x : Str} {u : Value} {pos : Pos} {Q : Value → Shared → Prop} (I : Inv X pins σ H s) (hg : Gl X x) (hm : X.mg x = some u) (h : Q u s)
    (hd : (x == ("__debug__" : Str)) = false := by decide) : wpAny (model X.prog X.w) X.A (eval (.Name x pos) X.env) Q E s :=
  Calls.Name_function_global I.ok.kind hg (Calls.loadGlobal_global (by rw [I.ok.glob]; exact I.mod.glob.keeps I.bk) hm h) hd
theorem ld_blt {E : Value → Shared → Prop} {pins : List (Addr × Obj)} {s : Shared} {σ : St} {H : Hp} {x : Str} {u : Value} {pos : Pos} {Q : Value → Shared → Prop} (I : Inv X pins σ H s) (hg : Gl X x) (hm : X.mg x = none) (hv : bootBuiltins x = some u) (h : Q u s)
    (hn : x ≠ "__name__" := by decide) (hd : (x == ("__debug__" : Str)) = false := by decide) : wpAny (model X.prog X.w) X.A (eval (.Name x pos) X.env) Q E s := by
  obtain ⟨mb, h1, h2⟩ := I.mod.blt
  exact Calls.Name_function_global I.ok.kind hg (Calls.loadGlobal_builtin (by rw [I.ok.glob]; exact I.mod.glob.keeps I.bk) hm (by rw [I.ok.blt]; exact h1.keeps I.bk) ((h2 x hn).trans hv) h) hd
theorem pe_bltn {x : Str} {v : V} {u : Value} {pos : Pos} (hg : Gl X x) (hm : X.mg x = none) (hv : bootBuiltins x = some u) (r : RelV v u) (hn : x ≠ "__name__" := by decide) (hd : (x == ("__debug__" : Str)) = false := by decide) : PE X (.Name x pos) (tC v) :=
  fun _ _ _ H _ I h => ld_blt I hg hm hv ⟨v, H, I, r, h⟩ hn hd
variable {a b : Expr} {ta tb : TE} {pos : Pos}
def PC (X : Cx) (op : CmpOp) (a b : Expr) (t : TE) : Prop :=
  ∀ (pins : List (Addr × Obj)) (s : Shared) (σ : St) (H : Hp) (Q : VK), Inv X pins σ H s → t σ H Q →
    wpAny (model X.prog X.w) X.A (eval a X.env) (fun v s₁ => wpAny (model X.prog X.w) X.A (eval b X.env) (fun u s₂ => wpAny (model X.prog X.w) X.A (compareOp op v u) (EP X pins σ Q) X.xe s₂) X.xe s₁) X.xe s
theorem nobehind (b : Expr) {op : CmpOp} (h : op ≠ .In) (h2 : op ≠ .NotIn) : behindInMarks op b = false := by
  have e1 : (op == CmpOp.In) = false := by cases op <;> first | rfl | exact absurd rfl h
  have e2 : (op == CmpOp.NotIn) = false := by cases op <;> first | rfl | exact absurd rfl h2
  cases b <;> simp [behindInMarks, e1, e2]
def tB (t : TE) : TT := fun σ H Q => t σ H fun x H1 => ∃ c, x = .bl c ∧ Q c H1
theorem pt_cmp {op : CmpOp} {t : TE} (h : PC X op a b t) (h1 : behindInMarks op b = false := by first | exact nobehind _ (by decide) (by decide) | rfl) : PT X (.Compare a [op] [b] pos) (tB t) := by
  intro pins s σ H Q I hw
  refine wpAny_isTrue_Compare1 (thn (h pins s σ H _ I hw) fun v s1 h1 => thn h1 fun u s2 h2 => thn h2 fun c s3 ⟨x, H1, I1, r1, q1⟩ => ?_) h1
  obtain ⟨d, rfl, q⟩ := q1
  cases r1
  exact wpAny_truthy_bool ⟨H1, I1, q⟩
theorem pt_val {e : Expr} {t : TE} (h : PE X e t) (he : ∀ whole, isTrue e X.env whole = (do let v ← whole; standAt e.pos; holding [v] (truthy v)) := by intro _; rfl) : PT X e (tB t) := by
  intro pins s σ H Q I hw
  refine isTrue_plain (thn (h pins s σ H _ I hw) fun v s1 ⟨x, H1, I1, r1, q1⟩ => ?_) (he _)
  obtain ⟨d, rfl, q⟩ := q1
  cases r1
  exact wpAny_truthy_bool ⟨H1, I1, q⟩
variable {tA tB' : TT} {rest : List Expr}
def tAnd (t u : TT) : TT := fun σ H Q => t σ H fun c H1 => if c = true then u σ H1 Q else Q false H1
def tOr (t u : TT) : TT := fun σ H Q => t σ H fun c H1 => if c = true then Q true H1 else u σ H1 Q
def tNot (t : TT) : TT := fun σ H Q => t σ H fun c H1 => Q (!c) H1
theorem pw_and1 (ha : PT X a tA) : PW X (.BoolOp .And [a] pos) tA := by
  intro wh pins s σ H Q I h
  refine isTrue_and (thn (ha pins s σ H Q I h) fun c s1 e => ?_)
  cases c with
  | true => exact isTrue_and_nil e
  | false => exact e
theorem pw_or1 (ha : PT X a tA) : PW X (.BoolOp .Or [a] pos) tA := by
  intro wh pins s σ H Q I h
  refine isTrue_or (thn (ha pins s σ H Q I h) fun c s1 e => ?_)
  cases c with
  | false => exact isTrue_or_nil e
  | true => exact e
theorem pw_and (ha : PT X a tA) (hb : PW X (.BoolOp .And (b :: rest) pos) tB') : PW X (.BoolOp .And (a :: b :: rest) pos) (tAnd tA tB') := by
  intro wh pins s σ H Q I h
  refine isTrue_and (thn (ha pins s σ H _ I h) fun c s1 ⟨H1, I1, q1⟩ => ?_)
  cases c with
  | true => exact hb wh pins s1 σ H1 Q I1 q1
  | false => exact ⟨H1, I1, q1⟩
theorem pw_or (ha : PT X a tA) (hb : PW X (.BoolOp .Or (b :: rest) pos) tB') : PW X (.BoolOp .Or (a :: b :: rest) pos) (tOr tA tB') := by
  intro wh pins s σ H Q I h
  refine isTrue_or (thn (ha pins s σ H _ I h) fun c s1 ⟨H1, I1, q1⟩ => ?_)
  cases c with
  | true => exact ⟨H1, I1, q1⟩
  | false => exact hb wh pins s1 σ H1 Q I1 q1
theorem pt_not (ha : PT X a tA) : PT X (.UnaryOp .Not a pos) (tNot tA) := by
  intro pins s σ H Q I h
  exact isTrue_not (ha pins s σ H (fun c H1 => Q (!c) H1) I h)
def tAndV (ta tb : TE) : TE := fun σ H Q => ta σ H fun x H1 => ∃ c, x = .bl c ∧ if c = true then tb σ H1 Q else Q (.bl false) H1
def tOrV (ta tb : TE) : TE := fun σ H Q => ta σ H fun x H1 => ∃ c, x = .bl c ∧ if c = true then Q (.bl true) H1 else tb σ H1 Q
def tNotV (ta : TE) : TE := fun σ H Q => ta σ H fun x H1 => ∃ c, x = .bl c ∧ Q (.bl (!c)) H1
theorem pe_one {op} {t : TE} (h : PE X a t) : PE X (.BoolOp op [a] pos) t := fun pins s σ H Q I hw => BoolOp_one (h pins s σ H Q I hw)
theorem pe_and (ha : PE X a ta) (hb : PE X (.BoolOp .And (b :: rest) pos) tb) : PE X (.BoolOp .And (a :: b :: rest) pos) (tAndV ta tb) := by
  intro pins s σ H Q I h
  refine BoolOp_and (thn (ha pins s σ H _ I h) fun v s1 ⟨x, H1, I1, r1, q1⟩ => ?_)
  obtain ⟨c, rfl, q1⟩ := q1
  cases r1
  refine wpAny_truthy_bool ?_
  cases c with
  | true => exact hb pins s1 σ H1 Q I1 q1
  | false => exact ⟨.bl false, H1, I1, rfl, q1⟩
theorem pe_or (ha : PE X a ta) (hb : PE X (.BoolOp .Or (b :: rest) pos) tb) : PE X (.BoolOp .Or (a :: b :: rest) pos) (tOrV ta tb) := by
  intro pins s σ H Q I h
  refine BoolOp_or (thn (ha pins s σ H _ I h) fun v s1 ⟨x, H1, I1, r1, q1⟩ => ?_)
  obtain ⟨c, rfl, q1⟩ := q1
  cases r1
  refine wpAny_truthy_bool ?_
  cases c with
  | false => exact hb pins s1 σ H1 Q I1 q1
  | true => exact ⟨.bl true, H1, I1, rfl, q1⟩
theorem pe_not (ha : PE X a ta) : PE X (.UnaryOp .Not a pos) (tNotV ta) := by
  intro pins s σ H Q I h
  refine UnaryOp_ (thn (ha pins s σ H _ I h) fun v s1 ⟨x, H1, I1, r1, q1⟩ => ?_)
  obtain ⟨c, rfl, q1⟩ := q1
  cases r1
  exact not_of (wpAny_truthy_bool ⟨.bl (!c), H1, I1, rfl, q1⟩)
end
end L2
namespace L2
open PySem PySem.Spec PyProof.Rows
def SqL (K : PySem.W.Frag) (H : Hp) (a : Addr) (xs : List V) : Prop :=
  Rd H a (.lst xs) ∨
    ∃ (o : Obj) (its : Array Value) (n : Nat), K.lookup a = some o ∧ o.cls = .type "list" ∧ o.dict = none ∧ o.data = .seq its n ∧ its.size ≤ sizeLine ∧ Vals xs its.toList
def SqT (K : PySem.W.Frag) (H : Hp) (a : Addr) (xs : List V) : Prop :=
  Rd H a (.tup xs) ∨
    ∃ (o : Obj) (its : Array Value) (n : Nat), K.lookup a = some o ∧ o.cls = .type "tuple" ∧ o.data = .seq its n ∧ its.size ≤ sizeLine ∧ Vals xs its.toList
def absV : Value → Option V
  | .none => some .non
  | .bool b => some (.bl b)
  | .int i _ => some (.int i)
  | .str x _ => some (.str x)
  | .bytes b _ => some (.byt b)
  | .float b _ => some (.flt b)
  | .ref a => some (.ref a)
  | .type n => some (.ty n)
  | _ => none
theorem RelV.abs {x : V} {u : Value} (r : RelV x u) : absV u = some x := by
  cases x with
  | non => cases r; rfl
  | bl _ => cases r; rfl
  | int _ => obtain ⟨t, rfl⟩ := r; rfl
  | str _ => obtain ⟨t, rfl⟩ := r; rfl
  | byt _ => obtain ⟨t, rfl⟩ := r; rfl
  | flt _ => obtain ⟨t, rfl⟩ := r; rfl
  | ref _ => cases r; rfl
  | ty _ => cases r; rfl
theorem RelV.inj {x y : V} {u : Value} (r : RelV x u) (q : RelV y u) : x = y := Option.some.inj (r.abs.symm.trans q.abs)
theorem Vals.inj : ∀ {xs ys : List V} {us : List Value}, Vals xs us → Vals ys us → xs = ys
  | _, _, _, .nil, .nil => rfl
  | _, _, _, .cons r t, .cons r' t' => by rw [r.inj r', Vals.inj t t']
section
variable {X : Cx} {pins : List (Addr × Obj)} {σ : St} {H : Hp} {s : Shared} {a : Addr} {xs ys : List V}
theorem SqL.of {K : PySem.W.Frag} (h : H a = some (.lst xs)) : SqL K H a xs := .inl (.inl h)
theorem SqT.of {K : PySem.W.Frag} (h : H a = some (.tup xs)) : SqT K H a xs := .inl (.inl h)
theorem Inv.list (I : Inv X pins σ H s) (h : SqL X.K H a xs) : ∃ its : List Value, Vals xs its ∧ PlainL s.heap a its.toArray ∧ xs.length ≤ sizeLine := by
  rcases h with h | ⟨o, its, n, hk, hc, hd, hs, hz, r⟩
  · obtain ⟨z, its, n, r, e⟩ := h.ok I.hok
    exact ⟨its, r, ⟨_, n, e, rfl, rfl, rfl⟩, z⟩
  · refine ⟨its.toList, r, ⟨o, n, I.kIn a o hk, hc, hd, by simpa using hs⟩, ?_⟩
    have e := r.length
    simp only [Array.length_toList] at e
    omega
theorem Inv.tuple (I : Inv X pins σ H s) (h : SqT X.K H a xs) : ∃ its : List Value, Vals xs its ∧ IsTup s.heap a its.toArray ∧ xs.length ≤ sizeLine := by
  rcases h with h | ⟨o, its, n, hk, hc, hs, hz, r⟩
  · obtain ⟨z, its, r, p⟩ := h.ok I.hok
    exact ⟨its, r, p, z⟩
  · refine ⟨its.toList, r, ⟨o, I.kIn a o hk, hc, n, by simpa using hs⟩, ?_⟩
    have e := r.length
    simp only [Array.length_toList] at e
    omega
theorem Inv.list_inj (I : Inv X pins σ H s) (h : SqL X.K H a xs) (h' : SqL X.K H a ys) : xs = ys := by
  obtain ⟨its, r, ⟨o, n, e, _, _, d⟩, _⟩ := I.list h
  obtain ⟨its', r', ⟨o', n', e', _, _, d'⟩, _⟩ := I.list h'
  rw [e] at e'; cases e'
  rw [d] at d'
  injection d' with d1 _
  have : its = its' := by simpa using congrArg Array.toList d1
  subst this
  exact r.inj r'
end
abbrev Cx.wish (X : Cx) (E : Value → Shared → Prop) : Cx := { X with xe := E }
abbrev Cx.nox (X : Cx) : Cx := X.wish fun _ _ => False
theorem Cx.Ok.wish {X : Cx} (ok : X.Ok) (E : Value → Shared → Prop) : (X.wish E).Ok :=
  ⟨ok.mod, ok.kind, ok.glob, ok.blt, ok.above, ok.inj, ok.has, ok.cab, ok.hd, ok.frames, ok.stk, ok.exf, ok.bs, ok.bsz, ok.noex, ok.exfs, ok.funs, ok.frf⟩
theorem Cx.Ok.unwish {X : Cx} {E : Value → Shared → Prop} (ok : (X.wish E).Ok) : X.Ok :=
  ⟨ok.mod, ok.kind, ok.glob, ok.blt, ok.above, ok.inj, ok.has, ok.cab, ok.hd, ok.frames, ok.stk, ok.exf, ok.bs, ok.bsz, ok.noex, ok.exfs, ok.funs, ok.frf⟩
section
variable {X : Cx} {pins : List (Addr × Obj)} {σ : St} {H : Hp} {s : Shared} {E : Value → Shared → Prop}
theorem Inv.wish (I : Inv X pins σ H s) (E : Value → Shared → Prop) : Inv (X.wish E) pins σ H s := ⟨I.ok.wish E, I.os, I.bare, I.base, I.loc, I.cell, I.free, I.freeC, I.pin, I.hok, I.len⟩
theorem Inv.unwish (I : Inv (X.wish E) pins σ H s) : Inv X pins σ H s := ⟨I.ok.unwish, I.os, I.bare, I.base, I.loc, I.cell, I.free, I.freeC, I.pin, I.hok, I.len⟩
theorem SP.unwish {D : Ends} {f : Flow} {s' : Shared} (h : SP (X.wish E) pins D f s') : SP X pins D f s' := by
  cases f with
  | next => obtain ⟨σ', H', I, q⟩ := h; exact ⟨σ', H', I.unwish, q⟩
  | brk => obtain ⟨σ', H', I, q⟩ := h; exact ⟨σ', H', I.unwish, q⟩
  | cont => obtain ⟨σ', H', I, q⟩ := h; exact ⟨σ', H', I.unwish, q⟩
  | ret u => obtain ⟨v, σ', H', I, r, q⟩ := h; exact ⟨v, σ', H', I.unwish, r, q⟩
theorem PE.nox {e : Expr} {t : TE} (h : PE X.nox e t) : PE X e t := fun pins s σ H Q I hw =>
  wpAny_mono (h pins s σ H Q (I.wish _) hw) (fun _ _ ⟨v, H', I', r, q⟩ => ⟨v, H', I'.unwish, r, q⟩) fun _ _ z => False.elim z
theorem PT.nox {e : Expr} {t : TT} (h : PT X.nox e t) : PT X e t := fun pins s σ H Q I hw =>
  wpAny_mono (h pins s σ H Q (I.wish _) hw) (fun _ _ ⟨H', I', q⟩ => ⟨H', I'.unwish, q⟩) fun _ _ z => False.elim z
theorem PSs.nox {st : List Stmt} {t : TS} (h : PSs X.nox st t) : PSs X st t := fun pins s σ H D I hw =>
  wpAny_mono (h pins s σ H D (I.wish _) hw) (fun _ _ q => q.unwish) fun _ _ z => False.elim z
end
section
variable {X : Cx} {st : Stmt} {rest : List Stmt} {t u : TS} {e : Expr} {te : TE} {pos : Pos}
def tNext : TS := fun D σ H => D.nx σ H
def tSeq (t u : TS) : TS := fun D σ H => t { D with nx := u D } σ H
theorem pss_nil : PSs X [] tNext := fun _ _ σ H _ I h => wpAny_execs_nil ⟨σ, H, I, h⟩
theorem pss_cons (h1 : PS X st t) (h2 : PSs X rest u) : PSs X (st :: rest) (tSeq t u) := by
  intro pins s σ H D I h
  refine wpAny_execs_cons (thn (h1 pins s σ H { D with nx := u D } I h) fun f s1 q => ?_)
  cases f with
  | next =>
    obtain ⟨σ', H', I', q⟩ := q
    exact h2 pins s1 σ' H' D I' q
  | ret v => exact q
  | brk => exact q
  | cont => exact q
theorem pss_one (h1 : PS X st t) : PSs X [st] t := by
  intro pins s σ H D I h
  refine wpAny_execs_cons (thn (h1 pins s σ H D I h) fun f s1 q => ?_)
  cases f with
  | next => exact wpAny_execs_nil q
  | ret v => exact q
  | brk => exact q
  | cont => exact q
theorem Inv.quiet {pins : List (Addr × Obj)} {σ : St} {H : Hp} {s : Shared} (I : Inv X pins σ H s) : interactive X.env = false := by simp [interactive, I.ok.kind]
def tDrop (te : TE) : TS := fun D σ H => te σ H fun _ H1 => D.nx σ H1
theorem ps_expr (he : PE X e te) (hs : swapsWith e none pos.line X.env = pure false := by rfl) : PS X (.Expr e pos) (tDrop te) := by
  intro pins s σ H D I h
  exact wpAny_Expr_any (thn (he pins s σ H _ I h) fun v s1 ⟨x, H1, I1, r1, q1⟩ => ⟨σ, H1, I1, q1⟩) I.quiet hs
def tRet (te : TE) : TS := fun D σ H => te σ H D.rt
theorem ps_ret (he : PE X e te) : PS X (.Return (some e) pos) (tRet te) := by
  intro pins s σ H D I h
  exact wpAny_Return_some (thn (he pins s σ H _ I h) fun v s1 ⟨x, H1, I1, r1, q1⟩ => ⟨x, σ, H1, I1, r1, q1⟩)
def tIfS (c : TT) (t u : TS) : TS := fun D σ H => c σ H fun b H1 => if b = true then t D σ H1 else u D σ H1
theorem ps_if {c : Expr} {a b : List Stmt} {tc : TT} (hc : PT X c tc) (ha : PSs X a t) (hb : PSs X b u) : PS X (.If c a b pos) (tIfS tc t u) := by
  intro pins s σ H D I h
  refine wpAny_If (thn (hc pins s σ H _ I h) fun d s1 ⟨H1, I1, q1⟩ => ?_)
  cases d with
  | true => exact ha pins s1 σ H1 D I1 q1
  | false => exact hb pins s1 σ H1 D I1 q1
end
abbrev TG := V → St → Hp → (St → Hp → Prop) → Prop
abbrev TGs := List V → St → Hp → (St → Hp → Prop) → Prop
def PG (X : Cx) (target : Expr) (t : TG) : Prop :=
  ∀ (pins : List (Addr × Obj)) (s : Shared) (σ : St) (H : Hp) (v : V) (u : Value) (Q : St → Hp → Prop), Inv X pins σ H s → RelV v u → t v σ H Q →
    wpAny (model X.prog X.w) X.A (assign target X.env u) (fun _ s' => ∃ σ' H', Inv X pins σ' H' s' ∧ Q σ' H') X.xe s
def PGs (X : Cx) (ts : List Expr) (t : TGs) : Prop :=
  ∀ (pins : List (Addr × Obj)) (s : Shared) (σ : St) (H : Hp) (vs : List V) (us : List Value) (Q : St → Hp → Prop), Inv X pins σ H s → Vals vs us → t vs σ H Q →
    wpAny (model X.prog X.w) X.A (assignInOrder ((assignEach ts X.env).map (·.2)) us) (fun _ s' => ∃ σ' H', Inv X pins σ' H' s' ∧ Q σ' H') X.xe s
abbrev TSet := V → V → V → Hp → (Hp → Prop) → Prop
def PSet (X : Cx) (t : TSet) : Prop :=
  ∀ (pins : List (Addr × Obj)) (s : Shared) (σ : St) (H : Hp) (o i v : V) (ov iv u : Value) (Q : Hp → Prop), Inv X pins σ H s → RelV o ov → RelV i iv → RelV v u → t o i v H Q →
    wpAny (model X.prog X.w) X.A (setItem ov iv u) (fun _ s' => ∃ H', Inv X pins σ H' s' ∧ Q H') X.xe s
section
variable {X : Cx} {pos : Pos}
def gName (i : Nat) : TG := fun v σ H Q => Q (σ.set i (some v)) H
theorem pg_name {i : Nat} {x : Str} (hN : X.N.Nodup) (hi : X.N[i]? = some x) (hx : Loc X.env.scope x) (hf : X.fn x = true ∨ X.env.scope.names.lookup x = some .local := by first | exact .inl rfl | exact .inr rfl | assumption) : PG X (.Name x pos) (gName i) := by
  intro pins s σ H v u Q I r h
  exact wpAny_assign_Name (store_ok I hN hi hx r (fun s' I' => ⟨_, H, I', h⟩) hf)
def gNil : TGs := fun vs σ H Q => vs = [] ∧ Q σ H
def gCons (t : TG) (u : TGs) : TGs := fun vs σ H Q => ∃ v r, vs = v :: r ∧ t v σ H fun σ' H' => u r σ' H' Q
theorem pgs_nil : PGs X [] gNil := by
  intro pins s σ H vs us Q I r h
  obtain ⟨e, h⟩ := h
  subst e
  cases r
  exact assignInOrder_nil ⟨σ, H, I, h⟩
theorem pgs_cons {e : Expr} {es : List Expr} {t : TG} {u : TGs} (h1 : PG X e t) (h2 : PGs X es u)
    (hs : (assignEach (e :: es) X.env).map (·.2) = assign e X.env :: (assignEach es X.env).map (·.2) := by rfl) : PGs X (e :: es) (gCons t u) := by
  intro pins s σ H vs us Q I r h
  obtain ⟨v, vr, e1, h⟩ := h
  subst e1
  cases r with
  | cons r rr =>
    rw [hs]
    refine assignInOrder_cons (thn (h1 pins s σ H _ _ _ I r h) fun _ s1 ⟨σ1, H1, I1, q1⟩ => ?_)
    exact h2 pins s1 σ1 H1 _ _ Q I1 rr q1
def gTup (K : PySem.W.Frag) (n : Nat) (t : TGs) : TG := fun v σ H Q => ∃ a xs, v = .ref a ∧ SqT K H a xs ∧ xs.length = n ∧ t xs σ H Q
theorem pg_tup {es : List Expr} {k : Nat} {t : TGs} {n : Nat} (hc : X.calm = true) (h : PGs X es t)
    (hn : (assignEach es X.env).length = n := by rfl) (hst : (assignEach es X.env).findIdx? (·.1) = none := by rfl) : PG X (.Tuple es k pos) (gTup X.K n t) := by
  intro pins s σ H v u Q I r hw
  obtain ⟨a, xs, e1, hq, hl, hw⟩ := hw
  subst e1
  cases r
  obtain ⟨its, rv, ht, hz⟩ := I.tuple hq
  refine assign_Tuple_tuple (I.ok.hd hc) ht (by simp [hn, ← hl, rv.length]) hst fun h' hx => ?_
  have I1 : Inv X pins σ H { s with heap := h' } := I.kept (t' := s.toks) fun b o e => hx b o (Nat.ne_of_lt (Heap.lt_size e)) e
  exact h pins _ σ H xs _ Q I1 (by simpa using rv) hw
def gSub (to ti : TE) (t : TSet) : TG := fun v σ H Q => to σ H fun o H1 => ti σ H1 fun i H2 => t o i v H2 fun H3 => Q σ H3
theorem pg_sub {o i : Expr} {to ti : TE} {t : TSet} (ho : PE X o to) (hi : PE X i ti) (hs : PSet X t)
    (ha : ∀ v, assign (.Subscript o i pos) X.env v = (do
      let ov ← holding [v] (eval o X.env)
      let iv ← holding [v, ov] (eval i X.env)
      standAt pos
      holding [v, ov, iv] (setItem ov iv v)
      release [v, ov, iv] []) := by intro _; rfl) : PG X (.Subscript o i pos) (gSub to ti t) := by
  intro pins s σ H v u Q I r h
  rw [ha]
  refine wpAny_bind (wpAny_holding (thn (ho pins s σ H _ I h) fun ov s1 ⟨x, H1, I1, r1, q1⟩ => ?_))
  refine wpAny_bind (wpAny_holding (thn (hi pins s1 σ H1 _ I1 q1) fun iv s2 ⟨y, H2, I2, r2, q2⟩ => ?_))
  refine wpAny_bind (wpAny_standAt (wpAny_bind (wpAny_holding (thn (hs pins s2 σ H2 x y v ov iv u _ I2 r1 r2 r q2) fun _ s3 ⟨H3, I3, q3⟩ => ?_))))
  exact wpAny_release ⟨σ, H3, I3, q3⟩
def tAsg (te : TE) (g : TG) : TS := fun D σ H => te σ H fun x H1 => g x σ H1 D.nx
theorem ps_asg {tg e : Expr} {te : TE} {g : TG} (he : PE X e te) (hg : PG X tg g) (hs : swapsWithSole [tg] e pos.line X.env = pure false := by rfl) (hw : swappedStores [tg] e X.env = pure none := by rfl)
    (h1 : (assignEach [tg] X.env).map (·.2) = [assign tg X.env] := by rfl) : PS X (.Assign [tg] e pos) (tAsg te g) := by
  intro pins s σ H D I h
  refine wpAny_Assign_stores (thn (he pins s σ H _ I h) fun v s1 ⟨x, H1, I1, r1, q1⟩ => ?_) hs hw
  rw [h1]
  exact thn (hg pins s1 σ H1 x v _ I1 r1 q1) fun _ s2 q => q
theorem ps_set {i : Nat} {x : Str} {e : Expr} {te : TE} {pos' : Pos} (hN : X.N.Nodup) (hi : X.N[i]? = some x) (hx : Loc X.env.scope x) (he : PE X e te) (hs : swapsWith e (some (.Name x pos')) pos.line X.env = pure false := by rfl) (hf : X.fn x = true ∨ X.env.scope.names.lookup x = some .local := by first | exact .inl rfl | exact .inr rfl | assumption) :
    PS X (.Assign [.Name x pos'] e pos) (tAsg te (gName i)) := by
  intro pins s σ H D I h
  refine wpAny_Assign_Name (thn (he pins s σ H _ I h) fun v s1 ⟨y, H1, I1, r1, q1⟩ => ?_) hs
  exact store_ok I1 hN hi hx r1 (fun s2 I2 => ⟨_, H1, I2, q1⟩) hf
end
section
variable {X : Cx} {pos : Pos}
def tWhile (c : TT) (tb : TS) : TS := fun D σ H => ∃ W : Nat → St → Hp → Prop, (∃ m, W m σ H) ∧ ∀ m σ H, W m σ H →
  c σ H fun b H1 => if b = true then ∃ N : St → Hp → Prop, (∀ σ' H', N σ' H' → ∃ m', m' < m ∧ W m' σ' H') ∧ tb { D with nx := N, ct := N, bk := D.nx } σ H1 else D.nx σ H1
theorem ps_while {c : Expr} {body : List Stmt} {tc : TT} {tb : TS} (hp : PassesOwn (model X.prog X.w) X.A X.env X.xe) (hc : PT X c tc) (hb : PSs X body tb) : PS X (.While c body [] pos) (tWhile tc tb) := by
  intro pins s σ H D I h
  obtain ⟨W, ⟨m0, w0⟩, turn⟩ := h
  refine wpAny_While (codeAny_whileLoop (fun n s' => ∃ σ' H', Inv X pins σ' H' s' ∧ W n σ' H') ?_ m0 ⟨σ, H, I, w0⟩)
  rintro n s1 ⟨σ1, H1, I1, w1⟩
  refine wpAny_passesOwn hp (thn (hc pins s1 σ1 H1 _ I1 (turn n σ1 H1 w1)) fun b s2 ⟨H2, I2, q2⟩ => ?_)
  cases b with
  | true =>
    obtain ⟨N, hN, q2⟩ := q2
    rw [if_pos rfl]
    refine wpAny_passesOwn hp (thn (hb pins s2 σ1 H2 _ I2 q2) fun f s3 q3 => ?_)
    cases f with
    | next =>
      obtain ⟨σ3, H3, I3, n3⟩ := q3
      obtain ⟨m', hm, w3⟩ := hN σ3 H3 n3
      exact ⟨m', hm, σ3, H3, I3, w3⟩
    | cont =>
      obtain ⟨σ3, H3, I3, n3⟩ := q3
      obtain ⟨m', hm, w3⟩ := hN σ3 H3 n3
      exact ⟨m', hm, σ3, H3, I3, w3⟩
    | brk => exact q3
    | ret v => exact q3
  | false =>
    rw [if_neg Bool.false_ne_true]
    exact wpAny_execs_nil ⟨σ1, H2, I2, q2⟩
end
structure It where
  go : Nat → Hp → Prop
  yld : Nat → Hp → V → Hp → Prop
  stop : Nat → Hp → Prop
def FpOk (X : Cx) (pins : List (Addr × Obj)) (H : Hp) (b : Addr) : Prop :=
  H b = none ∧ b ≠ X.env.locals ∧ b ∉ X.fs ∧ (b ∈ X.ex ∨ X.s₀.heap.objs.size ≤ b) ∧ (∀ x c, X.env.cells.lookup x = some c → c ≠ b) ∧ ∀ p ∈ X.pn ++ pins, p.1 ≠ b
theorem Inv.fpOk {X : Cx} {pins : List (Addr × Obj)} {σ : St} {H H' : Hp} {s : Shared} {b : Addr} (I : Inv X pins σ H s) (hb : s.heap.objs.size ≤ b) (hn : H' b = none) : FpOk X pins H' b := by
  refine ⟨hn, Nat.ne_of_gt (Nat.lt_of_lt_of_le I.lt hb), I.nofs hb, .inr (Nat.le_trans I.sz hb), fun x c e z => ?_, fun p hp z => ?_⟩
  · obtain ⟨v, q⟩ := I.cell x c e
    exact absurd (Nat.lt_of_lt_of_le q.lt (by rw [z]; exact hb)) (Nat.lt_irrefl _)
  · exact absurd (Nat.lt_of_lt_of_le (Heap.lt_size (I.pin p hp).1) (by rw [z]; exact hb)) (Nat.lt_irrefl _)
structure Turn (P : Program) (w : World) (K : PySem.W.Frag) (tg : Expr) (J : It) (fp : List Addr) (it : Addr) (tn : Nat → Heap → Prop) : Prop where
  mem : it ∈ fp
  obj : ∀ i h, tn i h → ∀ b ∈ fp, ∃ o, h.get? b = some o ∧ ∀ v, o.data ≠ .cell v
  keep : ∀ i h h', tn i h → (∀ b ∈ fp, ∀ o, h.get? b = some o → h'.get? b = some o) → tn i h'
  item : ∀ (X : Cx), X.prog = P → X.w = w → X.K = K → X.calm = true → ∀ (i : Nat) (pins : List (Addr × Obj)) (s : Shared) (σ : St) (H : Hp) (E : Value → Shared → Prop), Inv X pins σ H s → (∀ b ∈ fp, FpOk X pins H b) → tn i s.heap → J.go i H →
    wpAny (model P w) X.A (pyNext (.ref it)) (fun r s1 => ∃ u, r = some u ∧
      wpAny (model P w) X.A (letOwnedTupleGo tg (.ref it) u) (fun _ s2 => ∃ x H', Inv X pins σ H' s2 ∧ RelV x u ∧ J.yld i H x H' ∧ tn (i + 1) s2.heap ∧ ∀ b ∈ fp, H' b = none) E s1) E s
  done : ∀ (X : Cx), X.prog = P → X.w = w → X.K = K → X.calm = true → ∀ (i : Nat) (pins : List (Addr × Obj)) (s : Shared) (σ : St) (H : Hp) (E : Value → Shared → Prop), Inv X pins σ H s → (∀ b ∈ fp, FpOk X pins H b) → tn i s.heap → J.stop i H →
    wpAny (model P w) X.A (pyNext (.ref it)) (fun r s1 => r = none ∧ Inv X pins σ H s1) E s
  self : ∀ (A : Around) (i : Nat) (s : Shared) (Q : Value → Shared → Prop) (E : Value → Shared → Prop), tn i s.heap → Q (.ref it) s → wpAny (model P w) A (pyIter (.ref it)) Q E s
abbrev TI := St → Hp → (It → Hp → Prop) → Prop
def PIE (X : Cx) (pins : List (Addr × Obj)) (σ : St) (tg : Expr) (R : It → Hp → Prop) (itv : Value) (s2 : Shared) : Prop :=
  ∃ (it : Addr) (fp : List Addr) (tn : Nat → Heap → Prop) (J : It) (H' : Hp), itv = .ref it ∧ Inv X pins σ H' s2 ∧ Turn X.prog X.w X.K tg J fp it tn ∧ tn 0 s2.heap ∧ (∀ b ∈ fp, FpOk X pins H' b) ∧ R J H'
def PI (X : Cx) (tg iter : Expr) (wi : TI) : Prop :=
  ∀ (pins : List (Addr × Obj)) (s : Shared) (σ : St) (H : Hp) (R : It → Hp → Prop), Inv X pins σ H s → wi σ H R →
    wpAny (model X.prog X.w) X.A (eval iter X.env) (fun v s1 => wpAny (model X.prog X.w) X.A (pyIter v) (PIE X pins σ tg R) X.xe s1) X.xe s
theorem go_of {M : Model} {A : Around} {E : Value → Shared → Prop} {s : Shared} {tg : Expr} {it : Addr} {u : Value} {o : Obj} {n : String} {vs : Array Value} {Q : Unit → Shared → Prop} (ho : s.heap.get? it = some o) (hc : o.cls = .type n) (hd : o.data = .fields vs)
    (hn : ["enumerate", "zip", "dict_itemiterator", "dict_reverseitemiterator", "odict_iterator", "itertools.zip_longest", "itertools.pairwise"].contains n = false) (hQ : Q () s) : wpAny M A (letOwnedTupleGo tg (.ref it) u) Q E s := by
  unfold letOwnedTupleGo
  cases tg <;> first
    | exact wpAny_pure hQ
    | (cases u <;> first
        | exact wpAny_pure hQ
        | (refine wpAny_bind (wpAny_load ho ?_)
           rw [hc, hd]
           show wpAny M A (if (["enumerate", "zip", "dict_itemiterator", "dict_reverseitemiterator", "odict_iterator", "itertools.zip_longest", "itertools.pairwise"].contains n && vs[0]? == some (rawInt _)) = true then _ else _) Q E s
           rw [if_neg (by intro h; rw [hn, Bool.false_and] at h; cases h)]
           exact wpAny_pure hQ))
def Itl (K : PySem.W.Frag) (a : Addr) : It :=
  ⟨fun i H => ∃ xs x, SqL K H a xs ∧ xs[i]? = some x, fun i H x H' => H' = H ∧ ∀ xs, SqL K H a xs → xs[i]? = some x, fun i H => ∃ xs, SqL K H a xs ∧ xs.length ≤ i⟩
def Itr (lo : Int) (n : Nat) : It := ⟨fun i _ => i < n, fun i H x H' => H' = H ∧ x = .int (lo + i), fun i _ => n ≤ i⟩
theorem turn_list {P : Program} {w : World} {K : PySem.W.Frag} {tg : Expr} (a it : Addr) : Turn P w K tg (Itl K a) [it] it (fun i h => h.IsListIter it a i) where
  mem := by simp
  obj := fun i h st b hb => by
    have e : b = it := by simpa using hb
    subst e
    obtain ⟨o, e, c, d⟩ := st
    exact ⟨o, e, fun v z => by rw [d] at z; cases z⟩
  keep := fun i h h' st k => st.at fun o e => k it (by simp) o e
  item := by
    intro X hP hw hK hc i pins s σ H E I hf st hg
    subst hP hw hK
    obtain ⟨xs, x, hq, hx⟩ := hg
    obtain ⟨its, rv, p, hz⟩ := I.list hq
    obtain ⟨u, hu, ru⟩ := rv.get hx
    obtain ⟨f0, f1, f2, f3, f4, f5⟩ := hf it (by simp)
    refine wpAny_pyNext_list_item st p.isList (x := u) (by simpa using hu) fun h' st' sb => ?_
    have I1 : Inv X pins σ H { s with heap := h' } := I.turned (t' := s.toks) (fun b o hb e => (sb.2 b hb).trans e) f0 f1 f3 f4 f5
    obtain ⟨o, e, c, d⟩ := id st'
    exact ⟨u, rfl, go_of (s := { s with heap := h' }) e c d (by decide) ⟨x, H, I1, ru, ⟨rfl, fun ys hy => by rw [I.list_inj hy hq]; exact hx⟩, st', fun b hb => (hf b hb).1⟩⟩
  done := by
    intro X hP hw hK hc i pins s σ H E I hf st hg
    subst hP hw hK
    obtain ⟨xs, hq, hx⟩ := hg
    obtain ⟨its, rv, p, hz⟩ := I.list hq
    obtain ⟨f0, f1, f2, f3, f4, f5⟩ := hf it (by simp)
    have hl := rv.length
    exact wpAny_pyNext_list_end (I.ok.hd hc) st p.isList (by simp; omega) fun h' eb => ⟨rfl, I.turned (t' := s.toks) (fun b o hb e => eb b o hb e) f0 f1 f3 f4 f5⟩
  self := fun _ _ _ _ _ st h => wpAny_pyIter_listiter st h
theorem turn_range {P : Program} {w : World} {K : PySem.W.Frag} {tg : Expr} (it : Addr) (lo : Int) (n : Nat) : Turn P w K tg (Itr lo n) [it] it (fun i h => IsRangeIter h it (lo + (i : Nat) * 1) ((n : Int) - (i : Nat)) 1) where
  mem := by simp
  obj := fun i h st b hb => by
    have e : b = it := by simpa using hb
    subst e
    exact ⟨_, st, fun v z => by
      have z' : Data.fields _ = Data.cell v := z
      cases z'⟩
  keep := fun i h h' st k => k it (by simp) _ st
  item := by
    intro X hP hw hK hc i pins s σ H E I hf st hg
    subst hP hw hK
    obtain ⟨f0, f1, f2, f3, f4, f5⟩ := hf it (by simp)
    have W := Walks.range (prog := X.prog) (w := X.w) (I.ok.hd hc) it lo 1 n
    refine W.item i s _ _ hg st fun v h' tk hv st' kk => ?_
    obtain ⟨t, rfl⟩ := hv
    have I1 : Inv X pins σ H { s with heap := h', toks := tk } := I.turned (fun b o hb e => kk b o (by simpa using hb) e) f0 f1 f3 f4 f5
    refine ⟨_, rfl, go_of (s := { s with heap := h', toks := tk }) (n := "range_iterator") st' rfl rfl (by decide) ⟨.int (lo + i), H, I1, ⟨t, ?_⟩, ⟨rfl, rfl⟩, st', fun b hb => (hf b hb).1⟩⟩
    rw [Int.mul_one]
  done := by
    intro X hP hw hK hc i pins s σ H E I hf st hg
    subst hP hw hK
    obtain ⟨f0, f1, f2, f3, f4, f5⟩ := hf it (by simp)
    exact wpAny_pyNext_range_end (I.ok.hd hc) st (by have : n ≤ i := hg; omega) fun h' eb => ⟨rfl, I.turned (t' := s.toks) (fun b o hb e => eb b o hb e) f0 f1 f3 f4 f5⟩
  self := fun _ _ _ _ _ st h => wpAny_pyIter_rangeiter st h
end L2
namespace L2
open PySem PySem.Spec PyProof.Rows
section
variable {X : Cx} {tg : Expr}
def iList (K : PySem.W.Frag) (tl : TE) : TI := fun σ H R => tl σ H fun x H1 => ∃ a, x = .ref a ∧ (∃ xs, SqL K H1 a xs) ∧ R (Itl K a) H1
theorem pi_list {l : Expr} {tl : TE} (hl : PE X l tl) : PI X tg l (iList X.K tl) := by
  intro pins s σ H R I h
  refine thn (hl pins s σ H _ I h) fun v s1 ⟨x, H1, I1, r1, q1⟩ => ?_
  obtain ⟨a, e, ⟨xs, hq⟩, q⟩ := q1
  subst e
  cases r1
  obtain ⟨its, rv, p, hz⟩ := I1.list hq
  refine wpAny_pyIter_list p.isList ?_
  refine ⟨s1.heap.objs.size, [s1.heap.objs.size], _, _, H1, rfl, I1.kept (t' := s1.toks) fun b o e => Heap.get?_push_of_some _ e, turn_list a _, ⟨_, Heap.get?_push_size _ rfl, rfl, rfl⟩, fun b hb => ?_, q⟩
  have e : b = s1.heap.objs.size := by simpa using hb
  subst e
  exact I1.fpOk (Nat.le_refl _) (I1.hok.fresh (Nat.le_refl _))
theorem range_it {pins : List (Addr × Obj)} {σ : St} {H : Hp} {s : Shared} {R : It → Hp → Prop} {E : Value → Shared → Prop} {lo hi : Int} {t u v : Tok} {tk : Nat} (I : Inv X pins σ H s) (h1 : -(2 ^ 62) ≤ lo) (h2 : lo < 2 ^ 62) (h3 : -(2 ^ 62) ≤ hi) (h4 : hi < 2 ^ 62)
    (q : R (Itr lo (hi - lo).toNat) H) : wpAny (model X.prog X.w) X.A (pyIter (.ref s.heap.objs.size)) (PIE X pins σ tg R) E { s with heap := s.heap.push { cls := .type "range", data := .fields #[.int lo t, .int hi u, .int 1 v] }, toks := tk } := by
  refine wpAny_pyIter_range (IsRange.new ..) (small_one h1 h2 h3 h4) ?_
  have I1 : Inv X pins σ H { s with heap := s.heap.push { cls := .type "range", data := .fields #[.int lo t, .int hi u, .int 1 v] }, toks := tk } := I.kept fun b o e => Heap.get?_push_of_some _ e
  refine ⟨(s.heap.push { cls := .type "range", data := .fields #[.int lo t, .int hi u, .int 1 v] }).objs.size, [(s.heap.push { cls := .type "range", data := .fields #[.int lo t, .int hi u, .int 1 v] }).objs.size], _, _, H, rfl,
    I1.kept (t' := tk) fun b o e => Heap.get?_push_of_some _ e, turn_range _ lo (hi - lo).toNat, ?_, fun b hb => ?_, q⟩
  · have e1 : lo + ((0 : Nat) : Int) * 1 = lo := by simp
    have e2 : (((hi - lo).toNat : Nat) : Int) - ((0 : Nat) : Int) = Builtin.Range.rangeSize lo hi 1 := by rw [rangeSize_one]; split <;> omega
    show IsRangeIter _ _ (lo + ((0 : Nat) : Int) * 1) ((((hi - lo).toNat : Nat) : Int) - ((0 : Nat) : Int)) 1
    rw [e1, e2]
    exact Heap.get?_push_size _ rfl
  · have e : b = (s.heap.push { cls := .type "range", data := .fields #[.int lo t, .int hi u, .int 1 v] }).objs.size := by simpa using hb
    subst e
    exact I1.fpOk (Nat.le_refl _) (I1.hok.fresh (Nat.le_refl _))
def iRng1 (ta : TA) : TI := fun σ H R => ta σ H fun vs H1 => ∃ j : Int, vs = [.int j] ∧ -(2 ^ 62) ≤ j ∧ j < 2 ^ 62 ∧ R (Itr 0 j.toNat) H1
def iRng2 (ta : TA) : TI := fun σ H R => ta σ H fun vs H1 => ∃ i j : Int, vs = [.int i, .int j] ∧ (-(2 ^ 62) ≤ i ∧ i < 2 ^ 62 ∧ -(2 ^ 62) ≤ j ∧ j < 2 ^ 62) ∧ R (Itr i (j - i).toNat) H1
theorem pi_range1 {a : Expr} {ta : TA} {p pos : Pos} (hg : Gl X "range") (hm : X.mg "range" = none) (ha : PA X [a] ta) (hs : starEach [a] X.env = [(false, eval a X.env)] := by rfl) : PI X tg (.Call (.Name "range" p) [a] [] pos) (iRng1 ta) := by
  intro pins s σ H R I h
  refine Call_ (ld_blt I hg hm boot_range (PyProof.Rows.callWith_type1 (thn (ha pos pins s σ H _ I h) fun us s1 ⟨vs, H1, I1, r1, q1⟩ => ?_) hs rfl))
  obtain ⟨j, e, q1, q2, q⟩ := q1
  subst e
  cases r1 with
  | cons r rr =>
    cases rr
    obtain ⟨t, rfl⟩ := r
    exact call_range_1 (range_it I1 (by omega) (by omega) q1 q2 (by simpa using q))
theorem pi_range2 {a b : Expr} {ta : TA} {p pos : Pos} (hg : Gl X "range") (hm : X.mg "range" = none) (ha : PA X [a, b] ta) (hs : starEach [a, b] X.env = [(false, eval a X.env), (false, eval b X.env)] := by rfl) (hs2 : starEach [b] X.env = [(false, eval b X.env)] := by rfl) :
    PI X tg (.Call (.Name "range" p) [a, b] [] pos) (iRng2 ta) := by
  intro pins s σ H R I h
  refine Call_ (ld_blt I hg hm boot_range (PyProof.Rows.callWith_type1 (thn (ha pos pins s σ H _ I h) fun us s1 ⟨vs, H1, I1, r1, q1⟩ => ?_) (by rw [hs, hs2]) (by rw [hs2]; rfl)))
  obtain ⟨i, j, e, ⟨q1, q2, q3, q4⟩, q⟩ := q1
  subst e
  cases r1 with
  | cons r rr =>
    cases rr with
    | cons r' rr =>
      cases rr
      obtain ⟨t, rfl⟩ := r
      obtain ⟨t', rfl⟩ := r'
      exact call_range_2 (range_it I1 q1 q2 q3 q4 q)
def tFor (wi : TI) (g : TG) (tb : TS) : TS := fun D σ H => wi σ H fun J H1 => ∃ W : Nat → Nat → St → Hp → Prop, (∃ m, W 0 m σ H1) ∧ ∀ i m σ H, W i m σ H →
  (J.stop i H ∧ D.nx σ H) ∨ (J.go i H ∧ ∃ N : St → Hp → Prop, (∀ σ' H', N σ' H' → ∃ m', m' < m ∧ W (i + 1) m' σ' H') ∧ ∀ x H', J.yld i H x H' → g x σ H' fun σ2 H2 => tb { D with nx := N, ct := N, bk := D.nx } σ2 H2)
def pinsAt (fp : List Addr) (h : Heap) : List (Addr × Obj) := fp.filterMap fun b => (h.get? b).map fun o => (b, o)
theorem mem_pinsAt {fp : List Addr} {h : Heap} {b : Addr} {o : Obj} (hb : b ∈ fp) (e : h.get? b = some o) : (b, o) ∈ pinsAt fp h := List.mem_filterMap.mpr ⟨b, hb, by rw [e]; rfl⟩
theorem of_pinsAt {fp : List Addr} {h : Heap} {p : Addr × Obj} (hp : p ∈ pinsAt fp h) : p.1 ∈ fp ∧ h.get? p.1 = some p.2 := by
  obtain ⟨b, hb, e⟩ := List.mem_filterMap.mp hp
  cases q : h.get? b with
  | none => rw [q] at e; cases e
  | some o =>
    rw [q] at e
    have e' : (b, o) = p := Option.some.inj e
    subst e'
    exact ⟨hb, q⟩
theorem Inv.pinned {pins : List (Addr × Obj)} {σ : St} {H : Hp} {s : Shared} {fp : List Addr} (I : Inv X pins σ H s) (hf : ∀ b ∈ fp, FpOk X pins H b) (ho : ∀ b ∈ fp, ∃ o, s.heap.get? b = some o ∧ ∀ v, o.data ≠ .cell v) : Inv X (pins ++ pinsAt fp s.heap) σ H s :=
  I.pins_of fun p hp => (List.mem_append.mp hp).elim (fun z => I.pin p (List.mem_append_right _ z)) fun z => by
    obtain ⟨hb, e⟩ := of_pinsAt z
    obtain ⟨f0, f1, f2, _⟩ := hf p.1 hb
    obtain ⟨o, e', d⟩ := ho p.1 hb
    rw [e] at e'; cases e'
    exact ⟨e, f0, f1, f2, d⟩
theorem Inv.unpinned {pins pl : List (Addr × Obj)} {σ : St} {H : Hp} {s : Shared} (I : Inv X (pins ++ pl) σ H s) : Inv X pins σ H s := I.pins_of fun p hp => I.pin p (List.mem_append_right _ (List.mem_append_left _ hp))
theorem ps_for {iter : Expr} {body : List Stmt} {wi : TI} {g : TG} {tb : TS} {pos : Pos} (hp : PassesOwn (model X.prog X.w) X.A X.env X.xe) (hc : X.calm = true) (hi : PI X tg iter wi) (hg : PG X tg g) (hb : PSs X body tb)
    (hs : ∀ x, foldedSetIterable iter X.env x = pure x := by intro _; rfl) : PS X (.For tg iter body [] pos) (tFor wi g tb) := by
  intro pins s σ H D I h
  refine wpAny_For (thn (hi pins s σ H _ I h) fun v s1 h1 => thn h1 fun itv s2 h2 => ?_) hs
  obtain ⟨it, fp, tn, J, H2, e, I2, T, st2, f2, W, ⟨m0, w0⟩, turn⟩ := h2
  subst e
  have stat : ∀ {H' : Hp}, (∀ b ∈ fp, H' b = none) → ∀ b ∈ fp, FpOk X pins H' b := fun hn b hb => ⟨hn b hb, (f2 b hb).2⟩
  refine codeAny_forLoop_any (fun n s' => ∃ i σ' H', Inv X pins σ' H' s' ∧ tn i s'.heap ∧ (∀ b ∈ fp, H' b = none) ∧ W i n σ' H') ?_ m0 ⟨0, σ, H2, I2, st2, fun b hb => (f2 b hb).1, w0⟩
  rintro n s3 ⟨i, σ3, H3, I3, st3, fr3, w3⟩
  rcases turn i n σ3 H3 w3 with ⟨stop, qn⟩ | ⟨go, N, hN, step⟩
  · refine wpAny_passesOwn hp (thn (T.done X rfl rfl rfl hc i pins s3 σ3 H3 X.xe I3 (stat fr3) st3 stop) fun r s4 ⟨hr, I4⟩ => ?_)
    subst hr
    exact wpAny_execs_nil ⟨σ3, H3, I4, qn⟩
  · refine wpAny_passesOwn hp (thn (T.item X rfl rfl rfl hc i pins s3 σ3 H3 X.xe I3 (stat fr3) st3 go) fun r s4 ⟨u, hr, h4⟩ => ?_)
    subst hr
    refine wpAny_passesOwn hp (thn h4 fun _ s5 ⟨x, H5, I5, r5, y5, st5, fr5⟩ => ?_)
    have I5' := I5.pinned (stat fr5) (T.obj _ _ st5)
    refine wpAny_passesOwn hp (thn (hg _ s5 σ3 H5 x u _ I5' r5 (step x H5 y5)) fun _ s6 ⟨σ6, H6, I6, q6⟩ => ?_)
    refine wpAny_passesOwn hp (thn (hb _ s6 σ6 H6 _ I6 q6) fun f s7 q7 => ?_)
    have again : ∀ {σ7 : St} {H7 : Hp}, Inv X (pins ++ pinsAt fp s5.heap) σ7 H7 s7 → N σ7 H7 → ∃ m, m < n ∧ ∃ i σ' H', Inv X pins σ' H' s7 ∧ tn i s7.heap ∧ (∀ b ∈ fp, H' b = none) ∧ W i m σ' H' := fun {σ7 H7} I7 n7 => by
      obtain ⟨m', hm, w7⟩ := hN σ7 H7 n7
      refine ⟨m', hm, i + 1, σ7, H7, I7.unpinned, T.keep _ _ _ st5 fun b hb o e => (I7.pin (b, o) (List.mem_append_right _ (List.mem_append_right _ (mem_pinsAt hb e)))).1, fun b hb => ?_, w7⟩
      obtain ⟨o, e, d⟩ := T.obj _ _ st5 b hb
      exact (I7.pin (b, o) (List.mem_append_right _ (List.mem_append_right _ (mem_pinsAt hb e)))).2.1
    cases f with
    | next => obtain ⟨σ7, H7, I7, n7⟩ := q7; exact again I7 n7
    | cont => obtain ⟨σ7, H7, I7, n7⟩ := q7; exact again I7 n7
    | brk => obtain ⟨σ7, H7, I7, q7⟩ := q7; exact ⟨σ7, H7, I7.unpinned, q7⟩
    | ret v => obtain ⟨x7, σ7, H7, I7, r7, q7⟩ := q7; exact ⟨x7, σ7, H7, I7.unpinned, r7, q7⟩
end
theorem for_list {K : PySem.W.Frag} {a : Addr} {xs : List V} {g : TG} {tb : TS} {D : Ends} {σ : St} {H : Hp} (Pv : Nat → St → Hp → Prop) (h0 : Pv 0 σ H) (hl : ∀ i σ H, i ≤ xs.length → Pv i σ H → SqL K H a xs)
    (hs : ∀ i x σ H, xs[i]? = some x → Pv i σ H → g x σ H fun σ2 H2 => tb { D with nx := Pv (i + 1), ct := Pv (i + 1), bk := D.nx } σ2 H2) (hd : ∀ σ H, Pv xs.length σ H → D.nx σ H) :
    ∃ W : Nat → Nat → St → Hp → Prop, (∃ m, W 0 m σ H) ∧ ∀ i m σ H, W i m σ H →
      ((Itl K a).stop i H ∧ D.nx σ H) ∨ ((Itl K a).go i H ∧ ∃ N : St → Hp → Prop, (∀ σ' H', N σ' H' → ∃ m', m' < m ∧ W (i + 1) m' σ' H') ∧ ∀ x H', (Itl K a).yld i H x H' → g x σ H' fun σ2 H2 => tb { D with nx := N, ct := N, bk := D.nx } σ2 H2) := by
  refine ⟨fun i m σ H => m = xs.length - i ∧ i ≤ xs.length ∧ Pv i σ H, ⟨xs.length, by simp, Nat.zero_le _, h0⟩, ?_⟩
  rintro i m σ H ⟨rfl, hi, p⟩
  have q := hl i σ H hi p
  by_cases hlt : i < xs.length
  · refine .inr ⟨⟨xs, xs[i], q, by simp [hlt]⟩, Pv (i + 1), fun σ' H' p' => ⟨xs.length - (i + 1), by omega, rfl, hlt, p'⟩, fun x H' y => ?_⟩
    obtain ⟨e, y⟩ := y
    subst e
    exact hs i x σ _ (y xs q) p
  · have e : i = xs.length := by omega
    subst e
    exact .inl ⟨⟨xs, q, Nat.le_refl _⟩, hd σ H p⟩
theorem for_range {lo : Int} {n : Nat} {g : TG} {tb : TS} {D : Ends} {σ : St} {H : Hp} (Pv : Nat → St → Hp → Prop) (h0 : Pv 0 σ H)
    (hs : ∀ i σ H, i < n → Pv i σ H → g (.int (lo + i)) σ H fun σ2 H2 => tb { D with nx := Pv (i + 1), ct := Pv (i + 1), bk := D.nx } σ2 H2) (hd : ∀ σ H, Pv n σ H → D.nx σ H) :
    ∃ W : Nat → Nat → St → Hp → Prop, (∃ m, W 0 m σ H) ∧ ∀ i m σ H, W i m σ H →
      ((Itr lo n).stop i H ∧ D.nx σ H) ∨ ((Itr lo n).go i H ∧ ∃ N : St → Hp → Prop, (∀ σ' H', N σ' H' → ∃ m', m' < m ∧ W (i + 1) m' σ' H') ∧ ∀ x H', (Itr lo n).yld i H x H' → g x σ H' fun σ2 H2 => tb { D with nx := N, ct := N, bk := D.nx } σ2 H2) := by
  refine ⟨fun i m σ H => m = n - i ∧ i ≤ n ∧ Pv i σ H, ⟨n, by simp, Nat.zero_le _, h0⟩, ?_⟩
  rintro i m σ H ⟨rfl, hi, p⟩
  by_cases hlt : i < n
  · refine .inr ⟨hlt, Pv (i + 1), fun σ' H' p' => ⟨n - (i + 1), by omega, rfl, hlt, p'⟩, fun x H' y => ?_⟩
    obtain ⟨e, y⟩ := y
    subst e y
    exact hs i σ _ hlt p
  · have e : i = n := by omega
    subst e
    exact .inl ⟨Nat.le_refl _, hd σ H p⟩
end L2
namespace L2
open PySem PySem.Spec PyProof.Rows
abbrev R2 := V → V → Hp → VK → Prop
def OpR (X : Cx) (f : Value → Value → Sem Value) (r : R2) : Prop :=
  ∀ (pins : List (Addr × Obj)) (s : Shared) (σ : St) (H : Hp) (x y : V) (v u : Value) (Q : VK), Inv X pins σ H s → RelV x v → RelV y u → r x y H Q →
    wpAny (model X.prog X.w) X.A (f v u) (EP X pins σ Q) X.xe s
def UnR (X : Cx) (f : Value → Sem Value) (r : V → Hp → VK → Prop) : Prop :=
  ∀ (pins : List (Addr × Obj)) (s : Shared) (σ : St) (H : Hp) (x : V) (v : Value) (Q : VK), Inv X pins σ H s → RelV x v → r x H Q →
    wpAny (model X.prog X.w) X.A (f v) (EP X pins σ Q) X.xe s
def CallR (X : Cx) (f : Value) (r : List V → Hp → VK → Prop) : Prop :=
  ∀ (pins : List (Addr × Obj)) (s : Shared) (σ : St) (H : Hp) (xs : List V) (us : List Value) (Q : VK), Inv X pins σ H s → Vals xs us → r xs H Q →
    wpAny (model X.prog X.w) X.A (call f us) (EP X pins σ Q) X.xe s
def tOp (r : R2) (ta tb : TE) : TE := fun σ H Q => ta σ H fun x H1 => tb σ H1 fun y H2 => r x y H2 Q
def tUn (r : V → Hp → VK → Prop) (ta : TE) : TE := fun σ H Q => ta σ H fun x H1 => r x H1 Q
def rI (C : Int → Int → Prop) (g : Int → Int → V) : R2 := fun x y H Q => ∃ i j, x = .int i ∧ y = .int j ∧ C i j ∧ Q (g i j) H
def rI0 (g : Int → Int → V) : R2 := fun x y H Q => ∃ i j, x = .int i ∧ y = .int j ∧ Q (g i j) H
def rU (g : Int → V) : V → Hp → VK → Prop := fun x H Q => ∃ i, x = .int i ∧ Q (g i) H
section
variable {X : Cx} {a b c : Expr} {ta tb tc : TE} {pos : Pos}
theorem binT (ha : PE X a ta) (hb : PE X b tb) {pins : List (Addr × Obj)} {s : Shared} {σ : St} {H : Hp} {R : V → V → Hp → Prop} (I : Inv X pins σ H s)
    (h : ta σ H fun x H1 => tb σ H1 fun y H2 => R x y H2) {Q : Value → Shared → Prop} {f : Value → Value → Sem Value}
    (hf : ∀ v u s2 x y H2, Inv X pins σ H2 s2 → RelV x v → RelV y u → R x y H2 → wpAny (model X.prog X.w) X.A (f v u) Q X.xe s2) :
    wpAny (model X.prog X.w) X.A (eval a X.env) (fun v s₁ => wpAny (model X.prog X.w) X.A (eval b X.env) (fun u s₂ => wpAny (model X.prog X.w) X.A (f v u) Q X.xe s₂) X.xe s₁) X.xe s := by
  refine thn (ha pins s σ H _ I h) fun v s1 ⟨x, H1, I1, r1, q1⟩ => ?_
  refine thn (hb pins s1 σ H1 _ I1 q1) fun u s2 ⟨y, H2, I2, r2, q2⟩ => ?_
  exact hf v u s2 x y H2 I2 r1 r2 q2
theorem pe_op {op : Operator} {r : R2} (ho : OpR X (binaryOp op) r) (ha : PE X a ta) (hb : PE X b tb) : PE X (.BinOp a op b pos) (tOp r ta tb) := by
  intro pins s σ H Q I h
  exact wpAny_BinOp (binT ha hb I h fun v u s2 x y H2 I2 rx ry q => ho pins s2 σ H2 x y v u Q I2 rx ry q)
theorem pe_un {op : UnaryOp} {r : V → Hp → VK → Prop} (ho : UnR X (unaryOp op) r) (ha : PE X a ta) : PE X (.UnaryOp op a pos) (tUn r ta) := by
  intro pins s σ H Q I h
  exact UnaryOp_ (thn (ha pins s σ H _ I h) fun v s1 ⟨x, H1, I1, r1, q1⟩ => ho pins s1 σ H1 x v Q I1 r1 q1)
theorem opI {f : Value → Value → Sem Value} {C : Int → Int → Prop} {g : Int → Int → Int}
    (rule : ∀ (i j : Int) (t u : Tok) (s : Shared) (Q : Value → Shared → Prop) (E : Value → Shared → Prop), C i j → Q (.int (g i j) s.toks) { s with toks := s.toks + 1 } → wpAny (model X.prog X.w) X.A (f (.int i t) (.int j u)) Q E s) :
    OpR X f (rI C fun i j => .int (g i j)) := by
  intro pins s σ H x y v u Q I rx ry h
  obtain ⟨i, j, rfl, rfl, hc, q⟩ := h
  obtain ⟨t, rfl⟩ := rx
  obtain ⟨t', rfl⟩ := ry
  exact rule i j t t' s _ _ hc ⟨.int (g i j), H, I.tok _, ⟨_, rfl⟩, q⟩
theorem opI0 {f : Value → Value → Sem Value} {g : Int → Int → Int}
    (rule : ∀ (i j : Int) (t u : Tok) (s : Shared) (Q : Value → Shared → Prop) (E : Value → Shared → Prop), Q (.int (g i j) s.toks) { s with toks := s.toks + 1 } → wpAny (model X.prog X.w) X.A (f (.int i t) (.int j u)) Q E s) :
    OpR X f (rI0 fun i j => .int (g i j)) := by
  intro pins s σ H x y v u Q I rx ry h
  obtain ⟨i, j, rfl, rfl, q⟩ := h
  obtain ⟨t, rfl⟩ := rx
  obtain ⟨t', rfl⟩ := ry
  exact rule i j t t' s _ _ ⟨.int (g i j), H, I.tok _, ⟨_, rfl⟩, q⟩
theorem opB0 {f : Value → Value → Sem Value} {g : Int → Int → Bool}
    (rule : ∀ (i j : Int) (t u : Tok) (s : Shared) (Q : Value → Shared → Prop) (E : Value → Shared → Prop), Q (.bool (g i j)) s → wpAny (model X.prog X.w) X.A (f (.int i t) (.int j u)) Q E s) :
    OpR X f (rI0 fun i j => .bl (g i j)) := by
  intro pins s σ H x y v u Q I rx ry h
  obtain ⟨i, j, rfl, rfl, q⟩ := h
  obtain ⟨t, rfl⟩ := rx
  obtain ⟨t', rfl⟩ := ry
  exact rule i j t t' s _ _ ⟨.bl (g i j), H, I, rfl, q⟩
def CDiv (i j : Int) : Prop := 0 < j ∧ j < 1073741824
def CMul (i j : Int) : Prop := (-(2 ^ 64) < i ∧ i < 2 ^ 64) ∨ (-(2 ^ 64) < j ∧ j < 2 ^ 64)
theorem CMul.ok {i j : Int} (h : CMul i j) : IntMulOk i j := by
  rcases h with ⟨h1, h2⟩ | ⟨h1, h2⟩
  · exact .of_left (intBits_le_64 h1 h2)
  · exact .of_right (intBits_le_64 h1 h2)
theorem op_add : OpR X (binaryOp .Add) (rI0 fun i j => .int (i + j)) := opI0 fun _ _ _ _ _ _ _ q => add_int q
theorem op_sub : OpR X (binaryOp .Sub) (rI0 fun i j => .int (i - j)) := opI0 fun _ _ _ _ _ _ _ q => sub_int q
theorem op_mul : OpR X (binaryOp .Mult) (rI CMul fun i j => .int (i * j)) := opI fun _ _ _ _ _ _ _ hc q => mul_int q hc.ok
theorem op_fdiv : OpR X (binaryOp .FloorDiv) (rI CDiv fun i j => .int (i / j)) := opI fun i j _ _ _ _ _ hc q => by
  have h1 : (0 : Int) < j := hc.1
  have h2 : j < 1073741824 := hc.2
  exact floordiv_int (by omega) (by rw [Int.fdiv_eq_ediv_of_nonneg i (by omega)]; exact q) (.inl (PyProof.noPylong_small (by omega)))
theorem op_mod : OpR X (binaryOp .Mod) (rI (fun _ j => 0 < j) fun i j => .int (i % j)) := opI fun i j _ _ _ _ _ hc q => by
  have h1 : (0 : Int) < j := hc
  exact mod_int' (by omega) (by rw [Int.fmod_eq_emod_of_nonneg i (by omega)]; exact q)
theorem unI {f : Value → Sem Value} {g : Int → Int}
    (rule : ∀ (i : Int) (t : Tok) (s : Shared) (Q : Value → Shared → Prop) (E : Value → Shared → Prop), Q (.int (g i) s.toks) { s with toks := s.toks + 1 } → wpAny (model X.prog X.w) X.A (f (.int i t)) Q E s) :
    UnR X f (rU fun i => .int (g i)) := by
  intro pins s σ H x v Q I rx h
  obtain ⟨i, rfl, q⟩ := h
  obtain ⟨t, rfl⟩ := rx
  exact rule i t s _ _ ⟨.int (g i), H, I.tok _, ⟨_, rfl⟩, q⟩
theorem un_neg : UnR X (unaryOp .USub) (rU fun i => .int (-i)) := unI fun _ _ _ _ _ q => neg_int q
end
def scal : V → V → Bool
  | .non, .non => true | .non, .int _ => true | .int _, .non => true | .non, .bl _ => true | .bl _, .non => true | .non, .str _ => true | .str _, .non => true
  | .int _, .int _ => true | .bl _, .bl _ => true | .str _, .str _ => true | .byt _, .byt _ => true
  | .int _, .str _ => true | .str _, .int _ => true | .bl _, .str _ => true | .str _, .bl _ => true
  | _, _ => false
def rEq : R2 := fun x y H Q => scal x y = true ∧ Q (.bl (decide (x = y))) H
def rNe : R2 := fun x y H Q => scal x y = true ∧ Q (.bl (!decide (x = y))) H
theorem dec_int {i j : Int} : decide (V.int i = V.int j) = (i == j) := by
  rw [Bool.eq_iff_iff]
  simp
theorem dec_bl {i j : Bool} : decide (V.bl i = V.bl j) = (i == j) := by
  rw [Bool.eq_iff_iff]
  simp
theorem dec_str {i j : Str} : decide (V.str i = V.str j) = (i == j) := by
  rw [Bool.eq_iff_iff]
  simp
theorem dec_byt {i j : Array UInt8} : decide (V.byt i = V.byt j) = (i.toList == j.toList) := by
  rw [Bool.eq_iff_iff]
  cases i
  cases j
  simp
section
variable {X : Cx} {a b c : Expr} {ta tb tc : TE} {pos : Pos}
theorem fin_bl {pins : List (Addr × Obj)} {σ : St} {H : Hp} {s : Shared} {Q : VK} {k k' : Bool} (I : Inv X pins σ H s) (q : Q (.bl k) H) (e : k = k') : EP X pins σ Q (.bool k') s := by
  subst e
  exact ⟨.bl k, H, I, rfl, q⟩
theorem op_eq : OpR X (compareOp .Eq) rEq := by
  intro pins s σ H x y v u Q I rx ry h
  obtain ⟨hs, q⟩ := h
  cases x with
  | non =>
    cases rx
    cases y with
    | non => cases ry; exact PySem.EqNone.eq_none_none (fin_bl I q (by simp))
    | bl j => cases ry; exact PySem.EqNone.eq_none_bool (fin_bl I q (by simp))
    | int j => obtain ⟨t', rfl⟩ := ry; exact PySem.EqNone.eq_none_int (fin_bl I q (by simp))
    | str j => obtain ⟨t', rfl⟩ := ry; exact PySem.EqNone.eq_none_str (fin_bl I q (by simp))
    | _ => exact absurd (show false = true from hs) Bool.false_ne_true
  | bl i =>
    cases rx
    cases y with
    | non => cases ry; exact PySem.EqNone.eq_bool_none (fin_bl I q (by simp))
    | bl j => cases ry; exact eq_bool (fin_bl I q dec_bl)
    | str j => obtain ⟨t', rfl⟩ := ry; exact PySem.EqMixed.eq_bool_str (fin_bl I q (by simp))
    | _ => exact absurd (show false = true from hs) Bool.false_ne_true
  | int i =>
    obtain ⟨t, rfl⟩ := rx
    cases y with
    | non => cases ry; exact PySem.EqNone.eq_int_none (fin_bl I q (by simp))
    | int j => obtain ⟨t', rfl⟩ := ry; exact eq_int (fin_bl I q dec_int)
    | str j => obtain ⟨t', rfl⟩ := ry; exact PySem.EqMixed.eq_int_str (fin_bl I q (by simp))
    | _ => exact absurd (show false = true from hs) Bool.false_ne_true
  | str i =>
    obtain ⟨t, rfl⟩ := rx
    cases y with
    | non => cases ry; exact PySem.EqNone.eq_str_none (fin_bl I q (by simp))
    | bl j => cases ry; exact PySem.EqMixed.eq_str_bool (fin_bl I q (by simp))
    | int j => obtain ⟨t', rfl⟩ := ry; exact PySem.EqMixed.eq_str_int (fin_bl I q (by simp))
    | str j => obtain ⟨t', rfl⟩ := ry; exact eq_str (fin_bl I q dec_str)
    | _ => exact absurd (show false = true from hs) Bool.false_ne_true
  | byt i =>
    obtain ⟨t, rfl⟩ := rx
    cases y with
    | byt j => obtain ⟨t', rfl⟩ := ry; exact PySem.W.eq_bytes (fin_bl I q dec_byt)
    | _ => exact absurd (show false = true from hs) Bool.false_ne_true
  | _ => cases y <;> exact absurd (show false = true from hs) Bool.false_ne_true
theorem op_ne : OpR X (compareOp .NotEq) rNe := by
  intro pins s σ H x y v u Q I rx ry h
  obtain ⟨hs, q⟩ := h
  cases x with
  | non =>
    cases rx
    cases y with
    | non => cases ry; exact PySem.EqNone.ne_none_none (fin_bl I q (by simp))
    | bl j => cases ry; exact PySem.EqNone.ne_none_bool (fin_bl I q (by simp))
    | int j => obtain ⟨t', rfl⟩ := ry; exact PySem.EqNone.ne_none_int (fin_bl I q (by simp))
    | str j => obtain ⟨t', rfl⟩ := ry; exact PySem.EqNone.ne_none_str (fin_bl I q (by simp))
    | _ => exact absurd (show false = true from hs) Bool.false_ne_true
  | bl i =>
    cases rx
    cases y with
    | non => cases ry; exact PySem.EqNone.ne_bool_none (fin_bl I q (by simp))
    | bl j => cases ry; exact ne_bool (fin_bl I q (congrArg not dec_bl))
    | str j => obtain ⟨t', rfl⟩ := ry; exact PySem.EqMixed.ne_bool_str (fin_bl I q (by simp))
    | _ => exact absurd (show false = true from hs) Bool.false_ne_true
  | int i =>
    obtain ⟨t, rfl⟩ := rx
    cases y with
    | non => cases ry; exact PySem.EqNone.ne_int_none (fin_bl I q (by simp))
    | int j => obtain ⟨t', rfl⟩ := ry; exact ne_int (fin_bl I q (congrArg not dec_int))
    | str j => obtain ⟨t', rfl⟩ := ry; exact PySem.EqMixed.ne_int_str (fin_bl I q (by simp))
    | _ => exact absurd (show false = true from hs) Bool.false_ne_true
  | str i =>
    obtain ⟨t, rfl⟩ := rx
    cases y with
    | non => cases ry; exact PySem.EqNone.ne_str_none (fin_bl I q (by simp))
    | bl j => cases ry; exact PySem.EqMixed.ne_str_bool (fin_bl I q (by simp))
    | int j => obtain ⟨t', rfl⟩ := ry; exact PySem.EqMixed.ne_str_int (fin_bl I q (by simp))
    | str j => obtain ⟨t', rfl⟩ := ry; exact ne_str (fin_bl I q (congrArg not dec_str))
    | _ => exact absurd (show false = true from hs) Bool.false_ne_true
  | byt i =>
    obtain ⟨t, rfl⟩ := rx
    cases y with
    | byt j => obtain ⟨t', rfl⟩ := ry; exact PySem.W.ne_bytes (fin_bl I q (congrArg not dec_byt))
    | _ => exact absurd (show false = true from hs) Bool.false_ne_true
  | _ => cases y <;> exact absurd (show false = true from hs) Bool.false_ne_true
theorem op_lt : OpR X (compareOp .Lt) (rI0 fun i j => .bl (decide (i < j))) := opB0 fun _ _ _ _ _ _ _ q => lt_int q
theorem op_gt : OpR X (compareOp .Gt) (rI0 fun i j => .bl (decide (j < i))) := opB0 fun _ _ _ _ _ _ _ q => gt_int q
theorem op_ge : OpR X (compareOp .GtE) (rI0 fun i j => .bl (decide (j ≤ i))) := opB0 fun _ _ _ _ _ _ _ q => ge_int q
theorem op_isN : OpR X (compareOp .Is) (fun x y H Q => y = .non ∧ Q (.bl (decide (x = .non))) H) := by
  intro pins s σ H x y v u Q I rx ry h
  obtain ⟨rfl, q⟩ := h
  cases ry
  refine is_none_gen (fin_bl I q ?_)
  cases x <;> first
    | (cases rx; rfl)
    | (obtain ⟨t, rfl⟩ := rx; rfl)
theorem op_notN : OpR X (compareOp .IsNot) (fun x y H Q => y = .non ∧ Q (.bl (!decide (x = .non))) H) := by
  intro pins s σ H x y v u Q I rx ry h
  obtain ⟨rfl, q⟩ := h
  cases ry
  refine isnot_none_gen (fin_bl I q ?_)
  cases x <;> first
    | (cases rx; rfl)
    | (obtain ⟨t, rfl⟩ := rx; rfl)
theorem nomark (b : Expr) {op : CmpOp} (h : op ≠ .In := by decide) (h2 : op ≠ .NotIn := by decide) : behindInMarks op b = false := by
  have e1 : (op == CmpOp.In) = false := by cases op <;> first | rfl | exact absurd rfl h
  have e2 : (op == CmpOp.NotIn) = false := by cases op <;> first | rfl | exact absurd rfl h2
  cases b <;> simp [behindInMarks, e1, e2]
theorem pe_cmpR {op : CmpOp} {r : R2} (ho : OpR X (compareOp op) r) (ha : PE X a ta) (hb : PE X b tb) (hm : behindInMarks op b = false) : PE X (.Compare a [op] [b] pos) (tOp r ta tb) := by
  intro pins s σ H Q I h
  exact wpAny_Compare1 (binT ha hb I h fun v u s2 x y H2 I2 rx ry q => ho pins s2 σ H2 x y v u Q I2 rx ry q) hm
def tTest (t : TE) : TT := fun σ H Q => t σ H fun x H' => ∃ k, x = .bl k ∧ Q k H'
theorem pt_cmpR {op : CmpOp} {r : R2} (ho : OpR X (compareOp op) r) (ha : PE X a ta) (hb : PE X b tb) (hm : behindInMarks op b = false) : PT X (.Compare a [op] [b] pos) (tTest (tOp r ta tb)) := by
  intro pins s σ H Q I h
  refine wpAny_isTrue_Compare1 (thn (ha pins s σ H _ I h) fun v s1 ⟨x, H1, I1, r1, q1⟩ => thn (hb pins s1 σ H1 _ I1 q1) fun u s2 ⟨y, H2, I2, r2, q2⟩ =>
    thn (ho pins s2 σ H2 x y v u _ I2 r1 r2 q2) fun c s3 ⟨z, H3, I3, r3, k, e, q3⟩ => ?_) hm
  subst e
  cases r3
  exact wpAny_truthy_bool ⟨H3, I3, q3⟩
theorem line63 : (sizeLine : Nat) < 2 ^ 63 := by rw [sizeLine_eq]; decide
theorem vals1 {x : V} {us : List Value} (r : Vals [x] us) : ∃ u, us = [u] ∧ RelV x u := by
  cases r with
  | cons r1 r2 => cases r2; exact ⟨_, rfl, r1⟩
theorem vals2 {x y : V} {us : List Value} (r : Vals [x, y] us) : ∃ u w', us = [u, w'] ∧ RelV x u ∧ RelV y w' := by
  cases r with
  | cons r1 r2 =>
    cases r2 with
    | cons r3 r4 => cases r4; exact ⟨_, _, rfl, r1, r3⟩
theorem call_abs : CallR X (.builtin "abs") (fun xs H Q => ∃ i, xs = [.int i] ∧ Q (.int (if i < 0 then -i else i)) H) := by
  intro pins s σ H xs us Q I r h
  obtain ⟨i, rfl, q⟩ := h
  obtain ⟨u, rfl, t, rfl⟩ := vals1 r
  exact call_abs_int fun u tk => ⟨.int (if i < 0 then -i else i), H, I.tok _, ⟨_, rfl⟩, q⟩
theorem call_max2 (hc : X.calm = true) : CallR X (.builtin "max") (fun xs H Q => ∃ i j, xs = [.int i, .int j] ∧ Q (.int (if j > i then j else i)) H) := by
  intro pins s σ H xs us Q I r h
  obtain ⟨i, j, rfl, q⟩ := h
  obtain ⟨u, w', rfl, ⟨t, rfl⟩, ⟨t', rfl⟩⟩ := vals2 r
  refine max_two_ints (I.ok.hd hc) fun h' tk k => ⟨_, H, I.kept k, ?_, q⟩
  by_cases hj : j > i
  · rw [if_pos hj, if_pos hj]; exact ⟨_, rfl⟩
  · rw [if_neg hj, if_neg hj]; exact ⟨_, rfl⟩
theorem call_int1 : CallR X (.type "int") (fun xs H Q => (∃ i, xs = [.int i] ∧ Q (.int i) H) ∨ ∃ k, xs = [.bl k] ∧ Q (.int (if k then 1 else 0)) H) := by
  intro pins s σ H xs us Q I r h
  rcases h with ⟨i, rfl, q⟩ | ⟨k, rfl, q⟩
  · obtain ⟨u, rfl, t, rfl⟩ := vals1 r
    exact call_int_int ⟨.int i, H, I, ⟨_, rfl⟩, q⟩
  · obtain ⟨u, rfl, r1⟩ := vals1 r
    cases r1
    exact call_int_bool ⟨.int (if k then 1 else 0), H, I.tok _, ⟨_, rfl⟩, q⟩
end
end L2
namespace L2
open PySem PySem.Spec PyProof.Rows
structure ObjM (h : Heap) (x dx C : Addr) (mA : Str → Option Value) : Prop where
  obj : h.get? x = some (PySem.W.instObj C dx)
  ns : h.Ns1 dx mA
  ne : dx ≠ x
section
variable {prog : Program} {w : World} {A : Around} {E : Value → Shared → Prop} {s : Shared} {K : PySem.W.Frag} {x dx C f : Addr} {mA : Str → Option Value} {name : Str} {v : Value}
end
section
variable {P : Program} {w : World} {H H' : Hp} {h h' : Heap} {a C dx : Addr} {fs fs' : List (Str × V)}
end
structure Cls (K : PySem.W.Frag) (C : Addr) : Prop where
  pg : PySem.W.plainGet K C Str.empty = true
  hd : PySem.W.hasDictIn K C = true
  po : PySem.W.plainOver K C = true
  sa : PySem.W.findIn K (.ref C) "__setattr__" = some (some (.builtin "object.__setattr__"))
structure Con (K : PySem.W.Frag) (C : Addr) (f : Str) (v : V) (u : Value) : Prop where
  at_ : PySem.W.findIn K (.ref C) f = some (some u)
  rel : RelV v u
  get : PySem.W.specialIn K u "__get__" = some none
  cp : PySem.W.copiedNames.contains f = false
structure Meth (K : PySem.W.Frag) (C : Addr) (m : Str) (f : Addr) : Prop where
  at_ : PySem.W.findIn K (.ref C) m = some (some (.ref f))
  fn : PySem.W.isFn K (.ref f) = true
  kp : PySem.W.keepIn K (.ref f) = true
section
variable {X : Cx} {pins : List (Addr × Obj)} {σ : St} {H : Hp} {s : Shared} {a C dx : Addr} {fs : List (Str × V)} {f : Str} {v : V} {A : Around} {E : Value → Shared → Prop}
theorem Inv.made (I : Inv X pins σ H s) : Inv X pins σ (upd (upd H s.heap.objs.size (.own (s.heap.objs.size + 1))) (s.heap.objs.size + 1) (.ins C s.heap.objs.size []))
    { s with heap := (s.heap.push PySem.W.emptyDict).push (PySem.W.instObj C s.heap.objs.size) } := by
  have e1 : (s.heap.push PySem.W.emptyDict).get? s.heap.objs.size = some PySem.W.emptyDict := Heap.get?_push_size s.heap rfl
  have e2 : ((s.heap.push PySem.W.emptyDict).push (PySem.W.instObj C s.heap.objs.size)).get? (s.heap.objs.size + 1) = some (PySem.W.instObj C s.heap.objs.size) := by
    have := Heap.get?_push_size (s.heap.push PySem.W.emptyDict) (o := PySem.W.instObj C s.heap.objs.size) rfl
    rwa [Heap.size_push] at this
  have e3 : (s.heap.push PySem.W.emptyDict).Ns s.heap.objs.size (fun _ => none) := ⟨PySem.W.emptyDict, #[], _, e1, rfl, (fun e he => absurd he (by simp)), fun _ => rfl⟩
  have I1 := I.laid (a := s.heap.objs.size) (o := .own (s.heap.objs.size + 1)) (h' := s.heap.push PySem.W.emptyDict) (t' := s.toks) (fun b u q => Heap.get?_push_of_some _ q) (Nat.le_refl _) ⟨_, e1⟩
  refine I1.laid (a := s.heap.objs.size + 1) (o := .ins C s.heap.objs.size []) (t' := s.toks) (fun b u q => Heap.get?_push_of_some _ q) (Nat.le_of_eq (Heap.size_push _ _)) ?_
  have ne : s.heap.objs.size ≠ s.heap.objs.size + 1 := Nat.ne_of_lt (Nat.lt_succ_self _)
  refine ⟨by rw [upd_ne ne, upd_same], Nat.zero_le _, ne, e2, fun _ => none, (Heap.Ns1.of_empty e3).at fun o q => Heap.get?_push_of_some _ q, fun _ => True.intro, fun y hy => absurd rfl hy⟩
end
section
variable {X : Cx} {o e value : Expr} {f : Str} {pos pos' tpos : Pos} {ta tv : TE}
end
section
variable {X : Cx} {pins : List (Addr × Obj)} {σ : St} {H : Hp} {s : Shared} {A : Around} {E : Value → Shared → Prop} {Q : Value → Shared → Prop} {c : Value} {b : Bool}
inductive TyOf (K : PySem.W.Frag) (H : Hp) : V → Value → Prop where
  | non : TyOf K H .non (.type "NoneType")
  | bl (x : Bool) : TyOf K H (.bl x) (.type "bool")
  | int (i : Int) : TyOf K H (.int i) (.type "int")
  | str (x : Str) : TyOf K H (.str x) (.type "str")
  | flt (x : UInt64) : TyOf K H (.flt x) (.type "float")
  | lst {a : Addr} {xs : List V} (e : H a = some (.lst xs)) : TyOf K H (.ref a) (.type "list")
  | frz {a : Addr} {o : Obj} {xs : List V} (e : H a = some (.frz o (.lst xs))) : TyOf K H (.ref a) (.type "list")
  | tup {a : Addr} {xs : List V} (e : H a = some (.tup xs)) : TyOf K H (.ref a) (.type "tuple")
  | dK {a : Addr} {kvs : List (Key × V)} (e : H a = some (.dK kvs)) : TyOf K H (.ref a) (.type "dict")
  | dT {a : Addr} {kvs : List (List Key × V)} (e : H a = some (.dT kvs)) : TyOf K H (.ref a) (.type "dict")
  | ins {a C dx : Addr} {fs : List (Str × V)} (e : H a = some (.ins C dx fs)) (cl : Cls K C) (ha : PySem.W.findIn K (.ref C) "__class__" = some (some (.builtin "object.__class__")))
      (hn : PySem.W.specialIn K (.builtin "object.__class__") "__get__" = some (some (.builtin "getset_descriptor.__get__"))) (htk : PySem.W.takesIn K (.builtin "object.__class__") = some true)
      (hm : PySem.W.mroIn K C (.type "object") = some true) : TyOf K H (.ref a) (.ref C)
end
end L2
namespace L2
open PySem PySem.Spec PyProof.Rows
structure Room (k : Nat) (A : Around) : Prop where
  hd : A.handled = none
  dp : A.depth + 3 * k + 5 < recursionLimit
  un : A.units + 16 * k + 200 < cLine
theorem Room.mono {j k : Nat} {A : Around} (r : Room k A) (h : j ≤ k) : Room j A := ⟨r.hd, by have := r.dp; omega, by have := r.un; omega⟩
theorem Room.deeper {k : Nat} {A : Around} (r : Room (k + 1) A) (env : Env) : Room k (A.deeper env) :=
  ⟨r.hd, by have := r.dp; show A.depth + 1 + 3 * k + 5 < _; omega, by have := r.un; show A.units + 3 + 16 * k + 200 < _; omega⟩
theorem Room.in1 {k : Nat} {A : Around} (r : Room (k + 1) A) : Room k A.in1 :=
  ⟨r.hd, by have := r.dp; show A.depth + 3 * k + 5 < _; omega, by have := r.un; show A.units + 1 + 16 * k + 200 < _; omega⟩
theorem Room.depth {k : Nat} {A : Around} (r : Room k A) : A.depth < recursionLimit := by have := r.dp; omega
theorem Room.units {k : Nat} {A : Around} (r : Room k A) : A.units + 64 < cLine := by have := r.un; omega
theorem Room.units0 {k : Nat} {A : Around} (r : Room k A) : A.units < cLine := by have := r.un; omega
def tNil : TA := fun _ H Q => Q [] H
def tCons (ta : TE) (tr : TA) : TA := fun σ H Q => ta σ H fun x H1 => tr σ H1 fun xs H2 => Q (x :: xs) H2
section
variable {X : Cx} {e : Expr} {es : List Expr} {te : TE} {t : TA} {pos : Pos}
theorem pa_nil : PA X [] tNil := fun _ _ _ _ H Q I h => Calls.spliced_nil ⟨[], H, I, .nil, h⟩
theorem pa_cons (ha : PE X e te) (hr : PA X es t) (hs : starEach (e :: es) X.env = (false, eval e X.env) :: starEach es X.env := by rfl) : PA X (e :: es) (tCons te t) := by
  intro pos pins s σ H Q I h
  rw [hs]
  show wpAny _ _ (spliced ((false, eval e X.env) :: backTo pos (starEach es X.env))) _ _ s
  refine Calls.spliced_cons (thn (ha pins s σ H _ I h) fun u s1 ⟨x, H1, I1, r1, q1⟩ => ?_)
  exact thn (hr pos pins s1 σ H1 _ I1 q1) fun us s2 ⟨xs, H2, I2, r2, q2⟩ => ⟨x :: xs, H2, I2, .cons r1 r2, q2⟩
def tTup (t : TA) : TE := fun σ H Q => t σ H fun xs H1 => xs.length ≤ sizeLine ∧ ∀ p, H1 p = none → Q (.ref p) (upd H1 p (.tup xs))
def tLst (t : TA) : TE := fun σ H Q => t σ H fun xs H1 => xs.length ≤ sizeLine ∧ ∀ p, H1 p = none → Q (.ref p) (upd H1 p (.lst xs))
theorem pe_tup {x1} (h : PA X es t) : PE X (.Tuple es x1 pos) (tTup t) := by
  intro pins s σ H Q I hq
  refine wpAny_Tuple_spliced (thn (h pos pins s σ H _ I hq) fun us s1 ⟨xs, H1, I1, r, z, q⟩ => ⟨by rw [← r.length]; exact z, ?_⟩)
  have hf : H1 s1.heap.objs.size = none := I1.hok.fresh (Nat.le_refl _)
  refine ⟨.ref s1.heap.objs.size, upd H1 s1.heap.objs.size (.tup xs), I1.laid (t' := s1.toks) (fun b u e => Heap.get?_push_of_some _ e) (Nat.le_refl _) ?_, rfl, q _ hf⟩
  exact ⟨z, us, r, ⟨_, Heap.get?_push_size _ rfl, rfl, _, rfl⟩⟩
theorem pe_lst (h : PA X es t) : PE X (.List es pos) (tLst t) := by
  intro pins s σ H Q I hq
  refine wpAny_List_spliced (thn (h pos pins s σ H _ I hq) fun us s1 ⟨xs, H1, I1, r, z, q⟩ => ⟨by rw [← r.length]; exact z, ?_⟩)
  have hf : H1 s1.heap.objs.size = none := I1.hok.fresh (Nat.le_refl _)
  refine ⟨.ref s1.heap.objs.size, upd H1 s1.heap.objs.size (.lst xs), I1.laid (t' := s1.toks) (fun b u e => Heap.get?_push_of_some _ e) (Nat.le_refl _) ?_, rfl, q _ hf⟩
  exact ⟨z, us, 0, r, Heap.get?_push_size _ rfl⟩
end
abbrev Sp := List V → Hp → VK → XK → Prop
abbrev CXT := List Env → Hp → Shared → XK → Value → Shared → Prop
structure Env0 (P : Program) (w : World) (K : PySem.W.Frag) (mg : Str → Option Value) (base : Heap) (A : Around) (outer : List Env) (s : Shared) (H : Hp) : Prop where
  frames : A.frames = some outer
  mod : Mod K mg base
  bs : ∀ b o, base.get? b = some o → s.heap.get? b = some o ∧ H b = none
  bsz : base.objs.size ≤ s.heap.objs.size
  funs : s.heap.FunFrames base outer
  frf : ∀ b ∈ frs outer, H b = none
  hok : HOk P w H s.heap
  bare : AllBare s.gens
def CE (outer : List Env) (P : Program) (w : World) (H : Hp) (s : Shared) (Q : VK) (u : Value) (s' : Shared) : Prop :=
  ∃ v H', s'.os = s.os ∧ AllBare s'.gens ∧ Un (frs outer) [] H H' s.heap s'.heap ∧ HOk P w H' s'.heap ∧ RelV v u ∧ Q v H'
def CR (CX : CXT) (outer : List Env) (P : Program) (w : World) (H : Hp) (s : Shared) (Q : VK) (E : XK) (r : Result) (s' : Shared) : Prop :=
  match r with
  | .ok (.ret u) => CE outer P w H s Q u s'
  | .ok _ => False
  | .error e => CX outer H s E e s'
structure FnOk (P : Program) (w : World) (K : PySem.W.Frag) (mg : Str → Option Value) (base : Heap) (CX : CXT) (k : Nat) (f : Addr) (fd : FuncData) (ps : List Str) (sp : Sp) : Prop where
  len : ∀ vs H Q E, sp vs H Q E → vs.length = ps.length
  run : ∀ (A : Around) (outer : List Env) (s : Shared) (H : Hp) (args : Args) (us : List Value) (vs : List V) (Q : VK) (E : XK), Room k A → Env0 P w K mg base A outer s H → BindsTo s fd args (ps.zip us) → Vals vs us → sp vs H Q E →
    codeAny (model P w) A (.call (.ref f) args) (CR CX outer P w H s Q E) s
theorem FnOk.mono {P : Program} {w : World} {K : PySem.W.Frag} {mg : Str → Option Value} {base : Heap} {CX : CXT} {j k : Nat} {f : Addr} {fd : FuncData} {ps : List Str} {sp : Sp} (F : FnOk P w K mg base CX j f fd ps sp) (h : j ≤ k) :
    FnOk P w K mg base CX k f fd ps sp := ⟨F.len, fun A outer s H args us vs Q E hr => F.run A outer s H args us vs Q E (hr.mono h)⟩
theorem FnOk.imp {P : Program} {w : World} {K : PySem.W.Frag} {mg : Str → Option Value} {base : Heap} {CX : CXT} {k : Nat} {f : Addr} {fd : FuncData} {ps : List Str} {sp sp' : Sp} (F : FnOk P w K mg base CX k f fd ps sp)
    (h : ∀ vs H Q E, sp' vs H Q E → sp vs H Q E) : FnOk P w K mg base CX k f fd ps sp' :=
  ⟨fun vs H Q E q => F.len vs H Q E (h _ _ _ _ q), fun A outer s H args us vs Q E hr he hb hv hs => F.run A outer s H args us vs Q E hr he hb hv (h _ _ _ _ hs)⟩
theorem Env0.in1 {P : Program} {w : World} {K : PySem.W.Frag} {mg : Str → Option Value} {base : Heap} {A : Around} {outer : List Env} {s : Shared} {H : Hp} (e : Env0 P w K mg base A outer s H) :
    Env0 P w K mg base A.in1 outer s H := ⟨e.frames, e.mod, e.bs, e.bsz, e.funs, e.frf, e.hok, e.bare⟩
section
variable {X : Cx} {pins : List (Addr × Obj)} {σ : St} {H : Hp} {s s' : Shared}
theorem Inv.env0 (I : Inv X pins σ H s) : Env0 X.prog X.w X.K X.mg X.base X.A X.stack s H :=
  ⟨I.ok.frames, I.ok.mod, I.bs, Nat.le_trans I.ok.bsz I.sz, I.stack, I.stkFree, I.hok, I.bare⟩
theorem Inv.after {Q : VK} {u : Value} (I : Inv X pins σ H s) (h : CE X.stack X.prog X.w H s Q u s') : EP X pins σ Q u s' := by
  obtain ⟨v, H', os, bare, un, hok, r, q⟩ := h
  obtain ⟨hh, g, d, t, os'⟩ := s'
  obtain rfl : os' = s.os := os
  exact ⟨v, H', I.call (h' := hh) (g' := g) (d' := d) (t' := t) (ch := []) un hok bare (fun b z => absurd z (by simp)), r, q⟩
end
def tCall (sp : Sp) (dvs : List V) (E : XK) (t : TA) : TE := fun σ H Q => t σ H fun vs H1 => sp (vs ++ dvs) H1 Q E
def Binds (K : PySem.W.Frag) (fd : FuncData) (ps : List Str) (ds : List Value) : Prop :=
  ∀ (s : Shared) (us : List Value), K.In s.heap → (us ++ ds).length = ps.length → BindsTo s fd ⟨us, []⟩ (ps.zip (us ++ ds))
theorem Binds.all {K : PySem.W.Frag} {fd : FuncData} {ps : List Str} (h : ∀ us : List Value, us.length = ps.length → bindArgs fd ⟨us, []⟩ = pure (ps.zip us)) : Binds K fd ps [] := fun s us _ hl => by
  rw [List.append_nil] at hl ⊢
  exact .of_eq (h us hl)
def Passes (CX : CXT) (X : Cx) (E : XK) : Prop := ∀ (pins : List (Addr × Obj)) (σ : St) (H : Hp) (s : Shared) (e : Value) (s' : Shared), Inv X pins σ H s → CX X.stack H s E e s' → X.xe e s'
section
variable {X : Cx} {CX : CXT} {k : Nat} {f C : Addr} {fd : FuncData} {ps : List Str} {sp : Sp} {dvs : List V} {ds : List Value} {E : XK} {x m : Str} {p pos apos : Pos} {e o : Expr} {es : List Expr} {ta : TE} {t : TA}
theorem run_fn {pins : List (Addr × Obj)} {σ : St} {H : Hp} {s : Shared} {Q : VK} {us : List Value} {vs : List V} (F : FnOk X.prog X.w X.K X.mg X.base CX k f fd ps sp) (hr : Room k X.A) (hb : Binds X.K fd ps ds) (hd : Vals dvs ds) (hx : Passes CX X E)
    (I : Inv X pins σ H s) (r : Vals vs us) (h : sp (vs ++ dvs) H Q E) : wpAny (model X.prog X.w) X.A (call (.ref f) us) (EP X pins σ Q) X.xe s := by
  have r2 : Vals (vs ++ dvs) (us ++ ds) := r.append hd
  have hl : (us ++ ds).length = ps.length := by rw [← r2.length]; exact F.len _ _ _ _ h
  refine wpAny_call (codeAny_mono (F.run X.A X.stack s H ⟨us, []⟩ (us ++ ds) (vs ++ dvs) Q E hr I.env0 (hb s us I.kIn hl) r2 h) fun r s' hq => ?_)
  cases r with
  | error e => exact hx pins σ H s e s' I hq
  | ok fl =>
    cases fl with
    | ret u => exact I.after hq
    | next => exact False.elim hq
    | brk => exact False.elim hq
    | cont => exact False.elim hq
theorem pe_call (F : FnOk X.prog X.w X.K X.mg X.base CX k f fd ps sp) (hr : Room k X.A) (hg : Gl X x) (hm : X.mg x = some (.ref f)) (hk : PySem.W.keepIn X.K (.ref f) = true) (hb : Binds X.K fd ps ds) (hd : Vals dvs ds) (hx : Passes CX X E)
    (ha : PA X (e :: es) t) (hdb : (x == ("__debug__" : Str)) = false := by decide) (he : starEach (e :: es) X.env = (false, eval e X.env) :: starEach es X.env := by rfl) (hpl : (backTo pos (starEach es X.env)).any (·.1) = false := by rfl) :
    PE X (.Call (.Name x p) (e :: es) [] pos) (tCall sp dvs E t) := by
  intro pins s σ H Q I h
  refine wpAny_Call_Name_kw (ld_glob I hg hm ?_ hdb)
  refine PySem.W.callWith_K (h₀ := X.base) I.ok.mod.kin hk (thn (ha pos pins s σ H _ I h) fun us s1 ⟨vs, H1, I1, r, q⟩ => ⟨I1.kIn, ?_⟩) he hpl
  exact run_fn F hr hb hd hx I1 r q
structure Mk (K : PySem.W.Frag) (C f : Addr) : Prop where
  makes : PySem.W.makesIn K C = true
  init : PySem.W.findIn K (.ref C) "__init__" = some (some (.ref f))
  fn : PySem.W.isFn K (.ref f) = true
  kp : PySem.W.keepIn K (.ref C) = true
end
section
variable {X : Cx} {CX : CXT} {k : Nat} {f C : Addr} {fd : FuncData} {ps ks : List Str} {sp : Sp} {E : XK} {x m : Str} {p pos apos kpos : Pos} {e o : Expr} {es : List Expr} {kws : List Keyword} {te ta : TE} {t tk : TA} {nm : Option Str}
structure KBinds (K : PySem.W.Frag) (fd : FuncData) (ps ks : List Str) (g : List Value → List Value → List Value) (gV : List V → List V → List V) : Prop where
  to : ∀ (s : Shared) (us ws : List Value), K.In s.heap → (g us ws).length = ps.length → BindsTo s fd ⟨us, ks.zip ws⟩ (ps.zip (g us ws))
  rel : ∀ {vs : List V} {us : List Value} {zs : List V} {ws : List Value}, Vals vs us → Vals zs ws → Vals (gV vs zs) (g us ws)
variable {g : List Value → List Value → List Value} {gV : List V → List V → List V}
end
structure FnScope (N P : List Str) (sc : Scope) : Prop where
  kind : sc.kind = .function
  co : sc.isCoroutine = false
  gen : sc.isGenerator = false
  nd : N.Nodup
  pre : N.take P.length = P
  par : ∀ x ∈ P, sc.names.lookup x = some .local ∨ sc.names.lookup x = some .cell
  nofree : ∀ y ∈ sc.names, y.2 ≠ .free
theorem bindL_out {kindOf : Str → Option NameKind} {x : Str} : ∀ {binds : List (Str × Value)} {m : Str → Option Value}, (∀ v, (x, v) ∉ binds) → bindL kindOf binds m x = m x
  | [], _, _ => rfl
  | (n, v) :: r, m, h => by
    unfold bindL
    rw [bindL_out fun w hw => h w (List.mem_cons_of_mem _ hw)]
    split
    · have : x ≠ n := by rintro rfl; exact h v List.mem_cons_self
      simp [this]
    · rfl
theorem bindC_out {kindOf : Str → Option NameKind} {x : Str} : ∀ {binds : List (Str × Value)} {m : Str → Option Value}, (∀ v, (x, v) ∉ binds) → bindC kindOf binds m x = m x
  | [], _, _ => rfl
  | (n, v) :: r, m, h => by
    unfold bindC
    rw [bindC_out fun w hw => h w (List.mem_cons_of_mem _ hw)]
    split
    · rfl
    · have : x ≠ n := by rintro rfl; exact h v List.mem_cons_self
      simp [this]
theorem bindL_get {kindOf : Str → Option NameKind} {x : Str} {v : Value} : ∀ {P : List Str} {vs : List Value} {i : Nat} {m : Str → Option Value}, P.Nodup → P[i]? = some x → vs[i]? = some v → kindOf x = some .local →
    bindL kindOf (P.zip vs) m x = some v
  | [], _, _, _, _, h, _, _ => by simp at h
  | _ :: _, [], _, _, _, _, h, _ => by simp at h
  | p :: P, w :: vs, 0, m, nd, h1, h2, hk => by
    simp at h1 h2; subst h1; subst h2
    show bindL kindOf ((p, w) :: P.zip vs) m p = _
    unfold bindL
    rw [bindL_out fun v hv => (List.nodup_cons.mp nd).1 (List.of_mem_zip hv).1, if_pos hk]
    simp
  | p :: P, w :: vs, i + 1, m, nd, h1, h2, hk => by
    show bindL kindOf ((p, w) :: P.zip vs) m x = _
    unfold bindL
    exact bindL_get (i := i) (List.nodup_cons.mp nd).2 (by simpa using h1) (by simpa using h2) hk
theorem bindC_get {kindOf : Str → Option NameKind} {x : Str} {v : Value} : ∀ {P : List Str} {vs : List Value} {i : Nat} {m : Str → Option Value}, P.Nodup → P[i]? = some x → vs[i]? = some v → kindOf x ≠ some .local →
    bindC kindOf (P.zip vs) m x = some v
  | [], _, _, _, _, h, _, _ => by simp at h
  | _ :: _, [], _, _, _, _, h, _ => by simp at h
  | p :: P, w :: vs, 0, m, nd, h1, h2, hk => by
    simp at h1 h2; subst h1; subst h2
    show bindC kindOf ((p, w) :: P.zip vs) m p = _
    unfold bindC
    rw [bindC_out fun v hv => (List.nodup_cons.mp nd).1 (List.of_mem_zip hv).1, if_neg hk]
    simp
  | p :: P, w :: vs, i + 1, m, nd, h1, h2, hk => by
    show bindC kindOf ((p, w) :: P.zip vs) m x = _
    unfold bindC
    exact bindC_get (i := i) (List.nodup_cons.mp nd).2 (by simpa using h1) (by simpa using h2) hk
def start (N : List Str) (vs : List V) : St := vs.map some ++ List.replicate (N.length - vs.length) none
def cxOf (CX : CXT) (P : Program) (w : World) (K : PySem.W.Frag) (mg : Str → Option Value) (base : Heap) (N : List Str) (qual : Str) (scope : Scope) (f : Addr) (cd : Value) (A : Around) (outer : List Env) (s : Shared) (H : Hp) (E : XK) : Cx where
  prog := P
  w := w
  K := K
  mg := mg
  base := base
  A := A.deeper (envOfC qual scope s.heap.objs.size f cd)
  N := N
  s₀ := s
  H₀ := H
  env := envOfC qual scope s.heap.objs.size f cd
  outer := outer
  stack := envOfC qual scope s.heap.objs.size f cd :: outer
  ex := []
  calm := true
  fn := fun _ => true
  pn := []
  xe := fun e s' => wpAny (model P w) (A.deeper (envOfC qual scope s.heap.objs.size f cd)) (leaving (envOfC qual scope s.heap.objs.size f cd) e) (fun _ s'' => CX outer H s E e s'') (fun e' s'' => CX outer H s E e' s'') s'
theorem cell_has {sc : Scope} {n : Nat} {x : Str} (h : sc.names.lookup x = some .cell) : ∃ c, (cellsFrom n sc.names []).lookup x = some c := by
  have q := PySem.W.cellsFrom_some sc.names n [] (.inl h)
  exact Option.isSome_iff_exists.mp q
theorem inv_start {CX : CXT} {P : Program} {w : World} {K : PySem.W.Frag} {mg : Str → Option Value} {base : Heap} {N ps : List Str} {qual : Str} {scope : Scope} {f : Addr} {cd : Value} {A : Around} {outer : List Env} {s s1 : Shared} {H : Hp} {E : XK} {us : List Value} {vs : List V}
    (S : FnScope N ps scope) (hd : A.handled = none) (e0 : Env0 P w K mg base A outer s H) (hl : vs.length = ps.length) (r : Vals vs us)
    (x : InCallC s s.heap.objs.size (bindL (envOfC qual scope s.heap.objs.size f cd).kindOf (ps.zip us) fun _ => none) (cellsFrom (s.heap.objs.size + 1) scope.names []) (bindC (envOfC qual scope s.heap.objs.size f cd).kindOf (ps.zip us) fun _ => none) s1) :
    Inv (cxOf CX P w K mg base N qual scope f cd A outer s H E) [] (start N vs) H s1 := by
  have hpl : ps.length ≤ N.length := by have := congrArg List.length S.pre; rw [List.length_take] at this; omega
  obtain ⟨h1, tk, rfl, hk⟩ := x.done
  have noA : ∀ b : Addr, b ∉ (cxOf CX P w K mg base N qual scope f cd A outer s H E).ex := fun b z => absurd (show b ∈ ([] : List Addr) from z) (by simp)
  refine ⟨⟨e0.mod, S.kind, rfl, rfl, Nat.le_refl _, fun y z c h1 h2 => ?_, fun y hy => ?_, fun y c _ h => ?_, fun _ => hd, Around.frames_deeper e0.frames, .inr ⟨rfl, rfl⟩, fun b z => absurd z (noA b), e0.bs, e0.bsz, fun b _ _ => noA b, fun b z => absurd z (noA b), e0.funs, e0.frf⟩,
    rfl, e0.bare, Un.kept hk, ⟨_, x.toInCall.ns, fun i y v h1 h2 h3 => ?_⟩, fun y c h => ⟨_, x.cell y c h⟩, e0.hok.fresh (Nat.le_refl _), fun y c h => ?_, fun p hp => absurd (show p ∈ ([] : List (Addr × Obj)) from hp) (by simp), e0.hok.kept hk, ?_⟩
  · exact name_of_addr x.apart (PySem.mem_of_lookup h1) (PySem.mem_of_lookup h2)
  · have hy : scope.names.lookup y = some .cell ∨ scope.names.lookup y = some .free := hy
    rcases hy with hy | hy
    · exact cell_has hy
    · exact absurd rfl (S.nofree _ (PySem.mem_of_lookup hy))
  · exact Nat.le_of_lt (x.above y c (PySem.mem_of_lookup h))
  · have hi : i < vs.length := by
      unfold start at h2
      by_cases hi : i < vs.length
      · exact hi
      · rw [List.getElem?_append_right (by simpa using hi)] at h2
        rw [List.getElem?_replicate] at h2
        split at h2 <;> cases h2
    have ha : vs[i]? = some v := by
      unfold start at h2
      rw [List.getElem?_append_left (by simpa using hi), List.getElem?_map] at h2
      cases e : vs[i]? with
      | none => rw [e] at h2; cases h2
      | some a => rw [e] at h2; cases h2; rfl
    obtain ⟨u, hu, rv⟩ := r.get ha
    have hp : ps[i]? = some y := by
      rw [← S.pre, List.getElem?_take_of_lt (by omega)]; exact h1
    have ndP : ps.Nodup := by rw [← S.pre]; exact S.nd.sublist (List.take_sublist _ _)
    refine ⟨u, rv, ?_⟩
    rcases S.par y (List.mem_of_getElem? hp) with k | k
    · exact .inl ⟨k, bindL_get ndP hp hu k⟩
    · obtain ⟨c, e⟩ := cell_has (n := s.heap.objs.size + 1) k
      refine .inr ⟨.inl k, c, e, ?_⟩
      have q := x.cell y c e
      rw [bindC_get ndP hp hu (by show scope.names.lookup y ≠ _; rw [k]; decide)] at q
      exact q
  · exact e0.hok.fresh (Nat.le_of_lt (x.above y c (PySem.mem_of_lookup h)))
  · unfold start
    show _ = N.length
    rw [List.length_append, List.length_map, List.length_replicate]
    omega
theorem fn_of {CX : CXT} {P : Program} {w : World} {K : PySem.W.Frag} {mg : Str → Option Value} {base : Heap} {k : Nat} {f : Addr} {name qual : Str} {params : Arguments} {body : List Stmt} {scope : Scope} {dV kV doc pm cdv ct oc : Value} {an od : Option Addr}
    {osl : Array (Option Value)} {N ps : List Str} {sp : Sp} (lk : K.lookup f = some ⟨oc, od, .func (PySem.W.fnOf name qual params body scope dV kV doc pm an cdv ct), osl⟩) (hcd : PySem.W.codeIn K cdv qual = true) (S : FnScope N ps scope)
    (len : ∀ vs H Q E, sp vs H Q E → vs.length = ps.length)
    (hbody : ∀ (A : Around) (outer : List Env) (s : Shared) (H : Hp) (vs : List V) (Q : VK) (E : XK), Room k (A.deeper (envOfC qual scope s.heap.objs.size f cdv)) → sp vs H Q E →
      ∃ t, PSs (cxOf CX P w K mg base N qual scope f cdv A outer s H E) body t ∧ t { nx := fun _ H' => Q .non H', rt := Q } (start N vs) H) :
    FnOk P w K mg base CX (k + 1) f (PySem.W.fnOf name qual params body scope dV kV doc pm an cdv ct) ps sp := by
  refine ⟨len, fun A outer s H args us vs Q E hr e0 hb r hsp => ?_⟩
  have hl := len _ _ _ _ hsp
  have KX : K.In s.heap := e0.mod.kin.keeps fun b o e => (e0.bs b o e).1
  have lim : s.heap.NoLimit := e0.mod.nolimit.keeps fun b o e => (e0.bs b o e).1
  have hkind : ∀ y ∈ ps.zip us, scope.names.lookup y.1 = some .local ∨ (scope.names.lookup y.1 = some .cell ∧ ((cellsFrom (s.heap.objs.size + 1) scope.names []).lookup y.1).isSome = true) := fun ⟨n, v⟩ hy => by
    rcases S.par n (List.of_mem_zip hy).1 with q | q
    · exact .inl q
    · exact .inr ⟨q, PySem.W.cellsFrom_some _ _ _ (.inl q)⟩
  refine codeAny_call_function hr.depth (KX _ _ lk) rfl S.co S.gen rfl (PySem.W.codeRec_of KX hcd) (hb _ _ _ _ ?_)
  refine wpAny_newFunctionEnv_cells S.kind hkind fun env he s1 x => ?_
  subst he
  refine ⟨lim.keeps x.toInCall.keep, codeAny_func ?_⟩
  obtain ⟨t, ht, hq⟩ := hbody A outer s H vs Q E (hr.deeper _) hsp
  have I : Inv (cxOf CX P w K mg base N qual scope f cdv A outer s H E) [] (start N vs) H s1 := inv_start S hr.hd e0 hl r x
  refine wpAny_mono (ht [] s1 (start N vs) H _ I hq) (fun fl s' hs => ?_) fun e s' hs => hs
  have fin : ∀ {σ' : St} {H' : Hp} {v : V} {u : Value}, Inv (cxOf CX P w K mg base N qual scope f cdv A outer s H E) [] σ' H' s' → RelV v u → Q v H' → CE outer P w H s Q u s' :=
    fun {σ' H' v u} J rv q => ⟨v, H', J.os, J.bare, J.base, J.hok, rv, q⟩
  cases fl with
  | ret u =>
    obtain ⟨v, σ', H', J, rv, q⟩ := hs
    exact fin J rv q
  | next =>
    obtain ⟨σ', H', J, q⟩ := hs
    exact fin (v := V.non) (u := Value.none) J rfl q
  | brk =>
    obtain ⟨_, _, _, q⟩ := hs
    exact False.elim q
  | cont =>
    obtain ⟨_, _, _, q⟩ := hs
    exact False.elim q
end L2
namespace L2
open PySem PySem.Spec PyProof.Rows
section
variable {X : Cx} {x : Str} {p pos : Pos} {e : Expr} {es : List Expr} {t : TA} {id T : String} {r : List V → Hp → VK → Prop}
def tCB (r : List V → Hp → VK → Prop) (t : TA) : TE := fun σ H Q => t σ H fun vs H1 => r vs H1 Q
theorem pe_callB (hc : CallR X (.builtin id) r) (hg : Gl X x) (hm : X.mg x = none) (hv : bootBuiltins x = some (.builtin id)) (ha : PA X (e :: es) t) (hn : x ≠ "__name__" := by decide) (hdb : (x == ("__debug__" : Str)) = false := by decide)
    (he : starEach (e :: es) X.env = (false, eval e X.env) :: starEach es X.env := by rfl) (hpl : (backTo pos (starEach es X.env)).any (·.1) = false := by rfl) : PE X (.Call (.Name x p) (e :: es) [] pos) (tCB r t) := by
  intro pins s σ H Q I h
  refine wpAny_Call_Name_kw (ld_blt I hg hm hv ?_ hn hdb)
  exact PyProof.Rows.callWith_builtin1 (thn (ha pos pins s σ H _ I h) fun us s1 ⟨vs, H1, I1, r1, q1⟩ => hc pins s1 σ H1 vs us Q I1 r1 q1) he hpl
theorem pe_callTy (hc : CallR X (.type T) r) (hg : Gl X x) (hm : X.mg x = none) (hv : bootBuiltins x = some (.type T)) (ha : PA X (e :: es) t) (hn : x ≠ "__name__" := by decide) (hdb : (x == ("__debug__" : Str)) = false := by decide)
    (he : starEach (e :: es) X.env = (false, eval e X.env) :: starEach es X.env := by rfl) (hpl : (backTo pos (starEach es X.env)).any (·.1) = false := by rfl) : PE X (.Call (.Name x p) (e :: es) [] pos) (tCB r t) := by
  intro pins s σ H Q I h
  refine wpAny_Call_Name_kw (ld_blt I hg hm hv ?_ hn hdb)
  exact PyProof.Rows.callWith_type1 (thn (ha pos pins s σ H _ I h) fun us s1 ⟨vs, H1, I1, r1, q1⟩ => hc pins s1 σ H1 vs us Q I1 r1 q1) he hpl
end
end L2
namespace HT
open PySem PyProof.Rows
section
open PySem.SeqAt
open PySem.AutoSeq1 (wpAny_loadPart')
open PySem.MeetsSeq PySem.MeetsSeq2 PySem.MeetsSeq3
end
section
variable {prog : Program} {w : World} {A : Around} {E : Value → Shared → Prop} {s : Shared}
theorem cat_tup {t b : Addr} {vs ws : List Value} {Q : Value → Shared → Prop} (ht : IsTup s.heap t vs.toArray) (hb : IsTup s.heap b ws.toArray) (hv : vs ≠ [])
    (h1 : ws = [] → Q (.ref t) s) (h2 : ws ≠ [] → Q (.ref s.heap.objs.size) { s with heap := s.heap.push { cls := .type "tuple", data := .seq (vs ++ ws).toArray } })
    (hsz : vs.length + ws.length ≤ sizeLine) : wpAny (model prog w) A (binaryOp .Add (.ref t) (.ref b)) Q E s := by
  obtain ⟨⟨cls, dd, data, sl⟩, ho, hc, n, hd⟩ := id ht
  obtain ⟨⟨cls2, dd2, data2, sl2⟩, ho2, hc2, n2, hd2⟩ := id hb
  simp only at hc hd hc2 hd2
  subst hc hd hc2 hd2
  have e : vs.toArray ++ ws.toArray = (vs ++ ws).toArray := by simp
  by_cases hw : ws = []
  · exact concat_meets ⟨_, ho, rfl⟩ ⟨_, ho2, rfl⟩ noFill_tuple_add seq_tuple_add PySem.F.slot_tuple_add PySem.F.entry_tuple_add (PySem.F.args_tuple_add_2 _ _)
      (tuple_addW1 t b vs.toArray ws.toArray n n2 dd dd2 sl sl2 (by simpa using hv) (by simp [hw])) ⟨ho, ho2, h1 hw⟩
  · refine concat_meets ⟨_, ho, rfl⟩ ⟨_, ho2, rfl⟩ noFill_tuple_add seq_tuple_add PySem.F.slot_tuple_add PySem.F.entry_tuple_add (PySem.F.args_tuple_add_2 _ _)
      (tuple_addW2 t b vs.toArray ws.toArray n n2 dd dd2 sl sl2 (by simpa using hv) (by simpa using hw) (by rw [List.size_toArray, List.size_toArray]; exact hsz)) ⟨ho, ho2, ?_⟩
    rw [e]
    exact h2 hw
def sIx (n d : Nat) : Option Int → Nat
  | none => d
  | some v => if v < 0 then (v + (n : Int)).toNat else min v.toNat n
theorem sIx_none (n d : Nat) : sIx n d none = d := rfl
theorem sIx_nat (n d k : Nat) : sIx n d (some (k : Int)) = min k n := by
  show (if (k : Int) < 0 then ((k : Int) + (n : Int)).toNat else min (k : Int).toNat n) = min k n
  rw [if_neg (by omega), Int.toNat_natCast]
theorem sIx_le (n d : Nat) (hd : d ≤ n) (o : Option Int) : sIx n d o ≤ n := by
  cases o with
  | none => exact hd
  | some v =>
    show (if v < 0 then (v + (n : Int)).toNat else min v.toNat n) ≤ n
    by_cases hv : v < 0
    · rw [if_pos hv]; omega
    · rw [if_neg hv]; exact Nat.min_le_right _ _
theorem clip_eq (v : Int) (n d : Nat) : (if v < 0 then max (v + (n : Int)) 0 else min v (n : Int)) = ((sIx n d (some v) : Nat) : Int) := by
  show (if v < 0 then max (v + (n : Int)) 0 else min v (n : Int)) = (((if v < 0 then (v + (n : Int)).toNat else min v.toNat n) : Nat) : Int)
  by_cases hv : v < 0
  · simp only [if_pos hv]; omega
  · simp only [if_neg hv]; omega
theorem adjust_gen (lo hi : Option Int) (n : Nat) : Builtin.Slice.sliceAdjust lo hi 1 (n : Int) = (((sIx n 0 lo : Nat) : Int), ((sIx n n hi : Nat) : Int)) := by
  have h1 : ¬ ((1 : Int) < 0) := by omega
  unfold Builtin.Slice.sliceAdjust
  simp only [h1, if_false]
  refine Prod.ext ?_ ?_
  · cases lo with
    | none => rfl
    | some v => exact clip_eq v n 0
  · cases hi with
    | none => rfl
    | some v => exact clip_eq v n n
theorem places_gen (i j : Nat) : Builtin.Slice.slicePlaces (i : Int) (j : Int) 1 = j - i := by
  unfold Builtin.Slice.slicePlaces
  have h1 : (1 : Int) > 0 := by omega
  simp only [h1, if_true, Int.ediv_one]
  split <;> omega
theorem slicePart_ {v : Value} {o : Option Int} {Q : Option Int → Shared → Prop} (p : IsPart v o) (h : Q o s) : wpAny (model prog w) A (Builtin.Slice.slicePartIndex v) Q E s := by
  cases p with
  | none => exact slicePart_none h
  | int i t => exact slicePart_int h
theorem sliceApplied_gen {sl : Addr} {vl vu : Value} {lo hi : Option Int} {n : Nat} {Q : Int × Int × Nat → Shared → Prop} (hs : s.heap.IsSliceOf sl vl vu .none) (pl : IsPart vl lo) (pu : IsPart vu hi)
    (h : Q (((sIx n 0 lo : Nat) : Int), 1, sIx n n hi - sIx n 0 lo) s) : wpAny (model prog w) A (Builtin.Slice.sliceApplied (.ref sl) (pure (n : Int))) Q E s := by
  obtain ⟨os, hos, hcs, hds⟩ := id hs
  unfold Builtin.Slice.sliceApplied Builtin.Slice.sliceFields
  refine wpAny_bind (wpAny_bind (wpAny_field hos hds (x := vl) rfl (wpAny_bind (wpAny_field hos hds (x := vu) rfl (wpAny_bind (wpAny_field hos hds (x := .none) rfl (wpAny_pure ?_)))))))
  refine wpAny_bind (slicePart_none ?_)
  show wpAny _ _ (if ((1 : Int) == 0) = true then _ else _) _ _ s
  rw [if_neg (by decide)]
  refine wpAny_bind (slicePart_ pl (wpAny_bind (slicePart_ pu (wpAny_bind (wpAny_pure ?_)))))
  show wpAny _ _ (match Builtin.Slice.sliceAdjust lo hi 1 (n : Int) with | (lo, hi) => pure (lo, (1 : Int), Builtin.Slice.slicePlaces lo hi 1)) _ _ s
  rw [adjust_gen lo hi n]
  show wpAny _ _ (pure (((sIx n 0 lo : Nat) : Int), (1 : Int), Builtin.Slice.slicePlaces ((sIx n 0 lo : Nat) : Int) ((sIx n n hi : Nat) : Int) 1)) _ _ s
  rw [places_gen]
  exact wpAny_pure h
theorem pick_gen (xs : Array Value) (i k : Nat) : ((List.range k).filterMap fun (m : Nat) => xs[((i : Int) + (m : Int) * 1).toNat]?).toArray = ((xs.toList.drop i).take k).toArray := by
  have e : (fun (m : Nat) => xs[((i : Int) + (m : Int) * 1).toNat]?) = fun m => xs[i + m]? := by
    funext m
    have : ((i : Int) + (m : Int) * 1).toNat = i + m := by omega
    rw [this]
  rw [e]
  have := pick_run xs i k
  rw [List.filterMap_map] at this
  have e2 : ((fun x => xs[x]?) ∘ fun x => i + x) = fun m => xs[i + m]? := rfl
  rw [e2] at this
  rw [this]
theorem getItem_tuple_cut {t sl : Addr} {items : Array Value} {vl vu : Value} {lo hi : Option Int} {Q : Value → Shared → Prop} (ht : IsTup s.heap t items) (hs : s.heap.IsSliceOf sl vl vu .none) (pl : IsPart vl lo) (pu : IsPart vu hi)
    (hw : ¬ (sIx items.size 0 lo = 0 ∧ sIx items.size items.size hi = items.size))
    (h : Q (.ref s.heap.objs.size) { s with heap := s.heap.push { cls := .type "tuple", data := .seq ((items.toList.drop (sIx items.size 0 lo)).take (sIx items.size items.size hi - sIx items.size 0 lo)).toArray } })
    (hsz : items.size ≤ sizeLine) : wpAny (model prog w) A (getItem (.ref t) (.ref sl)) Q E s := by
  have htake : sizeOk (.seq ((items.toList.drop (sIx items.size 0 lo)).take (sIx items.size items.size hi - sIx items.size 0 lo)).toArray) := by
    show ((items.toList.drop (sIx items.size 0 lo)).take (sIx items.size items.size hi - sIx items.size 0 lo)).toArray.size ≤ sizeLine
    rw [List.size_toArray, List.length_take, List.length_drop, Array.length_toList]
    omega
  have hj : sIx items.size items.size hi ≤ items.size := sIx_le _ _ (Nat.le_refl _) hi
  obtain ⟨os, hos, hcs, hds⟩ := id hs
  have hTs : s.TypeIs (.ref sl) "slice" := ⟨os, hos, hcs⟩
  unfold getItem
  try with_reducible refine wpAny_holding ?_
  first | refine wpAny_bind (wpAny_pure ?_) | skip
  refine wpAny_bind (wpAny_sequenceKey ht.typeIs (by decide) ?_)
  refine wpAny_bind (wpAny_callSpecial?_slot (name := Str.ofString "__getitem__") ht.typeIs PyProof.Rows.slot_tuple_getitem
    (wpAny_call_entry PyProof.Rows.slot_tuple_getitem ht.typeIs entry_tuple_getitem ?_ (args_tuple_getitem _ _)))
  show wpAny _ _ (Builtin.Tuple.tupleItemsOf (.ref t) >>= _) _ _ s
  refine wpAny_bind (tupleItemsOf_ ht ?_)
  refine wpAny_bind (wpAny_typeOf hTs ?_)
  rw [if_pos (by decide)]
  refine wpAny_bind (sliceApplied_gen hs pl pu ?_)
  have hno : ¬ ((((sIx items.size 0 lo : Nat) : Int) == 0 && (1 : Int) == 1 && (sIx items.size items.size hi - sIx items.size 0 lo) == items.size) = true) := by
    intro q
    rw [Bool.and_eq_true, Bool.and_eq_true] at q
    have q1 : ((sIx items.size 0 lo : Nat) : Int) = 0 := eq_of_beq q.1.1
    have q2 : sIx items.size items.size hi - sIx items.size 0 lo = items.size := eq_of_beq q.2
    exact hw ⟨by omega, by omega⟩
  show wpAny _ _ (if (((sIx items.size 0 lo : Nat) : Int) == 0 && (1 : Int) == 1 && (sIx items.size items.size hi - sIx items.size 0 lo) == items.size) = true then _ else _) _ _ s
  rw [if_neg hno, pick_gen]
  first
    | exact wpAny_bind (m := Builtin.Tuple.tupleExact _) (wpAny_newObj_type (wpAny_pure ⟨_, rfl, wpAny_pure h⟩) htake)
    | exact wpAny_bind (m := Builtin.Tuple.tupleExact _) (wpAny_newObj_type (wpAny_bind (wpAny_pure (wpAny_pure ⟨_, rfl, wpAny_pure h⟩))) htake)
    | exact wpAny_bind (wpAny_bind (m := Builtin.Tuple.tupleExact _) (wpAny_newObj_type (wpAny_pure (wpAny_pure ⟨_, rfl, wpAny_pure h⟩)) htake))
    | exact wpAny_bind (wpAny_bind (m := Builtin.Tuple.tupleExact _) (wpAny_newObj_type (wpAny_pure ⟨_, rfl, wpAny_pure h⟩) htake))
end
end HT
namespace L2
open PySem PySem.Spec PyProof.Rows
abbrev TO := St → Hp → (Option Int → Hp → Prop) → Prop
def PO (X : Cx) (e : Option Expr) (t : TO) : Prop :=
  ∀ (pins : List (Addr × Obj)) (s : Shared) (σ : St) (H : Hp) (Q : Option Int → Hp → Prop), Inv X pins σ H s → t σ H Q →
    wpAny (model X.prog X.w) X.A (evalPart e X.env) (fun u s' => ∃ o H', Inv X pins σ H' s' ∧ IsPart u o ∧ Q o H') X.xe s
def tNoPart : TO := fun _ H Q => Q none H
def tPart (t : TE) : TO := fun σ H Q => t σ H fun x H1 => ∃ i, x = .int i ∧ Q (some i) H1
section
variable {X : Cx} {e : Expr} {te : TE} {lo hi : Option Expr} {tl th : TO} {pos p2 : Pos}
theorem po_none : PO X none tNoPart := by
  intro pins s σ H Q I h
  rw [evalPart_none]
  exact wpAny_pure ⟨none, H, I, .none, h⟩
theorem po_some (h : PE X e te) : PO X (some e) (tPart te) := by
  intro pins s σ H Q I hw
  rw [evalPart_some]
  refine thn (h pins s σ H _ I hw) fun u s1 ⟨x, H1, I1, r1, q1⟩ => ?_
  obtain ⟨i, rfl, q⟩ := q1
  obtain ⟨t, rfl⟩ := r1
  exact ⟨some i, H1, I1, .int i t, q⟩
def SlR (X : Cx) (r : V → Option Int → Option Int → Hp → VK → Prop) : Prop :=
  ∀ (pins : List (Addr × Obj)) (s : Shared) (σ : St) (H : Hp) (x : V) (v vl vu : Value) (lo hi : Option Int) (sl : Addr) (Q : VK), Inv X pins σ H s → RelV x v → s.heap.IsSliceOf sl vl vu .none → IsPart vl lo → IsPart vu hi → r x lo hi H Q →
    ∃ T id, typeLookup (.type T) "__getitem__" = pure (some (.builtin id)) ∧ s.TypeIs v T ∧ wpAny (model X.prog X.w) X.A (getItem v (.ref sl)) (EP X pins σ Q) X.xe s
def tSl (r : V → Option Int → Option Int → Hp → VK → Prop) (te : TE) (tl th : TO) : TE := fun σ H Q => te σ H fun x H1 => tl σ H1 fun l H2 => th σ H2 fun u H3 => r x l u H3 Q
theorem pe_slice {r : V → Option Int → Option Int → Hp → VK → Prop} (hr : SlR X r) (he : PE X e te) (hl : PO X lo tl) (hu : PO X hi th) : PE X (.Subscript e (.Slice lo hi none p2) pos) (tSl r te tl th) := by
  intro pins s σ H Q I h
  refine Subscript_ (thn (he pins s σ H _ I h) fun v s1 ⟨x, H1, I1, r1, q1⟩ => ?_)
  refine wpAny_Slice (thn (hl pins s1 σ H1 _ I1 q1) fun vl s2 ⟨l, H2, I2, pl, q2⟩ => thn (hu pins s2 σ H2 _ I2 q2) fun vu s3 ⟨u, H3, I3, pu, q3⟩ => ?_)
  rw [evalPart_none]
  refine wpAny_pure ?_
  have I4 : Inv X pins σ H3 { s3 with heap := s3.heap.push { cls := .type "slice", data := .fields #[vl, vu, .none] } } := I3.kept (t' := s3.toks) fun b ob q => Heap.get?_push_of_some _ q
  obtain ⟨T, id, hT, ht, hg⟩ := hr pins { s3 with heap := s3.heap.push { cls := .type "slice", data := .fields #[vl, vu, .none] } } σ H3 x v vl vu l u s3.heap.objs.size Q I4 r1 (Heap.IsSliceOf.new ..) pl pu q3
  show wpAny (model X.prog X.w) X.A (subscriptTail e (.Slice lo hi none p2) v (.ref s3.heap.objs.size)) (EP X pins σ Q) X.xe { s3 with heap := s3.heap.push { cls := .type "slice", data := .fields #[vl, vu, .none] } }
  exact tail_any (ops := [.ref s3.heap.objs.size, v]) ht hT hg (by with_unfolding_all rfl)
def cutV (xs : List V) (lo hi : Option Int) : List V := (xs.drop (HT.sIx xs.length 0 lo)).take (HT.sIx xs.length xs.length hi - HT.sIx xs.length 0 lo)
theorem cutV_length (xs : List V) (lo hi : Option Int) : (cutV xs lo hi).length ≤ xs.length := by
  unfold cutV
  rw [List.length_take, List.length_drop]
  omega
def rSlT (K : PySem.W.Frag) : V → Option Int → Option Int → Hp → VK → Prop := fun x lo hi H Q => ∃ a xs, x = .ref a ∧ SqT K H a xs ∧
  ¬ (HT.sIx xs.length 0 lo = 0 ∧ HT.sIx xs.length xs.length hi = xs.length) ∧ ∀ p, H p = none → Q (.ref p) (upd H p (.tup (cutV xs lo hi)))
theorem sl_tup : SlR X (rSlT X.K) := by
  intro pins s σ H x v vl vu lo hi sl Q I rx hs pl pu h
  obtain ⟨a, xs, rfl, hx, hw, q⟩ := h
  cases rx
  obtain ⟨its, r, ht, hz⟩ := I.tuple hx
  have hlen : its.toArray.size = xs.length := by rw [List.size_toArray]; exact r.length.symm
  refine ⟨"tuple", _, PyProof.Rows.slot_tuple_getitem.lookup, ht.typeIs, ?_⟩
  refine HT.getItem_tuple_cut ht hs pl pu (by rw [hlen]; exact hw) ?_ (by rw [hlen]; exact hz)
  rw [hlen]
  refine ⟨.ref s.heap.objs.size, _, I.laid (t' := s.toks) (o := .tup (cutV xs lo hi)) (fun b ob q => Heap.get?_push_of_some _ q) (Nat.le_refl _) ?_, rfl, q _ (I.hok.fresh (Nat.le_refl _))⟩
  exact ⟨Nat.le_trans (cutV_length xs lo hi) hz, _, (r.drop (HT.sIx xs.length 0 lo)).take (HT.sIx xs.length xs.length hi - HT.sIx xs.length 0 lo), IsTup.new _ _⟩
def rCatT (K : PySem.W.Frag) : R2 := fun x y H Q => ∃ a b xs ys, x = .ref a ∧ y = .ref b ∧ SqT K H a xs ∧ SqT K H b ys ∧ xs ≠ [] ∧ xs.length + ys.length ≤ sizeLine ∧
  (ys = [] → Q (.ref a) H) ∧ (ys ≠ [] → ∀ p, H p = none → Q (.ref p) (upd H p (.tup (xs ++ ys))))
theorem Vals.nil_iff {xs : List V} {us : List Value} (r : Vals xs us) : us = [] ↔ xs = [] := by
  cases r with
  | nil => simp
  | cons _ _ => simp
theorem op_catT : OpR X (binaryOp .Add) (rCatT X.K) := by
  intro pins s σ H x y v u Q I rx ry h
  obtain ⟨a, b, xs, ys, rfl, rfl, ha, hb, hx, hz, q1, q2⟩ := h
  cases rx
  cases ry
  obtain ⟨its, r1, p1, _⟩ := I.tuple ha
  obtain ⟨its2, r2, p2, _⟩ := I.tuple hb
  refine HT.cat_tup p1 p2 (fun z => hx (r1.nil_iff.mp z)) (fun z => ⟨.ref a, H, I, rfl, q1 (r2.nil_iff.mp z)⟩) (fun z => ?_) (by rw [← r1.length, ← r2.length]; exact hz)
  refine ⟨.ref s.heap.objs.size, _, I.laid (t' := s.toks) (o := .tup (xs ++ ys)) (fun b ob q => Heap.get?_push_of_some _ q) (Nat.le_refl _) ?_, rfl, q2 (fun w => z (r2.nil_iff.mpr w)) _ (I.hok.fresh (Nat.le_refl _))⟩
  exact ⟨by rw [List.length_append]; exact hz, _, r1.append r2, IsTup.new _ _⟩
end
end L2
namespace L2
open PySem PySem.Spec PyProof.Rows
def ixN (n : Nat) (i : Int) : Option Nat := if 0 ≤ i then (if i < n then some i.toNat else none) else if -(n : Int) ≤ i then some (i + n).toNat else none
def atI {α : Type} (xs : List α) (i : Int) : Option α := (ixN xs.length i).bind fun j => xs[j]?
theorem ixN_seq {n : Nat} {i : Int} {j : Nat} (h : ixN n i = some j) : seqIndex? i n = some j ∧ j < n ∧ -(n : Int) ≤ i ∧ i < n := by
  unfold ixN at h
  by_cases h0 : 0 ≤ i
  · rw [if_pos h0] at h
    by_cases h1 : i < n
    · rw [if_pos h1] at h
      have e : i.toNat = j := Option.some.inj h
      exact ⟨by rw [seqIndex_of h0 h1, e], by omega, by omega, h1⟩
    · rw [if_neg h1] at h; cases h
  · rw [if_neg h0] at h
    by_cases h1 : -(n : Int) ≤ i
    · rw [if_pos h1] at h
      have e : (i + n).toNat = j := Option.some.inj h
      exact ⟨by rw [seqIndex_neg (by omega) h1, e], by omega, h1, by omega⟩
    · rw [if_neg h1] at h; cases h
theorem atI_get {α : Type} {xs : List α} {i : Int} {v : α} (h : atI xs i = some v) : ∃ j, seqIndex? i xs.length = some j ∧ xs[j]? = some v ∧ j < xs.length ∧ -(xs.length : Int) ≤ i ∧ i < xs.length := by
  unfold atI at h
  cases e : ixN xs.length i with
  | none => rw [e] at h; cases h
  | some j =>
    rw [e] at h
    obtain ⟨h1, h2, h3, h4⟩ := ixN_seq e
    exact ⟨j, h1, h, h2, h3, h4⟩
theorem atI_nat {α : Type} {xs : List α} {j : Nat} {v : α} (h : xs[j]? = some v) : atI xs (j : Int) = some v := by
  have hj : j < xs.length := (List.getElem?_eq_some_iff.mp h).1
  have e : ixN xs.length (j : Int) = some j := by
    unfold ixN
    rw [if_pos (by omega), if_pos (by omega)]; simp
  unfold atI; rw [e]; exact h
theorem atI_last {α : Type} (xs : List α) (v : α) : atI (xs ++ [v]) (-1) = some v := by
  have hl : (xs ++ [v]).length = xs.length + 1 := by simp
  have e : ixN (xs ++ [v]).length (-1) = some xs.length := by
    unfold ixN
    rw [hl, if_neg (by decide), if_pos (by omega)]
    congr 1
    omega
  unfold atI
  rw [e]
  show (xs ++ [v])[xs.length]? = some v
  simp
def PlainIx (b : Expr) : Prop := ∀ o i, subscripted b false o i = operate [o, i] (getItem o i)
def IxR (X : Cx) (r : R2) : Prop :=
  ∀ (value slice : Expr) (pins : List (Addr × Obj)) (s : Shared) (σ : St) (H : Hp) (x y : V) (v u : Value) (Q : VK), Inv X pins σ H s → RelV x v → RelV y u → r x y H Q →
    subscripted slice false v u = operate [v, u] (getItem v u) → wpAny (model X.prog X.w) X.A (subscriptTail value slice v u) (EP X pins σ Q) X.xe s
def MtR (X : Cx) (id : String) (r : V → List V → Hp → VK → Prop) : Prop :=
  ∀ (pins : List (Addr × Obj)) (s : Shared) (σ : St) (H : Hp) (x : V) (xs : List V) (v : Value) (us : List Value) (Q : VK), Inv X pins σ H s → RelV x v → Vals xs us → r x xs H Q →
    wpAny (model X.prog X.w) X.A (call (.builtin id) (v :: us)) (EP X pins σ Q) X.xe s
section
variable {X : Cx} {a b : Expr} {ta tb : TE} {pos : Pos}
theorem pe_ix {r : R2} (hr : IxR X r) (ha : PE X a ta) (hb : PE X b tb) (hs : PlainIx b) : PE X (.Subscript a b pos) (tOp r ta tb) := by
  intro pins s σ H Q I h
  exact Subscript_ (binT ha hb I h fun v u s2 x y H2 I2 rx ry q => hr a b pins s2 σ H2 x y v u Q I2 rx ry q (hs _ _))
def rIxL (K : PySem.W.Frag) : R2 := fun x y H Q => ∃ p xs i v, x = .ref p ∧ y = .int i ∧ SqL K H p xs ∧ atI xs i = some v ∧ Q v H
def rIxT (K : PySem.W.Frag) : R2 := fun x y H Q => ∃ p xs i v, x = .ref p ∧ y = .int i ∧ SqT K H p xs ∧ atI xs i = some v ∧ Q v H
theorem ix_list : IxR X (rIxL X.K) := by
  intro value slice pins s σ H x y v u Q I rx ry h hs
  obtain ⟨p, xs, i, z, rfl, rfl, hq, he, q⟩ := h
  cases rx
  obtain ⟨t, rfl⟩ := ry
  obtain ⟨its, r, pl, hz⟩ := I.list hq
  obtain ⟨j, h1, h2, h3, h4, h5⟩ := atI_get he
  obtain ⟨w, ew, rw'⟩ := r.get h2
  have hl := r.length
  have hn := line63
  have fin : EP X pins σ Q w s := ⟨z, H, I, rw', q⟩
  by_cases h0 : 0 ≤ i
  · have hj : i.toNat = j := by
      rw [seqIndex_of h0 h5] at h1
      exact Option.some.inj h1
    exact item_listR pl.isList h0 (by omega) (by rw [hj]; simpa using ew) fin hs
  · have hj : (i + (its.toArray.size : Int)).toNat = j := by
      rw [seqIndex_neg (by omega) h4] at h1
      rw [List.size_toArray, ← hl]
      exact Option.some.inj h1
    exact subscriptTail_builtinR (x := w) pl.isList.typeIs slot_list_getitem.lookup
      (wpAny_getItem_list_neg (Q := fun r s' => r = w ∧ EP X pins σ Q r s') pl.isList (by omega) (by rw [List.size_toArray] <;> omega) (by omega) (by rw [hj]; simpa using ew) ⟨rfl, fin⟩) hs
theorem ix_tup : IxR X (rIxT X.K) := by
  intro value slice pins s σ H x y v u Q I rx ry h hs
  obtain ⟨p, xs, i, z, rfl, rfl, hq, he, q⟩ := h
  cases rx
  obtain ⟨t, rfl⟩ := ry
  obtain ⟨its, r, pl, hz⟩ := I.tuple hq
  obtain ⟨j, h1, h2, h3, h4, h5⟩ := atI_get he
  obtain ⟨w, ew, rw'⟩ := r.get h2
  have hl := r.length
  have hn := line63
  have fin : EP X pins σ Q w s := ⟨z, H, I, rw', q⟩
  exact subscriptTail_builtinR (x := w) pl.typeIs slot_tuple_getitem.lookup
    (getItem_tuple (j := j) (Q := fun r s' => r = w ∧ EP X pins σ Q r s') pl (by omega) (by omega) (by rw [List.size_toArray, ← hl]; exact h1) (by simpa using ew) ⟨rfl, fin⟩) hs
theorem mapSeq_set (its : List Value) (n j : Nat) (u : Value) : Obj.mapSeq (·.setIfInBounds j u) { cls := .type "list", data := .seq its.toArray n } = { cls := .type "list", data := .seq (its.set j u).toArray n } := by
  simp [Obj.mapSeq]
theorem Inv.lst {pins : List (Addr × Obj)} {σ : St} {H : Hp} {s : Shared} {p : Addr} {xs : List V} (I : Inv X pins σ H s) (h : H p = some (.lst xs)) :
    ∃ (its : List Value) (n : Nat), Vals xs its ∧ s.heap.get? p = some { cls := .type "list", data := .seq its.toArray n } ∧ xs.length ≤ sizeLine := by
  obtain ⟨z, its, n, r, e⟩ := I.hok p _ h
  exact ⟨its, n, r, e, z⟩
theorem Inv.lstUpd {pins : List (Addr × Obj)} {σ : St} {H : Hp} {s : Shared} {p : Addr} {xs ys : List V} {its its' : List Value} {n n' : Nat} {f : Obj → Obj} (I : Inv X pins σ H s) (h : H p = some (.lst xs))
    (ho : s.heap.get? p = some { cls := .type "list", data := .seq its.toArray n }) (hf : f { cls := .type "list", data := .seq its.toArray n } = { cls := .type "list", data := .seq its'.toArray n' }) (r : Vals ys its') (hz : ys.length ≤ sizeLine) (t : Nat) :
    Inv X pins σ (upd H p (.lst ys)) { s with heap := s.heap.update p f, toks := t } := by
  have e : (s.heap.update p f).get? p = some { cls := .type "list", data := .seq its'.toArray n' } := by
    rw [Heap.get?_update_self f ho (by rw [hf] <;> rfl), hf]
  refine I.write (x := p) (e := p) (by rw [h]; trivial) (.inl rfl) (fun b u hb q => (Heap.get?_update_other _ _ (Ne.symm hb)).trans q) ⟨_, e⟩ ?_
  exact ⟨hz, its', n', r, e⟩
def rSetL : V → V → V → Hp → (Hp → Prop) → Prop := fun o i v H Q => ∃ p xs k j, o = .ref p ∧ i = .int k ∧ H p = some (.lst xs) ∧ ixN xs.length k = some j ∧ Q (upd H p (.lst (xs.set j v)))
theorem set_list : PSet X rSetL := by
  intro pins s σ H o i v ov iv u Q I ro ri rv h
  obtain ⟨p, xs, k, j, rfl, rfl, hp, hj, q⟩ := h
  cases ro
  obtain ⟨t, rfl⟩ := ri
  obtain ⟨its, n, r, ho, hz⟩ := I.lst hp
  obtain ⟨h1, h2, h3, h4⟩ := ixN_seq hj
  have hl := r.length
  have hn := line63
  have I' : Inv X pins σ (upd H p (.lst (xs.set j v))) { s with heap := s.heap.update p (Obj.mapSeq (·.setIfInBounds j u)) } :=
    I.lstUpd hp ho (mapSeq_set its n j u) (r.set rv j) (by rw [List.length_set]; exact hz) s.toks
  by_cases h0 : 0 ≤ k
  · have hk : k.toNat = j := by
      rw [seqIndex_of h0 h4] at h1
      exact Option.some.inj h1
    exact PySem.W.ki_setAt ho h0 (by omega) (by rw [List.size_toArray, ← hl]; exact h4) (by rw [hk]; exact ⟨_, I', q⟩)
  · have hk : (k + (its.toArray.size : Int)).toNat = j := by
      rw [seqIndex_neg (by omega) h3] at h1
      rw [List.size_toArray, ← hl]
      exact Option.some.inj h1
    exact PySem.W.ki_setBack ho (by omega) (by rw [List.size_toArray, ← hl]; exact h3) (by omega) (by rw [hk]; exact ⟨_, I', q⟩)
theorem slice_bounds (lo hi : Option Int) (n : Nat) : (sliceBounds lo hi none n).1 = ((HT.sIx n 0 lo : Nat) : Int) ∧ (sliceBounds lo hi none n).2.1 = ((HT.sIx n n hi : Nat) : Int) ∧ (sliceBounds lo hi none n).2.2 = 1 := by
  refine ⟨?_, ?_, rfl⟩
  · cases lo with
    | none => simp [sliceBounds, HT.sIx]
    | some i =>
      simp only [sliceBounds, HT.sIx, Option.getD_none, show (1 : Int) > 0 by decide, if_true]
      by_cases h : i < 0
      · simp only [h, if_true] <;> omega
      · simp only [h, if_false] <;> omega
  · cases hi with
    | none => simp [sliceBounds, HT.sIx]
    | some i =>
      simp only [sliceBounds, HT.sIx, Option.getD_none, show (1 : Int) > 0 by decide, if_true]
      by_cases h : i < 0
      · simp only [h, if_true] <;> omega
      · simp only [h, if_false] <;> omega
theorem slicePick_cut (its : List Value) (lo hi : Option Int) : slicePick its.toArray lo hi none = ((its.drop (HT.sIx its.length 0 lo)).take (HT.sIx its.length its.length hi - HT.sIx its.length 0 lo)).toArray := by
  obtain ⟨h1, h2, h3⟩ := slice_bounds lo hi its.toArray.size
  unfold slicePick
  rw [h1, h2, h3]
  simp only [sliceRange_one, pick_run, List.size_toArray] <;> rfl
def rSlL (K : PySem.W.Frag) : V → Option Int → Option Int → Hp → VK → Prop := fun x lo hi H Q => ∃ a xs, x = .ref a ∧ SqL K H a xs ∧ ∀ p, H p = none → Q (.ref p) (upd H p (.lst (cutV xs lo hi)))
theorem sl_list : SlR X (rSlL X.K) := by
  intro pins s σ H x v vl vu lo hi sl Q I rx hs pl pu h
  obtain ⟨a, xs, rfl, hx, q⟩ := h
  cases rx
  obtain ⟨its, r, ht, hz⟩ := I.list hx
  have hlen := r.length
  refine ⟨"list", _, slot_list_getitem.lookup, ht.isList.typeIs, ?_⟩
  refine wpAny_getItem_list_slice ht.isList hs pl pu .none (by simp) ?_ (by rw [List.size_toArray] <;> omega)
  rw [slicePick_cut, ← hlen]
  refine ⟨.ref s.heap.objs.size, _, I.laid (t' := s.toks) (o := .lst (cutV xs lo hi)) (fun b ob q => Heap.get?_push_of_some _ q) (Nat.le_refl _) ?_, rfl, q _ (I.hok.fresh (Nat.le_refl _))⟩
  exact ⟨Nat.le_trans (cutV_length xs lo hi) hz, _, 0, (r.drop (HT.sIx xs.length 0 lo)).take (HT.sIx xs.length xs.length hi - HT.sIx xs.length 0 lo), Heap.get?_push_size _ rfl⟩
def flatV : V → Bool
  | .non => true
  | .bl _ => true
  | .int _ => true
  | .str _ => true
  | _ => false
def eqV : V → V → Bool
  | .non, .non => true
  | .bl a, .bl b => a == b
  | .bl a, .int b => (if a then 1 else 0) == b
  | .int a, .bl b => a == (if b then 1 else 0)
  | .int a, .int b => a == b
  | .str a, .str b => a == b
  | _, _ => false
theorem eqAt_V {A : Around} {s : Shared} {y x : V} {u v : Value} (ry : RelV y u) (rx : RelV x v) (fy : flatV y = true) (fx : flatV x = true) : SeqAt.EqAt A s u v (eqV y x) := by
  cases y with
  | non =>
    cases ry
    cases x with
    | non => cases rx; exact SeqAt.EqAt.same _
    | bl b => cases rx; exact SeqAt.EqAt.none_bool b
    | int b => obtain ⟨t, rfl⟩ := rx; exact SeqAt.EqAt.none_int b t
    | str b => obtain ⟨t, rfl⟩ := rx; exact SeqAt.EqAt.none_str b t
    | _ => exact absurd (show false = true from fx) Bool.false_ne_true
  | bl a =>
    cases ry
    cases x with
    | non => cases rx; exact SeqAt.EqAt.bool_none a
    | bl b => cases rx; exact SeqAt.EqAt.bool_bool a b
    | int b => obtain ⟨t, rfl⟩ := rx; exact SeqAt.EqAt.bool_int a b t
    | str b => obtain ⟨t, rfl⟩ := rx; exact SeqAt.EqAt.bool_str a b t
    | _ => exact absurd (show false = true from fx) Bool.false_ne_true
  | int a =>
    obtain ⟨t', rfl⟩ := ry
    cases x with
    | non => cases rx; exact SeqAt.EqAt.int_none a t'
    | bl b => cases rx; exact SeqAt.EqAt.int_bool a t' b
    | int b => obtain ⟨t, rfl⟩ := rx; exact SeqAt.EqAt.int_int a t' b t
    | str b => obtain ⟨t, rfl⟩ := rx; exact SeqAt.EqAt.int_str a t' b t
    | _ => exact absurd (show false = true from fx) Bool.false_ne_true
  | str a =>
    obtain ⟨t', rfl⟩ := ry
    cases x with
    | non => cases rx; exact SeqAt.EqAt.str_none a t'
    | bl b => cases rx; exact SeqAt.EqAt.str_bool a t' b
    | int b => obtain ⟨t, rfl⟩ := rx; exact SeqAt.EqAt.str_int a t' b t
    | str b => obtain ⟨t, rfl⟩ := rx; exact SeqAt.EqAt.str_str a t' b t
    | _ => exact absurd (show false = true from fx) Bool.false_ne_true
  | _ => exact absurd (show false = true from fy) Bool.false_ne_true
def eqU (x : V) (u : Value) : Bool := match u with
  | .none => eqV .non x
  | .bool b => eqV (.bl b) x
  | .int i _ => eqV (.int i) x
  | .str z _ => eqV (.str z) x
  | _ => false
theorem eqU_of {x y : V} {u : Value} (r : RelV y u) (f : flatV y = true) : eqU x u = eqV y x := by
  cases y with
  | non => cases r; rfl
  | bl b => cases r; rfl
  | int i => obtain ⟨t, rfl⟩ := r; rfl
  | str z => obtain ⟨t, rfl⟩ := r; rfl
  | _ => exact absurd (show false = true from f) Bool.false_ne_true
theorem any_eqU {x : V} : ∀ {xs : List V} {us : List Value}, Vals xs us → xs.all flatV = true → us.any (eqU x) = xs.any fun y => eqV y x
  | _, _, .nil, _ => rfl
  | y :: xs, u :: us, .cons r t, f => by
    rw [List.all_cons, Bool.and_eq_true] at f
    rw [List.any_cons, List.any_cons, eqU_of r f.1, any_eqU t f.2]
theorem mem_eqAt {A : Around} {s : Shared} {x : V} {v : Value} (rx : RelV x v) (fx : flatV x = true) : ∀ {xs : List V} {us : List Value}, Vals xs us → xs.all flatV = true → ∀ u ∈ us, SeqAt.EqAt A s u v (eqU x u)
  | _, _, .nil, _ => fun u hu => by cases hu
  | y :: xs, u :: us, .cons r t, f => fun u' hu => by
    rw [List.all_cons, Bool.and_eq_true] at f
    rcases List.mem_cons.mp hu with rfl | hu
    · rw [eqU_of r f.1]; exact eqAt_V r rx f.1 fx
    · exact mem_eqAt rx fx t f.2 u' hu
def inV (x : V) (xs : List V) : Bool := xs.any fun y => eqV y x
def rIn (K : PySem.W.Frag) (neg : Bool) : R2 := fun x y H Q => ∃ p xs, y = .ref p ∧ (SqL K H p xs ∨ SqT K H p xs) ∧ flatV x = true ∧ xs.all flatV = true ∧ Q (.bl (if neg then !inV x xs else inV x xs)) H
theorem op_in_seq : OpR X (compareOp .In) (rIn X.K false) := by
  intro pins s σ H x y v u Q I rx ry h
  obtain ⟨p, xs, rfl, hq, fx, fs, q⟩ := h
  cases ry
  rcases hq with hq | hq
  · obtain ⟨its, r, pl, hz⟩ := I.list hq
    refine SeqAt.in_listAt (eqU x) pl.isList (fun w hw => mem_eqAt rx fx r fs w (by simpa using hw)) ⟨.bl _, H, I, rfl, ?_⟩
    rw [show its.toArray.any (eqU x) = its.any (eqU x) by simp, any_eqU r fs]
    exact q
  · obtain ⟨its, r, pl, hz⟩ := I.tuple hq
    refine SeqAt.in_tupleAt (eqU x) pl (fun w hw => mem_eqAt rx fx r fs w (by simpa using hw)) ⟨.bl _, H, I, rfl, ?_⟩
    rw [show its.toArray.any (eqU x) = its.any (eqU x) by simp, any_eqU r fs]
    exact q
theorem op_notIn_seq : OpR X (compareOp .NotIn) (rIn X.K true) := by
  intro pins s σ H x y v u Q I rx ry h
  obtain ⟨p, xs, rfl, hq, fx, fs, q⟩ := h
  cases ry
  rcases hq with hq | hq
  · obtain ⟨its, r, pl, hz⟩ := I.list hq
    refine SeqAt.notIn_listAt (eqU x) pl.isList (fun w hw => mem_eqAt rx fx r fs w (by simpa using hw)) ⟨.bl _, H, I, rfl, ?_⟩
    rw [show its.toArray.any (eqU x) = its.any (eqU x) by simp, any_eqU r fs]
    exact q
  · obtain ⟨its, r, pl, hz⟩ := I.tuple hq
    refine SeqAt.notIn_tupleAt (eqU x) pl (fun w hw => mem_eqAt rx fx r fs w (by simpa using hw)) ⟨.bl _, H, I, rfl, ?_⟩
    rw [show its.toArray.any (eqU x) = its.any (eqU x) by simp, any_eqU r fs]
    exact q
theorem call_len_seq : CallR X (.builtin "len") (fun xs H Q => ∃ p ys, xs = [.ref p] ∧ (SqL X.K H p ys ∨ SqT X.K H p ys) ∧ Q (.int ys.length) H) := by
  intro pins s σ H xs us Q I r h
  obtain ⟨p, ys, rfl, hq, q⟩ := h
  obtain ⟨u, rfl, rx⟩ := vals1 r
  cases rx
  have hn := line63
  rcases hq with hq | hq
  · obtain ⟨its, r', pl, hz⟩ := I.list hq
    have hlen := r'.length
    exact Calls.call_len_list pl.isList (by simp only [List.size_toArray] <;> omega) ⟨.int ys.length, H, I.tok _, ⟨s.toks + 1, by rw [List.size_toArray, hlen]⟩, q⟩
  · obtain ⟨its, r', pl, hz⟩ := I.tuple hq
    have hlen := r'.length
    exact len_tuple pl (by simp only [List.size_toArray] <;> omega) ⟨.int ys.length, H, I.tok _, ⟨s.toks + 1, by rw [List.size_toArray, hlen]⟩, q⟩
theorem call_list_of : CallR X (.type "list") (fun xs H Q => ∃ p ys, xs = [.ref p] ∧ (SqL X.K H p ys ∨ SqT X.K H p ys) ∧ ∀ l, H l = none → Q (.ref l) (upd H l (.lst ys))) := by
  intro pins s σ H xs us Q I r h
  obtain ⟨p, ys, rfl, hq, q⟩ := h
  obtain ⟨u, rfl, rx⟩ := vals1 r
  cases rx
  have fin : ∀ (its : List Value), Vals ys its → ys.length ≤ sizeLine → ∀ (h' : Heap) (c' : Nat), (∀ b o', s.heap.get? b = some o' → h'.get? b = some o') →
      h'.get? s.heap.objs.size = some { cls := .type "list", dict := none, data := .seq its.toArray c', slots := #[] } → EP X pins σ Q (.ref s.heap.objs.size) { s with heap := h' } := fun its r' hz h' c' kp e =>
    ⟨.ref s.heap.objs.size, _, I.laid (t' := s.toks) kp (Nat.le_refl _) (show ObjOk X.prog X.w _ h' _ (.lst ys) from ⟨hz, its, c', r', e⟩), rfl, q _ (I.hok.fresh (Nat.le_refl _))⟩
  rcases hq with hq | hq
  · obtain ⟨its, r', pl, hz⟩ := I.list hq
    have hlen := r'.length
    obtain ⟨o, ho, hc, n, hd⟩ := pl.isList
    exact call_list_seq p (.inl rfl) ho hc hd (fun h' c' kp e => fin its r' hz h' c' kp e) (by simp only [List.size_toArray] <;> omega)
  · obtain ⟨its, r', pl, hz⟩ := I.tuple hq
    have hlen := r'.length
    obtain ⟨o, ho, hc, n, hd⟩ := pl
    exact call_list_seq p (.inr rfl) ho hc hd (fun h' c' kp e => fin its r' hz h' c' kp e) (by simp only [List.size_toArray] <;> omega)
def tyV (K : PySem.W.Frag) (T : String) (x : V) (H : Hp) : Prop := match x with
  | .str _ => T = "str"
  | .int _ => T = "int"
  | .ref p => (T = "list" ∧ ∃ xs, SqL K H p xs) ∨ (T = "tuple" ∧ ∃ o, K.lookup p = some o ∧ o.cls = .type "tuple" ∧ o.dict = none) ∨
      (T = "dict" ∧ ((∃ kvs, H p = some (.dK kvs)) ∨ ∃ kvs, H p = some (.dT kvs))) ∨ (T = "set" ∧ ∃ S n, H p = some (.set S n))
  | _ => False
theorem tyV_is {pins : List (Addr × Obj)} {σ : St} {H : Hp} {s : Shared} {T : String} {x : V} {v : Value} (I : Inv X pins σ H s) (r : RelV x v) (ty : tyV X.K T x H) :
    s.TypeIs v T ∧ ∀ a, v = .ref a → ∃ ob, s.heap.get? a = some ob ∧ ob.dict = none := by
  cases x with
  | str z =>
    obtain ⟨t, rfl⟩ := r
    cases (show T = "str" from ty)
    exact ⟨typeIs_str s z t, fun _ e => nomatch e⟩
  | int i =>
    obtain ⟨t, rfl⟩ := r
    cases (show T = "int" from ty)
    exact ⟨typeIs_int s i t, fun _ e => nomatch e⟩
  | ref p =>
    cases r
    rcases ty with ⟨rfl, xs, hq⟩ | ⟨rfl, o, hk, hc, hd⟩ | ⟨rfl, hk⟩ | ⟨rfl, S, n, hk⟩
    · obtain ⟨its, _, pl, _⟩ := I.list hq
      refine ⟨pl.isList.typeIs, fun a e => ?_⟩
      cases e
      obtain ⟨o, n, e, c, hd, _⟩ := pl
      exact ⟨o, e, hd⟩
    · refine ⟨⟨o, I.kIn p o hk, hc⟩, fun a e => ?_⟩
      cases e
      exact ⟨o, I.kIn _ o hk, hd⟩
    · have z : ∃ o, s.heap.get? p = some o ∧ o.ExactDict := by
        rcases hk with ⟨kvs, hk⟩ | ⟨kvs, hk⟩
        · obtain ⟨_, _, _, _, o, _, _, e, ex, _⟩ := I.hok p _ hk
          exact ⟨o, e, ex⟩
        · obtain ⟨_, _, _, _, o, _, _, e, ex, _⟩ := I.hok p _ hk
          exact ⟨o, e, ex⟩
      obtain ⟨o, e, ex⟩ := z
      refine ⟨⟨o, e, ex.1⟩, fun a e2 => ?_⟩
      cases e2
      exact ⟨o, e, ex.2.1⟩
    · obtain ⟨o, _, _, _, e, ex, _⟩ := I.hok p _ hk
      refine ⟨⟨o, e, ex.1⟩, fun a e2 => ?_⟩
      cases e2
      exact ⟨o, e, ex.2.1⟩
  | _ => exact False.elim ty
def tBM0 (K : PySem.W.Frag) (T : String) (r : V → List V → Hp → VK → Prop) (to : TE) : TE := fun σ H Q => to σ H fun x H1 => tyV K T x H1 ∧ r x [] H1 Q
def tBM (K : PySem.W.Frag) (T : String) (r : V → List V → Hp → VK → Prop) (to : TE) (t : TA) : TE := fun σ H Q => to σ H fun x H1 => tyV K T x H1 ∧ t σ H1 fun xs H2 => r x xs H2 Q
variable {o e : Expr} {es : List Expr} {to : TE} {t : TA} {name : Str} {apos cpos : Pos} {T id : String} {r : V → List V → Hp → VK → Prop}
theorem pe_bm0 (pa : PlainAttrs T) (slot : Slot T name id) (hty : typeOf (.builtin id) = pure (.type "method_descriptor")) (hm : MtR X id r) (ho : PE X o to)
    (hbase : attributeBase o name X.env (eval o X.env) = eval o X.env := by rfl) (hline : (apos.endLine == cpos.line) = true := by rfl) : PE X (.Call (.Attribute o name apos) [] [] cpos) (tBM0 X.K T r to) := by
  intro pins s σ H Q I h
  refine wpAny_Call_method0_late hbase hline (thn (ho pins s σ H _ I h) fun v s1 ⟨x, H1, I1, r1, ty, q1⟩ => ?_)
  obtain ⟨h1, h2⟩ := tyV_is I1 r1 ty
  exact ⟨T, id, pa, slot, hty, h1, h2, Calls.callWith_builtin rfl (PySem.evalArgs_none (hm pins s1 σ H1 x [] v [] Q I1 r1 .nil q1))⟩
theorem pe_bm (pa : PlainAttrs T) (slot : Slot T name id) (hty : typeOf (.builtin id) = pure (.type "method_descriptor")) (hm : MtR X id r) (ho : PE X o to) (ha : PA X (e :: es) t)
    (hbase : attributeBase o name X.env (eval o X.env) = eval o X.env := by rfl)
    (hfew : ((backTo cpos (starEach (e :: es) X.env)).all (fun x => !x.1) && (backToKw cpos (keywordEach [] X.env)).all (fun x => x.1.isSome)
      && decide ((e :: es).length + ([] : List Keyword).length + (if ([] : List Keyword).isEmpty then 0 else 1) < 30)) = true := by rfl)
    (hline : (apos.endLine == cpos.line) = true := by rfl) (hs : starEach (e :: es) X.env = (false, eval e X.env) :: starEach es X.env := by rfl) (hplain : (backTo cpos (starEach es X.env)).any (·.1) = false := by rfl) :
    PE X (.Call (.Attribute o name apos) (e :: es) [] cpos) (tBM X.K T r to t) := by
  intro pins s σ H Q I h
  refine wpAny_Call_method_late hbase hfew hline rfl (thn (ho pins s σ H _ I h) fun v s1 ⟨x, H1, I1, r1, ty, q1⟩ => ?_)
  obtain ⟨h1, h2⟩ := tyV_is I1 r1 ty
  refine ⟨T, id, pa, slot, hty, h1, h2, ?_⟩
  have hA := ha cpos pins s1 σ H1 _ I1 q1
  rw [hs] at hA ⊢
  refine Calls.callWith_builtin (by show (false || (backTo cpos (starEach es X.env)).any (·.1)) = false; rw [hplain] <;> rfl) (Calls.evalArgs_plain ?_)
  exact thn hA fun us s2 ⟨vs, H2, I2, r2, q2⟩ => hm pins s2 σ H2 x vs v us Q I2 r1 r2 q2
end
end L2
namespace L2
open PySem PySem.Spec PyProof.Rows
def MtM (X : Cx) (id : String) (r : V → List V → Hp → VK → Prop) : Prop :=
  ∀ (pins : List (Addr × Obj)) (s : Shared) (σ : St) (H : Hp) (x : V) (xs : List V) (v : Value) (us : List Value) (Q : VK), Inv X pins σ H s → RelV x v → Vals xs us → r x xs H Q →
    wpAny (model X.prog X.w) X.A (call (.builtin id) (v :: us)) (EP X pins σ Q) X.xe s
theorem Vals.one : ∀ {x : V} {us : List Value}, Vals [x] us → ∃ u, us = [u] ∧ RelV x u
  | _, _, .cons r .nil => ⟨_, rfl, r⟩
theorem Vals.two : ∀ {x y : V} {us : List Value}, Vals [x, y] us → ∃ u v, us = [u, v] ∧ RelV x u ∧ RelV y v
  | _, _, _, .cons r (.cons q .nil) => ⟨_, _, rfl, r, q⟩
theorem Vals.zero : ∀ {us : List Value}, Vals [] us → us = []
  | _, .nil => rfl
theorem Vals.dropLast {xs : List V} {us : List Value} (h : Vals xs us) : Vals xs.dropLast us.dropLast := by
  induction h with
  | nil => exact .nil
  | cons r t ih =>
    cases t with
    | nil => exact .nil
    | cons q t' => exact .cons r ih
theorem Vals.eraseIdx : ∀ {xs : List V} {us : List Value} (i : Nat), Vals xs us → Vals (xs.eraseIdx i) (us.eraseIdx i)
  | _, _, _, .nil => .nil
  | _, _, 0, .cons _ t => t
  | _, _, i + 1, .cons r t => .cons r (Vals.eraseIdx i t)
theorem Vals.rep {xs : List V} {us : List Value} (h : Vals xs us) : ∀ k : Nat, Vals (List.replicate k xs).flatten (List.replicate k us).flatten
  | 0 => .nil
  | k + 1 => by
    rw [List.replicate_succ, List.replicate_succ, List.flatten_cons, List.flatten_cons]
    exact Vals.append h (Vals.rep h k)
theorem erase_last {α : Type} (l : List α) : l.eraseIdx (l.length - 1) = l.dropLast := by
  induction l with
  | nil => rfl
  | cons a r ih =>
    cases r with
    | nil => rfl
    | cons b r =>
      have e : (a :: b :: r).length - 1 = ((b :: r).length - 1) + 1 := by
        have h1 : (a :: b :: r).length = r.length + 2 := rfl
        have h2 : (b :: r).length = r.length + 1 := rfl
        omega
      rw [e, List.eraseIdx_cons_succ, ih]
      all_goals rfl
theorem foldl_rep (its : List Value) : ∀ (k : Nat) (acc : List Value),
    List.foldl (fun x1 x2 => x1 ++ x2) acc.toArray (List.replicate k its.toArray) = (acc ++ (List.replicate k its).flatten).toArray
  | 0, acc => by simp
  | k + 1, acc => by
    have e : acc.toArray ++ its.toArray = (acc ++ its).toArray := by simp
    have e2 : (acc ++ its) ++ (List.replicate k its).flatten = acc ++ (List.replicate (k + 1) its).flatten := by
      rw [List.replicate_succ, List.flatten_cons, List.append_assoc]
    rw [← e2, ← foldl_rep its k (acc ++ its), ← e, List.replicate_succ, List.foldl_cons]
section
variable {X : Cx} {pins : List (Addr × Obj)} {σ : St} {H : Hp} {s : Shared} {l b : Addr} {xs ys zs : List V}
theorem Inv.lset {its its' : List Value} {n : Nat} {f : Array Value → Array Value} {t' : Nat} (I : Inv X pins σ H s) (hH : H l = some (.lst xs))
    (e : s.heap.get? l = some { cls := .type "list", data := .seq its.toArray n }) (hf : f its.toArray = its'.toArray) (hv : Vals ys its') (hz : ys.length ≤ sizeLine) :
    Inv X pins σ (upd H l (.lst ys)) { s with heap := s.heap.update l (Obj.mapSeq f), toks := t' } := by
  have q := PySem.IsL.update e f
  rw [hf] at q
  refine I.write (x := l) (e := l) (by rw [hH]; exact trivial) (.inl rfl) (fun b' u hb hu => (Heap.get?_update_other s.heap (Obj.mapSeq f) (Ne.symm hb)).trans hu) ⟨_, q⟩ ?_
  exact ⟨hz, its', _, hv, q⟩
theorem Inv.lnew {its : List Value} {t' : Nat} (I : Inv X pins σ H s) (hv : Vals ys its) (hz : ys.length ≤ sizeLine) :
    Inv X pins σ (upd H s.heap.objs.size (.lst ys)) { s with heap := s.heap.push { cls := .type "list", data := .seq its.toArray }, toks := t' } :=
  I.laid (fun _ _ q => Heap.get?_push_of_some _ q) (Nat.le_refl _) ⟨hz, its, 0, hv, Heap.get?_push_size _ rfl⟩
theorem Inv.fresh (I : Inv X pins σ H s) : H s.heap.objs.size = none := I.hok.fresh (Nat.le_refl _)
theorem Inv.lstM (I : Inv X pins σ H s) (hH : H l = some (.lst xs)) : xs.length ≤ sizeLine ∧ ∃ (its : List Value) (n : Nat), Vals xs its ∧ xs.length = its.length ∧ s.heap.get? l = some { cls := .type "list", data := .seq its.toArray n } := by
  obtain ⟨z, its, n, r, e⟩ := I.hok l _ hH
  exact ⟨z, its, n, r, r.length, e⟩
theorem notLongL {n : Nat} (h : n ≤ sizeLine) : Builtin.List.listTooLong n = false := by
  unfold Builtin.List.listTooLong
  exact decide_eq_false (by omega)
end
section
variable {X : Cx}
def rAppend : V → List V → Hp → VK → Prop := fun x vs H Q => ∃ l xs y, x = .ref l ∧ vs = [y] ∧ H l = some (.lst xs) ∧ xs.length < sizeLine ∧ Q .non (upd H l (.lst (xs ++ [y])))
theorem mt_append : MtM X "list.append" rAppend := by
  intro pins s σ H x vs v us Q I rx rv h
  obtain ⟨l, xs, y, rfl, rfl, hH, hz, q⟩ := h
  cases rx
  obtain ⟨u, rfl, ru⟩ := rv.one
  obtain ⟨z, its, n, r, hl, e⟩ := I.lstM hH
  refine call_meets F.slot_list_append ⟨_, e, rfl⟩ F.entry_list_append (F.args_list_append_2 _ _) (PySem.list_append l its.toArray n u (by rw [List.size_toArray]; omega)) ⟨e, ?_⟩
  refine ⟨.non, _, I.lset (its' := its ++ [u]) hH e (by simp) (r.append (.cons ru .nil)) ?_, rfl, q⟩
  rw [List.length_append, List.length_singleton]
  omega
def rExtend : V → List V → Hp → VK → Prop := fun x vs H Q => ∃ l b xs zs, x = .ref l ∧ vs = [.ref b] ∧ H l = some (.lst xs) ∧ H b = some (.lst zs) ∧ xs.length + zs.length ≤ sizeLine ∧ Q .non (upd H l (.lst (xs ++ zs)))
theorem mt_extend : MtM X "list.extend" rExtend := by
  intro pins s σ H x vs v us Q I rx rv h
  obtain ⟨l, b, xs, zs, rfl, rfl, hH, hB, hz, q⟩ := h
  cases rx
  obtain ⟨u, rfl, ru⟩ := rv.one
  cases ru
  obtain ⟨z, its, n, r, hl, e⟩ := I.lstM hH
  obtain ⟨z2, its2, n2, r2, hl2, e2⟩ := I.lstM hB
  have hsz : its.toArray.size + its2.toArray.size ≤ sizeLine := by rw [List.size_toArray, List.size_toArray]; omega
  have hlong : ¬ (!its.toArray.isEmpty && Builtin.List.listTooLong (its.toArray.size + its2.toArray.size)) = true := by
    rw [notLongL hsz, Bool.and_false]
    exact Bool.false_ne_true
  refine call_meets F.slot_list_extend ⟨_, e, rfl⟩ F.entry_list_extend (F.args_list_extend_2 _ _)
    (AutoSeq1.list_extend_list_list_0 l its.toArray n b its2.toArray n2 hlong (by rw [List.size_toArray]; omega) (by omega)) ⟨e, e2, ?_⟩
  refine ⟨.non, _, I.lset (its' := its ++ its2) hH e (by simp) (r.append r2) ?_, rfl, q⟩
  rw [List.length_append]
  omega
def rPop : V → List V → Hp → VK → Prop := fun x vs H Q => ∃ l xs y, x = .ref l ∧ vs = [] ∧ H l = some (.lst xs) ∧ xs[xs.length - 1]? = some y ∧ Q y (upd H l (.lst xs.dropLast))
theorem mt_pop : MtM X "list.pop" rPop := by
  intro pins s σ H x vs v us Q I rx rv h
  obtain ⟨l, xs, y, rfl, rfl, hH, hy, q⟩ := h
  cases rx
  have hus := rv.zero
  subst hus
  obtain ⟨z, its, n, r, hl, e⟩ := I.lstM hH
  obtain ⟨u, hu, ru⟩ := r.get hy
  have hy' : its.toArray[its.toArray.size - 1]? = some u := by
    show its.toArray[its.length - 1]? = some u
    rw [← Array.getElem?_toList, ← hl]
    exact hu
  refine call_meets F.slot_list_pop ⟨_, e, rfl⟩ F.entry_list_pop (F.args_list_pop_1 _) (MeetsSeq.list_pop_last l its.toArray n u hy' (by rw [List.size_toArray]; omega)) ⟨e, ?_⟩
  refine ⟨y, _, I.lset (its' := its.dropLast) hH e ?_ r.dropLast ?_, ru, q⟩
  · show its.toArray.eraseIdxIfInBounds (its.toArray.size - 1) = its.dropLast.toArray
    rw [List.size_toArray, List.eraseIdxIfInBounds_toArray, erase_last]
  · rw [List.length_dropLast]
    omega
def rCat : R2 := fun x y H Q => ∃ l b xs zs, x = .ref l ∧ y = .ref b ∧ H l = some (.lst xs) ∧ H b = some (.lst zs) ∧ xs.length + zs.length ≤ sizeLine ∧ ∀ p, H p = none → Q (.ref p) (upd H p (.lst (xs ++ zs)))
theorem op_cat : OpR X (binaryOp .Add) rCat := by
  intro pins s σ H x y v u Q I rx ry h
  obtain ⟨l, b, xs, zs, rfl, rfl, hH, hB, hz, q⟩ := h
  cases rx
  cases ry
  obtain ⟨z, its, n, r, hl, e⟩ := I.lstM hH
  obtain ⟨z2, its2, n2, r2, hl2, e2⟩ := I.lstM hB
  refine PySem.P.add_list e e2 ?_ (by rw [List.size_toArray, List.size_toArray]; omega)
  have ea : its.toArray ++ its2.toArray = (its ++ its2).toArray := by simp
  rw [ea]
  exact ⟨.ref _, _, I.lnew (t' := s.toks) (r.append r2) (by rw [List.length_append]; omega), rfl, q _ I.fresh⟩
def rRep : R2 := fun x y H Q => ∃ l k xs, x = .ref l ∧ y = .int k ∧ H l = some (.lst xs) ∧ -(2 ^ 63) ≤ k ∧ k < 2 ^ 63 ∧ xs.length * k.toNat ≤ sizeLine ∧
  ∀ p, H p = none → Q (.ref p) (upd H p (.lst (List.replicate k.toNat xs).flatten))
theorem len_rep {α : Type} (xs : List α) (k : Nat) : (List.replicate k xs).flatten.length = k * xs.length := by
  induction k with
  | zero => simp
  | succ k ih => rw [List.replicate_succ, List.flatten_cons, List.length_append, ih, Nat.succ_mul, Nat.add_comm]
theorem op_rep : OpR X (binaryOp .Mult) rRep := by
  intro pins s σ H x y v u Q I rx ry h
  obtain ⟨l, k, xs, rfl, rfl, hH, h1, h2, hz, q⟩ := h
  cases rx
  obtain ⟨t, rfl⟩ := ry
  obtain ⟨z, its, n, r, hl, e⟩ := I.lstM hH
  have hlen : its.toArray.size * k.toNat ≤ sizeLine := by rw [List.size_toArray, ← hl]; exact hz
  have hcap : ¬ its.toArray.size * k.toNat > (2 ^ 63 - 1) / 8 := by
    have : (sizeLine : Nat) ≤ (2 ^ 63 - 1) / 8 := by decide
    omega
  have hfit : ¬ (!Builtin.List.listFitsIndex k) = true := by
    rw [fitsIndex_both h1 h2]
    exact Bool.false_ne_true
  have hlong : ¬ Builtin.List.listTooLong (its.toArray.size * k.toNat) = true := by
    rw [notLongL hlen]
    exact Bool.false_ne_true
  have hnew : List.foldl (fun x1 x2 => x1 ++ x2) #[] (List.replicate (if its.toArray.isEmpty = true then 0 else k.toNat) its.toArray) = (List.replicate k.toNat its).flatten.toArray := by
    have f0 : ∀ m : Nat, List.foldl (fun x1 x2 => x1 ++ x2) #[] (List.replicate m its.toArray) = (List.replicate m its).flatten.toArray := fun m => by
      have := foldl_rep its m []
      rw [List.nil_append] at this
      exact this
    rw [f0]
    cases its with
    | nil => simp
    | cons a r' => rw [if_neg (by simp)]
  refine wpAny_binaryOp_repeat_ref (T := "list") (U := "int") (by decide) ⟨_, e, rfl⟩ (fun s' => typeIs_int s' k t) noFill_list_mul F.fills_int_mul F.slot_int_rmul repeat_list F.slot_int_index.lookup
    (call_meets F.slot_int_rmul (typeIs_int s k t) F.entry_int_rmul (F.args_int_rmul_2 _ _) (int___rmul___int_list k t l its.toArray n)
      ⟨e, rfl, ⟨_, e, rfl⟩, call_meets F.slot_list_mul ⟨_, e, rfl⟩ F.entry_list_mul (F.args_list_mul_2 _ _) (AutoListH.list___mul___list_int_3 l its.toArray n k t hfit hcap hlong) ⟨e, ?_⟩⟩)
  rw [hnew]
  exact ⟨.ref _, _, I.lnew (t' := s.toks) (r.rep k.toNat) (by rw [len_rep, Nat.mul_comm]; exact hz), rfl, q _ I.fresh⟩
end
section
variable {prog : Program} {w : World} {A : Around} {E : Value → Shared → Prop} {s : Shared}
set_option maxRecDepth 100000 in
end
section
variable {X : Cx}
end
end L2
namespace L2
open PySem PySem.Spec PyProof.Rows
section
variable {κ : Type} [DecidableEq κ]
def valV (kvs : List (κ × V)) (k : κ) : Option V := (kvs.find? fun kv => decide (kv.1 = k)).map (·.2)
def putK (kvs : List (κ × V)) (k : κ) (v : V) : List (κ × V) :=
  if (kvs.any fun kv => decide (kv.1 = k)) = true then kvs.map (fun kv => if kv.1 = k then (kv.1, v) else kv) else kvs ++ [(k, v)]
def dropK (kvs : List (κ × V)) (k : κ) : List (κ × V) := kvs.filter fun kv => decide (kv.1 ≠ k)
theorem valV_pos {p : κ × V} {r : List (κ × V)} {k : κ} (e : p.1 = k) : valV (p :: r) k = some p.2 := by simp [valV, List.find?_cons, e]
theorem valV_neg {p : κ × V} {r : List (κ × V)} {k : κ} (e : ¬ p.1 = k) : valV (p :: r) k = valV r k := by simp [valV, List.find?_cons, e]
theorem valV_any (k : κ) : ∀ kvs : List (κ × V), (kvs.any fun kv => decide (kv.1 = k)) = (valV kvs k).isSome
  | [] => rfl
  | p :: r => by
    rw [List.any_cons]
    by_cases e : p.1 = k
    · simp only [valV_pos e, decide_eq_true e, Bool.true_or, Option.isSome_some]
    · rw [valV_neg e, decide_eq_false e, Bool.false_or]; exact valV_any k r
theorem valV_map (k j : κ) (y : V) : ∀ kvs : List (κ × V), valV (kvs.map fun kv => if kv.1 = k then (kv.1, y) else kv) j = (valV kvs j).map fun x => if j = k then y else x
  | [] => rfl
  | p :: r => by
    have ih := valV_map k j y r
    rw [List.map_cons]
    by_cases h : p.1 = k
    · rw [if_pos h]
      by_cases e : p.1 = j
      · rw [valV_pos (p := (p.1, y)) e, valV_pos e, Option.map_some, if_pos (e.symm.trans h)]
      · rw [valV_neg (p := (p.1, y)) e, valV_neg e, ih]
    · rw [if_neg h]
      by_cases e : p.1 = j
      · rw [valV_pos (p := p) e, valV_pos e, Option.map_some, if_neg (fun z => h (e.trans z))]
      · rw [valV_neg (p := p) e, valV_neg e, ih]
theorem valV_snoc (k j : κ) (y : V) : ∀ kvs : List (κ × V), valV kvs k = none → valV (kvs ++ [(k, y)]) j = if j = k then some y else valV kvs j
  | [], _ => by
    by_cases e : k = j
    · rw [if_pos e.symm]; exact valV_pos (p := (k, y)) e
    · rw [if_neg (fun z => e z.symm)]; exact valV_neg (p := (k, y)) e
  | p :: r, hn => by
    rw [List.cons_append]
    have hk : ¬ p.1 = k := fun z => by rw [valV_pos z] at hn; cases hn
    rw [valV_neg hk] at hn
    have ih := valV_snoc k j y r hn
    by_cases e : p.1 = j
    · rw [valV_pos e, valV_pos e, if_neg (fun z => hk (e.trans z))]
    · rw [valV_neg e, valV_neg e, ih]
theorem valV_put (kvs : List (κ × V)) (k j : κ) (y : V) : valV (putK kvs k y) j = if j = k then some y else valV kvs j := by
  unfold putK
  by_cases a : (kvs.any fun kv => decide (kv.1 = k)) = true
  · rw [if_pos a, valV_map]
    rw [valV_any] at a
    by_cases e : j = k
    · obtain ⟨x, hx⟩ := Option.isSome_iff_exists.mp a
      rw [if_pos e, e, hx, Option.map_some, if_pos rfl]
    · rw [if_neg e]
      cases valV kvs j with
      | none => rfl
      | some x => rw [Option.map_some, if_neg e]
  · rw [if_neg a]
    refine valV_snoc k j y kvs ?_
    rw [valV_any] at a
    cases q : valV kvs k with
    | none => rfl
    | some x => rw [q] at a; exact (a rfl).elim
theorem length_putK (kvs : List (κ × V)) (k : κ) (v : V) : (putK kvs k v).length ≤ kvs.length + 1 := by
  unfold putK
  split
  · rw [List.length_map]; omega
  · rw [List.length_append, List.length_cons, List.length_nil]; omega
theorem RelO.isSome_eq {o : Option V} {u : Option Value} (r : RelO o u) : o.isSome = u.isSome := by
  cases o with
  | none => cases u with
    | none => rfl
    | some _ => exact (show False from r).elim
  | some _ => cases u with
    | none => exact (show False from r).elim
    | some _ => rfl
theorem RelO.getD {o : Option V} {u : Option Value} {d : V} {d' : Value} (r : RelO o u) (rd : RelV d d') : RelV (o.getD d) (u.getD d') := by
  cases o with
  | none => cases u with
    | none => exact rd
    | some _ => exact (show False from r).elim
  | some _ => cases u with
    | none => exact (show False from r).elim
    | some _ => exact r
theorem KV.val {kvs : List (κ × V)} {vs : List (κ × Value)} (r : KV kvs vs) (k : κ) : RelO (valV kvs k) (valueAt vs k) := by
  unfold KV at r
  induction r with
  | nil => exact True.intro
  | @cons p q ps qs h t ih =>
    obtain ⟨h1, h2⟩ := h
    by_cases e : p.1 = k
    · have e' : q.1 = k := h1.symm.trans e
      have b : valueAt (q :: qs) k = some q.2 := by simp [valueAt, List.find?_cons, e']
      rw [valV_pos e, b]; exact h2
    · have e' : ¬ q.1 = k := fun z => e (h1.trans z)
      have b : valueAt (q :: qs) k = valueAt qs k := by simp [valueAt, List.find?_cons, e']
      rw [valV_neg e, b]; exact ih
theorem KV.any {kvs : List (κ × V)} {vs : List (κ × Value)} (r : KV kvs vs) (k : κ) : (kvs.any fun kv => decide (kv.1 = k)) = vs.any fun kv => decide (kv.1 = k) := by
  unfold KV at r
  induction r with
  | nil => rfl
  | cons h t ih => rw [List.any_cons, List.any_cons, ih, h.1]
theorem KV.repl {kvs : List (κ × V)} {vs : List (κ × Value)} (r : KV kvs vs) (k : κ) {y : V} {u : Value} (ry : RelV y u) :
    KV (kvs.map fun kv => if kv.1 = k then (kv.1, y) else kv) (vs.map fun kv => if kv.1 = k then (kv.1, u) else kv) := by
  unfold KV at r ⊢
  induction r with
  | nil => exact .nil
  | @cons p q ps qs h t ih =>
    rw [List.map_cons, List.map_cons]
    refine .cons ?_ ih
    obtain ⟨h1, h2⟩ := h
    by_cases e : p.1 = k
    · rw [if_pos e, if_pos (h1.symm.trans e)]; exact ⟨h1, ry⟩
    · rw [if_neg e, if_neg (fun z => e (h1.trans z))]; exact ⟨h1, h2⟩
theorem KV.put {kvs : List (κ × V)} {vs : List (κ × Value)} (r : KV kvs vs) (k : κ) {y : V} {u : Value} (ry : RelV y u) : KV (putK kvs k y) (stored vs k u) := by
  unfold putK stored
  rw [r.any k]
  by_cases e : (vs.any fun kv => decide (kv.1 = k)) = true
  · rw [if_pos e, if_pos e]; exact r.repl k ry
  · rw [if_neg e, if_neg e]; exact Paired.snoc r ⟨rfl, ry⟩
theorem KV.drop {kvs : List (κ × V)} {vs : List (κ × Value)} (r : KV kvs vs) (k : κ) : KV (dropK kvs k) (without vs k) := by
  unfold KV at r ⊢
  unfold dropK without
  induction r with
  | nil => exact .nil
  | @cons p q ps qs h t ih =>
    obtain ⟨h1, h2⟩ := h
    rw [List.filter_cons, List.filter_cons]
    by_cases e : p.1 = k
    · have a : ¬ decide (p.1 ≠ k) = true := by simp [e]
      have b : ¬ decide (q.1 ≠ k) = true := by simp [h1.symm.trans e]
      rw [if_neg a, if_neg b]; exact ih
    · have e' : ¬ q.1 = k := fun z => e (h1.trans z)
      have a : decide (p.1 ≠ k) = true := by simp [e]
      have b : decide (q.1 ≠ k) = true := by simp [e']
      rw [if_pos a, if_pos b]; exact .cons ⟨h1, h2⟩ ih
theorem KV.length {kvs : List (κ × V)} {vs : List (κ × Value)} (r : KV kvs vs) : kvs.length = vs.length := Paired.length r
end
theorem kV_is {P : Program} {w : World} {k : Key} {u : Value} (r : RelV (kV k) u) : (mixKind P w).is k u = true := by
  cases k with
  | inl i => obtain ⟨t, e⟩ := (show ∃ t, u = Value.int i t from r); subst e; exact mixKind_int P w i t
  | inr x => obtain ⟨t, e⟩ := (show ∃ t, u = Value.str x t from r); subst e; exact mixKind_str P w x t
theorem items_are {P : Program} {w : World} : ∀ {ks : List Key} {us : List Value}, Vals (ks.map kV) us → ItemsAre (mixKind P w) ks us
  | [], _, r => by rw [List.map_nil] at r; cases r; exact .nil
  | k :: ks, _, r => by
    rw [List.map_cons] at r
    cases r with
    | cons h t => exact .cons (kV_is h) (items_are t)
abbrev KT (H : Hp) : List (List Key × V) → List (List Key × Addr × Value) → Prop := Paired fun p q => p.1 = q.1 ∧ H q.2.1 = some (.tup (p.1.map kV)) ∧ RelV p.2 q.2.2
theorem KT.val {H : Hp} {kvs : List (List Key × V)} {xs : List (List Key × Addr × Value)} (r : KT H kvs xs) (k : List Key) : RelO (valV kvs k) ((atKey xs k).map (·.2)) := by
  induction r with
  | nil => exact True.intro
  | @cons p q ps qs h t ih =>
    obtain ⟨h1, _, h2⟩ := h
    by_cases e : p.1 = k
    · have e' : q.1 = k := h1.symm.trans e
      have b : atKey (q :: qs) k = some q.2 := by simp [atKey, List.find?_cons, e']
      rw [valV_pos e, b]; exact h2
    · have e' : ¬ q.1 = k := fun z => e (h1.trans z)
      have b : atKey (q :: qs) k = atKey qs k := by simp [atKey, List.find?_cons, e']
      rw [valV_neg e, b]; exact ih
theorem KT.repl {H : Hp} {kvs : List (List Key × V)} {xs : List (List Key × Addr × Value)} (r : KT H kvs xs) (k : List Key) {y : V} {u : Value} (ry : RelV y u) :
    KT H (kvs.map fun kv => if kv.1 = k then (kv.1, y) else kv) (xs.map (putAt k u)) := by
  induction r with
  | nil => exact .nil
  | @cons p q ps qs h t ih =>
    rw [List.map_cons, List.map_cons]
    refine .cons ?_ ih
    obtain ⟨h1, h2, h3⟩ := h
    unfold putAt
    by_cases e : p.1 = k
    · rw [if_pos e, if_pos (h1.symm.trans e)]; exact ⟨h1, h2, ry⟩
    · rw [if_neg e, if_neg (fun z => e (h1.trans z))]; exact ⟨h1, h2, h3⟩
theorem KT.put {H : Hp} {kvs : List (List Key × V)} {xs : List (List Key × Addr × Value)} (r : KT H kvs xs) (k : List Key) {b : Addr} {y : V} {u : Value} (hb : H b = some (.tup (k.map kV))) (ry : RelV y u) :
    KT H (putK kvs k y) (storedH xs k b u) := by
  have e : (kvs.any fun kv => decide (kv.1 = k)) = (atKey xs k).isSome := by
    rw [valV_any, (r.val k).isSome_eq, Option.isSome_map]
  unfold putK storedH
  rw [e]
  by_cases q : (atKey xs k).isSome = true
  · rw [if_pos q, if_pos q]; exact r.repl k ry
  · rw [if_neg q, if_neg q]; exact Paired.snoc r ⟨rfl, hb, ry⟩
theorem KT.keeps {H H' : Hp} {kvs : List (List Key × V)} {xs : List (List Key × Addr × Value)} (r : KT H kvs xs) (ht : ∀ b ys, H b = some (.tup ys) → H' b = some (.tup ys)) : KT H' kvs xs :=
  Paired.mapP r fun _ _ z => ⟨z.1, ht _ _ z.2.1, z.2.2⟩
section
variable {P : Program} {w : World} {H : Hp} {h : Heap} {a : Addr}
theorem rd_of {u : HO} (ok : HOk P w H h) (e : Rd H a u) : ObjOk P w H h a u := e.ok ok
theorem dk_rd {kvs : List (Key × V)} (ok : HOk P w H h) (e : Rd H a (.dK kvs)) : kvs.length ≤ sizeLine ∧ (a == sysModules) = false ∧ ∃ vs, KV kvs vs ∧ h.DictOf (mixKind P w) a vs :=
  show ObjOk P w H h a (.dK kvs) from rd_of ok e
theorem dk_of {kvs : List (Key × V)} (ok : HOk P w H h) (e : H a = some (.dK kvs)) : kvs.length ≤ sizeLine ∧ (a == sysModules) = false ∧ ∃ vs, KV kvs vs ∧ h.DictOf (mixKind P w) a vs := dk_rd ok (.inl e)
theorem key_of {ks : List Key} (ok : HOk P w H h) (e : H a = some (.tup (ks.map kV))) : (tupleKind (mixKind P w)).is h ks a := by
  obtain ⟨_, its, r, o, h1, h2, n, h3⟩ := (show ObjOk P w H h a (.tup (ks.map kV)) from ok a _ e)
  exact ⟨o, its.toArray, n, h1, h2, h3, by simpa using items_are r⟩
theorem dt_rd {kvs : List (List Key × V)} (ok : HOk P w H h) (e : Rd H a (.dT kvs)) : kvs.length ≤ sizeLine ∧ (a == sysModules) = false ∧
    ∃ xs, KT H kvs xs ∧ h.DictOfH (tupleKind (mixKind P w)) a xs := by
  obtain ⟨z, y, xs, r, o, es, ep, h1, h2, h3, h4, h5⟩ := (show ObjOk P w H h a (.dT kvs) from rd_of ok e)
  refine ⟨z, y, xs, r, o, es, ep, h1, h2, h3, h4, fun x hx => ?_, h5⟩
  have all : ∀ {l : List (List Key × V)} {m : List (List Key × Addr × Value)}, KT H l m → ∀ x ∈ m, (tupleKind (mixKind P w)).is h x.1 x.2.1 := by
    intro l m q
    induction q with
    | nil => intro x hx; exact nomatch hx
    | @cons p q ps qs hq t ih =>
      intro x hx
      rcases List.mem_cons.mp hx with e | hx
      · subst e
        exact key_of ok (by rw [← hq.1]; exact hq.2.1)
      · exact ih x hx
  exact all r x hx
theorem dt_of {kvs : List (List Key × V)} (ok : HOk P w H h) (e : H a = some (.dT kvs)) : kvs.length ≤ sizeLine ∧ (a == sysModules) = false ∧
    ∃ xs, KT H kvs xs ∧ h.DictOfH (tupleKind (mixKind P w)) a xs := dt_rd ok (.inl e)
end
def DGet (H : Hp) (a : Addr) (y : V) (r : Option V) : Prop :=
  (∃ kvs k, Rd H a (.dK kvs) ∧ y = kV k ∧ r = valV kvs k) ∨ ∃ kvs k b, Rd H a (.dT kvs) ∧ y = .ref b ∧ H b = some (.tup (k.map kV)) ∧ r = valV kvs k
def DPut (H : Hp) (a : Addr) (y v : V) (H' : Hp) : Prop :=
  (∃ kvs k, H a = some (.dK kvs) ∧ y = kV k ∧ kvs.length < sizeLine ∧ H' = upd H a (.dK (putK kvs k v))) ∨
  ∃ kvs k b, H a = some (.dT kvs) ∧ y = .ref b ∧ H b = some (.tup (k.map kV)) ∧ kvs.length < sizeLine ∧ H' = upd H a (.dT (putK kvs k v))
theorem DGet.k {H : Hp} {a : Addr} {kvs : List (Key × V)} {k : Key} (e : H a = some (.dK kvs)) : DGet H a (kV k) (valV kvs k) := .inl ⟨kvs, k, .inl e, rfl, rfl⟩
theorem DGet.t {H : Hp} {a b : Addr} {kvs : List (List Key × V)} {k : List Key} (e : H a = some (.dT kvs)) (eb : H b = some (.tup (k.map kV))) : DGet H a (.ref b) (valV kvs k) := .inr ⟨kvs, k, b, .inl e, rfl, eb, rfl⟩
theorem DPut.k {H : Hp} {a : Addr} {kvs : List (Key × V)} {k : Key} {v : V} (e : H a = some (.dK kvs)) (hl : kvs.length < sizeLine) : DPut H a (kV k) v (upd H a (.dK (putK kvs k v))) := .inl ⟨kvs, k, e, rfl, hl, rfl⟩
theorem DPut.t {H : Hp} {a b : Addr} {kvs : List (List Key × V)} {k : List Key} {v : V} (e : H a = some (.dT kvs)) (eb : H b = some (.tup (k.map kV))) (hl : kvs.length < sizeLine) :
    DPut H a (.ref b) v (upd H a (.dT (putK kvs k v))) := .inr ⟨kvs, k, b, e, rfl, eb, hl, rfl⟩
section
variable {X : Cx} {pins : List (Addr × Obj)} {σ : St} {H : Hp} {s : Shared} {a : Addr} {y v : V} {u r : Value} {o : Option V} {A : Around} {E : Value → Shared → Prop}
theorem Inv.big (I : Inv X pins σ H s) : sysModules < s.heap.objs.size := by
  have h : mainGlobals < s.heap.objs.size := (I.mod.glob.keeps I.bk).lt
  exact Nat.lt_trans (by decide) h
theorem d_in {Q : Value → Shared → Prop} (hu : A.units + 1 < cLine) (I : Inv X pins σ H s) (g : DGet H a y o) (ry : RelV y u) (h : ∀ s', Inv X pins σ H s' → Q (.bool o.isSome) s') :
    wpAny (model X.prog X.w) A (compareOp .In u (.ref a)) Q E s := by
  rcases g with ⟨kvs, k, e, ey, l⟩ | ⟨kvs, k, b, e, ey, eb, l⟩
  · subst ey
    obtain ⟨z, hd, vs, rel, dd⟩ := dk_rd I.hok e
    refine wpAny_in_of (kV_is ry) hd dd.mapOf ?_
    rw [← (rel.val k).isSome_eq, ← l]
    exact h _ (I.tok _)
  · subst ey
    cases (show u = Value.ref b from ry)
    obtain ⟨z, hd, xs, rel, dd⟩ := dt_rd I.hok e
    refine wpAny_in_heap (tupleKind_room_in1 hu) (key_of I.hok eb) hd dd ?_
    have q := (rel.val k).isSome_eq
    rw [Option.isSome_map] at q
    rw [← q, ← l]
    exact h _ (I.tok _)
theorem d_write {h' : Heap} {t' : Nat} {ob : HO} (I : Inv X pins σ H s) (mu : Mut (H a)) (hs : Heap.SameBut a s.heap h') (he : ∃ q, h'.get? a = some q) (new : ObjOk X.prog X.w (upd H a ob) h' a ob) :
    Inv X pins σ (upd H a ob) { s with heap := h', toks := t' } :=
  I.write (x := a) (e := a) mu (.inl rfl) (fun b q hb z => (hs.2 b hb).trans z) he new
theorem dk_new {P : Program} {w : World} {H' : Hp} {h' : Heap} {kvs : List (Key × V)} {vs : List (Key × Value)} (z : kvs.length ≤ sizeLine) (hd : (a == sysModules) = false) (rel : KV kvs vs) (dd : h'.DictOf (mixKind P w) a vs) :
    ObjOk P w H' h' a (.dK kvs) := ⟨z, hd, vs, rel, dd⟩
theorem d_setItem {H' : Hp} {Q : Unit → Shared → Prop} (hu : A.units + 1 < cLine) (I : Inv X pins σ H s) (g : DPut H a y v H') (ry : RelV y u) (rv : RelV v r) (h : ∀ s', Inv X pins σ H' s' → Q () s') :
    wpAny (model X.prog X.w) A (setItem (.ref a) u r) Q E s := by
  rcases g with ⟨kvs, k, e, ey, l, eH⟩ | ⟨kvs, k, b, e, ey, eb, l, eH⟩
  · subst ey eH
    obtain ⟨z, hd, vs, rel, dd⟩ := dk_of I.hok e
    have hz : vs.length ≤ sizeLine := by rw [← rel.length]; exact z
    have hl : (putK kvs k v).length ≤ sizeLine := by have := length_putK kvs k v; omega
    refine wpAny_setItem_pairs (hsz := hz) (kV_is ry) dd fun h' dd' hs => h _ ?_
    have he : ∃ q, h'.get? a = some q := let ⟨q, _, _, hq, _⟩ := dd'; ⟨q, hq⟩
    exact d_write I (by rw [e]; exact True.intro) hs he (dk_new hl hd (rel.put k rv) dd')
  · subst ey eH
    cases (show u = Value.ref b from ry)
    obtain ⟨z, hd, xs, rel, dd⟩ := dt_of I.hok e
    have hz : xs.length ≤ sizeLine := by rw [← Paired.length rel]; exact z
    have hl : (putK kvs k v).length ≤ sizeLine := by have := length_putK kvs k v; omega
    refine wpAny_setItem_heap (hsz := hz) (tupleKind_room_in1 hu) (key_of I.hok eb) dd fun h' dd' hs => h _ ?_
    obtain ⟨q, es, ep, hq, h2, h3, h4, _, h5⟩ := dd'
    refine d_write I (by rw [e]; exact True.intro) hs ⟨q, hq⟩ ⟨hl, hd, _, (rel.put k eb rv).keeps fun c ys ec => ?_, q, es, ep, hq, h2, h3, h4, h5⟩
    rw [upd_ne (ne_of ec e (fun z => nomatch z))]
    exact ec
end
section
variable {X : Cx} {pins : List (Addr × Obj)} {σ : St} {H : Hp} {s : Shared} {a : Addr} {kvs : List (Key × V)} {k : Key} {u : Value} {A : Around} {E : Value → Shared → Prop}
end
def tDIn (ty td : TE) : TE := fun σ H Q => ty σ H fun y H1 => td σ H1 fun x H2 => ∃ a o, x = .ref a ∧ DGet H2 a y o ∧ Q (.bl o.isSome) H2
def sDPut (td ty tv : TE) : TS := fun D σ H => tv σ H fun v H1 => td σ H1 fun x H2 => ty σ H2 fun y H3 => ∃ a H4, x = .ref a ∧ DPut H3 a y v H4 ∧ D.nx σ H4
section
variable {X : Cx} {o i e value : Expr} {pos pos' tpos : Pos} {td ty tv : TE}
theorem pc_din (hu : X.A.units + 1 < cLine) (hi : PE X i ty) (ho : PE X o td) : PC X .In i o (tDIn ty td) := by
  intro pins s σ H Q I h
  refine thn (hi pins s σ H _ I h) fun iv s1 ⟨y, H1, I1, ry, q1⟩ => thn (ho pins s1 σ H1 _ I1 q1) fun u s2 ⟨x, H2, I2, rx, a, ov, ex, g, q2⟩ => ?_
  subst ex
  obtain rfl : u = Value.ref a := rx
  exact d_in hu I2 g ry fun s3 I3 => ⟨.bl ov.isSome, H2, I3, rfl, q2⟩
theorem ps_dput (hu : X.A.units + 1 < cLine) (ho : PE X o td) (hi : PE X i ty) (hv : PE X value tv) (hs : swapsWith value (some (.Subscript o i pos')) pos.line X.env = pure false) :
    PS X (.Assign [.Subscript o i pos'] value pos) (sDPut td ty tv) := by
  intro pins s σ H D I h
  refine wpAny_Assign_Subscript (thn (hv pins s σ H _ I h) fun r s1 ⟨v, H1, I1, rv, q1⟩ => thn (ho pins s1 σ H1 _ I1 q1) fun u s2 ⟨x, H2, I2, rx, q2⟩ => thn (hi pins s2 σ H2 _ I2 q2) fun iv s3 ⟨y, H3, I3, ry, a, H4, ex, g, q3⟩ => ?_) hs
  subst ex
  obtain rfl : u = Value.ref a := rx
  exact d_setItem hu I3 g ry rv fun s4 I4 => ⟨σ, H4, I4, q3⟩
end
theorem dk_empty {P : Program} {w : World} {H : Hp} (h : Heap) (hb : sysModules < h.objs.size) : ObjOk P w H (h.push { cls := .type "dict", data := .dict #[] }) h.objs.size (.dK []) :=
  ⟨Nat.zero_le _, beq_eq_false_iff_ne.mpr (Ne.symm (Nat.ne_of_lt hb)), [], .nil, Heap.DictOf.new h⟩
def tDNewK : TE := fun _ H Q => ∀ p, H p = none → Q (.ref p) (upd H p (.dK []))
section
variable {X : Cx} {pos : Pos}
theorem pe_dnewK : PE X (.Dict [] [] pos) tDNewK := fun pins s σ H Q I h =>
  wpAny_Dict_empty ⟨.ref s.heap.objs.size, _, I.laid (a := s.heap.objs.size) (o := .dK []) (t' := s.toks) (fun _ _ q => Heap.get?_push_of_some _ q) (Nat.le_refl _) (dk_empty s.heap I.big), rfl, h _ (I.hok.fresh (Nat.le_refl _))⟩
end
structure M1 (X : Cx) (o : Expr) (m : Str) (apos : Pos) (e : Expr) (cpos : Pos) : Prop where
  base : attributeBase o m X.env (eval o X.env) = eval o X.env
  few : ((backTo cpos (starEach [e] X.env)).all (fun x => !x.1) && (backToKw cpos (keywordEach [] X.env)).all (fun x => x.1.isSome)
    && decide (([e] : List Expr).length + ([] : List Keyword).length + (if ([] : List Keyword).isEmpty then 0 else 1) < 30)) = true
  line : (apos.endLine == cpos.line) = true
  trees : backTo cpos (starEach [e] X.env) = [(false, eval e X.env)]
structure M2 (X : Cx) (o : Expr) (m : Str) (apos : Pos) (e f : Expr) (cpos : Pos) : Prop where
  base : attributeBase o m X.env (eval o X.env) = eval o X.env
  few : ((backTo cpos (starEach [e, f] X.env)).all (fun x => !x.1) && (backToKw cpos (keywordEach [] X.env)).all (fun x => x.1.isSome)
    && decide (([e, f] : List Expr).length + ([] : List Keyword).length + (if ([] : List Keyword).isEmpty then 0 else 1) < 30)) = true
  line : (apos.endLine == cpos.line) = true
  trees : backTo cpos (starEach [e, f] X.env) = [(false, eval e X.env), (false, eval f X.env)]
def IsD (H : Hp) (a : Addr) : Prop := (∃ kvs, Rd H a (.dK kvs)) ∨ ∃ kvs, Rd H a (.dT kvs)
theorem isD_at {X : Cx} {pins : List (Addr × Obj)} {σ : St} {H : Hp} {s : Shared} {a : Addr} (I : Inv X pins σ H s) (d : IsD H a) :
    s.TypeIs (.ref a) "dict" ∧ (∀ b, Value.ref a = .ref b → ∃ ob, s.heap.get? b = some ob ∧ ob.dict = none) ∧ (a == sysModules) = false := by
  rcases d with ⟨kvs, e⟩ | ⟨kvs, e⟩
  · obtain ⟨_, hd, vs, _, dd⟩ := dk_rd I.hok e
    refine ⟨dd.typeIs, fun b q => ?_, hd⟩
    cases q
    obtain ⟨ob, _, _, h1, h2, _⟩ := dd
    exact ⟨ob, h1, h2.2.1⟩
  · obtain ⟨_, hd, xs, _, dd⟩ := dt_rd I.hok e
    refine ⟨dd.typeIs, fun b q => ?_, hd⟩
    cases q
    obtain ⟨ob, _, _, h1, h2, _⟩ := dd
    exact ⟨ob, h1, h2.2.1⟩
section
variable {X : Cx} {pins : List (Addr × Obj)} {σ : St} {H : Hp} {s : Shared} {a : Addr} {y d : V} {u r : Value} {o : Option V} {A : Around} {E : Value → Shared → Prop}
theorem d_get2 {Q : Value → Shared → Prop} (hu : A.units + 1 < cLine) (I : Inv X pins σ H s) (g : DGet H a y o) (ry : RelV y u) (rd : RelV d r) (h : ∀ w' s', Inv X pins σ H s' → RelV (o.getD d) w' → Q w' s') :
    wpAny (model X.prog X.w) A (call (.builtin "dict.get") [.ref a, u, r]) Q E s := by
  rcases g with ⟨kvs, k, e, ey, l⟩ | ⟨kvs, k, b, e, ey, eb, l⟩
  · subst ey
    obtain ⟨z, hd, vs, rel, dd⟩ := dk_rd I.hok e
    refine call_meetsIn PySem.F.slot_dict_get dd.typeIs PySem.F.entry_dict_get (PySem.F.args_dict_get_3 _ _ _) (meets_dict_get_default (mixKind X.prog X.w) a (kV_is ry) hd r) ⟨_, dd.mapOf, h _ _ (I.tok _) ?_⟩
    rw [l]
    exact (rel.val k).getD rd
  · subst ey
    cases (show u = Value.ref b from ry)
    obtain ⟨z, hd, xs, rel, dd⟩ := dt_rd I.hok e
    refine call_meetsIn PySem.F.slot_dict_get dd.typeIs PySem.F.entry_dict_get (PySem.F.args_dict_get_3 _ _ _) (meetsH_dict_get_default (tupleKind (mixKind X.prog X.w)) a b hd r) ⟨tupleKind_room_in1 hu, k, xs, key_of I.hok eb, dd, h _ _ (I.tok _) ?_⟩
    rw [l]
    exact (rel.val k).getD rd
end
def tDGet2 (td ty tx : TE) : TE := fun σ H Q => td σ H fun x H1 => ∃ a, x = .ref a ∧ IsD H1 a ∧ ty σ H1 fun y H2 => tx σ H2 fun z H3 => ∃ o, DGet H3 a y o ∧ Q (o.getD z) H3
section
variable {X : Cx} {o e f : Expr} {apos cpos : Pos} {td ty tx : TE}
theorem pe_dget2 (hu : X.A.units + 1 < cLine) (ho : PE X o td) (he : PE X e ty) (hf : PE X f tx) (m : M2 X o "get" apos e f cpos) : PE X (.Call (.Attribute o "get" apos) [e, f] [] cpos) (tDGet2 td ty tx) := by
  intro pins s σ H Q I h
  refine wpAny_Call_method m.base m.few m.line PySem.F.plainAttrs_dict PySem.F.slot_dict_get PySem.F.type_dict_get (thn (ho pins s σ H _ I h) fun u s1 ⟨x, H1, I1, rx, a, ex, d, q1⟩ => ?_)
  subst ex
  obtain rfl : u = Value.ref a := rx
  obtain ⟨t1, t2, _⟩ := isD_at I1 d
  refine ⟨t1, t2, ?_⟩
  rw [m.trees]
  refine Calls.callWith_builtin rfl (Calls.evalArgs_plain (Calls.spliced_cons (thn (he pins s1 σ H1 _ I1 q1) fun iv s2 ⟨y, H2, I2, ry, q2⟩ =>
    Calls.spliced_cons (thn (hf pins s2 σ H2 _ I2 q2) fun fv s3 ⟨z, H3, I3, rz, ov, g, q3⟩ => Calls.spliced_nil ?_))))
  exact d_get2 hu I3 g ry rz fun w' s4 I4 rw' => ⟨_, H3, I4, rw', q3⟩
end
section
variable {X : Cx} {pins : List (Addr × Obj)} {σ : St} {H : Hp} {s : Shared} {a : Addr} {kvs : List (Key × V)} {A : Around} {E : Value → Shared → Prop}
end
section
variable {X : Cx} {pins : List (Addr × Obj)} {σ : St} {H : Hp} {s : Shared} {a : Addr} {y : V} {u : Value} {A : Around} {E : Value → Shared → Prop}
end
end L2
namespace Att
open PySem PySem.W PySem.Calls PyProof.Rows
theorem ints_of_wellAll {P : Params} {h : Heap} : ∀ (ns : List Int) (vs : List Value), WellAll P h vs (ns.map WData.int) → IntsAre vs ns := by
  intro ns
  induction ns with
  | nil =>
    intro vs w
    rw [List.map_nil] at w
    cases w
    exact .nil
  | cons n ns ih =>
    intro vs w
    rw [List.map_cons] at w
    cases w with
    | cons a b =>
      cases a
      exact .cons _ _ (ih _ b)
theorem script_of {l : OpenLaw} {n : Nat} (hn : l.most = some n) {P : Params} {h : Heap} {args : List WData} {vals : List Value}
    (hpre : l.row.toRowW.claim.pre args = true) (hwl : WellAll P h vals args) :
    ∃ a vs ns, vals = [Value.ref a] ∧ args = [WData.list (ns.map WData.int)] ∧ h.get? a = some { cls := .type "list", data := .seq vs.toArray } ∧ IntsAre vs ns ∧ ns.length ≤ n := by
  have hsh : WShape.hasAll [] args [.list .int] = true := (pre_splitW hpre).1
  have hc : l.pre.holds [] { args := args } = true := (pre_splitW hpre).2
  obtain ⟨d, r, rfl, h1, h2⟩ := hasAllW_cons hsh
  obtain rfl := hasAllW_nil h2
  obtain ⟨xs, rfl, h3⟩ := hasW_list h1
  obtain ⟨ns, rfl⟩ := items_int h3
  have hlen : ns.length ≤ n := by
    unfold OpenLaw.pre at hc
    have h4 : (WTm.not (.lt (.lit (.int (n : Int))) (.len (.arg 0)))).holds [] { args := [.list (ns.map .int)] } = true := by
      have h4 := (holds_andW hc).1
      rw [hn] at h4
      exact h4
    have h5 := condW_of h4 (w_not (w_lt w_lit (w_len_list (w_arg rfl))))
    rw [List.length_map] at h5
    refine Nat.le_of_not_lt fun q => ?_
    have q' : (n : Int) < ((ns.length : Nat) : Int) := by omega
    first
      | (rw [decide_eq_true q'] at h5; exact absurd h5 (by decide))
      | (simp at h5; omega)
  cases hwl with
  | cons w1 w2 =>
    cases w2
    cases w1 with
    | list ho hall => exact ⟨_, _, ns, rfl, rfl, ho, ints_of_wellAll ns _ hall, hlen⟩
theorem post_true (l : OpenLaw) (args : List WData) : l.row.toRowW.claim.post args (.bool true) args = true :=
  postW_of (r := l.row.toRowW) (X := (true == true))
    (show WShape.has [] (.bool true) .bool = true by first | rfl | decide | simp [WShape.has, WShape.arms, WShape.armsAll])
    (show (WTm.eq .res (.lit (.bool true))).value [] { args := args, res := some (.bool true), after := args } = some (.bool (true == true)) from w_eq_bool (w_res rfl) w_lit) rfl
theorem attach_call {l : OpenLaw} {n : Nat} {q : Program} {loose : List Str} {XP : (Str → Option Value) → Heap → Prop} {YP : World → Heap → Prop} {d : DefRec}
    (hn : l.most = some n) (hdf : d.params.defaults = [])
    (call : ∀ (w : World) (s₀ s₁ : Shared) (mg mb : Str → Option Value) (fa : Addr) (o : Obj) (pm cd doc : Value) (a : Addr) (vs : List Value) (ns : List Int),
      Ground q loose [] XP w s₀ mg mb s₁.heap → YP w s₁.heap →
      s₁.heap.get? fa = some o → o.data = .func (docDef d.name d.params d.body d.scope pm cd doc) → s₁.heap.CodeRec cd d.name → mg d.name = some (.ref fa) →
      s₁.heap.get? a = some { cls := .type "list", data := .seq vs.toArray } → IntsAre vs ns → ns.length ≤ n → s₁.gens = #[] →
      codeAny (model l.prog w) callerA (.call (.ref fa) ⟨[.ref a], []⟩) (fun r s' => r = .ok (.ret (.bool true)) ∧ OldK s₁.heap s'.heap ∧ s'.os = s₁.os ∧ AllBare s'.gens) s₁) :
    WalkO q loose XP YP l.row.toRowW d [] (fun f vs => PySem.call f vs) := by
  intro w s₀ s₁ mg mb G Y fa o pm cd doc dV kV ho hd hcd hD hmg hg args vals as hpre hlay hrd hwl hlo
  obtain rfl : dV = .none := Dflts.none hD hdf
  obtain rfl : kV = .none := Dflts.noKw hD
  obtain ⟨a, vs, ns, rfl, rfl, hobj, hints, hlen⟩ := script_of hn hpre hwl
  refine enter_call (codeAny_mono (call w s₀ s₁ mg mb fa o pm cd doc a vs ns G Y ho (fd_plain hd) hcd hmg hobj hints hlen hg) fun r s' hq => ?_)
  obtain ⟨rfl, h2, h3, h4⟩ := hq
  exact ⟨.inl ⟨.bool true, .bool true, [], rfl, fun _ => rfl, .bool true, post_true l _, fun _ => ⟨List.Pairwise.nil, fun _ hm => (nomatch hm)⟩⟩, h2, h3, h4⟩
section
variable {prog : Program} {w : World} {A : Around} {E : Value → Shared → Prop} {s : Shared} {K : Frag}
end
end Att
namespace L2
open PySem PySem.Spec PyProof.Rows
theorem vals_ints : ∀ {vs : List Value} {ns : List Int}, IntsAre vs ns → Vals (ns.map V.int) vs
  | _, _, .nil => .nil
  | _, _, .cons n t h => .cons ⟨t, rfl⟩ (vals_ints h)
def Only (H : Hp) : Prop := ∀ b, H b = none ∨ ∃ o xs, H b = some (.frz o (.lst xs))
theorem law_call {P : Program} {w : World} {K : PySem.W.Frag} {mg mb : Str → Option Value} {CX : CXT} {k : Nat} {fa a : Addr} {fd : FuncData} {x : Str} {sp : Sp} {s₁ : Shared} {vs : List Value} {ns : List Int}
    (KX : K.In s₁.heap) (hns : s₁.heap.Ns mainGlobals mg) (hb : s₁.heap.Ns builtinsNs mb) (hbb : ∀ x : Str, x ≠ "__name__" → mb x = bootBuiltins x) (hlim : s₁.heap.NoLimit) (hg : s₁.gens = #[])
    (ha : s₁.heap.get? a = some { cls := .type "list", data := .seq vs.toArray }) (hi : IntsAre vs ns) (hl : ns.length ≤ sizeLine) (hr : Room k callerA)
    (F : ∀ base : Heap, K.In base → base.Ns mainGlobals mg → FnOk P w K mg base CX k fa fd [x] sp) (hbind : ∀ (s : Shared) (u : Value), BindsTo s fd ⟨[u], []⟩ [(x, u)])
    (hsp : ∀ H : Hp, Only H → SqL K H a (ns.map V.int) → sp [.ref a] H (fun v _ => v = .bl true) fun _ _ _ => False)
    (hCX : ∀ H e s', CX [] H s₁ (fun _ _ _ => False) e s' → False) :
    codeAny (model P w) callerA (.call (.ref fa) ⟨[.ref a], []⟩) (fun r s' => r = .ok (.ret (.bool true)) ∧ OldK s₁.heap s'.heap ∧ s'.os = s₁.os ∧ AllBare s'.gens) s₁ := by
  have rv := vals_ints hi
  have lenV := hi.length
  have core : ∀ H : Hp, Only H → SqL K H a (ns.map V.int) → HOk P w H s₁.heap → (∀ b, H b ≠ none → b = a) → (H a ≠ none → K.lookup a = none) →
      codeAny (model P w) callerA (.call (.ref fa) ⟨[.ref a], []⟩) (fun r s' => r = .ok (.ret (.bool true)) ∧ OldK s₁.heap s'.heap ∧ s'.os = s₁.os ∧ AllBare s'.gens) s₁ := by
    intro H hO hS hok hA hK
    have base_of : ∀ {b : Addr} {o : Obj}, s₁.heap.get? b = some o → H b = none → (hidT s₁.heap H).get? b = some o := fun e n => hidT_get e n
    have noA : ∀ {b : Addr} {o : Obj} {es : Array DictEntry} {ep : Nat}, s₁.heap.get? b = some o → o.data = .dict es ep → H b = none := fun {b o es ep} e d => by
      cases q : H b with
      | none => rfl
      | some u =>
        have e' : b = a := hA b (by rw [q]; simp)
        subst e'
        rw [ha] at e; cases e
        have d' : Data.seq vs.toArray _ = Data.dict es ep := d
        cases d'
    have nsK : ∀ {b : Addr} {m : Str → Option Value}, s₁.heap.Ns b m → (hidT s₁.heap H).Ns b m := fun {b m} ⟨o, es, ep, e, d, r⟩ => ⟨o, es, ep, base_of e (noA e d), d, r⟩
    have hKb : K.In (hidT s₁.heap H) := fun b o e => base_of (KX b o e) (by
      cases q : H b with
      | none => rfl
      | some u =>
        have e' : b = a := hA b (by rw [q]; simp)
        subst e'
        rw [hK (by rw [q]; simp)] at e; cases e)
    have hM : Mod K mg (hidT s₁.heap H) := ⟨hKb, nsK hns, ⟨mb, nsK hb, hbb⟩, let ⟨mc, h1, h2⟩ := hlim; ⟨mc, nsK h1, h2⟩⟩
    have e0 : Env0 P w K mg (hidT s₁.heap H) callerA [] s₁ H := ⟨rfl, hM, fun b o e => of_hidT e, Nat.le_of_eq (hidT_size _ _), trivial, fun b hb => absurd (show b ∈ ([] : List Addr) from hb) (by simp), hok, .of_eq hg⟩
    refine codeAny_mono ((F _ hKb (nsK hns)).run callerA [] s₁ H ⟨[.ref a], []⟩ [.ref a] [.ref a] _ _ hr e0 (hbind s₁ (.ref a)) (.cons rfl .nil) (hsp H hO hS)) fun r s' h => ?_
    cases r with
    | error e => exact (hCX H e s' h).elim
    | ok fl =>
      cases fl with
      | next => exact False.elim h
      | brk => exact False.elim h
      | cont => exact False.elim h
      | ret u =>
        obtain ⟨v, H', os, bare, un, hok', r', q⟩ := h
        have q' : v = .bl true := q
        subst q'
        obtain rfl : u = Value.bool true := r'
        refine ⟨rfl, OldK.of_keep fun b o e => ?_, os, bare⟩
        cases q : H b with
        | none => exact un.keep b o e q (by intro z; exact absurd (show b ∈ ([] : List Addr) from z) (by simp)) (by simp)
        | some u =>
          rcases hO b with z | ⟨ob, xs, z⟩
          · rw [q] at z; cases z
          · have z2 := un.frzs b ob _ z
            obtain ⟨e1, _⟩ := hok b _ z
            obtain ⟨e2, _⟩ := hok' b _ z2
            rw [e] at e1; cases e1
            exact e2
  cases hk : K.lookup a with
  | some o =>
    have e := KX a o hk
    rw [ha] at e
    cases e
    refine core (fun _ => none) (fun _ => .inl rfl) (.inr ⟨_, vs.toArray, _, hk, rfl, rfl, rfl, by rw [List.size_toArray, lenV]; exact hl, by simpa using rv⟩) (fun b u z => by have z' : (none : Option HO) = some u := z; cases z') (fun b z => absurd rfl z) fun z => absurd rfl z
  | none =>
    refine core (fun b => if b = a then some (.frz { cls := .type "list", data := .seq vs.toArray } (.lst (ns.map V.int))) else none) (fun b => ?_) (.inl (.inr ⟨{ cls := .type "list", data := .seq vs.toArray }, if_pos rfl⟩)) (fun b u z => ?_) (fun b z => ?_) fun _ => hk
    · by_cases hb : b = a
      · exact .inr ⟨_, _, if_pos hb⟩
      · exact .inl (if_neg hb)
    · by_cases hb : b = a
      · have z' := (if_pos hb).symm.trans z
        cases z'
        subst hb
        exact ⟨ha, by rw [List.length_map]; exact hl, vs, _, rv, ha⟩
      · have z' := (if_neg hb).symm.trans z
        cases z'
    · by_cases hb : b = a
      · exact hb
      · exact absurd (if_neg hb) z
end L2
namespace L2
open PySem PySem.Spec PyProof.Rows
theorem walk_of {l : PySem.W.OpenLaw} {n k : Nat} {q : Program} {loose : List Str} {XP : (Str → Option Value) → Heap → Prop} {YP : World → Heap → Prop} {d : DefRec} {K : Params → PySem.W.Frag} {CX : World → CXT} {sp : World → Sp} {x : Str}
    (hn : l.most = some n) (hn2 : n ≤ sizeLine) (hdf : d.params.defaults = []) (hr : Room k callerA)
    (hY : ∀ (w : World) (h : Heap), YP w h → (K w.params).In h)
    (F : ∀ (w : World) (mg : Str → Option Value) (fa : Addr) (h : Heap), (K w.params).In h → h.Ns mainGlobals mg → mg d.name = some (.ref fa) →
      ∃ fd : FuncData, (∀ (s : Shared) (u : Value), BindsTo s fd ⟨[u], []⟩ [(x, u)]) ∧
        ∀ base : Heap, (K w.params).In base → base.Ns mainGlobals mg → FnOk l.prog w (K w.params) mg base (CX w) k fa fd [x] (sp w))
    (hsp : ∀ (w : World) (H : Hp) (a : Addr) (ns : List Int), ns.length ≤ n → Only H → SqL (K w.params) H a (ns.map V.int) → sp w [.ref a] H (fun v _ => v = .bl true) fun _ _ _ => False)
    (hCX : ∀ (w : World) (H : Hp) (s : Shared) (e : Value) (s' : Shared), CX w [] H s (fun _ _ _ => False) e s' → False) :
    PySem.W.WalkO q loose XP YP l.row.toRowW d [] (fun f vs => PySem.call f vs) := by
  refine Att.attach_call hn hdf fun w s₀ s₁ mg mb fa o pm cd doc a vs ns G Y ho hd hcd hmg hobj hints hlen hg => ?_
  have KX := hY w _ Y
  obtain ⟨fd, hb, hF⟩ := F w mg fa _ KX G.T.g hmg
  exact law_call KX G.T.g G.T.b G.T.builtins G.T.nolimit hg hobj hints (Nat.le_trans hlen hn2) hr hF hb (fun H hO hS => hsp w H a ns hlen hO hS) fun H e s' => hCX w H s₁ e s'
end L2
namespace L2
open PySem PySem.Spec PyProof.Rows
def defArgs (s : Stmt) : Arguments := match s with
  | .FunctionDef _ a _ _ _ _ _ _ _ _ => a
  | _ => { posonlyargs := [], args := [], vararg := none, kwonlyargs := [], kw_defaults := [], kwarg := none, defaults := [] }
def defBody (s : Stmt) : List Stmt := match s with
  | .FunctionDef _ _ b _ _ _ _ _ _ _ => b
  | _ => []
def defScope (s : Stmt) : Scope := match s with
  | .FunctionDef _ _ _ _ _ _ sc _ _ _ => sc
  | _ => { kind := .function, names := [], isGenerator := false, isCoroutine := false }
abbrev CX0 : CXT := fun _ _ _ _ _ _ => False
abbrev E0 : XK := fun _ _ _ => False
theorem pass0 {X : Cx} : Passes CX0 X E0 := fun _ _ _ _ _ _ _ h => h.elim
structure Fun (K : PySem.W.Frag) (x qual : Str) (st : Stmt) (f : Addr) (fd : FuncData) : Prop where
  ex : ∃ (oc : Value) (od : Option Addr) (kV doc pm : Value) (an : Option Addr) (cdv ct : Value) (osl : Array (Option Value)),
    fd = PySem.W.fnOf x qual (defArgs st) (defBody st) (defScope st) .none kV doc pm an cdv ct ∧ K.lookup f = some ⟨oc, od, .func fd, osl⟩ ∧ PySem.W.codeIn K cdv qual = true
  kp : PySem.W.keepIn K (.ref f) = true
section
variable {P : Program} {w : World} {K : PySem.W.Frag} {mg : Str → Option Value} {base : Heap}
theorem Fun.ok {x qual : Str} {st : Stmt} {f : Addr} {fd : FuncData} {N ps : List Str} {k : Nat} {sp : Sp} (F : Fun K x qual st f fd) (S : FnScope N ps (defScope st)) (len : ∀ vs H Q E, sp vs H Q E → vs.length = ps.length)
    (hbody : ∀ (cdv : Value) (A : Around) (outer : List Env) (s : Shared) (H : Hp) (vs : List V) (Q : VK) (E : XK), Room k (A.deeper (envOfC qual (defScope st) s.heap.objs.size f cdv)) → sp vs H Q E →
      ∃ t, PSs (cxOf CX0 P w K mg base N qual (defScope st) f cdv A outer s H E).nox (defBody st) t ∧ t { nx := fun _ H' => Q .non H', rt := Q } (start N vs) H) : FnOk P w K mg base CX0 (k + 1) f fd ps sp := by
  obtain ⟨oc, od, kV, doc, pm, an, cdv, ct, osl, rfl, lk, hcd⟩ := F.ex
  refine fn_of lk hcd S len fun A outer s H vs Q E hr hsp => ?_
  obtain ⟨t, h, q⟩ := hbody cdv A outer s H vs Q E hr hsp
  exact ⟨t, h.nox, q⟩
theorem Fun.binds {x qual : Str} {st : Stmt} {f : Addr} {fd : FuncData} {ps : List Str} (F : Fun K x qual st f fd)
    (h : ∀ (kV doc pm : Value) (an : Option Addr) (cdv ct : Value) (us : List Value), us.length = ps.length → bindArgs (PySem.W.fnOf x qual (defArgs st) (defBody st) (defScope st) .none kV doc pm an cdv ct) ⟨us, []⟩ = pure (ps.zip us)) : Binds K fd ps [] := by
  obtain ⟨oc, od, kV, doc, pm, an, cdv, ct, osl, rfl, lk, hcd⟩ := F.ex
  exact .all (h kV doc pm an cdv ct)
theorem fun_mk {x qual : Str} {st : Stmt} {f : Addr} {oc : Value} {od an : Option Addr} {osl : Array (Option Value)} {kV doc pm cdv ct : Value} (l : K.lookup f = some ⟨oc, od, .func (PySem.W.fnOf x qual (defArgs st) (defBody st) (defScope st) .none kV doc pm an cdv ct), osl⟩)
    (c : PySem.W.codeIn K cdv qual = true) (k : PySem.W.keepIn K (.ref f) = true) : Fun K x qual st f (PySem.W.fnOf x qual (defArgs st) (defBody st) (defScope st) .none kV doc pm an cdv ct) := ⟨⟨oc, od, kV, doc, pm, an, cdv, ct, osl, rfl, l, c⟩, k⟩
end
theorem hu_of {A : Around} {k : Nat} (hr : Room k A) : A.units + 1 < cLine := Nat.lt_of_le_of_lt (Nat.add_le_add_left (by decide : 1 ≤ 64) _) hr.units
section
variable {X : Cx}
theorem pv (i : Nat) {x : Str} {pos : Pos} (hN : X.N[i]? = some x := by rfl) (hv : Vis X.env.scope x := by first | exact Or.inl rfl | exact Or.inr (Or.inl rfl) | exact Or.inr (Or.inr rfl)) (hd : (x == ("__debug__" : Str)) = false := by decide)
    (hcd : (x == ("__classdict__" : Str)) = false := by decide) : PE X (.Name x pos) (tVar i) := pe_var hN hv hd hcd
end
theorem iteF {A B : Prop} (h : B) : if false = true then A else B := by
  rw [if_neg Bool.false_ne_true]
  exact h
theorem iteT {A B : Prop} (h : A) : if true = true then A else B := by
  rw [if_pos rfl]
  exact h
theorem ite2 {c A B : Prop} [Decidable c] (h1 : c → A) (h2 : ¬ c → B) : if c then A else B := by
  by_cases h : c
  · rw [if_pos h]
    exact h1 h
  · rw [if_neg h]
    exact h2 h
theorem iteNS {c A B : Prop} [Decidable c] (hc : c) (h : B) : if (!decide c) = true then A else B := by
  rw [decide_eq_true hc]
  exact iteF h
def Same (H H' : Hp) : Prop := ∀ b o, H b = some o → H' b = some o
theorem Same.refl (H : Hp) : Same H H := fun _ _ h => h
theorem Same.trans {H H1 H2 : Hp} (a : Same H H1) (b : Same H1 H2) : Same H H2 := fun c o h => b c o (a c o h)
theorem Same.free {H H' : Hp} (e : Same H H') {l : Addr} (h : H' l = Option.none) : H l = Option.none := by
  cases q : H l with
  | none => rfl
  | some o =>
    rw [e l o q] at h
    cases h
theorem Same.seq {K : PySem.W.Frag} {H H' : Hp} {a : Addr} {xs : List V} (e : Same H H') (h : SqL K H a xs) : SqL K H' a xs := by
  rcases h with (h | ⟨o, h⟩) | h
  · exact .inl (.inl (e _ _ h))
  · exact .inl (.inr ⟨o, e _ _ h⟩)
  · exact .inr h
end L2
namespace L2
open PySem PySem.Spec PyProof.Rows
section
variable {X : Cx}
end
section
variable {κ : Type} [DecidableEq κ]
end
end L2
namespace L2
open PySem PySem.Spec PyProof.Rows
theorem ne_nat {a b : Nat} (h : a < b ∨ b < a) : a ≠ b := by omega
theorem lt_nat {a b c : Nat} (h : a < b) (h' : b ≤ c) : a < c := by omega
def drawn (env : Env) : List (Str × NameKind) → List (Str × Addr) → List (Str × Addr)
  | [], cs => cs
  | (n, k) :: r, cs => if k = .free then (match env.cells.lookup n with | some c => drawn env r ((n, c) :: cs) | none => drawn env r cs) else drawn env r cs
theorem closure_drawn {scope : Scope} {env : Env} (h : ∀ x ∈ scope.names, x.2 = .free → ∃ c, env.cells.lookup x.1 = some c) : closureFor scope env = pure (drawn env scope.names []) := by
  simp only [closureFor]
  have go : ∀ (names : List (Str × NameKind)) (cs : List (Str × Addr)), (∀ x ∈ names, x.2 = .free → ∃ c, env.cells.lookup x.1 = some c) →
      (forIn names cs (fun (x : Str × NameKind) (r : List (Str × Addr)) =>
            if (x.snd == NameKind.free) = true then do
              let c ← cellOf env x.fst
              pure (ForInStep.yield ((x.fst, c) :: r))
            else pure (ForInStep.yield r)) : Sem (List (Str × Addr))) = pure (drawn env names cs) := by
    intro names
    induction names with
    | nil => intro cs _; rfl
    | cons x r ih =>
      intro cs hx
      obtain ⟨n, k⟩ := x
      rw [List.forIn_cons]
      have hr := fun y hy => hx y (List.mem_cons_of_mem _ hy)
      by_cases hk : k = .free
      · subst hk
        obtain ⟨c, hc⟩ := hx (n, .free) List.mem_cons_self rfl
        have hc' : env.cells.lookup n = some c := hc
        have e1 : cellOf env n = pure c := by unfold cellOf; rw [hc']
        simp only [beq_self_eq_true, if_true, e1, pure_bind]
        rw [ih _ hr]
        show _ = pure (if NameKind.free = .free then _ else _)
        rw [if_pos rfl, hc']
      · have hb : (k == NameKind.free) = false := by simpa using hk
        simp only [hb, Bool.false_eq_true, if_false, pure_bind]
        rw [ih _ hr]
        show _ = pure (if k = .free then _ else _)
        rw [if_neg hk]
  rw [go _ _ h]
  rfl
theorem drawn_sub {env : Env} : ∀ (names : List (Str × NameKind)) (cs : List (Str × Addr)), (∀ x c, cs.lookup x = some c → env.cells.lookup x = some c) → ∀ x c, (drawn env names cs).lookup x = some c → env.cells.lookup x = some c
  | [], _, h => h
  | (n, k) :: r, cs, h => by
    unfold drawn
    split
    · split
      · rename_i c hc
        refine drawn_sub r _ fun x c' e => ?_
        rw [List.lookup_cons] at e
        split at e
        · rename_i hb
          have : x = n := by simpa using hb
          subst this
          cases e; exact hc
        · exact h x c' e
      · exact drawn_sub r cs h
    · exact drawn_sub r cs h
theorem drawn_keep {env : Env} : ∀ (names : List (Str × NameKind)) (cs : List (Str × Addr)) (x : Str), (∃ c, cs.lookup x = some c) → ∃ c, (drawn env names cs).lookup x = some c
  | [], _, _, h => h
  | (n, k) :: r, cs, x, h => by
    unfold drawn
    split
    · split
      · rename_i c hc
        refine drawn_keep r _ x ?_
        rw [List.lookup_cons]
        split
        · exact ⟨_, rfl⟩
        · exact h
      · exact drawn_keep r cs x h
    · exact drawn_keep r cs x h
theorem drawn_has {env : Env} : ∀ (names : List (Str × NameKind)) (cs : List (Str × Addr)) (x : Str), (x, NameKind.free) ∈ names → (∃ c, env.cells.lookup x = some c) → ∃ c, (drawn env names cs).lookup x = some c
  | [], _, _, h, _ => nomatch h
  | (n, k) :: r, cs, x, hm, h => by
    unfold drawn
    rcases List.mem_cons.mp hm with e | hm'
    · cases e
      rw [if_pos rfl]
      obtain ⟨c, hc⟩ := h
      rw [hc]
      refine drawn_keep r _ _ ⟨c, ?_⟩
      rw [List.lookup_cons]; simp
    · split
      · split
        · exact drawn_has r _ x hm' h
        · exact drawn_has r _ x hm' h
      · exact drawn_has r _ x hm' h
theorem relabel_kind {env : Env} : ∀ (names : List (Str × NameKind)) (x : Str) (k : NameKind), (names.map fun (n, k) => if (k == NameKind.free && env.scope.kind == .function && env.kindOf n == some .cell) then (n, NameKind.cell) else (n, k)).lookup x = some k →
    (k = .cell ∨ k = .free) → (∀ y ∈ names, y.2 ≠ .cell) → (x, NameKind.free) ∈ names
  | [], _, _, h, _, _ => by simp at h
  | (n, k') :: r, x, k, h, hk, hc => by
    rw [List.map_cons, List.lookup_cons] at h
    by_cases hh : (k' == NameKind.free && env.scope.kind == .function && env.kindOf n == some .cell) = true
    · simp only [hh, if_true] at h
      split at h
      · rename_i hb
        have : x = n := by simpa using hb
        subst this
        simp only [Bool.and_eq_true, beq_iff_eq] at hh
        rw [hh.1.1]; exact List.mem_cons_self
      · exact List.mem_cons_of_mem _ (relabel_kind r x k h hk fun y hy => hc y (List.mem_cons_of_mem _ hy))
    · simp only [hh, Bool.false_eq_true, if_false] at h
      split at h
      · rename_i hb
        have : x = n := by simpa using hb
        subst this
        cases h
        rcases hk with e | e
        · exact absurd e (hc _ List.mem_cons_self)
        · rw [e]; exact List.mem_cons_self
      · exact List.mem_cons_of_mem _ (relabel_kind r x k h hk fun y hy => hc y (List.mem_cons_of_mem _ hy))
section
variable {prog : Program} {w : World} {A : Around} {R : Result → Shared → Prop} {s : Shared}
theorem compLoop_any {elt target iter : Expr} {ifs : List Expr} {scope : Scope} {pos : Pos} {it acc : Value} {env : Env} (I : Nat → Shared → Prop)
    (turn : ∀ n s, I n s → wpAny (model prog w) A (pyNext it) (fun r s₁ => match r with
      | none => R (.ok .next) s₁
      | some v => wpAny (model prog w) A (letOwnedTupleGo target it v) (fun _ s₁' => wpAny (model prog w) A (assign target env v) (fun _ s₂ =>
          wpAny (model prog w) A (forIn ifs true fun c r => if r = true then do let ok ← isTrue c env (eval c env); pure (ForInStep.yield ok) else pure (ForInStep.yield r)) (fun ok s₃ =>
            if ok = true then wpAny (model prog w) A (eval elt env) (fun x s₄ =>
              wpAny (model prog w) A (call (.builtin "list.append") [acc, x]) (fun _ s₅ => ∃ m, m < n ∧ I m s₅) (fun _ _ => False) s₄) (fun _ _ => False) s₃
            else ∃ m, m < n ∧ I m s₃) (fun _ _ => False) s₂) (fun _ _ => False) s₁') (fun _ _ => False) s₁) (fun _ _ => False) s)
    (n : Nat) (h : I n s) :
    codeAny (model prog w) A (.compLoop (.ListComp elt [⟨target, iter, ifs, 0⟩] scope pos) 0 it acc env) R s := by
  refine codeAny_loop rfl I (fun n s hI => ?_) n h
  show wpAny _ A ((compTurn (.ListComp elt [⟨target, iter, ifs, 0⟩] scope pos) 0 it acc env).onRaise (fun x => do noteFrame x env; theTreesLotGoes x)) _ _ s
  refine wpAny_noted ?_
  refine wpAny_noRaise ?_
  rw [compTurn_list]
  refine wpAny_bind (wpAny_standAt (wpAny_bind (thn (turn n s hI) fun r s₁ h₁ => ?_)))
  cases r with
  | none => exact wpAny_pure h₁
  | some v =>
    refine wpAny_bind (thn h₁ fun _ s₁' h₁' => wpAny_bind (thn h₁' fun _ s₂ h₂ => wpAny_bind (thn h₂ fun ok s₃ h₃ => ?_)))
    cases ok with
    | false => exact wpAny_pure ⟨rfl, h₃⟩
    | true => exact wpAny_bind (wpAny_bind (thn h₃ fun x s₄ h₄ => wpAny_bind (thn h₄ fun _ s₅ h₅ => wpAny_pure (wpAny_pure ⟨rfl, h₅⟩))))
end
inductive Fv (X : Cx) (scope : Scope) : List Str → List Nat → Prop where
  | nil : Fv X scope [] []
  | cons {y : Str} {j : Nat} {ys : List Str} {js : List Nat} (hN : X.N[j]? = some y) (hk : X.env.kindOf y = some .cell ∨ X.env.kindOf y = some .free) (hm : scope.names.lookup y = some .free) (r : Fv X scope ys js) : Fv X scope (y :: ys) (j :: js)
theorem Fv.mem {X : Cx} {scope : Scope} {ys : List Str} {js : List Nat} (h : Fv X scope ys js) {y : Str} (hy : y ∈ ys) : X.env.kindOf y = some .cell ∨ X.env.kindOf y = some .free := by
  induction h with
  | nil => exact nomatch hy
  | cons hN hk hm r ih =>
    rcases List.mem_cons.mp hy with e | hy
    · rw [e]; exact hk
    · exact ih hy
theorem Fv.at {X : Cx} {scope : Scope} {ys : List Str} {js : List Nat} (h : Fv X scope ys js) : ∀ {k : Nat} {y : Str}, ys[k]? = some y → ∃ j, js[k]? = some j ∧ X.N[j]? = some y ∧ (X.env.kindOf y = some .cell ∨ X.env.kindOf y = some .free) ∧ scope.names.lookup y = some .free := by
  induction h with
  | nil => intro k y e; simp at e
  | @cons y0 j0 ys0 js0 hN hk hm r ih =>
    intro k y e
    cases k with
    | zero => simp at e; subst e; exact ⟨j0, by simp, hN, hk, hm⟩
    | succ k => obtain ⟨j, a, b⟩ := ih (k := k) (y := y) (by simpa using e); exact ⟨j, by simpa using a, b⟩
theorem Fv.len {X : Cx} {scope : Scope} {ys : List Str} {js : List Nat} (h : Fv X scope ys js) : ys.length = js.length := by
  induction h with
  | nil => rfl
  | cons _ _ _ _ ih => simp [ih]
def compCx (X : Cx) (x : Str) (fvn : List Str) (scope : Scope) (cl : List (Str × Addr)) (C : Addr) (ex : List Addr) (s : Shared) (H : Hp) : Cx where
  prog := X.prog
  w := X.w
  K := X.K
  mg := X.mg
  base := X.base
  A := X.A
  N := x :: fvn
  s₀ := s
  H₀ := H
  env := compEnvC scope cl C X.env
  outer := X.stack
  stack := X.stack
  ex := ex
  fn := fun _ => false
  calm := X.calm
  pn := []
  xe := fun _ _ => False
def inner (σ : St) (js : List Nat) (x : Option V) : St := x :: js.map fun j => (σ[j]?).join
abbrev tTrue : TT := fun _ H Q => Q true H
def PTs (X : Cx) (ifs : List Expr) (t : TT) : Prop :=
  ∀ (pins : List (Addr × Obj)) (s : Shared) (σ : St) (H : Hp) (Q : Bool → Hp → Prop), Inv X pins σ H s → t σ H Q →
    wpAny (model X.prog X.w) X.A (forIn ifs true fun c r => if r = true then do let ok ← isTrue c X.env (eval c X.env); pure (ForInStep.yield ok) else pure (ForInStep.yield r)) (TP X pins σ Q) X.xe s
theorem pts_nil {X : Cx} : PTs X [] tTrue := fun _ _ _ H _ I h => wpAny_tests_nil ⟨H, I, h⟩
theorem pts_one {X : Cx} {c : Expr} {t : TT} (h : PT X c t) : PTs X [c] t := fun pins s σ H Q I q => wpAny_tests_one (h pins s σ H Q I q)
def tComp (wi : TI) (js : List Nat) (tc : TT) (te : TE) : TE := fun σ H Q => wi σ H fun J H1 => ∃ W : Nat → Nat → List V → Hp → Prop, (∃ m, W 0 m [] H1) ∧ ∀ i m ys H, W i m ys H →
  (J.stop i H ∧ ∀ l, H l = none → Q (.ref l) (upd H l (.lst ys))) ∨
  (J.go i H ∧ ys.length < sizeLine ∧ ∀ x H', J.yld i H x H' → tc (inner σ js (some x)) H' fun b H2 =>
    if b = true then te (inner σ js (some x)) H2 fun v H3 => ∃ m', m' < m ∧ W (i + 1) m' (ys ++ [v]) H3 else ∃ m', m' < m ∧ W (i + 1) m' ys H2)
structure CompOk (X : Cx) (x : Str) (fvn : List Str) (scope : Scope) : Prop where
  cell : ∀ y ∈ scope.names, y.2 ≠ .cell
  kind : scope.kind = .function
  names : ∀ y ∈ scope.names, y.2 = .local → scope.names.lookup y.1 = some .local
  xl : scope.names.lookup x = some .local
  free : ∀ y ∈ scope.names, y.2 = .free → y.1 ∈ fvn
  nd : (x :: fvn).Nodup
theorem lookup_relabel_free {env : Env} : ∀ {names : List (Str × NameKind)} {x : Str}, names.lookup x = some .free →
    ((names.map fun (n, k) => if (k == NameKind.free && env.scope.kind == .function && env.kindOf n == some .cell) then (n, NameKind.cell) else (n, k)).lookup x = some .free ∨
     (names.map fun (n, k) => if (k == NameKind.free && env.scope.kind == .function && env.kindOf n == some .cell) then (n, NameKind.cell) else (n, k)).lookup x = some .cell)
  | [], _, h => by simp at h
  | (n, k) :: r, x, h => by
    have ih := @lookup_relabel_free env r x
    rw [List.map_cons]
    dsimp only
    cases hx : x == n with
    | true =>
      simp only [List.lookup_cons, hx] at h
      cases h
      by_cases hc : (NameKind.free == NameKind.free && env.scope.kind == .function && env.kindOf n == some .cell) = true
      · rw [if_pos hc]; simp [List.lookup_cons, hx]
      · rw [if_neg hc]; simp [List.lookup_cons, hx]
    | false =>
      simp only [List.lookup_cons, hx] at h
      by_cases hc : (k == NameKind.free && env.scope.kind == .function && env.kindOf n == some .cell) = true
      · rw [if_pos hc]; simp only [List.lookup_cons, hx]; exact ih h
      · rw [if_neg hc]; simp only [List.lookup_cons, hx]; exact ih h
section
variable {X : Cx} {elt iter : Expr} {x : Str} {px pos : Pos} {ifs : List Expr} {scope : Scope} {fvn : List Str} {js : List Nat} {wi : TI} {tc : TT} {te : TE}
theorem comp_core {tg : Expr} (htg : tg = .Name x px) (hc : X.calm = true) (hfv : Fv X scope fvn js) (ok : CompOk X x fvn scope)
    (ht : ∀ cl C ex s H, PTs (compCx X x fvn scope cl C ex s H) ifs tc) (he : ∀ cl C ex s H, PE (compCx X x fvn scope cl C ex s H) elt te)
    {pins : List (Addr × Obj)} {σ : St} {H2 : Hp} {s₂ : Shared} {Q : VK} {it : Addr} {fp : List Addr} {tn : Nat → Heap → Prop} {J : It} {RR : Value → Addr → Result → Shared → Prop} {E : Value → Shared → Prop}
    (I2 : Inv X pins σ H2 s₂) (T : Turn X.prog X.w X.K tg J fp it tn) (st0 : tn 0 s₂.heap) (f2 : ∀ b ∈ fp, FpOk X pins H2 b)
    (W : Nat → Nat → List V → Hp → Prop) (w0 : ∃ m, W 0 m [] H2)
    (turn : ∀ i m ys H, W i m ys H → (J.stop i H ∧ ∀ l, H l = none → Q (.ref l) (upd H l (.lst ys))) ∨
      (J.go i H ∧ ys.length < sizeLine ∧ ∀ x H', J.yld i H x H' → tc (inner σ js (some x)) H' fun b H2 =>
        if b = true then te (inner σ js (some x)) H2 fun v H3 => ∃ m', m' < m ∧ W (i + 1) m' (ys ++ [v]) H3 else ∃ m', m' < m ∧ W (i + 1) m' ys H2))
    (hRR : ∀ D C m s' H', s'.heap.Ns C m → Inv X pins σ H' s' → FpOk X pins H' C → Q (.ref D) H' → RR (.ref D) C (.ok .next) s') :
    wpAny (model X.prog X.w) X.A (newList []) (fun acc s₃ => wpAny (model X.prog X.w) X.A (newFunctionEnv scope X.env.globals (drawn X.env scope.names []) [] X.env.qual none .none (some X.env)) (fun cenv s₄ =>
      codeAny (model X.prog X.w) X.A (.compStart (.ListComp elt [⟨tg, iter, ifs, 0⟩] scope pos) 0 (.ref it) acc { cenv with scope := relabel scope X.env }) (RR acc cenv.locals) s₄) E s₃) E s₂ := by
  subst htg
  refine wpAny_newObj_type (wpAny_newFunctionEnv ok.cell (by intro y hy; simp at hy) (fun h₁ hns₁ hsb₁ => ?_) ok.kind)
  dsimp only at hns₁ hsb₁ ⊢
  generalize hG : s₂.heap.push { cls := .type "list", dict := none, data := .seq ([] : List Value).toArray } = G at hns₁ hsb₁ ⊢
  have hC : G.objs.size = s₂.heap.objs.size + 1 := by rw [← hG, Heap.size_push]
  generalize hCC : G.objs.size = C at hns₁ hsb₁ hC ⊢
  generalize hD : s₂.heap.objs.size = D at hC ⊢
  have hDC : D ≠ C := by omega
  have old : ∀ b o, s₂.heap.get? b = some o → h₁.get? b = some o := fun b o e => by
    have hb := Heap.lt_size e
    refine hsb₁.extBut b o (ne_nat (.inl (by rw [hC, ← hD]; exact Nat.lt_succ_of_lt hb))) (Heap.get?_push_of_some _ (hG ▸ Heap.get?_push_of_some _ e))
  have hacc : h₁.get? D = some { cls := .type "list", data := .seq ([] : List Value).toArray } := by
    refine hsb₁.extBut _ _ hDC (Heap.get?_push_of_some _ ?_)
    rw [← hG, ← hD]
    exact Heap.get?_push_size _ rfl
  generalize hcl : drawn X.env scope.names [] = cl
  have cl_sub : ∀ y c, cl.lookup y = some c → X.env.cells.lookup y = some c := by
    rw [← hcl]; exact drawn_sub _ _ (fun y c e => by simp at e)
  have frK : ∀ y ∈ scope.names, y.2 = .free → (X.env.kindOf y.1 = some .cell ∨ X.env.kindOf y.1 = some .free) := fun y hy e => hfv.mem (ok.free y hy e)
  have cl_has : ∀ y, (y, NameKind.free) ∈ scope.names → ∃ c, cl.lookup y = some c := fun y hy => by
    rw [← hcl]; exact drawn_has _ _ _ hy (I2.ok.has y (frK _ hy rfl))
  let X' : Cx := compCx X x fvn scope cl C fp s₂ H2
  have fps : ∀ b ∈ fp, b < s₂.heap.objs.size := fun b hb => by
    obtain ⟨o, e, _⟩ := T.obj _ _ st0 b hb
    exact Heap.lt_size e
  have okX : X'.Ok := by
    refine ⟨I2.ok.mod, ok.kind, I2.ok.glob, I2.ok.blt, ?_, fun y z c h1 h2 => I2.ok.inj y z c (cl_sub _ _ h1) (cl_sub _ _ h2), fun y hy => ?_, fun y c h _ => (nomatch h), I2.ok.hd, I2.ok.frames, .inl rfl, fun b hb => ⟨?_, fun y c e => (f2 b hb).2.2.2.2.1 y c (cl_sub _ _ e)⟩,
      I2.bs, Nat.le_trans I2.ok.bsz I2.sz, fun b o e hb => ?_, fun b hb z => ?_, I2.stack, I2.stkFree⟩
    · show s₂.heap.objs.size ≤ C
      omega
    · rcases hy with hy | hy
      · exact cl_has y (relabel_kind _ _ _ hy (.inl rfl) ok.cell)
      · exact cl_has y (relabel_kind _ _ _ hy (.inr rfl) ok.cell)
    · show b ≠ C
      exact ne_nat (.inl (by rw [hC, ← hD]; exact Nat.lt_succ_of_lt (fps b hb)))
    · rcases (f2 b hb).2.2.2.1 with z | z
      · exact I2.ok.noex b o e z
      · exact Nat.lt_irrefl _ (lt_nat (lt_nat (Heap.lt_size e) I2.ok.bsz) z)
    · have z' := I2.stkSub b z
      rcases List.mem_cons.mp z' with e | e
      · exact (f2 b hb).2.1 e
      · exact (f2 b hb).2.2.1 e
  have cells_lt : ∀ y c, cl.lookup y = some c → c < D := fun y c e => by
    obtain ⟨v, q⟩ := I2.cell y c (cl_sub _ _ e)
    rw [← hD]; exact q.lt
  have HD : ∀ (a : Addr), D ≤ a → H2 a = none := fun a ha => I2.hok.fresh (by omega)
  have I1 : Inv X' [] (inner σ js none) H2 { s₂ with heap := h₁, toks := s₂.toks + ([] : List (Str × Value)).length } := by
    refine ⟨okX, rfl, I2.bare, Un.kept old, ⟨_, hns₁, fun i y v e1 e2 e3 => ?_⟩, fun y c e => ?_, HD _ (by show D ≤ C; omega), fun y c e => I2.freeC y c (cl_sub _ _ e), fun p hp => absurd (show p ∈ ([] : List (Addr × Obj)) from hp) (by simp), I2.hok.kept old, ?_⟩
    · cases i with
      | zero => exact absurd e2 (by simp [inner])
      | succ k =>
        have e1' : fvn[k]? = some y := e1
        obtain ⟨j, a1, a2, a3, a4⟩ := hfv.at e1'
        have e2' : (σ[j]?).join = some v := by
          have : (js.map fun j => (σ[j]?).join)[k]? = some (some v) := e2
          rw [List.getElem?_map, a1] at this
          simpa using this
        have e2'' : σ[j]? = some (some v) := by
          cases q : σ[j]? with
          | none => rw [q] at e2'; cases e2'
          | some z => rw [q] at e2'; simp at e2'; rw [e2']
        obtain ⟨m, hn, hl⟩ := I2.loc
        have hv : Vis X.env.scope y := .inr a3
        obtain ⟨u, r, l⟩ := hl j y v a2 e2'' hv
        refine ⟨u, r, ?_⟩
        rcases l with ⟨k1, _⟩ | ⟨k1, c, k2, k3⟩
        · rcases a3 with z | z
          · rw [k1] at z; cases z
          · rw [k1] at z; cases z
        · obtain ⟨c', hc'⟩ := cl_has y (PySem.mem_of_lookup a4)
          have : c' = c := by
            have := cl_sub _ _ hc'
            rw [k2] at this; cases this; rfl
          subst this
          refine .inr ⟨?_, c', hc', ?_⟩
          · rcases lookup_relabel_free (env := X.env) a4 with z | z
            · exact .inr z
            · exact .inl z
          · obtain ⟨o, ho, hd⟩ := k3
            exact ⟨o, old _ _ ho, hd⟩
    · obtain ⟨v, o, ho, hd⟩ := I2.cell y c (cl_sub _ _ e)
      exact ⟨v, o, old _ _ ho, hd⟩
    · show (inner σ js none).length = (x :: fvn).length
      simp [inner, hfv.len]
  have fp1 : ∀ {H' : Hp} {pl : List (Addr × Obj)}, (∀ b ∈ fp, H' b = none) → (∀ p ∈ pl, p.1 ∉ fp) → ∀ b ∈ fp, FpOk X' pl H' b := fun {H' pl} hn hp b hb => by
    refine ⟨hn b hb, (okX.exf b hb).1, okX.exfs b hb, .inl hb, (okX.exf b hb).2, fun p hpp z => ?_⟩
    have hpp' : p ∈ pl := hpp
    exact hp p hpp' (by rw [z]; exact hb)
  have Dfp : D ∉ fp := fun z => Nat.lt_irrefl _ (lt_nat (fps D z) (Nat.le_of_eq hD))
  obtain ⟨m0, w0⟩ := w0
  have loop : ∀ s₃ : Shared, s₃ = { s₂ with heap := h₁, toks := s₂.toks + ([] : List (Str × Value)).length } →
      codeAny (model X.prog X.w) X.A (.compLoop (.ListComp elt [⟨.Name x px, iter, ifs, 0⟩] scope pos) 0 (.ref it) (.ref D) (compEnvC scope cl C X.env)) (RR (.ref D) C) s₃ := by
    rintro s₃ rfl
    refine compLoop_any (fun n s' => ∃ i ys its k H', Inv X' [] (inner σ js none) H' s' ∧ tn i s'.heap ∧ (∀ b ∈ fp, H' b = none) ∧ H' D = none ∧ Vals ys its ∧ ys.length ≤ sizeLine ∧ s'.heap.get? D = some { cls := .type "list", data := .seq its.toArray k } ∧ W i n ys H') ?_ m0
      ⟨0, [], [], _, H2, I1, T.keep _ _ _ st0 fun b _ o e => old b o e, fun b hb => (f2 b hb).1, HD _ (Nat.le_refl _), .nil, Nat.zero_le _, hacc, w0⟩
    rintro n s' ⟨i, ys, its, k, H', I', st', fr', nD', rv, hz, ho, hw⟩
    have pinD : Inv X' [(D, { cls := .type "list", data := .seq its.toArray k })] (inner σ js none) H' s' := I'.pins_of fun p hp => by
      have e : p = (D, { cls := .type "list", data := .seq its.toArray k }) := by simpa using hp
      subst e
      refine ⟨ho, nD', hDC, fun z => ?_, fun v z => nomatch z⟩
      have z' := I2.stkSub D z
      rcases List.mem_cons.mp z' with e | e
      · exact ne_nat (.inr (lt_nat I2.lt (Nat.le_of_eq hD))) e
      · exact I2.nofs (Nat.le_of_eq hD) e
    have npl : ∀ p ∈ [((D, { cls := .type "list", data := .seq its.toArray k }) : Addr × Obj)], p.1 ∉ fp := fun p hp => by
      have e : p = (D, { cls := .type "list", data := .seq its.toArray k }) := by simpa using hp
      subst e; exact Dfp
    rcases turn i n ys H' hw with ⟨stop, qn⟩ | ⟨go, hlt, step⟩
    · refine thn (T.done X' rfl rfl rfl hc i _ s' _ H' (fun _ _ => False) pinD (fp1 fr' npl) st' stop) fun r s4 ⟨hr, I4⟩ => ?_
      subst hr
      have ho4 := (I4.pin (D, { cls := .type "list", data := .seq its.toArray k }) (by show _ ∈ [] ++ [_]; simp)).1
      obtain ⟨m, hn4, _⟩ := I4.loc
      have hok4 : HOk X.prog X.w (upd H' D (.lst ys)) s4.heap := fun b u e => by
        by_cases hb : b = D
        · subst hb; rw [upd_same] at e; cases e
          exact ⟨hz, its, k, rv, ho4⟩
        · rw [upd_ne hb] at e
          exact (I4.hok b u e).stay (fun c v _ q => q) (fun c q => by rw [upd_ne (ne_of_none q nD')]; exact q) fun c xs q => by rw [upd_ne (ne_of_none q nD')]; exact q
      have un4 : Un (frs X.stack) fp H2 (upd H' D (.lst ys)) s₂.heap s4.heap := by
        have u := I4.base
        refine ⟨u.keep, u.slot, fun b o e n1 n2 => ?_, u.there, fun b xs e => ?_, fun b o xs e => ?_, fun b ps e => ?_⟩
        · have : b ≠ D := ne_nat (.inl (lt_nat (Heap.lt_size e) (Nat.le_of_eq hD)))
          rw [upd_ne this]; exact u.free b o e n1 n2
        · rw [upd_ne (ne_of_none (u.tups b xs e) nD')]; exact u.tups b xs e
        · rw [upd_ne (ne_of_none (u.frzs b o xs e) nD')]; exact u.frzs b o xs e
        · obtain ⟨mo, q⟩ := u.tbls b ps e
          exact ⟨mo, by rw [upd_ne (ne_of_none q nD')]; exact q⟩
      have IX : Inv X pins σ (upd H' D (.lst ys)) s4 := I2.call' I4.os un4 hok4 I4.bare fun b hb => ⟨(f2 b hb).2.2.2.1, (f2 b hb).2.1, (f2 b hb).2.2.2.2.1, (f2 b hb).2.2.2.2.2⟩
      exact hRR D C m s4 _ hn4 IX (I2.fpOk (by omega) (by rw [upd_ne (Ne.symm hDC)]; exact I4.free)) (qn D nD')
    · refine thn (T.item X' rfl rfl rfl hc i _ s' _ H' (fun _ _ => False) pinD (fp1 fr' npl) st' go) fun r s4 ⟨u, hr, h4⟩ => ?_
      subst hr
      refine thn h4 fun _ s5 ⟨y, H5, I5, r5, y5, st5, fr5⟩ => ?_
      have I5' := I5.pinned (fp1 fr5 npl) (T.obj _ _ st5)
      have q5 := step y H5 y5
      refine wpAny_assign_Name (store_ok (X := X') (i := 0) (x := x) (v := y) I5' ok.nd rfl (.inl (lookup_relabel_local ok.xl)) r5 (fun s6 I6 => ?_) (.inr (lookup_relabel_local ok.xl)))
      have I6 : Inv X' _ (inner σ js (some y)) H5 s6 := I6
      refine thn (ht cl C fp s₂ H2 _ s6 _ H5 _ I6 q5) fun b s7 ⟨H7, I7, q7⟩ => ?_
      have stay : ∀ {H8 : Hp} {s8 : Shared}, Inv X' ([(D, { cls := .type "list", data := .seq its.toArray k })] ++ pinsAt fp s5.heap) (inner σ js (some y)) H8 s8 →
          Inv X' [] (inner σ js none) H8 s8 ∧ tn (i + 1) s8.heap ∧ (∀ b ∈ fp, H8 b = none) ∧ H8 D = none ∧ s8.heap.get? D = some { cls := .type "list", data := .seq its.toArray k } := fun {H8 s8} I8 => by
        have pD := I8.pin (D, { cls := .type "list", data := .seq its.toArray k }) (by show _ ∈ [] ++ ([_] ++ _); simp)
        refine ⟨(I8.weak (by simp [inner]) fun j v e => ?_).pins_of fun p hp => (nomatch hp), T.keep _ _ _ st5 fun b hb o e => (I8.pin (b, o) (by show _ ∈ [] ++ ([_] ++ _); simp; exact .inr (mem_pinsAt hb e))).1, fun b hb => ?_, pD.2.1, pD.1⟩
        · cases j with
          | zero => simp [inner] at e
          | succ j => exact e
        · obtain ⟨o, e, d⟩ := T.obj _ _ st5 b hb
          exact (I8.pin (b, o) (by show _ ∈ [] ++ ([_] ++ _); simp; exact .inr (mem_pinsAt hb e))).2.1
      cases b with
      | false =>
        rw [if_neg Bool.false_ne_true]
        rw [if_neg Bool.false_ne_true] at q7
        obtain ⟨m', hm, w'⟩ := q7
        obtain ⟨J1, J2, J3, J4, J5⟩ := stay I7
        exact ⟨m', hm, i + 1, ys, its, k, H7, J1, J2, J3, J4, rv, hz, J5, w'⟩
      | true =>
        rw [if_pos rfl]
        rw [if_pos rfl] at q7
        refine thn (he cl C fp s₂ H2 _ s7 _ H7 _ I7 q7) fun uv s8 ⟨v, H8, I8, r8, m', hm, w'⟩ => ?_
        obtain ⟨J1, J2, J3, J4, J5⟩ := stay I8
        refine append_at (hsz := by rw [List.size_toArray, ← rv.length]; exact hz) J5 fun h9 sb9 ho9 => ?_
        have I9 : Inv X' [] (inner σ js none) H8 { s8 with heap := h9 } := J1.turned (t' := s8.toks) (fun b o hb e => (sb9.2 b hb).trans e) J4 hDC (.inr (Nat.le_of_eq hD)) (fun y c e => ne_nat (.inl (cells_lt y c e))) fun p hp => (nomatch hp)
        refine ⟨m', hm, i + 1, ys ++ [v], its ++ [uv], k + 1, H8, I9, T.keep _ _ _ J2 fun b hb o e => (sb9.2 b (fun z => Dfp (z ▸ hb))).trans e, J3, J4, rv.append (.cons r8 .nil), by rw [List.length_append]; exact hlt, ho9.trans (by simp), w'⟩
  exact codeAny_compStart_list (loop _ rfl) (T.self X.A 0 _ _ _ (T.keep _ _ _ st0 fun b _ o e => old b o e) (loop _ rfl))
theorem pe_comp (hc : X.calm = true) (hi : PI X (.Name x px) iter wi) (hfv : Fv X scope fvn js) (ok : CompOk X x fvn scope)
    (ht : ∀ cl C ex s H, PTs (compCx X x fvn scope cl C ex s H) ifs tc) (he : ∀ cl C ex s H, PE (compCx X x fvn scope cl C ex s H) elt te)
    (hs : ∀ x, foldedSetIterable iter X.env x = pure x := by intro _; rfl) : PE X (.ListComp elt [⟨.Name x px, iter, ifs, 0⟩] scope pos) (tComp wi js tc te) := by
  intro pins s σ H Q I h
  rw [eval_ListComp]
  refine wpAny_comprehension_free (use := none) rfl hs (closure_drawn fun y hy e => I.ok.has _ (hfv.mem (ok.free y hy e))) ok.kind ok.names (thn (hi pins s σ H _ I h) fun v s1 h1 => thn h1 fun itv s2 h2 => ?_)
  obtain ⟨it, fp, tn, J, H2, rfl, I2, T, st2, f2, W, w0, turn⟩ := h2
  refine comp_core rfl hc hfv ok ht he (Q := Q) (RR := fun acc C => compPost (model X.prog X.w) X.A X.xe none (EP X pins σ Q) acc C) I2 T st2 f2 W w0 turn ?_
  intro D C m s' H' hn IX fC q
  exact ⟨m, hn, fun h' hs' => ⟨.ref D, H', IX.turned (t' := s'.toks) (fun b o hb e => (hs'.2 b hb).trans e) fC.1 fC.2.1 fC.2.2.2.1 fC.2.2.2.2.1 fC.2.2.2.2.2, rfl, q⟩⟩
theorem ps_comp {i : Nat} {y : Str} {py spos : Pos} (hN : X.N.Nodup) (hiN : X.N[i]? = some y) (hy : Loc X.env.scope y) (hc : X.calm = true) (hi : PI X (.Name x px) iter wi) (hfv : Fv X scope fvn js) (ok : CompOk X x fvn scope)
    (ht : ∀ cl C ex s H, PTs (compCx X x fvn scope cl C ex s H) ifs tc) (he : ∀ cl C ex s H, PE (compCx X x fvn scope cl C ex s H) elt te)
    (hsw : swapsWith (.ListComp elt [⟨.Name x px, iter, ifs, 0⟩] scope pos) (some (.Name y py)) spos.line X.env = pure true := by rfl)
    (hs : ∀ x, foldedSetIterable iter X.env x = pure x := by intro _; rfl) (hf : X.fn y = true ∨ X.env.scope.names.lookup y = some .local := by first | exact .inl rfl | exact .inr rfl | assumption) :
    PS X (.Assign [.Name y py] (.ListComp elt [⟨.Name x px, iter, ifs, 0⟩] scope pos) spos) (tAsg (tComp wi js tc te) (gName i)) := by
  intro pins s σ H D I h
  rw [exec_Assign_Name_used _ _ _ _ hsw]
  refine wpAny_bind (wpAny_standAt (wpAny_bind ?_))
  show wpAny _ X.A (do let _ ← comprehension (.ListComp elt [⟨.Name x px, iter, ifs, 0⟩] scope pos) scope X.env _ (newList []) false (eval iter X.env) (some (assign (.Name y py) X.env))) _ _ s
  refine wpAny_bind (thn (wpAny_comprehension_free (use := some (assign (.Name y py) X.env)) (Q := fun _ s' => SP X pins D .next s') rfl hs (closure_drawn fun y hy e => I.ok.has _ (hfv.mem (ok.free y hy e))) ok.kind ok.names
    (thn (hi pins s σ H _ I h) fun v s1 h1 => thn h1 fun itv s2 h2 => ?_)) fun _ s' hq => wpAny_pure (wpAny_pure hq))
  obtain ⟨it, fp, tn, J, H2, rfl, I2, T, st2, f2, W, w0, turn⟩ := h2
  refine comp_core rfl hc hfv ok ht he (Q := fun v H' => gName i v σ H' D.nx) (RR := fun acc C => compPost (model X.prog X.w) X.A X.xe (some (assign (.Name y py) X.env)) (fun _ s' => SP X pins D .next s') acc C) I2 T st2 f2 W w0 turn ?_
  intro L C m s' H' hn IX fC q
  show wpAny _ X.A (assign (.Name y py) X.env (.ref L)) _ _ s'
  refine wpAny_assign_Name (store_ok2 IX hN hiN hy (v := .ref L) rfl (fun s'' I'' ⟨a, sb, ha⟩ => ?_) hf)
  have hCa : C ≠ a := by
    rcases ha with z | z
    · rw [z]; exact fC.2.1
    · exact fun e => fC.2.2.2.2.1 _ _ z e.symm
  refine ⟨m, hn.sameBut sb hCa, fun h3 hs3 => ?_⟩
  exact ⟨_, H', I''.turned (t' := s''.toks) (fun b o hb e => (hs3.2 b hb).trans e) fC.1 fC.2.1 fC.2.2.2.1 fC.2.2.2.2.1 fC.2.2.2.2.2, q⟩
end
end L2
namespace L2
open PySem PySem.Spec PyProof.Rows
theorem bt_int : bootBuiltins "int" = some (.type "int") := by decide +kernel
theorem bt_bool : bootBuiltins "bool" = some (.type "bool") := by decide +kernel
theorem bt_list : bootBuiltins "list" = some (.type "list") := by decide +kernel
theorem bt_tuple : bootBuiltins "tuple" = some (.type "tuple") := by decide +kernel
theorem bt_isinstance : bootBuiltins "isinstance" = some (.builtin "isinstance") := by decide +kernel
theorem bt_abs : bootBuiltins "abs" = some (.builtin "abs") := by decide +kernel
theorem bt_max : bootBuiltins "max" = some (.builtin "max") := by decide +kernel
section
variable {X : Cx}
theorem pe_ty {x : Str} {n : String} {pos : Pos} (hm : X.mg x = none) (hv : bootBuiltins x = some (.type n)) (hg : Gl X x := by rfl) (hn : x ≠ "__name__" := by decide) (hd : (x == ("__debug__" : Str)) = false := by decide) : PE X (.Name x pos) (tC (.ty n)) := pe_bltn hg hm hv rfl hn hd
inductive Ty where
  | non | bl | int | str | lst | tup
  deriving DecidableEq
def Ty.name : Ty → String
  | .non => "NoneType" | .bl => "bool" | .int => "int" | .str => "str" | .lst => "list" | .tup => "tuple"
def Ty.isa (a b : Ty) : Bool := decide (a = b) || (decide (a = .bl) && decide (b = .int))
theorem kit_ty (K : PySem.W.Frag) (a b : Ty) : PySem.W.kitOne K (.type a.name) (.type b.name) = some (a.isa b) := by
  cases a <;> cases b <;> rfl
def TyIs (H : Hp) : V → Ty → Prop
  | .non, .non => True
  | .bl _, .bl => True
  | .int _, .int => True
  | .str _, .str => True
  | .ref a, .lst => ∃ xs, Rd H a (.lst xs)
  | .ref a, .tup => ∃ xs, H a = some (.tup xs)
  | _, _ => False
theorem kitx_at {pins : List (Addr × Obj)} {σ : St} {H : Hp} {s : Shared} {x : V} {u : Value} {a : Ty} (I : Inv X pins σ H s) (rx : RelV x u) (ty : TyIs H x a) :
    ∃ P : Heap → Prop, PySem.W.KitX X.K u (.type a.name) P ∧ P s.heap ∧ u ≠ .builtin "__main__.__loader__#opaque" := by
  cases x with
  | non => cases a <;> first | exact ty.elim | (cases (show u = Value.none from rx); exact ⟨_, PySem.W.kitx_none, True.intro, fun z => nomatch z⟩)
  | bl y => cases a <;> first | exact ty.elim | (cases (show u = Value.bool y from rx); exact ⟨_, PySem.W.kitx_bool, True.intro, fun z => nomatch z⟩)
  | int i => cases a <;> first | exact ty.elim | (obtain ⟨t, q⟩ := (show ∃ t, u = Value.int i t from rx); cases q; exact ⟨_, PySem.W.kitx_int, True.intro, fun z => nomatch z⟩)
  | str y => cases a <;> first | exact ty.elim | (obtain ⟨t, q⟩ := (show ∃ t, u = Value.str y t from rx); cases q; exact ⟨_, PySem.W.kitx_str, True.intro, fun z => nomatch z⟩)
  | ref p =>
    cases (show u = Value.ref p from rx)
    cases a with
    | lst =>
      obtain ⟨xs, e⟩ := ty
      obtain ⟨_, _, n, _, h1⟩ := (show ObjOk X.prog X.w H s.heap p (.lst xs) from e.ok I.hok)
      exact ⟨_, PySem.W.kitx_list, ⟨_, h1, rfl⟩, fun z => nomatch z⟩
    | tup =>
      obtain ⟨xs, e⟩ := ty
      obtain ⟨_, _, _, pp⟩ := (show ObjOk X.prog X.w H s.heap p (.tup xs) from I.hok p _ e)
      obtain ⟨o, h1, h2, _⟩ := pp
      exact ⟨_, PySem.W.kitx_tuple, ⟨o, h1, h2⟩, fun z => nomatch z⟩
    | _ => exact ty.elim
  | _ => cases a <;> exact ty.elim
theorem call_isi : CallR X (.builtin "isinstance") (fun xs H Q => ∃ x a b, xs = [x, .ty (Ty.name b)] ∧ TyIs H x a ∧ Q (.bl (a.isa b)) H) := by
  intro pins s σ H xs us Q I r h
  obtain ⟨x, a, b, rfl, ty, q⟩ := h
  obtain ⟨u, w', rfl, ru, rw'⟩ := vals2 r
  cases (show w' = Value.type _ from rw')
  obtain ⟨P, Z, p, nb⟩ := kitx_at I ru ty
  exact PySem.W.kia_one Z I.kIn p (kit_ty _ a b) nb fun tk => ⟨.bl _, H, I.tok tk, rfl, q⟩
theorem kit_any (K : PySem.W.Frag) (a : Ty) : ∀ bs : List Ty, PySem.W.kitAny K (.type a.name) (bs.map fun b : Ty => Value.type b.name) = some (bs.any a.isa)
  | [] => rfl
  | b :: r => by
    show (match PySem.W.kitOne K (.type a.name) (.type b.name) with | some true => some true | some false => PySem.W.kitAny K (.type a.name) (r.map fun b : Ty => Value.type b.name) | none => none) = _
    rw [kit_ty, kit_any K a r, List.any_cons]
    cases a.isa b <;> rfl
theorem vals_tys : ∀ {bs : List Ty} {us : List Value}, Vals (bs.map fun b : Ty => V.ty b.name) us → us = bs.map fun b : Ty => Value.type b.name
  | [], _, .nil => rfl
  | b :: r, u :: us, .cons q t => by
    cases (show u = Value.type _ from q)
    rw [vals_tys (bs := r) t]; rfl
theorem call_isiT : CallR X (.builtin "isinstance") (fun xs H Q => ∃ (x : V) (p : Addr) (a : Ty) (bs : List Ty), xs = [x, .ref p] ∧ H p = some (.tup (bs.map fun b : Ty => V.ty b.name)) ∧ TyIs H x a ∧ Q (.bl (bs.any (Ty.isa a))) H) := by
  intro pins s σ H xs us Q I r h
  obtain ⟨x, p, a, bs, rfl, hp, ty, q⟩ := h
  obtain ⟨u, w', rfl, ru, rw'⟩ := vals2 r
  cases (show w' = Value.ref p from rw')
  obtain ⟨P, Z, pp, nb⟩ := kitx_at I ru ty
  obtain ⟨_, its, rv, o, h1, h2, n, h3⟩ := (show ObjOk X.prog X.w H s.heap p (.tup _) from I.hok p _ hp)
  obtain ⟨c, dd, dt, sl⟩ := o
  cases (show c = _ from h2)
  cases (show dt = _ from h3)
  have e := vals_tys rv
  subst e
  exact PySem.W.kia_tup Z I.kIn pp h1 (kit_any _ a bs) nb fun tk => ⟨.bl _, H, I.tok tk, rfl, q⟩
def eqVs : List V → List V → Bool
  | [], [] => true
  | x :: xs, y :: ys => eqV x y && eqVs xs ys
  | _, _ => false
theorem eqVs_len : ∀ {xs ys : List V}, xs.length ≠ ys.length → eqVs xs ys = false
  | [], [], h => absurd rfl h
  | [], _ :: _, _ => rfl
  | _ :: _, [], _ => rfl
  | x :: xs, y :: ys, h => by
    have : xs.length ≠ ys.length := fun e => h (by simp [e])
    simp [eqVs, eqVs_len this]
theorem eqVs_all : ∀ {xs ys : List V}, xs.length = ys.length → ((List.range xs.length).all fun j => eqV (xs.getD j .non) (ys.getD j .non)) = eqVs xs ys
  | [], [], _ => rfl
  | x :: xs, y :: ys, h => by
    have h' : xs.length = ys.length := by simpa using h
    rw [List.length_cons, List.range_succ_eq_map, List.all_cons, List.all_map, eqVs, ← eqVs_all h']
    rfl
def LCmp (K : PySem.W.Frag) (H : Hp) (x y : V) (k : Bool) : Prop :=
  ∃ a b xs ys, x = .ref a ∧ y = .ref b ∧ SqL K H a xs ∧ SqL K H b ys ∧ ((ys = [] ∧ k = xs.isEmpty) ∨ (xs.all flatV = true ∧ ys.all flatV = true ∧ k = eqVs xs ys))
theorem rc_lists {pins : List (Addr × Obj)} {σ : St} {H : Hp} {s : Shared} {x y : V} {v u : Value} {k : Bool} (hu : X.A.units < cLine) (I : Inv X pins σ H s) (rx : RelV x v) (ry : RelV y u) (h : LCmp X.K H x y k) :
    SeqAt.RcAt X.A s v u k ∧ SeqAt.RcNeAt X.A s v u (!k) := by
  obtain ⟨a, b, xs, ys, rfl, rfl, hx, hy, hk⟩ := h
  cases (show v = Value.ref a from rx)
  cases (show u = Value.ref b from ry)
  obtain ⟨its, r1, p1, z1⟩ := I.list hx
  obtain ⟨its2, r2, p2, z2⟩ := I.list hy
  have l1 := r1.length
  have l2 := r2.length
  by_cases hl : xs.length = ys.length
  · have hsz : its.toArray.size = its2.toArray.size := by simp; omega
    have he : ∀ j (h1 : j < its.toArray.size) (h2 : j < its2.toArray.size), SeqAt.EqAt X.A.in1 s its.toArray[j] its2.toArray[j] (eqV (xs.getD j .non) (ys.getD j .non)) := by
      intro j h1 h2
      have h1' : j < its.length := by simpa using h1
      have h2' : j < its2.length := by simpa using h2
      rcases hk with ⟨e, _⟩ | ⟨f1, f2, _⟩
      · subst e; simp at l2; omega
      · have j1 : j < xs.length := by omega
        have j2 : j < ys.length := by omega
        obtain ⟨u1, e1, q1⟩ := r1.get (i := j) (x := xs[j]) (by simp [j1])
        obtain ⟨u2, e2, q2⟩ := r2.get (i := j) (x := ys[j]) (by simp [j2])
        have g1 : its.toArray[j] = u1 := by simp; rw [List.getElem?_eq_getElem h1'] at e1; exact Option.some.inj e1
        have g2 : its2.toArray[j] = u2 := by simp; rw [List.getElem?_eq_getElem h2'] at e2; exact Option.some.inj e2
        rw [g1, g2]
        have d1 : xs.getD j .non = xs[j] := by simp [j1]
        have d2 : ys.getD j .non = ys[j] := by simp [j2]
        rw [d1, d2]
        exact eqAt_V q1 q2 (List.all_eq_true.mp f1 _ (List.getElem_mem j1)) (List.all_eq_true.mp f2 _ (List.getElem_mem j2))
    have ek : (List.range its.toArray.size).all (fun j => eqV (xs.getD j .non) (ys.getD j .non)) = k := by
      have : its.toArray.size = xs.length := by simp [l1]
      rw [this, eqVs_all hl]
      rcases hk with ⟨e, e'⟩ | ⟨_, _, e'⟩
      · subst e
        have : xs = [] := List.length_eq_zero_iff.mp (by simpa using hl)
        subst this; rw [e']; rfl
      · exact e'.symm
    refine ⟨?_, ?_⟩
    · rw [← ek]; exact SeqAt.RcAt.lists p1.isList p2.isList hsz hu he
    · rw [← ek]; exact SeqAt.RcNeAt.lists p1.isList p2.isList hsz hu he
  · have hsz : (its.toArray.size != its2.toArray.size) = true := by
      rw [bne_iff_ne]; simp; omega
    have ek : k = false := by
      rcases hk with ⟨e, e'⟩ | ⟨_, _, e'⟩
      · subst e
        cases xs with
        | nil => exact absurd rfl hl
        | cons x xs => exact e'
      · rw [e', eqVs_len hl]
    subst ek
    exact ⟨SeqAt.RcAt.lists_lengths p1.isList p2.isList hsz hu, SeqAt.RcNeAt.lists_lengths p1.isList p2.isList hsz hu⟩
theorem op_eqL (hu : X.A.units < cLine) : OpR X (compareOp .Eq) (fun x y H Q => (∃ k, LCmp X.K H x y k ∧ Q (.bl k) H) ∨ (x = .non ∧ (∃ b ys, y = .ref b ∧ SqL X.K H b ys) ∧ Q (.bl false) H)) := by
  intro pins s σ H x y v u Q I rx ry h
  rcases h with ⟨k, c, q⟩ | ⟨rfl, ⟨b, ys, rfl, hy⟩, q⟩
  · exact (rc_lists hu I rx ry c).1 _ _ _ _ ⟨.bl k, H, I, rfl, q⟩
  · cases (show v = Value.none from rx)
    cases (show u = Value.ref b from ry)
    obtain ⟨its, r, p, z⟩ := I.list hy
    exact SeqAt.RcAt.none_list p.isList hu _ _ _ _ ⟨.bl false, H, I, rfl, q⟩
theorem op_neL (hu : X.A.units < cLine) : OpR X (compareOp .NotEq) (fun x y H Q => ∃ k, LCmp X.K H x y k ∧ Q (.bl (!k)) H) := by
  intro pins s σ H x y v u Q I rx ry h
  obtain ⟨k, c, q⟩ := h
  exact (rc_lists hu I rx ry c).2 _ _ _ _ ⟨.bl (!k), H, I, rfl, q⟩
section
open MeetsSeq MeetsSeq2 AutoSeq1
theorem extend_tuple (l : Addr) (items : Array Value) (n : Nat) (b : Addr) (items2 : Array Value) (n2 : Nat) (dd : Option Addr) (sl : Array (Option Value)) (hs0 : ¬(!items.isEmpty && Builtin.List.listTooLong (items.size + items2.size)) = true) (hs1 : items.size ≤ sizeLine) (hs2 : items.size + items2.size ≤ sizeLine + 1) :
    Meets (Builtin.«list.extend» ⟨[.ref l, .ref b], []⟩) (fun _ R s => s.heap.get? l = some { cls := .type "list", dict := none, data := .seq items n, slots := #[] } ∧ s.heap.get? b = some { cls := .type "tuple", dict := dd, data := .seq items2 n2, slots := sl } ∧ R (.ok (.ret Value.none)) { s with heap := s.heap.update l (Obj.mapSeq fun x => x ++ items2), toks := s.toks }) :=
  .of_wp fun prog w A R s h => by
    obtain ⟨hp, g, d, tk, os⟩ := s; obtain ⟨hl, hb, h⟩ := h; have f1 := PySem.AutoSeq1.idx_int; have f2 := PySem.AutoSeq1.sub_tuple_tuple; have f3 := PySem.AutoSeq1.sub_list_list; have f4 := PySem.AutoSeq1.sub_tuple_list; have f5 := PySem.AutoSeq1.sub_list_tuple;
    have hz' : (items ++ items2).size ≤ sizeLine + 1 := by rw [Array.size_append]; exact hs2
    wp_walk using (wpAny_updateSeq hl rfl (hz := hs1) (_hz' := hz')), PySem.AutoSeq1.wpAny_loadPart' hl, PySem.AutoSeq1.wpAny_loadPart' hb; exact ⟨_, rfl, h⟩
end
def rExtendLT : V → List V → Hp → VK → Prop := fun x vs H Q => ∃ l b xs zs, x = .ref l ∧ vs = [.ref b] ∧ H l = some (.lst xs) ∧ (H b = some (.lst zs) ∨ H b = some (.tup zs)) ∧ xs.length + zs.length ≤ sizeLine ∧ Q .non (upd H l (.lst (xs ++ zs)))
theorem mt_extendLT : MtM X "list.extend" rExtendLT := by
  intro pins s σ H x vs v us Q I rx rv h
  obtain ⟨l, b, xs, zs, rfl, rfl, hH, hB, hz, q⟩ := h
  rcases hB with hB | hB
  · exact mt_extend pins s σ H _ _ v us Q I rx rv ⟨l, b, xs, zs, rfl, rfl, hH, hB, hz, q⟩
  · cases rx
    obtain ⟨u, rfl, ru⟩ := rv.one
    cases ru
    obtain ⟨z, its, n, r, hl, e⟩ := I.lstM hH
    obtain ⟨z2, its2, r2, o, e2, c2, n2, d2⟩ := (show ObjOk X.prog X.w H s.heap b (.tup zs) from I.hok b _ hB)
    have hl2 := r2.length
    have hsz : its.toArray.size + its2.toArray.size ≤ sizeLine := by rw [List.size_toArray, List.size_toArray]; omega
    have hlong : ¬ (!its.toArray.isEmpty && Builtin.List.listTooLong (its.toArray.size + its2.toArray.size)) = true := by
      rw [notLongL hsz, Bool.and_false]
      exact Bool.false_ne_true
    refine call_meets F.slot_list_extend ⟨_, e, rfl⟩ F.entry_list_extend (F.args_list_extend_2 _ _)
      (extend_tuple l its.toArray n b its2.toArray n2 o.dict o.slots hlong (by rw [List.size_toArray]; omega) (by omega)) ⟨e, ?_, ?_⟩
    · obtain ⟨c, dd, dt, sl⟩ := o
      cases (show c = _ from c2)
      cases (show dt = _ from d2)
      exact e2
    · refine ⟨.non, _, I.lset (its' := its ++ its2) hH e (by simp) (r.append r2) ?_, rfl, q⟩
      rw [List.length_append]
      omega
structure Cal (P : Program) (w : World) (K : PySem.W.Frag) (mg : Str → Option Value) (base : Heap) (k : Nat) (x : Str) (ps : List Str) (sp : Sp) : Prop where
  ex : ∃ f fd, FnOk P w K mg base CX0 k f fd ps sp ∧ mg x = some (.ref f) ∧ PySem.W.keepIn K (.ref f) = true ∧ Binds K fd ps []
theorem pe_def {k m : Nat} {x : Str} {ps : List Str} {sp : Sp} {p pos : Pos} {e : Expr} {es : List Expr} {t : TA} (C : Cal X.prog X.w X.K X.mg X.base k x ps sp) (hr : Room m X.A) (hk : k ≤ m) (ha : PA X (e :: es) t) (hg : Gl X x := by rfl)
    (hdb : (x == ("__debug__" : Str)) = false := by decide) (he : starEach (e :: es) X.env = (false, eval e X.env) :: starEach es X.env := by rfl) (hpl : (backTo pos (starEach es X.env)).any (·.1) = false := by rfl) :
    PE X (.Call (.Name x p) (e :: es) [] pos) (tCall sp [] E0 t) := by
  obtain ⟨f, fd, F, hm, hkp, hb⟩ := C.ex
  exact pe_call F (hr.mono hk) hg hm hkp hb .nil pass0 ha hdb he hpl
end
structure Def (K : PySem.W.Frag) (mg : Str → Option Value) (x : Str) (st : Stmt) (ps : List Str) : Prop where
  ex : ∃ f fd, Fun K x x st f fd ∧ mg x = some (.ref f) ∧ Binds K fd ps []
theorem Def.cal {P : Program} {w : World} {K : PySem.W.Frag} {mg : Str → Option Value} {base : Heap} {x : Str} {st : Stmt} {N ps : List Str} {k : Nat} {sp : Sp} (D : Def K mg x st ps) (S : FnScope N ps (defScope st)) (len : ∀ vs H Q E, sp vs H Q E → vs.length = ps.length)
    (hbody : ∀ (f : Addr) (cdv : Value) (A : Around) (outer : List Env) (s : Shared) (H : Hp) (vs : List V) (Q : VK) (E : XK), Room k (A.deeper (envOfC x (defScope st) s.heap.objs.size f cdv)) → sp vs H Q E →
      ∃ t, PSs (cxOf CX0 P w K mg base N x (defScope st) f cdv A outer s H E).nox (defBody st) t ∧ t { nx := fun _ H' => Q .non H', rt := Q } (start N vs) H) : Cal P w K mg base (k + 1) x ps sp := by
  obtain ⟨f, fd, F, hm, hb⟩ := D.ex
  exact ⟨f, fd, F.ok S len (hbody f), hm, F.kp, hb⟩
theorem Cal.imp {P : Program} {w : World} {K : PySem.W.Frag} {mg : Str → Option Value} {base : Heap} {k : Nat} {x : Str} {ps : List Str} {sp sp' : Sp} (C : Cal P w K mg base k x ps sp) (h : ∀ vs H Q E, sp' vs H Q E → sp vs H Q E) : Cal P w K mg base k x ps sp' := by
  obtain ⟨f, fd, F, a, b, c⟩ := C.ex
  exact ⟨f, fd, F.imp h, a, b, c⟩
theorem hu0 {A : Around} {k : Nat} (hr : Room k A) : A.units < cLine := hr.units0
structure Blt (mg : Str → Option Value) : Prop where
  len_ : mg "len" = none
  abs_ : mg "abs" = none
  isinstance_ : mg "isinstance" = none
  int_ : mg "int" = none
  bool_ : mg "bool" = none
  list_ : mg "list" = none
  tuple_ : mg "tuple" = none
  str_ : mg "str" = none
  range_ : mg "range" = none
  max_ : mg "max" = none
  min_ : mg "min" = none
  sorted_ : mg "sorted" = none
  set_ : mg "set" = none
  enumerate_ : mg "enumerate" = none
  reversed_ : mg "reversed" = none
  any_ : mg "any" = none
end L2
namespace L2
open PySem PySem.Spec PyProof.Rows
theorem def_mk {K : PySem.W.Frag} {h : Heap} {mg : Str → Option Value} {x : Str} {st : Stmt} {ps : List Str} {f : Addr} {oc : Value} {od an : Option Addr} {osl : Array (Option Value)} {kV doc pm cdv ct : Value} (X : K.In h) (G : h.Ns mainGlobals mg)
    (a : PySem.W.nsIn K mainGlobals x = some (some (.ref f))) (l : K.lookup f = some ⟨oc, od, .func (PySem.W.fnOf x x (defArgs st) (defBody st) (defScope st) .none kV doc pm an cdv ct), osl⟩) (c : PySem.W.codeIn K cdv x = true) (k : PySem.W.keepIn K (.ref f) = true)
    (b : ∀ (kV doc pm : Value) (an : Option Addr) (cdv ct : Value) (us : List Value), us.length = ps.length → bindArgs (PySem.W.fnOf x x (defArgs st) (defBody st) (defScope st) .none kV doc pm an cdv ct) ⟨us, []⟩ = pure (ps.zip us)) : Def K mg x st ps :=
  ⟨f, _, fun_mk l c k, PySem.W.mg_of X G a, (fun_mk l c k).binds b⟩
end L2
namespace L2
open PySem PySem.Spec PyProof.Rows
theorem Same.upd {H H' : Hp} {l : Addr} {o : HO} (e : Same H H') (hl : H l = none) : Same H (L2.upd H' l o) := fun b u h => by
  rw [upd_ne (ne_of_none h hl)]; exact e b u h
theorem snoc_cases {α : Type} : ∀ l : List α, l = [] ∨ ∃ r x, l = r ++ [x]
  | [] => .inl rfl
  | a :: l => by
    rcases snoc_cases l with rfl | ⟨r, x, rfl⟩
    · exact .inr ⟨[], a, rfl⟩
    · exact .inr ⟨a :: r, x, rfl⟩
theorem len1 {v : V} : [v].length ≤ sizeLine := by show 1 ≤ sizeLine; decide
theorem len2 {v u : V} : [v, u].length ≤ sizeLine := by show 2 ≤ sizeLine; decide
theorem small6 {n : Nat} (h : n ≤ 16000000) : n < sizeLine := Nat.lt_of_le_of_lt h (by decide)
theorem small6' {n : Nat} (h : n ≤ 16000000) : n ≤ sizeLine := Nat.le_of_lt (small6 h)
theorem getV {α : Type} {f : α → V} {ns : List α} {i : Nat} {y : V} (h : (ns.map f)[i]? = some y) : ∃ n, ns[i]? = some n ∧ y = f n := by
  rw [List.getElem?_map] at h
  cases e : ns[i]? with
  | none => rw [e] at h; cases h
  | some n => rw [e] at h; exact ⟨n, rfl, (Option.some.inj h).symm⟩
inductive D where
  | non | bl (b : Bool) | int (i : Int) | str (x : Str) | lst (ds : List D) | tup (ds : List D)
mutual
def At (H : Hp) : D → V → Prop
  | .non, v => v = .non
  | .bl b, v => v = .bl b
  | .int i, v => v = .int i
  | .str x, v => v = .str x
  | .lst ds, v => ∃ a vs, v = .ref a ∧ H a = some (.lst vs) ∧ AtL H ds vs
  | .tup ds, v => ∃ a vs, v = .ref a ∧ H a = some (.tup vs) ∧ AtL H ds vs
def AtL (H : Hp) : List D → List V → Prop
  | [], vs => vs = []
  | d :: ds, vs => ∃ v r, vs = v :: r ∧ At H d v ∧ AtL H ds r
end
mutual
theorem At.mono {H H' : Hp} (e : Same H H') : ∀ {d : D} {v : V}, At H d v → At H' d v
  | .non, _, h => by unfold At at h ⊢; exact h
  | .bl _, _, h => by unfold At at h ⊢; exact h
  | .int _, _, h => by unfold At at h ⊢; exact h
  | .str _, _, h => by unfold At at h ⊢; exact h
  | .lst ds, _, h => by
    unfold At at h ⊢
    obtain ⟨a, vs, h1, h2, h3⟩ := h
    exact ⟨a, vs, h1, e _ _ h2, AtL.mono e h3⟩
  | .tup ds, _, h => by
    unfold At at h ⊢
    obtain ⟨a, vs, h1, h2, h3⟩ := h
    exact ⟨a, vs, h1, e _ _ h2, AtL.mono e h3⟩
theorem AtL.mono {H H' : Hp} (e : Same H H') : ∀ {ds : List D} {vs : List V}, AtL H ds vs → AtL H' ds vs
  | [], _, h => by unfold AtL at h ⊢; exact h
  | d :: ds, _, h => by
    unfold AtL at h ⊢
    obtain ⟨v, r, h1, h2, h3⟩ := h
    exact ⟨v, r, h1, At.mono e h2, AtL.mono e h3⟩
end
theorem AtL.nil {H : Hp} : AtL H [] [] := by unfold AtL; rfl
theorem AtL.cons {H : Hp} {d : D} {ds : List D} {v : V} {vs : List V} (h : At H d v) (hs : AtL H ds vs) : AtL H (d :: ds) (v :: vs) := by
  unfold AtL; exact ⟨v, vs, rfl, h, hs⟩
theorem AtL.append {H : Hp} : ∀ {ds es : List D} {vs us : List V}, AtL H ds vs → AtL H es us → AtL H (ds ++ es) (vs ++ us)
  | [], _, _, _, h, h' => by unfold AtL at h; subst h; exact h'
  | d :: ds, _, _, _, h, h' => by
    unfold AtL at h
    obtain ⟨v, r, rfl, h1, h2⟩ := h
    exact AtL.cons h1 (AtL.append h2 h')
theorem AtL.length {H : Hp} : ∀ {ds : List D} {vs : List V}, AtL H ds vs → ds.length = vs.length
  | [], _, h => by unfold AtL at h; subst h; rfl
  | d :: ds, _, h => by
    unfold AtL at h
    obtain ⟨v, r, rfl, h1, h2⟩ := h
    simp [AtL.length h2]
theorem AtL.last {H : Hp} : ∀ {ds : List D} {vs : List V} {d : D}, AtL H (ds ++ [d]) vs → ∃ r v, vs = r ++ [v] ∧ AtL H ds r ∧ At H d v
  | [], vs, d, h => by
    rw [List.nil_append] at h
    unfold AtL at h
    obtain ⟨v, r, rfl, h1, h2⟩ := h
    unfold AtL at h2; subst h2
    exact ⟨[], v, rfl, AtL.nil, h1⟩
  | e :: ds, vs, d, h => by
    rw [List.cons_append] at h
    unfold AtL at h
    obtain ⟨v, r, rfl, h1, h2⟩ := h
    obtain ⟨r', v', rfl, h3, h4⟩ := AtL.last h2
    exact ⟨v :: r', v', rfl, AtL.cons h1 h3, h4⟩
def dInts (ns : List Int) : List D := ns.map .int
theorem AtL.ofInts {H : Hp} (ns : List Int) : AtL H (L2.dInts ns) (ns.map V.int) := by
  induction ns with
  | nil => exact AtL.nil
  | cons n r ih => exact AtL.cons (by unfold At; rfl) ih
theorem At.ofInts {H : Hp} {a : Addr} {ns : List Int} (h : H a = some (.lst (ns.map V.int))) : At H (.lst (L2.dInts ns)) (.ref a) := by
  unfold At; exact ⟨a, _, rfl, h, AtL.ofInts ns⟩
mutual
def D.size : D → Nat
  | .lst ds => 1 + sizes ds
  | .tup ds => 1 + sizes ds
  | .non => 1
  | .bl _ => 1
  | .int _ => 1
  | .str _ => 1
def sizes : List D → Nat
  | [] => 0
  | d :: ds => d.size + sizes ds
end
mutual
def D.plain : D → Bool
  | .str _ => false
  | .lst ds => plains ds
  | .tup ds => plains ds
  | .non => true
  | .bl _ => true
  | .int _ => true
def plains : List D → Bool
  | [] => true
  | d :: ds => d.plain && plains ds
end
theorem sizes_append : ∀ (ds es : List D), sizes (ds ++ es) = sizes ds + sizes es
  | [], es => by simp [sizes]
  | d :: ds, es => by rw [List.cons_append, sizes, sizes, sizes_append ds es]; omega
theorem plains_append : ∀ (ds es : List D), plains (ds ++ es) = (plains ds && plains es)
  | [], es => by simp [plains]
  | d :: ds, es => by rw [List.cons_append, plains, plains, plains_append ds es, Bool.and_assoc]
theorem length_sizes : ∀ (ds : List D), ds.length ≤ sizes ds
  | [] => Nat.zero_le _
  | d :: ds => by
    have h := length_sizes ds
    have h1 : 1 ≤ d.size := by cases d <;> simp [D.size] <;> omega
    rw [List.length_cons, sizes]; omega
theorem sizes_ints (ns : List Int) : sizes (dInts ns) = ns.length := by
  induction ns with
  | nil => rfl
  | cons n r ih => show (D.int n).size + sizes (dInts r) = _; rw [ih, D.size, List.length_cons]; omega
theorem plains_ints (ns : List Int) : plains (dInts ns) = true := by
  induction ns with
  | nil => rfl
  | cons n r ih => show ((D.int n).plain && plains (dInts r)) = _; rw [ih]; rfl
end L2
namespace L2
open PySem PySem.Spec PyProof.Rows
abbrev CompW (J : It) (σ : St) (js : List Nat) (tc : TT) (te : TE) (Q : VK) (H1 : Hp) : Prop := ∃ W : Nat → Nat → List V → Hp → Prop, (∃ m, W 0 m [] H1) ∧ ∀ i m ys H, W i m ys H →
  (J.stop i H ∧ ∀ l, H l = none → Q (.ref l) (upd H l (.lst ys))) ∨
  (J.go i H ∧ ys.length < sizeLine ∧ ∀ x H', J.yld i H x H' → tc (inner σ js (some x)) H' fun b H2 =>
    if b = true then te (inner σ js (some x)) H2 fun v H3 => ∃ m', m' < m ∧ W (i + 1) m' (ys ++ [v]) H3 else ∃ m', m' < m ∧ W (i + 1) m' ys H2)
theorem comp_list {K : PySem.W.Frag} {a : Addr} {xs : List V} {σ : St} {js : List Nat} {tc : TT} {te : TE} {Q : VK} {H : Hp} (Pv : Nat → List V → Hp → Prop) (h0 : Pv 0 [] H) (hz : xs.length ≤ sizeLine)
    (hl : ∀ i ys H, i ≤ xs.length → Pv i ys H → SqL K H a xs)
    (hs : ∀ i x ys H (N : List V → Hp → Prop), xs[i]? = some x → ys.length ≤ i → Pv i ys H → (∀ ys' H', Pv (i + 1) ys' H' → ys'.length ≤ i + 1 → N ys' H') →
      tc (inner σ js (some x)) H fun b H2 => if b = true then te (inner σ js (some x)) H2 fun v H3 => N (ys ++ [v]) H3 else N ys H2)
    (hd : ∀ ys H, Pv xs.length ys H → ∀ l, H l = none → Q (.ref l) (upd H l (.lst ys))) : CompW (Itl K a) σ js tc te Q H := by
  refine ⟨fun i m ys H => m = xs.length - i ∧ i ≤ xs.length ∧ ys.length ≤ i ∧ Pv i ys H, ⟨xs.length, by simp, Nat.zero_le _, Nat.le_refl _, h0⟩, ?_⟩
  rintro i m ys H ⟨rfl, hi, hy, p⟩
  have q := hl i ys H hi p
  by_cases hlt : i < xs.length
  · refine .inr ⟨⟨xs, xs[i], q, by simp [hlt]⟩, by omega, fun x H' y => ?_⟩
    obtain ⟨e, y⟩ := y
    subst e
    exact hs i x ys _ (fun ys' H' => ∃ m', m' < xs.length - i ∧ m' = xs.length - (i + 1) ∧ i + 1 ≤ xs.length ∧ ys'.length ≤ i + 1 ∧ Pv (i + 1) ys' H') (y xs q) hy p fun ys' H' p' l' => ⟨_, by omega, rfl, hlt, l', p'⟩
  · have e : i = xs.length := by omega
    subst e
    exact .inl ⟨⟨xs, q, Nat.le_refl _⟩, hd ys H p⟩
theorem comp_range {lo : Int} {n : Nat} {σ : St} {js : List Nat} {tc : TT} {te : TE} {Q : VK} {H : Hp} (Pv : Nat → List V → Hp → Prop) (h0 : Pv 0 [] H) (hz : n ≤ sizeLine)
    (hs : ∀ i ys H (N : List V → Hp → Prop), i < n → ys.length ≤ i → Pv i ys H → (∀ ys' H', Pv (i + 1) ys' H' → ys'.length ≤ i + 1 → N ys' H') →
      tc (inner σ js (some (.int (lo + i)))) H fun b H2 => if b = true then te (inner σ js (some (.int (lo + i)))) H2 fun v H3 => N (ys ++ [v]) H3 else N ys H2)
    (hd : ∀ ys H, Pv n ys H → ∀ l, H l = none → Q (.ref l) (upd H l (.lst ys))) : CompW (Itr lo n) σ js tc te Q H := by
  refine ⟨fun i m ys H => m = n - i ∧ i ≤ n ∧ ys.length ≤ i ∧ Pv i ys H, ⟨n, by simp, Nat.zero_le _, Nat.le_refl _, h0⟩, ?_⟩
  rintro i m ys H ⟨rfl, hi, hy, p⟩
  by_cases hlt : i < n
  · refine .inr ⟨hlt, by omega, fun x H' y => ?_⟩
    obtain ⟨e, y⟩ := y
    subst e y
    exact hs i ys _ (fun ys' H' => ∃ m', m' < n - i ∧ m' = n - (i + 1) ∧ i + 1 ≤ n ∧ ys'.length ≤ i + 1 ∧ Pv (i + 1) ys' H') hlt hy p fun ys' H' p' l' => ⟨_, by omega, rfl, hlt, l', p'⟩
  · have e : i = n := by omega
    subst e
    exact .inl ⟨Nat.le_refl _, hd ys H p⟩
theorem comp_pure {K : PySem.W.Frag} {a : Addr} {α : Type} {xs : List α} {g : α → V} {σ : St} {js : List Nat} {tc : TT} {te : TE} {Q : VK} {H : Hp} (p : α → Bool) (f : α → V) (hz : xs.length ≤ sizeLine) (hl : SqL K H a (xs.map g))
    (ht : ∀ x ∈ xs, ∀ R : Bool → Hp → Prop, R (p x) H → tc (inner σ js (some (g x))) H R) (he : ∀ x ∈ xs, p x = true → ∀ R : VK, R (f x) H → te (inner σ js (some (g x))) H R)
    (hd : ∀ l, H l = none → Q (.ref l) (upd H l (.lst ((xs.filter p).map f)))) : CompW (Itl K a) σ js tc te Q H := by
  refine comp_list (xs := xs.map g) (fun i ys H' => H' = H ∧ ys = ((xs.take i).filter p).map f) ⟨rfl, by simp⟩ (by simpa using hz) (fun i ys H' _ e => by rw [e.1]; exact hl) ?_ ?_
  · rintro i x ys _ N hx hy ⟨rfl, rfl⟩ hN
    obtain ⟨n, hn, rfl⟩ := getV hx
    have hm := List.mem_of_getElem? hn
    refine ht n hm _ ?_
    have e1 : (xs.take (i + 1)).filter p = (xs.take i).filter p ++ (if p n then [n] else []) := take_succ_filter p xs i n hn
    cases hp : p n with
    | true =>
      rw [if_pos rfl]
      refine he n hm hp _ (hN _ _ ⟨rfl, ?_⟩ (by simpa using hy))
      rw [e1, hp]; simp
    | false =>
      rw [if_neg Bool.false_ne_true]
      refine hN _ _ ⟨rfl, ?_⟩ (by omega)
      rw [e1, hp]; simp
  · rintro ys _ ⟨rfl, rfl⟩ l h
    have := hd l h
    simpa using this
theorem comp_pureR {lo : Int} {n : Nat} {σ : St} {js : List Nat} {tc : TT} {te : TE} {Q : VK} {H : Hp} (p : Nat → Bool) (f : Nat → V) (hz : n ≤ sizeLine)
    (ht : ∀ i, i < n → ∀ R : Bool → Hp → Prop, R (p i) H → tc (inner σ js (some (.int (lo + i)))) H R) (he : ∀ i, i < n → p i = true → ∀ R : VK, R (f i) H → te (inner σ js (some (.int (lo + i)))) H R)
    (hd : ∀ l, H l = none → Q (.ref l) (upd H l (.lst (((List.range n).filter p).map f)))) : CompW (Itr lo n) σ js tc te Q H := by
  refine comp_range (fun i ys H' => H' = H ∧ ys = ((List.range i).filter p).map f) ⟨rfl, by simp⟩ hz ?_ ?_
  · rintro i ys _ N hi hy ⟨rfl, rfl⟩ hN
    refine ht i hi _ ?_
    have e1 : (List.range (i + 1)).filter p = (List.range i).filter p ++ (if p i then [i] else []) := by
      rw [List.range_succ, List.filter_append]
      cases hp : p i <;> simp [hp]
    cases hp : p i with
    | true =>
      rw [if_pos rfl]
      refine he i hi hp _ (hN _ _ ⟨rfl, ?_⟩ (by simpa using hy))
      rw [e1, hp]; simp
    | false =>
      rw [if_neg Bool.false_ne_true]
      refine hN _ _ ⟨rfl, ?_⟩ (by omega)
      rw [e1, hp]; simp
  · rintro ys _ ⟨rfl, rfl⟩ l h
    exact hd l h
section
variable {X : Cx}
end
end L2
namespace L2
open PySem PySem.Spec PyProof.Rows
section
variable {prog : Program} {w : World} {A : Around} {E : Value → Shared → Prop} {s : Shared}
end
section
variable {X : Cx} {e : Expr} {te : TE} {p1 p2 pos pos2 : Pos}
end
end L2
namespace L2
open PySem PySem.Spec PyProof.Rows
section
variable {X : Cx} {K : PySem.W.Frag}
theorem ix_tupK (hK : X.K = K) : IxR X (rIxT K) := hK ▸ ix_tup
theorem op_in_seqK (hK : X.K = K) : OpR X (compareOp .In) (rIn K false) := hK ▸ op_in_seq
theorem call_list_ofK (hK : X.K = K) : CallR X (.type "list") (fun xs H Q => ∃ p ys, xs = [.ref p] ∧ (SqL K H p ys ∨ SqT K H p ys) ∧ ∀ l, H l = none → Q (.ref l) (upd H l (.lst ys))) := hK ▸ call_list_of
end
end L2
namespace L2
open PySem PySem.Spec PyProof.Rows
theorem tcomp_list {K : PySem.W.Frag} {tl : TE} {js : List Nat} {tc : TT} {te : TE} {σ : St} {H : Hp} {Q : VK} (h : tl σ H fun x H1 => ∃ a, x = .ref a ∧ (∃ xs, SqL K H1 a xs) ∧ CompW (Itl K a) σ js tc te Q H1) : tComp (iList K tl) js tc te σ H Q := h
theorem tcomp_range2 {ta : TA} {js : List Nat} {tc : TT} {te : TE} {σ : St} {H : Hp} {Q : VK} (h : ta σ H fun vs H1 => ∃ i j : Int, vs = [.int i, .int j] ∧ (-(2 ^ 62) ≤ i ∧ i < 2 ^ 62 ∧ -(2 ^ 62) ≤ j ∧ j < 2 ^ 62) ∧ CompW (Itr i (j - i).toNat) σ js tc te Q H1) : tComp (iRng2 ta) js tc te σ H Q := h
end L2
namespace L2
open PySem PySem.Spec PyProof.Rows
theorem rd_seq {t u : TS} {D : Ends} {σ : St} {H : Hp} (h : t { D with nx := u D } σ H) : tSeq t u D σ H := h
theorem rd_asg {te : TE} {g : TG} {D : Ends} {σ : St} {H : Hp} (h : te σ H fun x H1 => g x σ H1 D.nx) : tAsg te g D σ H := h
theorem rd_ret {te : TE} {D : Ends} {σ : St} {H : Hp} (h : te σ H D.rt) : tRet te D σ H := h
end L2
namespace L2
open PySem PySem.Spec PyProof.Rows
section
variable {X : Cx}
variable {o e f : Expr} {td ty tx : TE} {apos cpos : Pos}
end
section
variable {X : Cx}
end
theorem bt_enumerate : bootBuiltins "enumerate" = some (.type "enumerate") := by decide +kernel
section
variable {X : Cx} {elts : List Expr} {k1} {tpos : Pos}
end
end L2
namespace L2
open PySem PySem.Spec PyProof.Rows
section
variable {P : Program} {w : World} {H H' : Hp} {h h' B : Heap} {fs : List Addr}
structure UnB (fs : List Addr) (H H' : Hp) (h B : Heap) : Prop where
  keep : ∀ b o, h.get? b = some o → H b = none → b ∉ fs → B.get? b = some o
  free : ∀ b o, h.get? b = some o → H b = none → H' b = none
  there : ∀ b o, h.get? b = some o → b ∉ fs → ∃ o', B.get? b = some o'
  tups : ∀ b xs, H b = some (.tup xs) → H' b = some (.tup xs)
  frzs : ∀ b o u, H b = some (.frz o u) → H' b = some (.frz o u)
  tbls : ∀ b ps, H b = some (.tbl ps) → ∃ more, H' b = some (.tbl (ps ++ more))
end
def Fly (P : Program) (w : World) : CXT := fun outer H s E e s' => ∃ (a C t : Addr) (H' : Hp) (B : Heap), e = .ref a ∧ s'.os = s.os ∧ AllBare s'.gens ∧ UnB (frs outer) H H' s.heap B ∧ HOk P w H' B ∧
  Heap.FlyingW B outer a (.ref C) (.ref t) s'.heap ∧ (∀ b o, b ∈ frs outer → s.heap.get? b = some o → ∃ sl, s'.heap.get? b = some { o with slots := sl }) ∧ E (.ref C) none H'
def Catches (base : Heap) (C D : Addr) : Prop := ∀ (M : Model) (A : Around) (E : Value → Shared → Prop) (s : Shared) (e : Addr) (oe : Obj) (Q : Bool → Shared → Prop), (∀ b o, base.get? b = some o → s.heap.get? b = some o) → s.heap.get? e = some oe → oe.cls = .ref C → Q true s →
  wpAny M A (excMatches (.ref e) (.ref D)) Q E s
structure CalX (P : Program) (w : World) (K : PySem.W.Frag) (mg : Str → Option Value) (base : Heap) (k : Nat) (x : Str) (ps : List Str) (sp : Sp) : Prop where
  ex : ∃ f fd, FnOk P w K mg base (Fly P w) k f fd ps sp ∧ mg x = some (.ref f) ∧ PySem.W.keepIn K (.ref f) = true ∧ Binds K fd ps []
theorem Fun.okX {P : Program} {w : World} {K : PySem.W.Frag} {mg : Str → Option Value} {base : Heap} {x qual : Str} {st : Stmt} {f : Addr} {fd : FuncData} {N ps : List Str} {k : Nat} {sp : Sp} (F : Fun K x qual st f fd) (S : FnScope N ps (defScope st)) (len : ∀ vs H Q E, sp vs H Q E → vs.length = ps.length)
    (hbody : ∀ (cdv : Value) (A : Around) (outer : List Env) (s : Shared) (H : Hp) (vs : List V) (Q : VK) (E : XK), Room k (A.deeper (envOfC qual (defScope st) s.heap.objs.size f cdv)) → sp vs H Q E →
      ∃ t, PSs (cxOf (Fly P w) P w K mg base N qual (defScope st) f cdv A outer s H E) (defBody st) t ∧ t { nx := fun _ H' => Q .non H', rt := Q } (start N vs) H) : FnOk P w K mg base (Fly P w) (k + 1) f fd ps sp := by
  obtain ⟨oc, od, kV, doc, pm, an, cdv, ct, osl, rfl, lk, hcd⟩ := F.ex
  exact fn_of lk hcd S len fun A outer s H vs Q E hr hsp => hbody cdv A outer s H vs Q E hr hsp
end L2
namespace L2
open PySem PySem.Spec PyProof.Rows
structure ExcKit (K : PySem.W.Frag) (C : Addr) : Prop where
  ga : PySem.W.findIn K (.ref C) "__getattribute__" = some (some (.builtin "BaseException.__getattribute__"))
  cl : PySem.W.findIn K (.ref C) "__class__" = some (some (.builtin "object.__class__"))
  sb : PySem.W.subIn K (.ref C) (.type "BaseException") = some true
  so : PySem.W.subIn K (.ref C) (.type "object") = some true
  ic : (PySem.W.clsIn K C).isSome = true
  na : PySem.W.findIn K (.ref C) "__getattr__" = some none
section
variable {prog : Program} {w : World} {A : Around} {E : Value → Shared → Prop} {h : Heap} {g : Array GenState} {d : Drawn} {t : Nat} {os : OsState} {a C : Addr} {o : Obj} {K : PySem.W.Frag} {bmB : List Value}
end
section
variable {X : Cx}
end
end L2
namespace L2
open PySem PySem.Spec PyProof.Rows
theorem ObjOk.there {P : Program} {w : World} {H : Hp} {h : Heap} {a : Addr} {o : HO} (x : ObjOk P w H h a o) : ∃ u, h.get? a = some u := by
  cases o with
  | lst xs => obtain ⟨_, _, _, _, e⟩ := x; exact ⟨_, e⟩
  | tup xs => obtain ⟨_, _, _, ob, e, _⟩ := x; exact ⟨_, e⟩
  | dK kvs => obtain ⟨_, _, _, _, o, _, _, e, _⟩ := x; exact ⟨_, e⟩
  | dT kvs => obtain ⟨_, _, _, _, o, _, _, e, _⟩ := x; exact ⟨_, e⟩
  | set S n => obtain ⟨o, _, _, _, e, _⟩ := x; exact ⟨_, e⟩
  | ins C dx fs => obtain ⟨_, _, _, e, _⟩ := x; exact ⟨_, e⟩
  | own y => obtain ⟨_, e⟩ := x; exact ⟨_, e⟩
  | xd fs => obtain ⟨_, ⟨_, _, _, e, _⟩, _⟩ := x; exact ⟨_, e⟩
  | rng lo hi => obtain ⟨_, _, _, e⟩ := x; exact ⟨_, e⟩
  | frz ob u => obtain ⟨e, _⟩ := x; exact ⟨_, e⟩
  | tbl ps => exact ⟨_, (show h.get? a = some _ from x)⟩
  | met f y => exact ⟨_, (show h.get? a = some _ from x)⟩
  | ext φ => obtain ⟨_, ⟨_, e⟩, _⟩ := x; exact ⟨_, e⟩
end L2
namespace L2
open PySem PySem.Spec PyProof.Rows
section
variable {X : Cx}
end
end L2
namespace L2
open PySem PySem.Spec PyProof.Rows
def Itrs (lo c : Int) (n : Nat) : It := ⟨fun i _ => i < n, fun i H x H' => H' = H ∧ x = .int (lo + i * c), fun i _ => n ≤ i⟩
theorem turn_ranges {P : Program} {w : World} {K : PySem.W.Frag} {tg : Expr} (it : Addr) (lo c : Int) (n : Nat) : Turn P w K tg (Itrs lo c n) [it] it (fun i h => IsRangeIter h it (lo + (i : Nat) * c) ((n : Int) - (i : Nat)) c) where
  mem := by simp
  obj := fun i h st b hb => by
    have e : b = it := by simpa using hb
    subst e
    exact ⟨_, st, fun v z => by
      have z' : Data.fields _ = Data.cell v := z
      cases z'⟩
  keep := fun i h h' st k => k it (by simp) _ st
  item := by
    intro X hP hw hK hc i pins s σ H E I hf st hg
    subst hP hw hK
    obtain ⟨f0, f1, f2, f3, f4, f5⟩ := hf it (by simp)
    have W := Walks.range (prog := X.prog) (w := X.w) (I.ok.hd hc) it lo c n
    refine W.item i s _ _ hg st fun v h' tk hv st' kk => ?_
    obtain ⟨t, rfl⟩ := hv
    have I1 : Inv X pins σ H { s with heap := h', toks := tk } := I.turned (fun b o hb e => kk b o (by simpa using hb) e) f0 f1 f3 f4 f5
    exact ⟨_, rfl, go_of (s := { s with heap := h', toks := tk }) (n := "range_iterator") st' rfl rfl (by decide) ⟨.int (lo + i * c), H, I1, ⟨t, rfl⟩, ⟨rfl, rfl⟩, st', fun b hb => (hf b hb).1⟩⟩
  done := by
    intro X hP hw hK hc i pins s σ H E I hf st hg
    subst hP hw hK
    obtain ⟨f0, f1, f2, f3, f4, f5⟩ := hf it (by simp)
    exact wpAny_pyNext_range_end (I.ok.hd hc) st (by have : n ≤ i := hg; omega) fun h' eb => ⟨rfl, I.turned (t' := s.toks) (fun b o hb e => eb b o hb e) f0 f1 f3 f4 f5⟩
  self := fun _ _ _ _ _ st h => wpAny_pyIter_rangeiter st h
def rngN (a b c : Int) : Nat := (Builtin.Range.rangeSize a b c).toNat
theorem rngN_down (a b : Int) : rngN a b (-1) = (a - b).toNat := by
  unfold rngN Builtin.Range.rangeSize
  simp only [show ¬ ((-1 : Int) > 0) by decide, if_false]
  split
  · have : (a - b - 1) / (- -1 : Int) = a - b - 1 := by rw [show (- -1 : Int) = 1 by decide, Int.ediv_one]
    rw [this]; omega
  · omega
theorem small_two {a b : Int} (ha : -(2 ^ 61) ≤ a) (ha' : a < 2 ^ 61) (hb : -(2 ^ 61) ≤ b) (hb' : b < 2 ^ 61) : Builtin.Range.small a b 2 = true := by
  unfold Builtin.Range.small
  unfold Builtin.Range.rangeSize
  simp only [Builtin.Range.rangeFitsLong, Bool.and_eq_true, Bool.or_eq_true, decide_eq_true_eq, beq_iff_eq, show (2 : Int) > 0 by decide, if_true]
  split <;> omega
theorem small_down {a b : Int} (ha : -(2 ^ 61) ≤ a) (ha' : a < 2 ^ 61) (hb : -(2 ^ 61) ≤ b) (hb' : b < 2 ^ 61) : Builtin.Range.small a b (-1) = true := by
  unfold Builtin.Range.small
  unfold Builtin.Range.rangeSize
  simp only [Builtin.Range.rangeFitsLong, Bool.and_eq_true, Bool.or_eq_true, decide_eq_true_eq, beq_iff_eq, show ¬ ((-1 : Int) > 0) by decide, if_false, show (- -1 : Int) = 1 by decide, Int.ediv_one]
  split <;> omega
section
variable {X : Cx} {tg : Expr}
theorem ranges_it {pins : List (Addr × Obj)} {σ : St} {H : Hp} {s : Shared} {R : It → Hp → Prop} {E : Value → Shared → Prop} {lo hi c : Int} {t u v : Tok} {tk : Nat} (I : Inv X pins σ H s) (hsm : Builtin.Range.small lo hi c = true) (hn : 0 ≤ Builtin.Range.rangeSize lo hi c)
    (q : R (Itrs lo c (rngN lo hi c)) H) : wpAny (model X.prog X.w) X.A (pyIter (.ref s.heap.objs.size)) (PIE X pins σ tg R) E { s with heap := s.heap.push { cls := .type "range", data := .fields #[.int lo t, .int hi u, .int c v] }, toks := tk } := by
  refine wpAny_pyIter_range (IsRange.new ..) hsm ?_
  have I1 : Inv X pins σ H { s with heap := s.heap.push { cls := .type "range", data := .fields #[.int lo t, .int hi u, .int c v] }, toks := tk } := I.kept fun b o e => Heap.get?_push_of_some _ e
  refine ⟨(s.heap.push { cls := .type "range", data := .fields #[.int lo t, .int hi u, .int c v] }).objs.size, [(s.heap.push { cls := .type "range", data := .fields #[.int lo t, .int hi u, .int c v] }).objs.size], _, _, H, rfl,
    I1.kept (t' := tk) fun b o e => Heap.get?_push_of_some _ e, turn_ranges _ lo c (rngN lo hi c), ?_, fun b hb => ?_, q⟩
  · have e1 : lo + ((0 : Nat) : Int) * c = lo := by simp
    have e2 : ((rngN lo hi c : Nat) : Int) - ((0 : Nat) : Int) = Builtin.Range.rangeSize lo hi c := by unfold rngN; omega
    show IsRangeIter _ _ (lo + ((0 : Nat) : Int) * c) (((rngN lo hi c : Nat) : Int) - ((0 : Nat) : Int)) c
    rw [e1, e2]
    exact Heap.get?_push_size _ rfl
  · have e : b = (s.heap.push { cls := .type "range", data := .fields #[.int lo t, .int hi u, .int c v] }).objs.size := by simpa using hb
    subst e
    exact I1.fpOk (Nat.le_refl _) (I1.hok.fresh (Nat.le_refl _))
def iRng3 (ta : TA) : TI := fun σ H R => ta σ H fun vs H1 => ∃ i j c : Int, vs = [.int i, .int j, .int c] ∧ (-(2 ^ 61) ≤ i ∧ i < 2 ^ 61 ∧ -(2 ^ 61) ≤ j ∧ j < 2 ^ 61) ∧ (c = 2 ∨ c = -1) ∧ R (Itrs i c (rngN i j c)) H1
theorem pi_range3 {a b c : Expr} {ta : TA} {p pos : Pos} (hg : Gl X "range") (hm : X.mg "range" = none) (ha : PA X [a, b, c] ta) (hs : starEach [a, b, c] X.env = [(false, eval a X.env), (false, eval b X.env), (false, eval c X.env)] := by rfl) (hs2 : starEach [b, c] X.env = [(false, eval b X.env), (false, eval c X.env)] := by rfl) (hs3 : starEach [c] X.env = [(false, eval c X.env)] := by rfl) :
    PI X tg (.Call (.Name "range" p) [a, b, c] [] pos) (iRng3 ta) := by
  intro pins s σ H R I h
  refine Call_ (ld_blt I hg hm boot_range (PyProof.Rows.callWith_type1 (thn (ha pos pins s σ H _ I h) fun us s1 ⟨vs, H1, I1, r1, q1⟩ => ?_) (by rw [hs, hs2]) (by rw [hs2]; rfl)))
  obtain ⟨i, j, k, e, ⟨q1, q2, q3, q4⟩, hk, q⟩ := q1
  subst e
  cases r1 with
  | cons r rr =>
    cases rr with
    | cons r' rr =>
      cases rr with
      | cons r'' rr =>
        cases rr
        obtain ⟨t, rfl⟩ := r
        obtain ⟨t', rfl⟩ := r'
        obtain ⟨t'', rfl⟩ := r''
        rcases hk with rfl | rfl
        · refine call_range_3 (by decide) (ranges_it I1 (small_two q1 q2 q3 q4) ?_ q) (Or.inl (PyProof.noPylong_small (by omega)))
          unfold Builtin.Range.rangeSize
          simp only [show (2 : Int) > 0 by decide, if_true]
          split <;> omega
        · refine call_range_3 (by decide) (ranges_it I1 (small_down q1 q2 q3 q4) ?_ q) (Or.inl (PyProof.noPylong_small (by omega)))
          unfold Builtin.Range.rangeSize
          simp only [show ¬ ((-1 : Int) > 0) by decide, if_false, show (- -1 : Int) = 1 by decide, Int.ediv_one]
          split <;> omega
end
theorem for_ranges {lo c : Int} {n : Nat} {g : TG} {tb : TS} {D : Ends} {σ : St} {H : Hp} (Pv : Nat → St → Hp → Prop) (h0 : Pv 0 σ H)
    (hs : ∀ i σ H, i < n → Pv i σ H → g (.int (lo + i * c)) σ H fun σ2 H2 => tb { D with nx := Pv (i + 1), ct := Pv (i + 1), bk := D.nx } σ2 H2) (hd : ∀ σ H, Pv n σ H → D.nx σ H) :
    ∃ W : Nat → Nat → St → Hp → Prop, (∃ m, W 0 m σ H) ∧ ∀ i m σ H, W i m σ H →
      ((Itrs lo c n).stop i H ∧ D.nx σ H) ∨ ((Itrs lo c n).go i H ∧ ∃ N : St → Hp → Prop, (∀ σ' H', N σ' H' → ∃ m', m' < m ∧ W (i + 1) m' σ' H') ∧ ∀ x H', (Itrs lo c n).yld i H x H' → g x σ H' fun σ2 H2 => tb { D with nx := N, ct := N, bk := D.nx } σ2 H2) := by
  refine ⟨fun i m σ H => m = n - i ∧ i ≤ n ∧ Pv i σ H, ⟨n, by simp, Nat.zero_le _, h0⟩, ?_⟩
  rintro i m σ H ⟨rfl, hi, p⟩
  by_cases hlt : i < n
  · refine .inr ⟨hlt, Pv (i + 1), fun σ' H' p' => ⟨n - (i + 1), by omega, rfl, hlt, p'⟩, fun x H' y => ?_⟩
    obtain ⟨e, y⟩ := y
    subst e y
    exact hs i σ _ hlt p
  · have e : i = n := by omega
    subst e
    exact .inl ⟨Nat.le_refl _, hd σ H p⟩
end L2
namespace L2
open PySem PySem.Spec PyProof.Rows
abbrev bmVE : List Value := [.type "ValueError", .type "Exception", .type "BaseException", .type "object"]
structure ExcTop (x : Str) (K : PySem.W.Frag) (mg : Str → Option Value) (base : Heap) (C CL : Addr) : Prop where
  own : OwnCls x C bmVE "ValueError.__new__" mg base
  le : mg "LampError" = some (.ref CL)
  catL : Catches base C CL
  kit : ExcKit K C
  ve : mg "ValueError" = none
  k3 : PySem.W.kitOne K (.ref C) (.type "ValueError") = some true
end L2
namespace L2
open PySem PySem.Spec PyProof.Rows
theorem rd_cut {t u : TS} {D : Ends} {σ : St} {H : Hp} (I : St → Hp → Prop) (h1 : ∀ N : St → Hp → Prop, (∀ σ' H', I σ' H' → N σ' H') → t { D with nx := N } σ H) (h2 : ∀ σ' H', I σ' H' → u D σ' H') : tSeq t u D σ H := h1 _ h2
section
variable {X : Cx} {K : PySem.W.Frag}
theorem sl_tupK (hK : X.K = K) : SlR X (rSlT K) := hK ▸ sl_tup
theorem op_catTK (hK : X.K = K) : OpR X (binaryOp .Add) (rCatT K) := hK ▸ op_catT
end
end L2
namespace L2
open PySem PySem.Spec PyProof.Rows
structure MCal (P : Program) (w : World) (K : PySem.W.Frag) (mg : Str → Option Value) (base : Heap) (k : Nat) (C : Addr) (m : Str) (ps : List Str) (sp : Sp) : Prop where
  ex : ∃ f fd, FnOk P w K mg base CX0 k f fd ps sp ∧ Meth K C m f ∧ Binds K fd ps []
structure MDef (K : PySem.W.Frag) (C : Addr) (m qual : Str) (st : Stmt) (ps : List Str) : Prop where
  ex : ∃ f fd, Fun K m qual st f fd ∧ Meth K C m f ∧ Binds K fd ps []
structure Made (P : Program) (w : World) (K : PySem.W.Frag) (mg : Str → Option Value) (base : Heap) (k : Nat) (x : Str) (C : Addr) (ps : List Str) (sp : Sp) : Prop where
  ex : ∃ f fd, FnOk P w K mg base CX0 k f fd ps sp ∧ Mk K C f ∧ Binds K fd ps [] ∧ mg x = some (.ref C)
section
variable {X : Cx} {k n : Nat} {C : Addr} {m x : Str} {ps : List Str} {sp : Sp} {p pos apos : Pos} {e o : Expr} {es : List Expr} {ta : TE} {t : TA}
end
end L2
namespace L2
open PySem PySem.Spec PyProof.Rows
section
variable {prog : Program} {w : World} {A : Around} {R : Result → Shared → Prop} {I : Addr} {fp wr : List Addr} {n : Nat} {P : Nat → Value → Prop} {St : Nat → Heap → Prop}
end
section
variable {prog : Program} {w : World} {A : Around} {E : Value → Shared → Prop} {s : Shared}
end
section
variable {X : Cx} {e v : Expr} {te tv : TE} {p pos kp : Pos}
end
section
variable {X : Cx} {a : Expr} {ta : TE} {pos : Pos}
end
end L2
namespace L2
open PySem PySem.Spec PyProof.Rows
section
variable {X : Cx}
theorem PS.nox {st : Stmt} {t : TS} (h : PS X.nox st t) : PS X st t := fun pins s σ H D I hw =>
  wpAny_mono (h pins s σ H D (I.wish _) hw) (fun _ _ q => q.unwish) fun _ _ z => False.elim z
end
end L2
namespace L2
open PySem PySem.Spec PyProof.Rows
section
variable {prog : Program} {w : World} {A : Around}
theorem draws_from {it l : Addr} {items : Array Value} (st : Nat) (hh : A.handled = none) (hne : l ≠ it) :
    Draws prog w A it [it, l] (st + items.size) (fun i x => st ≤ i ∧ items[i - st]? = some x) (fun i h => st ≤ i ∧ h.IsListIter it l (i - st) ∧ h.IsList l items) where
  live := fun i h y => let ⟨o, e, _⟩ := y.2.1; ⟨o, e⟩
  frame := fun i h h' y k => ⟨y.1, y.2.1.at fun o e => k it (by simp) o e, let ⟨o, e, r⟩ := y.2.2; ⟨o, k l (by simp) o e, r⟩⟩
  item := fun i s Q E hi y hQ => by
    obtain ⟨y1, y2, y3⟩ := y
    have hlt : i - st < items.size := by omega
    have hg : items[i - st]? = some items[i - st] := by simp [hlt]
    refine wpAny_nextOf_list_item y2 y3 hg fun h' hit' sb => ?_
    have e1 : i + 1 - st = i - st + 1 := by omega
    refine hQ _ h' s.toks ⟨y1, hg⟩ ⟨by omega, by rw [e1]; exact hit', ?_⟩ sb
    obtain ⟨o, e, r⟩ := y3
    exact ⟨o, (sb.2 l hne).trans e, r⟩
  done := fun s Q E y hE => by
    obtain ⟨y1, y2, y3⟩ := y
    refine wpAny_nextOf_list_end hh y2 y3 ?_ hE
    have e1 : st + items.size - st = items.size := by omega
    rw [e1]; simp
end
def IteS (K : PySem.W.Frag) (a : Addr) (st0 : Nat) : It :=
  ⟨fun i H => ∃ xs x, SqL K H a xs ∧ xs[i]? = some x, fun i H y H' => ∃ x p, (∀ xs, SqL K H a xs → xs[i]? = some x) ∧ H p = none ∧ y = .ref p ∧ H' = upd H p (.tup [.int ((st0 + i : Nat) : Int), x]), fun i H => ∃ xs, SqL K H a xs ∧ xs.length = i⟩
theorem turn_enumS {P : Program} {w : World} {K : PySem.W.Frag} {elts : List Expr} {k1} {tpos : Pos} (a e it : Addr) (st0 : Nat) (hne : e ≠ it) :
    Turn P w K (.Tuple elts k1 tpos) (IteS K a st0) [e, it] e (fun i h => (∃ old, IsEnum h e it ((st0 + i : Nat) : Int) old) ∧ h.IsListIter it a i) where
  mem := by simp
  obj := fun i h st b hb => by
    obtain ⟨⟨old, he⟩, o, e1, c, d⟩ := st
    have hb' : b = e ∨ b = it := by simpa using hb
    rcases hb' with z | z
    · subst z; exact ⟨_, he, fun v z => by cases z⟩
    · subst z; exact ⟨o, e1, fun v z => by rw [d] at z; cases z⟩
  keep := fun i h h' st k => ⟨let ⟨old, he⟩ := st.1; ⟨old, k e (by simp) _ he⟩, st.2.at fun o e1 => k it (by simp) o e1⟩
  item := by
    intro X hP hw hK hc i pins s σ H E I hf st hg
    subst hP hw hK
    obtain ⟨xs, x, hq, hx⟩ := hg
    obtain ⟨its, rv, p, hz⟩ := I.list hq
    obtain ⟨u, hu, ru⟩ := rv.get hx
    obtain ⟨⟨old, he⟩, hit⟩ := st
    have hil : i < its.toArray.size := by simpa using (List.getElem?_eq_some_iff.mp hu).1
    have hea : e ≠ a := fun z => by
      obtain ⟨o, e1, e2, _⟩ := p.isList
      rw [← z] at e1
      have he' : s.heap.get? e = some _ := he
      rw [he'] at e1
      have := Option.some.inj e1
      rw [← this] at e2
      injection e2 with e5
      exact absurd e5 (by decide)
    have hai : a ≠ it := fun z => by
      obtain ⟨o, e1, e2, _⟩ := p.isList
      obtain ⟨o', e3, e4, _⟩ := hit
      rw [z, e3] at e1
      have := Option.some.inj e1
      rw [← this, e4] at e2
      injection e2 with e5
      exact absurd e5 (by decide)
    have esub : st0 + i - st0 = i := by omega
    have esub2 : st0 + i + 1 - st0 = i + 1 := by omega
    refine wpAny_pyNext_enum_itemD (draws_from (items := its.toArray) st0 (I.ok.hd hc) hai) he ⟨by omega, by rw [esub]; exact hit, p.isList⟩ (by omega) hne (by simp [hne, hea]) fun x' h' tk hP ho hst' hT hsz hk => ⟨_, rfl, ?_⟩
    have ex : x' = u := by
      have h1 := hP.2
      rw [esub] at h1
      have h2 : its.toArray[i]? = some u := by simpa using hu
      rw [h2] at h1
      exact (Option.some.inj h1).symm
    subst ex
    have e9 : (((st0 + (i + 1) : Nat)) : Int) = ((st0 + i : Nat) : Int) + 1 := by omega
    have hit' : h'.IsListIter it a (i + 1) := by have := hst'.2.1; rwa [esub2] at this
    refine wpAny_letOwnedTupleGo_enum ho fun h2 he2 hs2 => ?_
    have fr : H s.heap.objs.size = none := I.hok.fresh (Nat.le_refl _)
    have hel : e < s.heap.objs.size := Heap.lt_size he
    have keep : ∀ b o, b ∉ [e, it] → s.heap.get? b = some o → h2.get? b = some o := fun b o hb e1 => by
      have h1 : b ≠ e := fun z => hb (by simp [z])
      have h3 : b ≠ it := fun z => hb (by simp [z])
      exact (hs2.2 b h1).trans (hk b o h1 h3 e1)
    have nf : ∀ b u, H b = some u → b ∉ [e, it] := fun b u e1 z => by rw [(hf b z).1] at e1; cases e1
    have hnew : h2.get? s.heap.objs.size = some { cls := .type "tuple", data := .seq #[.int ((st0 + i : Nat) : Int) tk, x'] } := (hs2.2 _ (ne_nat (.inr hel))).trans hT
    have Inew : Inv X pins σ (upd H s.heap.objs.size (.tup [.int ((st0 + i : Nat) : Int), x])) { s with heap := h2, toks := tk + 1 } := by
      refine I.step (g' := s.gens) (d' := s.drawn) (ch := [e, it]) (fun b hb => ?_) (fun b o _ _ hc e1 _ => keep b o hc e1) (fun b o _ _ hc e1 _ => ⟨o.slots, keep b o hc e1⟩) (fun b o _ e1 n => ?_)
        (fun b o hc e1 => ⟨o, keep b o hc e1⟩) (fun b ys e1 => ?_) (fun b o u' e1 => ?_) (fun b ps e1 => ?_) (fun m hm => ?_) (fun b ob e1 => ?_) I.bare
      · obtain ⟨f0, f1, f2, f3, f4, f5⟩ := hf b hb
        exact ⟨f3, f1, f4, f5⟩
      · rw [upd_ne (ne_nat (.inl (Heap.lt_size e1)))]; exact n
      · rw [upd_ne (ne_of_none e1 fr)]; exact e1
      · rw [upd_ne (ne_of_none e1 fr)]; exact e1
      · exact ⟨#[], by rw [upd_ne (ne_of_none e1 fr), e1]; simp⟩
      · obtain ⟨o, es, ep, h1, r⟩ := hm
        exact ⟨o, es, ep, keep _ o (fun z => (hf _ z).2.1 rfl) h1, r⟩
      · by_cases hb : b = s.heap.objs.size
        · subst hb
          rw [upd_same] at e1; cases e1
          exact ⟨len2, [.int ((st0 + i : Nat) : Int) tk, x'], .cons ⟨_, rfl⟩ (.cons ru .nil), _, hnew, rfl, _, rfl⟩
        · rw [upd_ne hb] at e1
          refine (I.hok b ob e1).stay (fun c v hcc q => keep c v ?_ q) (fun c q => by rw [upd_ne (ne_of_none q fr)]; exact q) fun c ys q => by rw [upd_ne (ne_of_none q fr)]; exact q
          rcases hcc with z | z
          · rw [z]; exact nf b ob e1
          · exact nf c _ z
    refine ⟨.ref s.heap.objs.size, _, Inew, rfl, ⟨x, _, fun ys hy => by rw [I.list_inj hy hq]; exact hx, fr, rfl, rfl⟩, ⟨⟨x', by rw [e9]; exact he2⟩, hit'.at fun o e1 => (hs2.2 it hne.symm).trans e1⟩, fun b hb => ?_⟩
    have hb2 : b ≠ s.heap.objs.size := fun z => by
      have hb' : b = e ∨ b = it := by simpa using hb
      rcases hb' with y | y
      · rw [← y, z] at hel; exact Nat.lt_irrefl _ hel
      · obtain ⟨o, e1, _⟩ := hit
        have := Heap.lt_size e1
        rw [← y, z] at this; exact Nat.lt_irrefl _ this
    rw [upd_ne hb2]; exact (hf b hb).1
  done := by
    intro X hP hw hK hc i pins s σ H E I hf st hg
    subst hP hw hK
    obtain ⟨xs, hq, hx⟩ := hg
    obtain ⟨its, rv, p, hz⟩ := I.list hq
    obtain ⟨f0, f1, f2, f3, f4, f5⟩ := hf it (by simp)
    have hl := rv.length
    obtain ⟨⟨old, he⟩, hit⟩ := st
    have hai : a ≠ it := fun z => by
      obtain ⟨o, e1, e2, _⟩ := p.isList
      obtain ⟨o', e3, e4, _⟩ := hit
      rw [z, e3] at e1
      have := Option.some.inj e1
      rw [← this, e4] at e2
      injection e2 with e5
      exact absurd e5 (by decide)
    have esz : its.toArray.size = i := by simp; omega
    have esub : st0 + its.toArray.size - st0 = i := by omega
    exact wpAny_pyNext_enum_endD (draws_from (items := its.toArray) st0 (I.ok.hd hc) hai) he ⟨by omega, by rw [esub]; exact hit, p.isList⟩ fun h' eb => ⟨rfl, I.turned (t' := s.toks) (fun b o hb e => eb b o hb e) f0 f1 f3 f4 f5⟩
  self := fun _ _ _ _ _ st h => let ⟨_, he⟩ := st.1; wpAny_pyIter_enum he h
end L2
namespace L2
open PySem PySem.Spec PyProof.Rows
section
variable {prog : Program} {w : World} {A : Around} {E : Value → Shared → Prop} {s : Shared}
theorem enumS_new (l : Addr) (items : Array Value) (n : Nat) (dc : Option Addr) (sl : Array (Option Value)) (i : Int) (t : Tok) (hi : Builtin.SmallTypes.fitsIndex i = true) :
    Meets (Builtin.«enumerate.__new__» ⟨[.type "enumerate", .ref l], [(("start" : Str), .int i t)]⟩) (fun _ R s => s.heap.get? l = some { cls := .type "list", dict := dc, data := .seq items n, slots := sl } ∧
      R (.ok (.ret (.ref (s.heap.objs.size + 1)))) { s with heap := (s.heap.push { cls := .type "list_iterator", data := .fields #[.ref l, .int 0 0] }).push { cls := .type "enumerate", data := .fields #[.none, .bool false, .ref s.heap.objs.size, rawInt i, .none, .none] } }) :=
  .of_wp fun prog w A R s h => by
    obtain ⟨hp, g, d, tk, os⟩ := s
    obtain ⟨hl, h⟩ := h
    have hL : Heap.IsList (Shared.heap ⟨hp, g, d, tk, os⟩) l items := ⟨_, hl, rfl, n, rfl⟩
    have hsb := sub_enumerate
    wp_walk using AutoSeq1.wpAny_loadPart' hl
    refine wpAny_stack_any fun st => wpAny_pure ?_
    have hsz : (hp.push { cls := .type "list_iterator", data := .fields #[.ref l, .int 0 0] }).objs.size = hp.objs.size + 1 := Heap.size_push ..
    have fin : ∃ v, Fin.done (Flow.ret (Value.ref (hp.push { cls := .type "list_iterator", data := .fields #[.ref l, .int 0 0] }).objs.size)) = Fin.done (Flow.ret v) ∧ R (Except.ok (Flow.ret v)) { heap := (hp.push { cls := .type "list_iterator", data := .fields #[.ref l, .int 0 0] }).push { cls := .type "enumerate", data := .fields (Builtin.SmallTypes.ownedTupleFields ++ [.ref hp.objs.size, rawInt i, .none, .none]).toArray }, gens := g, drawn := d, toks := tk, os := os } := ⟨_, rfl, by rw [hsz]; exact h⟩
    split
    · rename_i c _ _ _ _ _
      cases (c == Value.type "enumerate")
      · wp_walk using wpAny_pyIter_list hL, AutoSeq1.wpAny_loadPart' hl
        exact fin
      · wp_walk using wpAny_pyIter_list hL, AutoSeq1.wpAny_loadPart' hl
        exact fin
    · wp_walk using wpAny_pyIter_list hL, AutoSeq1.wpAny_loadPart' hl
      exact fin
theorem tc_enumS (a b : Value) : checkTypeCall "enumerate" ⟨[a], [(("start" : Str), b)]⟩ = pure () := by kernel_rfl
theorem nc_enumS (a b : Value) : checkBuiltinCall "enumerate.__new__" ⟨[.type "enumerate", a], [(("start" : Str), b)]⟩ = pure () := by kernel_rfl
end
end L2
namespace L2
open PySem PySem.Spec PyProof.Rows
section
variable {M : Model} {A : Around} {E : Value → Shared → Prop} {s : Shared} {env : Env}
theorem cw_ty {pos : Pos} {T : String} {e : Expr} {kws : List Keyword} {Q : Value → Shared → Prop}
    (he : backTo pos (starEach [e] env) = (false, eval e env) :: backTo pos (starEach [] env)) (hp : (backTo pos (starEach [e] env)).any (·.1) = false)
    (ha : (backToKw pos (keywordEach kws env)).all (·.1.isSome) = true) (hk : (backToKw pos (keywordEach kws env)).any (·.1.isNone) = false)
    (h : wpAny M A (spliced (backTo pos (starEach [e] env))) (fun vs s1 => wpAny M A (evalAll ((backToKw pos (keywordEach kws env)).map (·.2)))
      (fun ks s2 => wpAny M A (call (.type T) vs (((backToKw pos (keywordEach kws env)).filterMap (·.1)).zip ks)) Q E s2) E s1) E s) :
    wpAny M A (callWith pos (.type T) [] (backTo pos (starEach [e] env)) (backToKw pos (keywordEach kws env))) Q E s := by
  unfold callWith
  refine wpAny_bind (wpAny_holding (wpAny_mono (?_ : wpAny M A (evalArgs (.type T) true _ _) (fun a s1 => wpAny M A (call (.type T) ([] ++ a.pos) a.kw) Q E s1) E s) (fun a s1 h1 => wpAny_bind (wpAny_standAt ?_)) fun _ _ x => x))
  · rw [he] at h ⊢
    exact evalArgs_kwB ha h
  · simp only [hp, hk, Bool.or_false]
    refine wpAny_bind (wpAny_pure ?_)
    exact wpAny_bind (wpAny_mono h1 (fun r s2 hr => wpAny_bind (wpAny_holding (wpAny_point (wpAny_pure hr)))) fun _ _ x => x)
end
section
variable {prog : Program} {w : World} {A : Around} {E : Value → Shared → Prop} {s : Shared}
theorem oi_enumS (obj a b : Value) : argsOk "object.__init__" ⟨[obj, a], [(("start" : Str), b)]⟩ := by unfold argsOk; kernel_rfl
theorem oi_meets (obj a b : Value) : Meets (Builtin.«object.__init__» ⟨[obj, a], [(("start" : Str), b)]⟩) (fun _ R s => s.TypeIs obj "enumerate" ∧ R (.ok (.ret .none)) s) := by
  refine Meets.of_wp fun prog w A R s hs => ?_
  obtain ⟨hT, hq⟩ := hs
  have hl := F.called_enumerate.init.lookup
  have hm := F.called_enumerate.made
  have hne : (some "enumerate.__new__" != some "object.__new__") = true := by decide
  repeat any_goals first | assumption | wp_step
  exact ⟨_, rfl, hq⟩
theorem call_enumS {l : Addr} {items : Array Value} {i : Int} {t : Tok} {Q : Value → Shared → Prop} (hi : Builtin.SmallTypes.fitsIndex i = true) (hL : s.heap.IsList l items)
    (h : ∀ h', IsEnum h' (s.heap.objs.size + 1) s.heap.objs.size i .none → h'.IsListIter s.heap.objs.size l 0 → (∀ b o, s.heap.get? b = some o → h'.get? b = some o) → Q (.ref (s.heap.objs.size + 1)) { s with heap := h' }) :
    wpAny (model prog w) A (call (.type "enumerate") [.ref l] [(("start" : Str), .int i t)]) Q E s := by
  obtain ⟨⟨cl, dc, dt, sl⟩, hl, h1, n, h2⟩ := hL
  cases (show cl = .type "list" from h1)
  cases (show dt = .seq items n from h2)
  have ft := F.called_enumerate
  obtain ⟨c, tl, hmro⟩ := ft.mro
  have hmade := ft.made
  have hsub := ft.sub
  have q1 := ft.notType
  have q2 := ft.canCreate
  have hct := tc_enumS (.ref l) (.int i t)
  refine wpAny_call (codeAny_of_tree ?_)
  show wpAny _ _ (callAny (.type "enumerate") _) _ _ _
  refine wpAny_pure ⟨Code.quiet_builtin _ (by decide +kernel), codeAny_builtin F.entry_type_call ?_⟩
  rw [Around.under_plain (weight_type_call_type "enumerate" _ _) (units_type_call_type "enumerate" _ _)]
  repeat any_goals first | assumption | wp_step
  have hz : (s.heap.push { cls := .type "list_iterator", data := .fields #[.ref l, .int 0 0] }).objs.size = s.heap.objs.size + 1 := Heap.size_push ..
  have he : IsEnum ((s.heap.push { cls := .type "list_iterator", data := .fields #[.ref l, .int 0 0] }).push { cls := .type "enumerate", data := .fields #[.none, .bool false, .ref s.heap.objs.size, rawInt i, .none, .none] }) (s.heap.objs.size + 1) s.heap.objs.size i .none := by
    have e0 := Heap.get?_push_size (s.heap.push { cls := .type "list_iterator", data := .fields #[.ref l, .int 0 0] }) (o := { cls := .type "enumerate", data := .fields #[.none, .bool false, .ref s.heap.objs.size, rawInt i, .none, .none] }) rfl
    rw [hz] at e0
    exact e0
  have fin := h _ he ⟨_, Heap.get?_push_of_some _ (Heap.get?_push_size _ rfl), rfl, rfl⟩ fun b o y => Heap.get?_push_of_some _ (Heap.get?_push_of_some _ y)
  refine codeAny_mono (codeAny_call_builtin ft.plain F.entry_enumerate_new (wpAny_of_eq (nc_enumS _ _) (enumS_new l items n dc sl i t hi prog w A.in1 (wants (fun obj s1 => s1.TypeIs obj "enumerate" ∧ Q obj s1) E) s ⟨hl, ⟨_, he, rfl⟩, fin⟩))) fun r s1 hr => ?_
  cases r with
  | error e => exact hr
  | ok fl =>
    cases fl with
    | ret obj =>
      obtain ⟨hT, hQ⟩ := hr
      have hli := ft.init.lookup
      have hbi := ft.init.bind obj
      repeat any_goals first | assumption | wp_step
      refine codeAny_mono (codeAny_call_builtin ft.init.plain F.entry_object_init (ft.init.check _ _ _ _ _ _ _ _ hT (oi_enumS _ _ _) (oi_meets _ _ _ prog w A.in1 (wants (fun r s2 => r = .none ∧ Q obj s2) E) s1 ⟨hT, rfl, hQ⟩))) fun r2 s2 hr2 => ?_
      cases r2 with
      | error e => exact hr2
      | ok fl2 =>
        cases fl2 with
        | ret r =>
          obtain ⟨e1, hq⟩ := hr2
          subst e1
          repeat any_goals first | assumption | wp_step
        | _ => exact hr2.elim
    | _ => exact hr.elim
end
end L2
namespace L2
open PySem PySem.Spec PyProof.Rows
section
variable {X : Cx} {elts : List Expr} {k1} {tpos : Pos}
def iEnumS (K : PySem.W.Frag) (tl tv : TE) : TI := fun σ H R => tl σ H fun x H1 => tv σ H1 fun y H2 => ∃ (a : Addr) (st0 : Nat), x = .ref a ∧ y = .int (st0 : Int) ∧ st0 ≤ 1000000000 ∧ (∃ xs, SqL K H2 a xs) ∧ R (IteS K a st0) H2
def enumSK (K : PySem.W.Frag) (tv : TE) (σ : St) (R : It → Hp → Prop) : List V → Hp → Prop := fun xs H1 => match xs with
  | [x] => tv σ H1 fun y H2 => ∃ (a : Addr) (st0 : Nat), x = .ref a ∧ y = .int (st0 : Int) ∧ st0 ≤ 1000000000 ∧ (∃ xs, SqL K H2 a xs) ∧ R (IteS K a st0) H2
  | _ => False
theorem pi_enumS {l v : Expr} {tl tv : TE} {p pos kp : Pos} (hm : X.mg "enumerate" = none) (hl : PE X l tl) (hv : PE X v tv) (hg : Gl X "enumerate" := by rfl) (hs : starEach [l] X.env = [(false, eval l X.env)] := by rfl)
    (hB : backTo pos (starEach [l] X.env) = (false, eval l X.env) :: backTo pos (starEach [] X.env) := by rfl) (hpl : (backTo pos (starEach [l] X.env)).any (·.1) = false := by rfl) :
    PI X (.Tuple elts k1 tpos) (.Call (.Name "enumerate" p) [l] [⟨some "start", v, kp⟩] pos) (iEnumS X.K tl tv) := by
  intro pins s σ H R I h
  refine wpAny_Call_Name_kw (ld_blt I hg hm bt_enumerate ?_)
  refine cw_ty hB hpl rfl rfl (thn ((pa_cons hl pa_nil hs) pos pins s σ H (enumSK X.K tv σ R) I h) fun us s1 ⟨vs, H1, I1, r1, q1⟩ => ?_)
  have hx : ∃ x, vs = [x] := by
    cases vs with
    | nil => exact q1.elim
    | cons x l =>
      cases l with
      | nil => exact ⟨x, rfl⟩
      | cons _ _ => exact q1.elim
  obtain ⟨x, rfl⟩ := hx
  obtain ⟨u, rfl, ru⟩ := vals1 r1
  refine kws_cons (thn (hv pins s1 σ H1 _ I1 q1) fun d s2 ⟨y, H2, I2, ry, a, st0, ex, ey, hz, ⟨xs, hq⟩, q⟩ => kws_nil ?_)
  subst ex ey
  cases (show u = Value.ref a from ru)
  obtain ⟨t, rfl⟩ := ry
  show wpAny _ _ (call (.type "enumerate") [Value.ref a] [(("start" : Str), Value.int (st0 : Int) t)]) _ _ _
  obtain ⟨its, rv, pl, hzz⟩ := I2.list hq
  have hfit : Builtin.SmallTypes.fitsIndex (st0 : Int) = true := by
    unfold Builtin.SmallTypes.fitsIndex
    rw [Bool.and_eq_true]
    exact ⟨decide_eq_true (by omega), decide_eq_true (by omega)⟩
  refine call_enumS hfit pl.isList fun h' he hit hk => ?_
  refine wpAny_pyIter_enum he ?_
  refine ⟨s2.heap.objs.size + 1, [s2.heap.objs.size + 1, s2.heap.objs.size], _, _, H2, rfl, I2.kept (t' := s2.toks) hk, turn_enumS a _ _ st0 (ne_nat (.inr (Nat.lt_succ_self _))), ⟨⟨_, he⟩, hit⟩, fun b hb => ?_, q⟩
  have hb' : b = s2.heap.objs.size + 1 ∨ b = s2.heap.objs.size := by simpa using hb
  have hge : s2.heap.objs.size ≤ b := by
    rcases hb' with z | z
    · rw [z]; exact Nat.le_succ _
    · exact Nat.le_of_eq z.symm
  exact I2.fpOk hge (I2.hok.fresh hge)
end
theorem for_enumS {K : PySem.W.Frag} {a : Addr} {st0 : Nat} {xs : List V} {g : TG} {tb : TS} {D : Ends} {σ : St} {H : Hp} (Pv : Nat → St → Hp → Prop) (h0 : Pv 0 σ H) (hl : ∀ i σ H, i ≤ xs.length → Pv i σ H → SqL K H a xs)
    (hs : ∀ i x σ H p, xs[i]? = some x → Pv i σ H → H p = none → g (.ref p) σ (upd H p (.tup [.int ((st0 + i : Nat) : Int), x])) fun σ2 H2 => tb { D with nx := Pv (i + 1), ct := Pv (i + 1), bk := D.nx } σ2 H2) (hd : ∀ σ H, Pv xs.length σ H → D.nx σ H) :
    ∃ W : Nat → Nat → St → Hp → Prop, (∃ m, W 0 m σ H) ∧ ∀ i m σ H, W i m σ H →
      ((IteS K a st0).stop i H ∧ D.nx σ H) ∨ ((IteS K a st0).go i H ∧ ∃ N : St → Hp → Prop, (∀ σ' H', N σ' H' → ∃ m', m' < m ∧ W (i + 1) m' σ' H') ∧ ∀ x H', (IteS K a st0).yld i H x H' → g x σ H' fun σ2 H2 => tb { D with nx := N, ct := N, bk := D.nx } σ2 H2) := by
  refine ⟨fun i m σ H => m = xs.length - i ∧ i ≤ xs.length ∧ Pv i σ H, ⟨xs.length, by simp, Nat.zero_le _, h0⟩, ?_⟩
  rintro i m σ H ⟨rfl, hi, p⟩
  have q := hl i σ H hi p
  by_cases hlt : i < xs.length
  · refine .inr ⟨⟨xs, xs[i], q, by simp [hlt]⟩, Pv (i + 1), fun σ' H' p' => ⟨xs.length - (i + 1), by omega, rfl, hlt, p'⟩, fun x H' y => ?_⟩
    obtain ⟨x', p', y1, y2, y3, y4⟩ := y
    subst y3 y4
    exact hs i x' σ _ p' (y1 xs q) p y2
  · have e : i = xs.length := by omega
    subst e
    exact .inl ⟨⟨xs, q, rfl⟩, hd σ H p⟩
end L2
namespace L2
open PySem
def Rise (xs : Array Nat) : Prop := xs.toList.Pairwise (· < ·)
def TabOk (L : Bool) (t : SetTable) : Prop := t.led = L ∧ Rise t.place
end L2
namespace L2
open PySem PySem.Spec PyProof.Rows
section
variable {prog : Program} {w : World} {A : Around} {E : Value → Shared → Prop} {s : Shared}
def SetT (prog : Program) (w : World) (L : Bool) (h : Heap) (a : Addr) (S : Int → Bool) (n : Nat) : Prop :=
  ∃ o es ep t, h.get? a = some o ∧ o.ExactSet ∧ o.data = .set es ep t ∧ ElemsOf (intKind prog w) es.toList ∧ (∀ k, S k = true ↔ ∃ e ∈ es.toList, (intKind prog w).is k e.2 = true) ∧ es.size < scanBound ∧ t.fits es.size = true ∧ es.size = n ∧ TabOk L t
theorem SetT.of {L : Bool} {h : Heap} {a : Addr} {S : Int → Bool} {n : Nat} (x : SetT prog w L h a S n) : h.SetOf (intKind prog w) a S n :=
  let ⟨o, es, ep, t, a1, a2, a3, a4, a5, a6, a7, a8, _⟩ := x; ⟨o, es, ep, t, a1, a2, a3, a4, a5, a6, a7, a8⟩
end
end L2
namespace L2
open PySem PySem.Spec PyProof.Rows
section
variable {prog : Program} {w : World} {A : Around} {E : Value → Shared → Prop} {s : Shared}
theorem SetT.congr {L : Bool} {h : Heap} {a : Addr} {S S' : Int → Bool} {n n' : Nat} (x : SetT prog w L h a S n) (e : ∀ k, S k = S' k) (en : n = n') : SetT prog w L h a S' n' := by
  have : S = S' := funext e
  subst this; subst en; exact x
theorem SetT.at {L : Bool} {h h' : Heap} {a : Addr} {S : Int → Bool} {n : Nat} (x : SetT prog w L h a S n) (k : ∀ o, h.get? a = some o → h'.get? a = some o) : SetT prog w L h' a S n :=
  let ⟨o, es, ep, t, a1, rest⟩ := x; ⟨o, es, ep, t, k _ a1, rest⟩
end
end L2
namespace L2
open PySem PySem.Spec PyProof.Rows
def SI (h : Heap) (it : Addr) (first : Value) (i : Nat) (a : Addr) (n ep : Nat) : Prop := ∃ o, h.get? it = some o ∧ o.cls = .type "set_iterator" ∧ o.data = .fields #[first, .int i 0, .ref a, .int n 0, .int ep 0]
theorem SI.typeIs {s : Shared} {it : Addr} {first : Value} {i : Nat} {a : Addr} {n ep : Nat} (x : SI s.heap it first i a n ep) : s.TypeIs (.ref it) "set_iterator" := let ⟨o, h1, h2, _⟩ := x; ⟨o, h1, h2⟩
section
variable {prog : Program} {w : World} {A : Around} {E : Value → Shared → Prop} {s : Shared}
def SAt (h : Heap) (a : Addr) (es : Array (Int × Value)) (ep : Nat) (t : SetTable) : Prop := ∃ o, h.get? a = some o ∧ o.data = .set es ep t ∧ t.fits es.size = true
end
end L2
namespace L2
open PySem PySem.Spec PyProof.Rows
section
variable {prog : Program} {w : World} {A : Around} {E : Value → Shared → Prop} {s : Shared}
end
end L2
namespace L2
open PySem
end L2
namespace L2
open PySem PySem.Spec PyProof.Rows
section
variable {prog : Program} {w : World} {A : Around} {E : Value → Shared → Prop} {s : Shared}
end
end L2
namespace L2
open PySem PySem.Spec PyProof.Rows
section
variable {prog : Program} {w : World} {A : Around} {E : Value → Shared → Prop} {s : Shared}
theorem SI.at {h h' : Heap} {it a : Addr} {first : Value} {i n ep : Nat} (x : SI h it first i a n ep) (k : ∀ o, h.get? it = some o → h'.get? it = some o) : SI h' it first i a n ep := let ⟨o, h1, r⟩ := x; ⟨o, k _ h1, r⟩
theorem SAt.at {h h' : Heap} {a : Addr} {es : Array (Int × Value)} {ep : Nat} {t : SetTable} (x : SAt h a es ep t) (k : ∀ o, h.get? a = some o → h'.get? a = some o) : SAt h' a es ep t := let ⟨o, h1, r⟩ := x; ⟨o, k _ h1, r⟩
end
end L2
namespace L2
open PySem PySem.Spec PyProof.Rows
section
variable {prog : Program} {w : World} {A : Around} {E : Value → Shared → Prop} {s : Shared}
structure Itr1 (prog : Program) (w : World) (s : Shared) (a : Addr) (es : Array (Int × Value)) (I : Addr) (h2 : Heap) (fp : List Addr) (P : Nat → Value → Prop) (St : Nat → Heap → Prop) : Prop where
  walks : ∀ A : Around, A.handled = none → Walks prog w A I fp [I] es.size P St
  start : St 0 h2
  keeps : ∀ b o, s.heap.get? b = some o → h2.get? b = some o
  fp : ∀ b ∈ fp, b = a ∨ s.heap.objs.size ≤ b
  new : s.heap.objs.size ≤ I
  perm : ∀ acc : Array Value, ItemsOf P acc es.size → acc.toList.Perm (es.toList.map (·.2))
end
end L2
namespace L2
open PySem PySem.Spec PyProof.Rows
section
variable {prog : Program} {w : World} {A : Around} {E : Value → Shared → Prop} {s : Shared}
end
end L2
namespace L2
open PySem PySem.Spec PyProof.Rows
def Rising (ns zs : List Int) : Prop := zs.Pairwise (· < ·) ∧ ∀ x, x ∈ zs ↔ x ∈ ns
section
variable {prog : Program} {w : World} {A : Around} {E : Value → Shared → Prop} {s : Shared}
end
end L2
namespace L2
open PySem PySem.Spec PyProof.Rows
section
variable {prog : Program} {w : World} {A : Around} {E : Value → Shared → Prop} {s : Shared}
set_option maxHeartbeats 3200000 in
end
end L2
namespace L2
open PySem PySem.Spec PyProof.Rows
section
variable {X : Cx}
end
end L2
namespace My
open PySem L2 PySem.Spec PyProof.Rows
def top (i : Nat) : Stmt := PySem.Challenge.pw_lampwish_k09_trimmed.main.body.getD i (.Pass ⟨0, 0, 0, 0⟩)
abbrev s_marked : Stmt := top 1
abbrev p_marked : List Str := ["letters"]
abbrev n_marked : List Str := ["letters", "marks", "letter"]
theorem sc_marked : FnScope n_marked p_marked (defScope s_marked) := ⟨rfl, rfl, rfl, by decide +kernel, rfl, by decide +kernel, by decide +kernel⟩
abbrev s_trimmed : Stmt := top 3
abbrev p_trimmed : List Str := ["wishes", "steps"]
abbrev n_trimmed : List Str := ["wishes", "steps", "given", "needed", "moved", "row", "number", "step"]
theorem sc_trimmed : FnScope n_trimmed p_trimmed (defScope s_trimmed) := ⟨rfl, rfl, rfl, by decide +kernel, rfl, by decide +kernel, by decide +kernel⟩
abbrev s_needed_numbers : Stmt := top 4
abbrev p_needed_numbers : List Str := ["given", "steps"]
abbrev n_needed_numbers : List Str := ["given", "steps", "last", "needed", "number", "step"]
theorem sc_needed_numbers : FnScope n_needed_numbers p_needed_numbers (defScope s_needed_numbers) := ⟨rfl, rfl, rfl, by decide +kernel, rfl, by decide +kernel, by decide +kernel⟩
abbrev s_l_draw : Stmt := top 6
abbrev p_l_draw : List Str := ["_law_number", "_law_prime", "_law_many"]
abbrev n_l_draw : List Str := ["_law_number", "_law_prime", "_law_many"]
theorem sc_l_draw : FnScope n_l_draw p_l_draw (defScope s_l_draw) := ⟨rfl, rfl, rfl, by decide +kernel, rfl, by decide +kernel, by decide +kernel⟩
abbrev s_l_whole : Stmt := top 7
abbrev p_l_whole : List Str := ["_law_found"]
abbrev n_l_whole : List Str := ["_law_found"]
theorem sc_l_whole : FnScope n_l_whole p_l_whole (defScope s_l_whole) := ⟨rfl, rfl, rfl, by decide +kernel, rfl, by decide +kernel, by decide +kernel⟩
abbrev s_l_at : Stmt := top 8
abbrev p_l_at : List Str := ["_law_script", "_law_k"]
abbrev n_l_at : List Str := ["_law_script", "_law_k"]
theorem sc_l_at : FnScope n_l_at p_l_at (defScope s_l_at) := ⟨rfl, rfl, rfl, by decide +kernel, rfl, by decide +kernel, by decide +kernel⟩
abbrev s_l_alike : Stmt := top 9
abbrev p_l_alike : List Str := ["_law_found", "_law_due"]
abbrev n_l_alike : List Str := ["_law_found", "_law_due", "_law_left", "_law_right", "_law_one", "_law_two"]
theorem sc_l_alike : FnScope n_l_alike p_l_alike (defScope s_l_alike) := ⟨rfl, rfl, rfl, by decide +kernel, rfl, by decide +kernel, by decide +kernel⟩
abbrev s_l_merge : Stmt := top 10
abbrev p_l_merge : List Str := ["_law_one", "_law_two", "_law_lamp"]
abbrev n_l_merge : List Str := ["_law_one", "_law_two", "_law_lamp", "_law_rows", "_law_most", "_law_letter"]
theorem sc_l_merge : FnScope n_l_merge p_l_merge (defScope s_l_merge) := ⟨rfl, rfl, rfl, by decide +kernel, rfl, by decide +kernel, by decide +kernel⟩
abbrev s_l_right_step : Stmt := top 11
abbrev p_l_right_step : List Str := ["_law_known", "_law_step"]
abbrev n_l_right_step : List Str := ["_law_known", "_law_step", "_law_one", "_law_two", "_law_lamp", "_law_wish"]
theorem sc_l_right_step : FnScope n_l_right_step p_l_right_step (defScope s_l_right_step) := ⟨rfl, rfl, rfl, by decide +kernel, rfl, by decide +kernel, by decide +kernel⟩
abbrev s_l_step_of : Stmt := top 12
abbrev p_l_step_of : List Str := ["_law_known", "_law_one", "_law_two", "_law_letter"]
abbrev n_l_step_of : List Str := ["_law_known", "_law_one", "_law_two", "_law_letter"]
theorem sc_l_step_of : FnScope n_l_step_of p_l_step_of (defScope s_l_step_of) := ⟨rfl, rfl, rfl, by decide +kernel, rfl, by decide +kernel, by decide +kernel⟩
abbrev s_l_rows_of : Stmt := top 13
abbrev p_l_rows_of : List Str := ["_law_cells", "_law_longest", "_law_known"]
abbrev n_l_rows_of : List Str := ["_law_cells", "_law_longest", "_law_known", "_law_steps", "_law_hand", "_law_gone", "_law_k", "_law_cell", "_law_spot", "_law_step"]
theorem sc_l_rows_of : FnScope n_l_rows_of p_l_rows_of (defScope s_l_rows_of) := ⟨rfl, rfl, rfl, by decide +kernel, rfl, by decide +kernel, by decide +kernel⟩
abbrev s_l_marks_of : Stmt := top 14
abbrev p_l_marks_of : List Str := ["_law_steps", "_law_first"]
abbrev n_l_marks_of : List Str := ["_law_steps", "_law_first", "_law_marks", "_law_todo", "_law_k"]
theorem sc_l_marks_of : FnScope n_l_marks_of p_l_marks_of (defScope s_l_marks_of) := ⟨rfl, rfl, rfl, by decide +kernel, rfl, by decide +kernel, by decide +kernel⟩
abbrev s_l_new_number : Stmt := top 15
abbrev p_l_new_number : List Str := ["_law_number", "_law_marks", "_law_first"]
abbrev n_l_new_number : List Str := ["_law_number", "_law_marks", "_law_first", "_law_made", "_law_mark"]
theorem sc_l_new_number : FnScope n_l_new_number p_l_new_number (defScope s_l_new_number) := ⟨rfl, rfl, rfl, by decide +kernel, rfl, by decide +kernel, by decide +kernel⟩
abbrev s_law : Stmt := top 16
abbrev p_law : List Str := ["_law_script"]
abbrev n_law : List Str := ["_law_script", "_law_cell", "_law_count", "_law_longest", "_law_k", "_law_wishes", "_law_first", "_law_steps", "_law_marks", "_law_due", "_law_one", "_law_two", "_law_lamp", "_law_wish", "_law_handed", "_law_walked", "_law_found", "_law_known", "_law_step"]
theorem sc_law : FnScope n_law p_law (defScope s_law) := ⟨rfl, rfl, rfl, by decide +kernel, rfl, by decide +kernel, by decide +kernel⟩
theorem inV_ints (x : Int) (ls : List Int) : inV (.int x) (ls.map V.int) = decide (x ∈ ls) := by
  unfold inV
  rw [List.any_map, Bool.eq_iff_iff, List.any_eq_true]
  constructor
  · rintro ⟨y, hy, e⟩
    have e' : (y == x) = true := e
    rw [← eq_of_beq e']; exact decide_eq_true hy
  · intro h
    exact ⟨x, of_decide_eq_true h, by show (x == x) = true; simp⟩
theorem flat_ints (ls : List Int) : (ls.map V.int).all flatV = true := by
  rw [List.all_map]; simp [Function.comp_def, flatV]
theorem if_notIn {x : Int} {ls : List Int} {A B : Prop} (h1 : ¬ x ∈ ls → A) (h2 : x ∈ ls → B) : if (if true = true then !inV (.int x) (ls.map V.int) else inV (.int x) (ls.map V.int)) = true then A else B := by
  rw [inV_ints, if_pos rfl]
  refine ite2 (fun c => h1 ?_) fun c => h2 ?_
  · intro z; rw [decide_eq_true z] at c; cases c
  · by_cases z : x ∈ ls
    · exact z
    · exact absurd (by rw [decide_eq_false z]; rfl) c
def onceF (acc : List Int) (n : Int) : List Int := if n ∈ acc then acc else acc ++ [n]
def once (ns : List Int) : List Int := ns.foldl onceF []
theorem once_snoc (ns : List Int) (n : Int) : once (ns ++ [n]) = onceF (once ns) n := by simp [once, List.foldl_append]
theorem mem_onceF {acc : List Int} {n x : Int} : x ∈ onceF acc n ↔ x ∈ acc ∨ x = n := by
  unfold onceF
  split
  · rename_i h
    constructor
    · exact .inl
    · rintro (h' | rfl)
      · exact h'
      · exact h
  · simp
theorem onceF_len (acc : List Int) (n : Int) : (onceF acc n).length ≤ acc.length + 1 := by
  unfold onceF; split <;> simp
theorem foldF_len : ∀ (ns acc : List Int), (ns.foldl onceF acc).length ≤ acc.length + ns.length
  | [], acc => by simp
  | n :: ns, acc => by
    rw [List.foldl_cons, List.length_cons]
    have h1 := foldF_len ns (onceF acc n)
    have h2 := onceF_len acc n
    omega
theorem once_len (ns : List Int) : (once ns).length ≤ ns.length := by
  have := foldF_len ns []
  simpa [once] using this
def openOf (ns ts : List Int) : List Int := (once ns).filter fun n => !decide (-n ∈ ts)
def keptBy (ns ts : List Int) : Bool := ns.any fun n => decide (n ∈ ts)
def cnt (w T : List Int) : Option Nat := if keptBy w T = true then none else some (openOf w T).length
def brokenAt (W : List (List Int)) (T : List Int) : Option Nat := W.findIdx? fun w => decide (cnt w T = some 0)
def oneAt (W : List (List Int)) (T : List Int) : Option Nat := W.findIdx? fun w => decide (cnt w T = some 1)
def nextOf (W : List (List Int)) (T : List Int) : Option (Int × Nat) :=
  match brokenAt W T with
  | some _ => none
  | none => match oneAt W T with
    | none => none
    | some i => some ((openOf (W.getD i []) T).headD 0, i)
inductive Run (W : List (List Int)) : List Int → List (Int × Nat) → Prop where
  | stop {T : List Int} (h : nextOf W T = none) : Run W T []
  | step {T : List Int} {x : Int} {i : Nat} {r : List (Int × Nat)} (h : nextOf W T = some (x, i)) (hr : Run W (T ++ [x]) r) : Run W T ((x, i) :: r)
def live (W : List (List Int)) (T : List Int) : Nat := (W.filter fun w => !keptBy w T).length
def mk (l : List Int) : List (Key × V) := l.map fun n => (Sum.inl n, V.bl true)
theorem any_mk (l : List Int) (n : Int) : ((mk l).any fun kv => decide (kv.1 = (Sum.inl n : Key))) = decide (n ∈ l) := by
  rw [Bool.eq_iff_iff, List.any_eq_true]
  constructor
  · rintro ⟨kv, hm, e⟩
    obtain ⟨x, hx, rfl⟩ := List.mem_map.mp hm
    have e' : (Sum.inl x : Key) = Sum.inl n := of_decide_eq_true e
    cases e'
    exact decide_eq_true hx
  · intro h
    exact ⟨(Sum.inl n, V.bl true), List.mem_map.mpr ⟨n, of_decide_eq_true h, rfl⟩, decide_eq_true rfl⟩
theorem has_mk (l : List Int) (n : Int) : (valV (mk l) (Sum.inl n : Key)).isSome = decide (n ∈ l) := by
  rw [← valV_any, any_mk]
theorem put_mk (l : List Int) (n : Int) : putK (mk l) (Sum.inl n : Key) (V.bl true) = mk (onceF l n) := by
  unfold putK
  rw [any_mk]
  unfold onceF
  by_cases h : n ∈ l
  · rw [if_pos (decide_eq_true h), if_pos h]
    unfold mk
    rw [List.map_map]
    refine List.map_congr_left fun x hx => ?_
    show (if (Sum.inl x : Key) = Sum.inl n then ((Sum.inl x : Key), V.bl true) else (Sum.inl x, V.bl true)) = _
    split <;> rfl
  · rw [if_neg (by simp [h]), if_neg h]
    simp [mk]
theorem mk_len (l : List Int) : (mk l).length = l.length := by simp [mk]
def spMarked (K : PySem.W.Frag) : Sp := fun vs H Q _ => ∃ (a : Addr) (ns : List Int), vs = [.ref a] ∧ SqL K H a (ns.map V.int) ∧ ns.length ≤ 100000 ∧ ∀ p H', H p = none → Same H H' → H' p = some (.dK (mk (once ns))) → Q (.ref p) H'
section
variable {P : Program} {w : World} {K : PySem.W.Frag} {mg : Str → Option Value} {base : Heap}
theorem ok_marked (Df : Def K mg "marked" s_marked p_marked) : Cal P w K mg base 1 "marked" p_marked (spMarked K) := by
  refine Df.cal sc_marked (fun vs H Q E h => ?_) (fun f cdv A outer s H vs Q E hr h => ?_)
  · obtain ⟨a, ns, rfl, _⟩ := h; rfl
  · obtain ⟨a, ns, rfl, hS, hz, q⟩ := h
    have hu := hu_of hr
    refine ⟨_, (pss_cons (ps_set (i := 1) sc_marked.nd rfl (Or.inl rfl) pe_dnewK)
 (pss_cons (ps_for PassesOwn.never rfl (pi_list (pv 0)) (pg_name (i := 2) sc_marked.nd rfl (Or.inl rfl))
 (pss_one (ps_dput hu (pv 1) (pv 2) pe_bl rfl)))
 (pss_one (ps_ret (pv 1))))), ?_⟩
    intro p hp
    refine ⟨_, rfl, a, rfl, ⟨_, ((Same.refl H).upd hp).seq hS⟩, for_list (K := K) (a := a) (xs := ns.map V.int) (fun i σ H2 => ∃ v, σ = [some (.ref a), some (.ref p), v] ∧ Same H H2 ∧ H2 p = some (.dK (mk (once (ns.take i)))))
      ⟨none, rfl, (Same.refl H).upd hp, upd_same⟩ (fun i σ H2 _ ⟨_, _, e, _⟩ => e.seq hS) ?_ ?_⟩
    · rintro i y σ H2 hi ⟨v, rfl, sm, h2⟩
      obtain ⟨n, hni, rfl⟩ := getV hi
      refine ⟨_, rfl, _, rfl, p, _, rfl, DPut.k (k := Sum.inl n) h2 (small6 ?_), ?_⟩
      · have h1 := once_len (ns.take i)
        have h3 : (ns.take i).length ≤ ns.length := by simp; omega
        rw [mk_len]; omega
      · refine ⟨_, rfl, sm.upd hp, ?_⟩
        rw [upd_same, put_mk, List.take_add_one, hni, Option.toList_some, once_snoc]
    · rintro σ H2 ⟨v, rfl, sm, h2⟩
      refine ⟨_, rfl, q p H2 hp sm ?_⟩
      rw [h2]; simp
end
abbrev Wr := Addr × List Int
def wrefs (ws : List Wr) : List V := ws.map fun p => V.ref p.1
def WsOk (H : Hp) (ws : List Wr) : Prop := ∀ p ∈ ws, H p.1 = some (.lst (p.2.map V.int))
def wl (ws : List Wr) : List (List Int) := ws.map fun p => p.2
def wsD (ws : List Wr) : List D := ws.map fun p => D.lst (dInts p.2)
theorem WsOk.mono {H H' : Hp} {ws : List Wr} (h : WsOk H ws) (e : Same H H') : WsOk H' ws := fun q hq => e _ _ (h q hq)
theorem wrefs_len (ws : List Wr) : (wrefs ws).length = ws.length := by simp [wrefs]
theorem wl_len (ws : List Wr) : (wl ws).length = ws.length := by simp [wl]
theorem wss_at {H : Hp} : ∀ {ws : List Wr}, WsOk H ws → AtL H (wsD ws) (wrefs ws)
  | [], _ => AtL.nil
  | q :: ws, h => AtL.cons (At.ofInts (h q List.mem_cons_self)) (wss_at fun x hx => h x (List.mem_cons_of_mem _ hx))
theorem ws_at {H : Hp} {ws : List Wr} {a : Addr} (h : WsOk H ws) (ha : H a = some (.lst (wrefs ws))) : At H (.lst (wsD ws)) (.ref a) := by
  unfold At
  exact ⟨a, _, rfl, ha, wss_at h⟩
theorem wr_get {ws : List Wr} {i : Nat} {y : V} (h : (wrefs ws)[i]? = some y) : ∃ q, ws[i]? = some q ∧ y = .ref q.1 := by
  obtain ⟨q, h1, h2⟩ := getV (f := fun p : Wr => V.ref p.1) h
  exact ⟨q, h1, h2⟩
def total (W : List (List Int)) : Nat := (W.map List.length).sum
def spWhole : Sp := fun vs H Q _ => ∃ (v : V) (t : Ty), vs = [v] ∧ TyIs H v t ∧ Q (.bl (decide (t = .int))) H
section
variable {P : Program} {w : World} {K : PySem.W.Frag} {mg : Str → Option Value} {base : Heap}
theorem ok_l_whole (B : Blt mg) (Df : Def K mg "_law_whole" s_l_whole p_l_whole) : Cal P w K mg base 1 "_law_whole" p_l_whole spWhole := by
  refine Df.cal sc_l_whole (fun vs H Q E h => ?_) (fun f cdv A outer s H vs Q E hr h => ?_)
  · obtain ⟨v, t, rfl, _⟩ := h; rfl
  · obtain ⟨v, t, rfl, ty, q⟩ := h
    refine ⟨_, (pss_one (ps_ret (pe_and (pe_callB call_isi (by rfl) B.isinstance_ bt_isinstance (pa_cons (pv 0) (pa_cons (pe_ty B.int_ bt_int) pa_nil))) (pe_one (pe_not (pe_callB call_isi (by rfl) B.isinstance_ bt_isinstance (pa_cons (pv 0) (pa_cons (pe_ty B.bool_ bt_bool) pa_nil)))))))), ?_⟩
    refine ⟨_, rfl, v, t, .int, rfl, ty, _, rfl, ?_⟩
    cases t with
    | int => exact iteT ⟨_, rfl, v, .int, .bl, rfl, ty, _, rfl, q⟩
    | bl => exact iteT ⟨_, rfl, v, .bl, .bl, rfl, ty, _, rfl, q⟩
    | non => exact iteF q
    | str => exact iteF q
    | lst => exact iteF q
    | tup => exact iteF q
end
def spAt (K : PySem.W.Frag) : Sp := fun vs H Q _ => ∃ (a : Addr) (ns : List Int) (k : Nat), vs = [.ref a, .int k] ∧ SqL K H a (ns.map V.int) ∧ Q (.int (ns.getD k 0)) H
section
variable {P : Program} {w : World} {K : PySem.W.Frag} {mg : Str → Option Value} {base : Heap}
theorem ok_l_at (B : Blt mg) (Df : Def K mg "_law_at" s_l_at p_l_at) : Cal P w K mg base 1 "_law_at" p_l_at (spAt K) := by
  refine Df.cal sc_l_at (fun vs H Q E h => ?_) (fun f cdv A outer s H vs Q E hr h => ?_)
  · obtain ⟨a, ns, k, rfl, _⟩ := h; rfl
  · obtain ⟨a, ns, k, rfl, ha, q⟩ := h
    refine ⟨_, (pss_cons (ps_if (pt_cmpR op_lt (pv 1) (pe_callB call_len_seq (by rfl) B.len_ PySem.boot_len (pa_cons (pv 0) pa_nil)) (nomark _))
 (pss_one (ps_ret (pe_ix ix_list (pv 0) (pv 1) (fun _ _ => rfl))))
 pss_nil)
 (pss_one (ps_ret pe_int))), ?_⟩
    refine ⟨_, rfl, _, rfl, a, _, rfl, .inl ha, _, _, rfl, rfl, _, rfl, ite2 (fun c => ?_) (fun c => ?_)⟩
    · have c' : k < ns.length := by
        have := of_decide_eq_true c
        simp at this; omega
      refine ⟨_, rfl, _, rfl, a, _, _, .int (ns.getD k 0), rfl, rfl, ha, atI_nat (by simp [c']), q⟩
    · have c' : ¬ k < ns.length := by
        intro z
        apply c
        apply decide_eq_true
        simp; omega
      have : ns.getD k 0 = 0 := by simp [List.getD, Nat.not_lt.mp c']
      rw [this] at q
      exact q
end
def spAlike : Sp := fun vs H Q _ => ∃ (v1 v2 : V) (d : D), vs = [v1, v2] ∧ At H d v1 ∧ At H d v2 ∧ d.plain = true ∧ d.size ≤ 1000000 ∧ ∀ H', Same H H' → Q (.bl true) H'
section
variable {P : Program} {w : World} {K : PySem.W.Frag} {mg : Str → Option Value} {base : Heap}
theorem ok_l_alike (B : Blt mg) (c_l_whole : Cal P w K mg base 1 "_law_whole" p_l_whole spWhole) (Df : Def K mg "_law_alike" s_l_alike p_l_alike) : Cal P w K mg base 2 "_law_alike" p_l_alike spAlike := by
  refine Df.cal sc_l_alike (fun vs H Q E h => ?_) (fun f cdv A outer s H vs Q E hr h => ?_)
  · obtain ⟨v1, v2, d, rfl, _⟩ := h; rfl
  · obtain ⟨v1, v2, d, rfl, a1, a2, hpl, hz, q⟩ := h
    refine ⟨_, (pss_cons (ps_set (i := 2) sc_l_alike.nd rfl (Or.inl rfl) (pe_lst (pa_cons (pv 0) pa_nil)))
 (pss_cons (ps_set (i := 3) sc_l_alike.nd rfl (Or.inl rfl) (pe_lst (pa_cons (pv 1) pa_nil)))
 (pss_cons (ps_while PassesOwn.never (pt_cmpR (op_neL (hu0 hr)) (pv 3) (pe_lst pa_nil) (nomark _))
 (pss_cons (ps_set (i := 4) sc_l_alike.nd rfl (Or.inl rfl) (pe_bm0 PySem.F.plainAttrs_list PySem.F.slot_list_pop PySem.F.type_list_pop mt_pop (pv 2)))
 (pss_cons (ps_set (i := 5) sc_l_alike.nd rfl (Or.inl rfl) (pe_bm0 PySem.F.plainAttrs_list PySem.F.slot_list_pop PySem.F.type_list_pop mt_pop (pv 3)))
 (pss_one (ps_if (pt_val (pe_callB call_isiT (by rfl) B.isinstance_ bt_isinstance (pa_cons (pv 5) (pa_cons (pe_tup (pa_cons (pe_ty B.list_ bt_list) (pa_cons (pe_ty B.tuple_ bt_tuple) pa_nil))) pa_nil))))
 (pss_cons (ps_if (pt_cmpR op_ne (pe_callB call_isi (by rfl) B.isinstance_ bt_isinstance (pa_cons (pv 4) (pa_cons (pe_ty B.list_ bt_list) pa_nil))) (pe_callB call_isi (by rfl) B.isinstance_ bt_isinstance (pa_cons (pv 5) (pa_cons (pe_ty B.list_ bt_list) pa_nil))) (nomark _))
 (pss_one (ps_ret pe_bl))
 pss_nil)
 (pss_cons (ps_if (PW.pt (pw_or (pt_cmpR op_ne (pe_callB call_isi (by rfl) B.isinstance_ bt_isinstance (pa_cons (pv 4) (pa_cons (pe_ty B.tuple_ bt_tuple) pa_nil))) (pe_callB call_isi (by rfl) B.isinstance_ bt_isinstance (pa_cons (pv 5) (pa_cons (pe_ty B.tuple_ bt_tuple) pa_nil))) (nomark _)) (pw_or1 (pt_cmpR op_ne (pe_callB call_len_seq (by rfl) B.len_ PySem.boot_len (pa_cons (pv 4) pa_nil)) (pe_callB call_len_seq (by rfl) B.len_ PySem.boot_len (pa_cons (pv 5) pa_nil)) (nomark _)))))
 (pss_one (ps_ret pe_bl))
 pss_nil)
 (pss_cons (ps_expr (pe_bm PySem.F.plainAttrs_list PySem.F.slot_list_extend PySem.F.type_list_extend mt_extendLT (pv 2) (pa_cons (pv 4) pa_nil)))
 (pss_one (ps_expr (pe_bm PySem.F.plainAttrs_list PySem.F.slot_list_extend PySem.F.type_list_extend mt_extendLT (pv 3) (pa_cons (pv 5) pa_nil)))))))
 (pss_one (ps_if (pt_cmpR op_isN (pv 5) pe_non (nomark _))
 (pss_one (ps_if (pt_cmpR op_notN (pv 4) pe_non (nomark _))
 (pss_one (ps_ret pe_bl))
 pss_nil))
 (pss_one (ps_if (pt_val (pe_callB call_isi (by rfl) B.isinstance_ bt_isinstance (pa_cons (pv 5) (pa_cons (pe_ty B.bool_ bt_bool) pa_nil))))
 (pss_one (ps_if (PW.pt (pw_or (pt_not (pt_val (pe_callB call_isi (by rfl) B.isinstance_ bt_isinstance (pa_cons (pv 4) (pa_cons (pe_ty B.bool_ bt_bool) pa_nil))))) (pw_or1 (pt_cmpR op_ne (pv 4) (pv 5) (nomark _)))))
 (pss_one (ps_ret pe_bl))
 pss_nil))
 (pss_one (ps_if (PW.pt (pw_or (pt_not (pt_val (pe_def c_l_whole hr (by decide) (pa_cons (pv 4) pa_nil)))) (pw_or1 (pt_cmpR op_ne (pv 4) (pv 5) (nomark _)))))
 (pss_one (ps_ret pe_bl))
 pss_nil)))))))))))
 (pss_one (ps_ret pe_bl))))), ?_⟩
    refine ⟨_, rfl, len1, fun l hl => ?_⟩
    refine ⟨_, rfl, len1, fun r hr0 => ?_⟩
    have nlr : l ≠ r := ne_of_none upd_same hr0
    have hr1 : H r = none := by rw [upd_ne nlr.symm] at hr0; exact hr0
    refine ⟨fun m σ H2 => ∃ ds Ls Rs o1 o2, σ = [some v1, some v2, some (.ref l), some (.ref r), o1, o2] ∧ Same H H2 ∧ H2 l = some (.lst Ls) ∧ H2 r = some (.lst Rs) ∧ AtL H ds Ls ∧ AtL H ds Rs ∧ plains ds = true ∧ sizes ds ≤ 1000000 ∧ m = sizes ds,
      ⟨_, [d], [v1], [v2], none, none, rfl, ((Same.refl H).upd hl).upd hr1, by rw [upd_ne nlr, upd_same], upd_same, AtL.cons a1 AtL.nil, AtL.cons a2 AtL.nil, by simp [plains, hpl], by simpa [sizes] using hz, rfl⟩, ?_⟩
    rintro m σ H2 ⟨ds, Ls, Rs, o1, o2, rfl, sm, hL, hR, aL, aR, hp, hsz, rfl⟩
    refine ⟨_, rfl, by decide, fun p hp0 => ?_⟩
    have npr : r ≠ p := ne_of_none hR hp0
    have npl : l ≠ p := ne_of_none hL hp0
    refine ⟨Rs.isEmpty, ⟨r, p, Rs, [], rfl, rfl, SqL.of (by rw [upd_ne npr]; exact hR), SqL.of upd_same, .inl ⟨rfl, rfl⟩⟩, _, rfl, ?_⟩
    rcases snoc_cases ds with rfl | ⟨ds', d', rfl⟩
    · have : Rs = [] := by unfold AtL at aR; exact aR
      subst this
      refine iteF ?_
      exact q _ (sm.upd (sm.free hp0))
    · obtain ⟨Ls', x1, rfl, aL', ax1⟩ := aL.last
      obtain ⟨Rs', x2, rfl, aR', ax2⟩ := aR.last
      have ene : (Rs' ++ [x2]).isEmpty = false := by simp
      rw [ene]
      refine iteT ⟨fun σ' H' => ∃ m', m' < sizes (ds' ++ [d']) ∧ ∃ ds Ls Rs o1 o2, σ' = [some v1, some v2, some (.ref l), some (.ref r), o1, o2] ∧ Same H H' ∧ H' l = some (.lst Ls) ∧ H' r = some (.lst Rs) ∧ AtL H ds Ls ∧ AtL H ds Rs ∧ plains ds = true ∧ sizes ds ≤ 1000000 ∧ m' = sizes ds, fun _ _ h => h, ?_⟩
      have hL3 : upd H2 p (.lst []) l = some (.lst (Ls' ++ [x1])) := by rw [upd_ne npl]; exact hL
      refine ⟨_, rfl, .inl ⟨rfl, _, SqL.of hL3⟩, l, _, x1, rfl, rfl, hL3, by simp, ?_⟩
      have hR4 : upd (upd H2 p (.lst [])) l (.lst (Ls' ++ [x1]).dropLast) r = some (.lst (Rs' ++ [x2])) := by rw [upd_ne nlr.symm, upd_ne npr]; exact hR
      refine ⟨_, rfl, .inl ⟨rfl, _, SqL.of hR4⟩, r, _, x2, rfl, rfl, hR4, by simp, ?_⟩
      have sm5 : Same H (upd (upd (upd H2 p (.lst [])) l (.lst (Ls' ++ [x1]).dropLast)) r (.lst (Rs' ++ [x2]).dropLast)) := ((sm.upd (sm.free hp0)).upd hl).upd hr1
      have hL5 : (upd (upd (upd H2 p (.lst [])) l (.lst (Ls' ++ [x1]).dropLast)) r (.lst (Rs' ++ [x2]).dropLast)) l = some (.lst Ls') := by rw [upd_ne nlr, upd_same]; simp
      have hR5 : (upd (upd (upd H2 p (.lst [])) l (.lst (Ls' ++ [x1]).dropLast)) r (.lst (Rs' ++ [x2]).dropLast)) r = some (.lst Rs') := by rw [upd_same]; simp
      generalize (upd (upd (upd H2 p (.lst [])) l (.lst (Ls' ++ [x1]).dropLast)) r (.lst (Rs' ++ [x2]).dropLast)) = H5 at sm5 hL5 hR5
      have e1 : plains ds' = true ∧ d'.plain = true := by
        rw [plains_append] at hp
        simpa [plains] using hp
      have e2 : sizes (ds' ++ [d']) = sizes ds' + d'.size := by rw [sizes_append]; simp [sizes]
      refine ⟨_, rfl, by decide, fun pt hpt => ?_⟩
      have npt : r ≠ pt := ne_of_none hR5 hpt
      have nlt : l ≠ pt := ne_of_none hL5 hpt
      have sm6 : Same H (upd H5 pt (.tup [.ty "list", .ty "tuple"])) := sm5.upd (sm5.free hpt)
      have hL6 : upd H5 pt (.tup [.ty "list", .ty "tuple"]) l = some (.lst Ls') := by rw [upd_ne nlt]; exact hL5
      have hR6 : upd H5 pt (.tup [.ty "list", .ty "tuple"]) r = some (.lst Rs') := by rw [upd_ne npt]; exact hR5
      have hP6 : upd H5 pt (.tup [.ty "list", .ty "tuple"]) pt = some (.tup [.ty "list", .ty "tuple"]) := upd_same
      generalize upd H5 pt (.tup [.ty "list", .ty "tuple"]) = H6 at sm6 hL6 hR6 hP6
      have fin : ∀ o1 o2, ∃ m', m' < sizes (ds' ++ [d']) ∧ ∃ ds Ls Rs o1' o2', [some v1, some v2, some (V.ref l), some (V.ref r), o1, o2] = [some v1, some v2, some (.ref l), some (.ref r), o1', o2'] ∧ Same H H6 ∧ H6 l = some (.lst Ls) ∧ H6 r = some (.lst Rs) ∧ AtL H ds Ls ∧ AtL H ds Rs ∧ plains ds = true ∧ sizes ds ≤ 1000000 ∧ m' = sizes ds :=
        fun o1 o2 => ⟨sizes ds', by have : 1 ≤ d'.size := (by cases d' <;> simp [D.size] <;> omega); omega, ds', Ls', Rs', o1, o2, rfl, sm6, hL6, hR6, aL', aR', e1.1, by omega, rfl⟩
      have isi : ∀ {t : Ty} {R : Prop}, TyIs H6 x2 t → (∀ k : Bool, k = ([Ty.lst, Ty.tup].any (Ty.isa t)) → R) → R := fun _ h => h _ rfl
      cases d' with
      | str x => exact absurd e1.2 (by simp [D.plain])
      | non =>
        unfold At at ax1 ax2; subst ax1 ax2
        refine ⟨_, pt, .non, [.lst, .tup], rfl, hP6, trivial, _, rfl, iteF ?_⟩
        refine ⟨_, rfl, rfl, _, rfl, iteT ?_⟩
        refine ⟨_, rfl, rfl, _, rfl, iteF ?_⟩
        exact fin _ _
      | bl b =>
        unfold At at ax1 ax2; subst ax1 ax2
        refine ⟨_, pt, .bl, [.lst, .tup], rfl, hP6, trivial, _, rfl, iteF ?_⟩
        refine ⟨_, rfl, rfl, _, rfl, iteF ?_⟩
        refine ⟨_, rfl, _, .bl, .bl, rfl, trivial, _, rfl, iteT ?_⟩
        refine ⟨_, rfl, _, .bl, .bl, rfl, trivial, _, rfl, iteF ?_⟩
        refine ⟨_, rfl, _, rfl, rfl, _, rfl, iteNS rfl ?_⟩
        exact fin _ _
      | int b =>
        unfold At at ax1 ax2; subst ax1 ax2
        refine ⟨_, pt, .int, [.lst, .tup], rfl, hP6, trivial, _, rfl, iteF ?_⟩
        refine ⟨_, rfl, rfl, _, rfl, iteF ?_⟩
        refine ⟨_, rfl, _, .int, .bl, rfl, trivial, _, rfl, iteF ?_⟩
        refine ⟨_, rfl, _, .int, rfl, trivial, _, rfl, iteF ?_⟩
        refine ⟨_, rfl, _, rfl, rfl, _, rfl, iteNS rfl ?_⟩
        exact fin _ _
      | lst es =>
        have ax1' := ax1.mono sm6
        have ax2' := ax2.mono sm6
        unfold At at ax1 ax2 ax1' ax2'
        obtain ⟨p1, w1, rfl, g1, k1⟩ := ax1
        obtain ⟨p2, w2, rfl, g2, k2⟩ := ax2
        have g1' := sm6 _ _ g1
        have g2' := sm6 _ _ g2
        have T1 : TyIs H6 (.ref p1) .lst := ⟨_, .inl g1'⟩
        have T2 : TyIs H6 (.ref p2) .lst := ⟨_, .inl g2'⟩
        have lw : w1.length = w2.length := by rw [← k1.length, ← k2.length]
        have el : es.length ≤ sizes es := length_sizes es
        have e3 : sizes (ds' ++ [D.lst es]) = sizes ds' + (1 + sizes es) := e2
        have eL := aL'.length
        have eR := aR'.length
        have lL := length_sizes ds'
        have np2 : p2 ≠ l := ne_of_none g2 hl
        refine ⟨_, pt, .lst, [.lst, .tup], rfl, hP6, T2, _, rfl, iteT ?_⟩
        refine ⟨_, rfl, _, .lst, .lst, rfl, T1, _, rfl, _, .lst, .lst, rfl, T2, rfl, _, rfl, iteNS rfl ?_⟩
        refine ⟨_, rfl, _, .lst, .tup, rfl, T1, _, rfl, _, .lst, .tup, rfl, T2, rfl, _, rfl, iteNS rfl ?_⟩
        refine ⟨_, rfl, p1, _, rfl, .inl (SqL.of g1'), _, rfl, p2, _, rfl, .inl (SqL.of g2'), rfl, _, rfl, iteNS (by rw [lw]) ?_⟩
        refine ⟨_, rfl, .inl ⟨rfl, _, SqL.of hL6⟩, _, rfl, l, p1, _, _, rfl, rfl, hL6, .inl g1', small6' (by have := k1.length; omega), ?_⟩
        have hR7 : upd H6 l (.lst (Ls' ++ w1)) r = some (.lst Rs') := by rw [upd_ne nlr.symm]; exact hR6
        refine ⟨_, rfl, .inl ⟨rfl, _, SqL.of hR7⟩, _, rfl, r, p2, _, _, rfl, rfl, hR7, .inl (by rw [upd_ne np2]; exact g2'), small6' (by have := k2.length; omega), ?_⟩
        exact ⟨sizes (ds' ++ es), by rw [sizes_append, e3]; omega, ds' ++ es, Ls' ++ w1, Rs' ++ w2, _, _, rfl, (sm6.upd hl).upd hr1, by rw [upd_ne nlr, upd_same], upd_same, aL'.append k1, aR'.append k2, by rw [plains_append]; simpa [D.plain] using e1, by rw [sizes_append]; omega, rfl⟩
      | tup es =>
        unfold At at ax1 ax2
        obtain ⟨p1, w1, rfl, g1, k1⟩ := ax1
        obtain ⟨p2, w2, rfl, g2, k2⟩ := ax2
        have g1' := sm6 _ _ g1
        have g2' := sm6 _ _ g2
        have T1 : TyIs H6 (.ref p1) .tup := ⟨_, g1'⟩
        have T2 : TyIs H6 (.ref p2) .tup := ⟨_, g2'⟩
        have lw : w1.length = w2.length := by rw [← k1.length, ← k2.length]
        have el : es.length ≤ sizes es := length_sizes es
        have e3 : sizes (ds' ++ [D.tup es]) = sizes ds' + (1 + sizes es) := e2
        have eL := aL'.length
        have eR := aR'.length
        have lL := length_sizes ds'
        have np2 : p2 ≠ l := ne_of_none g2 hl
        refine ⟨_, pt, .tup, [.lst, .tup], rfl, hP6, T2, _, rfl, iteT ?_⟩
        refine ⟨_, rfl, _, .tup, .lst, rfl, T1, _, rfl, _, .tup, .lst, rfl, T2, rfl, _, rfl, iteNS rfl ?_⟩
        refine ⟨_, rfl, _, .tup, .tup, rfl, T1, _, rfl, _, .tup, .tup, rfl, T2, rfl, _, rfl, iteNS rfl ?_⟩
        refine ⟨_, rfl, p1, _, rfl, .inr (SqT.of g1'), _, rfl, p2, _, rfl, .inr (SqT.of g2'), rfl, _, rfl, iteNS (by rw [lw]) ?_⟩
        refine ⟨_, rfl, .inl ⟨rfl, _, SqL.of hL6⟩, _, rfl, l, p1, _, _, rfl, rfl, hL6, .inr g1', small6' (by have := k1.length; omega), ?_⟩
        have hR7 : upd H6 l (.lst (Ls' ++ w1)) r = some (.lst Rs') := by rw [upd_ne nlr.symm]; exact hR6
        refine ⟨_, rfl, .inl ⟨rfl, _, SqL.of hR7⟩, _, rfl, r, p2, _, _, rfl, rfl, hR7, .inr (by rw [upd_ne np2]; exact g2'), small6' (by have := k2.length; omega), ?_⟩
        exact ⟨sizes (ds' ++ es), by rw [sizes_append, e3]; omega, ds' ++ es, Ls' ++ w1, Rs' ++ w2, _, _, rfl, (sm6.upd hl).upd hr1, by rw [upd_ne nlr, upd_same], upd_same, aL'.append k1, aR'.append k2, by rw [plains_append]; simpa [D.plain] using e1, by rw [sizes_append]; omega, rfl⟩
end
def spAlikeI : Sp := fun vs H Q _ => ∃ (a b : Addr) (ns ms : List Int), vs = [.ref a, .ref b] ∧ H a = some (.lst (ns.map V.int)) ∧ H b = some (.lst (ms.map V.int)) ∧ ns.length ≤ 10000 ∧ ms.length ≤ 10000 ∧ ∀ H', Same H H' → Q (.bl (decide (ns = ms))) H'
section
variable {P : Program} {w : World} {K : PySem.W.Frag} {mg : Str → Option Value} {base : Heap}
theorem ok_l_alikeI (B : Blt mg) (c_l_whole : Cal P w K mg base 1 "_law_whole" p_l_whole spWhole) (Df : Def K mg "_law_alike" s_l_alike p_l_alike) : Cal P w K mg base 2 "_law_alike" p_l_alike spAlikeI := by
  refine Df.cal sc_l_alike (fun vs H Q E h => ?_) (fun f cdv A outer s H vs Q E hr h => ?_)
  · obtain ⟨a, b, ns, ms, rfl, _⟩ := h; rfl
  · obtain ⟨a, b, ns, ms, rfl, ha, hb, hz1, hz2, q⟩ := h
    refine ⟨_, (pss_cons (ps_set (i := 2) sc_l_alike.nd rfl (Or.inl rfl) (pe_lst (pa_cons (pv 0) pa_nil)))
 (pss_cons (ps_set (i := 3) sc_l_alike.nd rfl (Or.inl rfl) (pe_lst (pa_cons (pv 1) pa_nil)))
 (pss_cons (ps_while PassesOwn.never (pt_cmpR (op_neL (hu0 hr)) (pv 3) (pe_lst pa_nil) (nomark _))
 (pss_cons (ps_set (i := 4) sc_l_alike.nd rfl (Or.inl rfl) (pe_bm0 PySem.F.plainAttrs_list PySem.F.slot_list_pop PySem.F.type_list_pop mt_pop (pv 2)))
 (pss_cons (ps_set (i := 5) sc_l_alike.nd rfl (Or.inl rfl) (pe_bm0 PySem.F.plainAttrs_list PySem.F.slot_list_pop PySem.F.type_list_pop mt_pop (pv 3)))
 (pss_one (ps_if (pt_val (pe_callB call_isiT (by rfl) B.isinstance_ bt_isinstance (pa_cons (pv 5) (pa_cons (pe_tup (pa_cons (pe_ty B.list_ bt_list) (pa_cons (pe_ty B.tuple_ bt_tuple) pa_nil))) pa_nil))))
 (pss_cons (ps_if (pt_cmpR op_ne (pe_callB call_isi (by rfl) B.isinstance_ bt_isinstance (pa_cons (pv 4) (pa_cons (pe_ty B.list_ bt_list) pa_nil))) (pe_callB call_isi (by rfl) B.isinstance_ bt_isinstance (pa_cons (pv 5) (pa_cons (pe_ty B.list_ bt_list) pa_nil))) (nomark _))
 (pss_one (ps_ret pe_bl))
 pss_nil)
 (pss_cons (ps_if (PW.pt (pw_or (pt_cmpR op_ne (pe_callB call_isi (by rfl) B.isinstance_ bt_isinstance (pa_cons (pv 4) (pa_cons (pe_ty B.tuple_ bt_tuple) pa_nil))) (pe_callB call_isi (by rfl) B.isinstance_ bt_isinstance (pa_cons (pv 5) (pa_cons (pe_ty B.tuple_ bt_tuple) pa_nil))) (nomark _)) (pw_or1 (pt_cmpR op_ne (pe_callB call_len_seq (by rfl) B.len_ PySem.boot_len (pa_cons (pv 4) pa_nil)) (pe_callB call_len_seq (by rfl) B.len_ PySem.boot_len (pa_cons (pv 5) pa_nil)) (nomark _)))))
 (pss_one (ps_ret pe_bl))
 pss_nil)
 (pss_cons (ps_expr (pe_bm PySem.F.plainAttrs_list PySem.F.slot_list_extend PySem.F.type_list_extend mt_extendLT (pv 2) (pa_cons (pv 4) pa_nil)))
 (pss_one (ps_expr (pe_bm PySem.F.plainAttrs_list PySem.F.slot_list_extend PySem.F.type_list_extend mt_extendLT (pv 3) (pa_cons (pv 5) pa_nil)))))))
 (pss_one (ps_if (pt_cmpR op_isN (pv 5) pe_non (nomark _))
 (pss_one (ps_if (pt_cmpR op_notN (pv 4) pe_non (nomark _))
 (pss_one (ps_ret pe_bl))
 pss_nil))
 (pss_one (ps_if (pt_val (pe_callB call_isi (by rfl) B.isinstance_ bt_isinstance (pa_cons (pv 5) (pa_cons (pe_ty B.bool_ bt_bool) pa_nil))))
 (pss_one (ps_if (PW.pt (pw_or (pt_not (pt_val (pe_callB call_isi (by rfl) B.isinstance_ bt_isinstance (pa_cons (pv 4) (pa_cons (pe_ty B.bool_ bt_bool) pa_nil))))) (pw_or1 (pt_cmpR op_ne (pv 4) (pv 5) (nomark _)))))
 (pss_one (ps_ret pe_bl))
 pss_nil))
 (pss_one (ps_if (PW.pt (pw_or (pt_not (pt_val (pe_def c_l_whole hr (by decide) (pa_cons (pv 4) pa_nil)))) (pw_or1 (pt_cmpR op_ne (pv 4) (pv 5) (nomark _)))))
 (pss_one (ps_ret pe_bl))
 pss_nil)))))))))))
 (pss_one (ps_ret pe_bl))))), ?_⟩
    refine ⟨_, rfl, len1, fun l hl => ?_⟩
    refine ⟨_, rfl, len1, fun r hr0 => ?_⟩
    have nlr : l ≠ r := ne_of_none upd_same hr0
    have hr1 : H r = none := by rw [upd_ne nlr.symm] at hr0; exact hr0
    refine ⟨fun m σ H2 => ∃ o1 o2, σ = [some (.ref a), some (.ref b), some (.ref l), some (.ref r), o1, o2] ∧ Same H H2 ∧ ((m = ns.length + 1 ∧ H2 l = some (.lst [.ref a]) ∧ H2 r = some (.lst [.ref b])) ∨ (∃ xs ys : List Int, H2 l = some (.lst (xs.map V.int)) ∧ H2 r = some (.lst (ys.map V.int)) ∧ xs.length = ys.length ∧ m = xs.length ∧ xs.length ≤ ns.length ∧ (ns = ms ↔ xs = ys))),
      ⟨_, none, none, rfl, ((Same.refl H).upd hl).upd hr1, .inl ⟨rfl, by rw [upd_ne nlr, upd_same], upd_same⟩⟩, ?_⟩
    rintro m σ H2 ⟨o1, o2, rfl, sm, hcase⟩
    rcases hcase with ⟨rfl, hL, hR⟩ | ⟨xs, ys, hL, hR, hxy, rfl, hxn, hiff⟩
    · refine ⟨_, rfl, by decide, fun p hp0 => ?_⟩
      have npr : r ≠ p := ne_of_none hR hp0
      have npl : l ≠ p := ne_of_none hL hp0
      refine ⟨false, ⟨r, p, _, [], rfl, rfl, SqL.of (by rw [upd_ne npr]; exact hR), SqL.of upd_same, .inl ⟨rfl, rfl⟩⟩, _, rfl, ?_⟩
      refine iteT ⟨fun σ' H' => ∃ m', m' < ns.length + 1 ∧ ∃ o1 o2, σ' = [some (.ref a), some (.ref b), some (.ref l), some (.ref r), o1, o2] ∧ Same H H' ∧ ((m' = ns.length + 1 ∧ H' l = some (.lst [.ref a]) ∧ H' r = some (.lst [.ref b])) ∨ (∃ xs ys : List Int, H' l = some (.lst (xs.map V.int)) ∧ H' r = some (.lst (ys.map V.int)) ∧ xs.length = ys.length ∧ m' = xs.length ∧ xs.length ≤ ns.length ∧ (ns = ms ↔ xs = ys))), fun _ _ h => h, ?_⟩
      have hL3 : upd H2 p (.lst []) l = some (.lst [.ref a]) := by rw [upd_ne npl]; exact hL
      refine ⟨_, rfl, .inl ⟨rfl, _, SqL.of hL3⟩, l, _, .ref a, rfl, rfl, hL3, by simp, ?_⟩
      have hR4 : upd (upd H2 p (.lst [])) l (.lst ([V.ref a].dropLast)) r = some (.lst [.ref b]) := by rw [upd_ne nlr.symm, upd_ne npr]; exact hR
      refine ⟨_, rfl, .inl ⟨rfl, _, SqL.of hR4⟩, r, _, .ref b, rfl, rfl, hR4, by simp, ?_⟩
      have sm5 : Same H (upd (upd (upd H2 p (.lst [])) l (.lst ([V.ref a].dropLast))) r (.lst ([V.ref b].dropLast))) := ((sm.upd (sm.free hp0)).upd hl).upd hr1
      have hL5 : (upd (upd (upd H2 p (.lst [])) l (.lst ([V.ref a].dropLast))) r (.lst ([V.ref b].dropLast))) l = some (.lst []) := by rw [upd_ne nlr, upd_same]; simp
      have hR5 : (upd (upd (upd H2 p (.lst [])) l (.lst ([V.ref a].dropLast))) r (.lst ([V.ref b].dropLast))) r = some (.lst []) := by rw [upd_same]; simp
      generalize (upd (upd (upd H2 p (.lst [])) l (.lst ([V.ref a].dropLast))) r (.lst ([V.ref b].dropLast))) = H5 at sm5 hL5 hR5
      refine ⟨_, rfl, by decide, fun pt hpt => ?_⟩
      have sm6 : Same H (upd H5 pt (.tup [.ty "list", .ty "tuple"])) := sm5.upd (sm5.free hpt)
      have hL6 : upd H5 pt (.tup [.ty "list", .ty "tuple"]) l = some (.lst []) := by rw [upd_ne (ne_of_none hL5 hpt)]; exact hL5
      have hR6 : upd H5 pt (.tup [.ty "list", .ty "tuple"]) r = some (.lst []) := by rw [upd_ne (ne_of_none hR5 hpt)]; exact hR5
      have hP6 : upd H5 pt (.tup [.ty "list", .ty "tuple"]) pt = some (.tup [.ty "list", .ty "tuple"]) := upd_same
      generalize upd H5 pt (.tup [.ty "list", .ty "tuple"]) = H6 at sm6 hL6 hR6 hP6
      have g1 := sm6 _ _ ha
      have g2 := sm6 _ _ hb
      have T1 : TyIs H6 (.ref a) .lst := ⟨_, .inl g1⟩
      have T2 : TyIs H6 (.ref b) .lst := ⟨_, .inl g2⟩
      have np2 : b ≠ l := ne_of_none hb hl
      refine ⟨_, pt, .lst, [.lst, .tup], rfl, hP6, T2, _, rfl, iteT ?_⟩
      refine ⟨_, rfl, _, .lst, .lst, rfl, T1, _, rfl, _, .lst, .lst, rfl, T2, rfl, _, rfl, iteNS rfl ?_⟩
      refine ⟨_, rfl, _, .lst, .tup, rfl, T1, _, rfl, _, .lst, .tup, rfl, T2, rfl, _, rfl, iteNS rfl ?_⟩
      refine ⟨_, rfl, a, _, rfl, .inl (SqL.of g1), _, rfl, b, _, rfl, .inl (SqL.of g2), rfl, _, rfl, ite2 (fun c => ?_) (fun c => ?_)⟩
      · have hne : ns ≠ ms := fun e => by rw [e] at c; simp at c
        have := q H6 sm6
        rw [decide_eq_false hne] at this
        exact this
      · have hlen : ns.length = ms.length := by
          by_cases z : ns.length = ms.length
          · exact z
          · exfalso; apply c; simp; omega
        refine ⟨_, rfl, .inl ⟨rfl, _, SqL.of hL6⟩, _, rfl, l, a, _, _, rfl, rfl, hL6, .inl g1, small6' (by simp; omega), ?_⟩
        have hR7 : upd H6 l (.lst ([] ++ ns.map V.int)) r = some (.lst []) := by rw [upd_ne nlr.symm]; exact hR6
        refine ⟨_, rfl, .inl ⟨rfl, _, SqL.of hR7⟩, _, rfl, r, b, _, _, rfl, rfl, hR7, .inl (by rw [upd_ne np2]; exact g2), small6' (by simp; omega), ?_⟩
        exact ⟨ns.length, by omega, _, _, rfl, (sm6.upd hl).upd hr1, .inr ⟨ns, ms, by rw [upd_ne nlr, upd_same]; simp, by rw [upd_same]; simp, hlen, rfl, Nat.le_refl _, Iff.rfl⟩⟩
    · refine ⟨_, rfl, by decide, fun p hp0 => ?_⟩
      have npr : r ≠ p := ne_of_none hR hp0
      have npl : l ≠ p := ne_of_none hL hp0
      refine ⟨(ys.map V.int).isEmpty, ⟨r, p, _, [], rfl, rfl, SqL.of (by rw [upd_ne npr]; exact hR), SqL.of upd_same, .inl ⟨rfl, rfl⟩⟩, _, rfl, ?_⟩
      rcases snoc_cases ys with rfl | ⟨ys', y, rfl⟩
      · have ex : xs = [] := List.length_eq_zero_iff.mp (by simpa using hxy)
        refine iteF ?_
        have := q _ (sm.upd (o := HO.lst []) (sm.free hp0))
        rw [decide_eq_true (hiff.mpr ex)] at this
        exact this
      rcases snoc_cases xs with rfl | ⟨xs', x, rfl⟩
      · simp at hxy
      have hxy' : xs'.length = ys'.length := by simpa using hxy
      have ene : ((ys' ++ [y]).map V.int).isEmpty = false := by simp
      rw [ene]
      refine iteT ⟨fun σ' H' => ∃ m', m' < (xs' ++ [x]).length ∧ ∃ o1 o2, σ' = [some (.ref a), some (.ref b), some (.ref l), some (.ref r), o1, o2] ∧ Same H H' ∧ ((m' = ns.length + 1 ∧ H' l = some (.lst [.ref a]) ∧ H' r = some (.lst [.ref b])) ∨ (∃ xs ys : List Int, H' l = some (.lst (xs.map V.int)) ∧ H' r = some (.lst (ys.map V.int)) ∧ xs.length = ys.length ∧ m' = xs.length ∧ xs.length ≤ ns.length ∧ (ns = ms ↔ xs = ys))), fun _ _ h => h, ?_⟩
      have hL3 : upd H2 p (.lst []) l = some (.lst (xs'.map V.int ++ [V.int x])) := by rw [upd_ne npl, hL, List.map_append]; rfl
      refine ⟨_, rfl, .inl ⟨rfl, _, SqL.of hL3⟩, l, _, .int x, rfl, rfl, hL3, by simp, ?_⟩
      have hR4 : upd (upd H2 p (.lst [])) l (.lst (xs'.map V.int ++ [V.int x]).dropLast) r = some (.lst (ys'.map V.int ++ [V.int y])) := by rw [upd_ne nlr.symm, upd_ne npr, hR, List.map_append]; rfl
      refine ⟨_, rfl, .inl ⟨rfl, _, SqL.of hR4⟩, r, _, .int y, rfl, rfl, hR4, by simp, ?_⟩
      have sm5 : Same H (upd (upd (upd H2 p (.lst [])) l (.lst (xs'.map V.int ++ [V.int x]).dropLast)) r (.lst (ys'.map V.int ++ [V.int y]).dropLast)) := ((sm.upd (sm.free hp0)).upd hl).upd hr1
      have hL5 : (upd (upd (upd H2 p (.lst [])) l (.lst (xs'.map V.int ++ [V.int x]).dropLast)) r (.lst (ys'.map V.int ++ [V.int y]).dropLast)) l = some (.lst (xs'.map V.int)) := by rw [upd_ne nlr, upd_same]; simp
      have hR5 : (upd (upd (upd H2 p (.lst [])) l (.lst (xs'.map V.int ++ [V.int x]).dropLast)) r (.lst (ys'.map V.int ++ [V.int y]).dropLast)) r = some (.lst (ys'.map V.int)) := by rw [upd_same]; simp
      generalize (upd (upd (upd H2 p (.lst [])) l (.lst (xs'.map V.int ++ [V.int x]).dropLast)) r (.lst (ys'.map V.int ++ [V.int y]).dropLast)) = H5 at sm5 hL5 hR5
      refine ⟨_, rfl, by decide, fun pt hpt => ?_⟩
      have sm6 : Same H (upd H5 pt (.tup [.ty "list", .ty "tuple"])) := sm5.upd (sm5.free hpt)
      have hL6 : upd H5 pt (.tup [.ty "list", .ty "tuple"]) l = some (.lst (xs'.map V.int)) := by rw [upd_ne (ne_of_none hL5 hpt)]; exact hL5
      have hR6 : upd H5 pt (.tup [.ty "list", .ty "tuple"]) r = some (.lst (ys'.map V.int)) := by rw [upd_ne (ne_of_none hR5 hpt)]; exact hR5
      have hP6 : upd H5 pt (.tup [.ty "list", .ty "tuple"]) pt = some (.tup [.ty "list", .ty "tuple"]) := upd_same
      generalize upd H5 pt (.tup [.ty "list", .ty "tuple"]) = H6 at sm6 hL6 hR6 hP6
      refine ⟨_, pt, .int, [.lst, .tup], rfl, hP6, trivial, _, rfl, iteF ?_⟩
      refine ⟨_, rfl, rfl, _, rfl, iteF ?_⟩
      refine ⟨_, rfl, _, .int, .bl, rfl, trivial, _, rfl, iteF ?_⟩
      refine ⟨_, rfl, _, .int, rfl, trivial, _, rfl, iteF ?_⟩
      refine ⟨_, rfl, _, rfl, rfl, _, rfl, ite2 (fun c => ?_) (fun c => ?_)⟩
      · have hne : x ≠ y := fun e => by rw [e] at c; simp at c
        have hne2 : ns ≠ ms := fun e => by
          have := hiff.mp e
          have := List.append_inj_right' this rfl
          exact hne (by simpa using this)
        have := q H6 sm6
        rw [decide_eq_false hne2] at this
        exact this
      · have he : x = y := by
          by_cases z : x = y
          · exact z
          · exfalso; apply c; simp [z]
        subst he
        refine ⟨xs'.length, by simp, _, _, rfl, sm6, .inr ⟨xs', ys', hL6, hR6, hxy', rfl, by simp at hxn; omega, ?_⟩⟩
        rw [hiff]
        constructor
        · intro e; exact (List.append_inj' e rfl).1
        · intro e; rw [e]
end
def spLaw (K : PySem.W.Frag) : Sp := fun vs H Q _ => ∃ (a : Addr) (ns : List Int), vs = [.ref a] ∧ SqL K H a (ns.map V.int) ∧ ns.length ≤ 63 ∧ ∀ H', Q (.bl true) H'
def absI (n : Int) : Int := if n < 0 then -n else n
def mrows (x : Int) (ns ms : List Int) : List Int := ns.filter (fun n => !decide (n = x)) ++ ms.filter (fun n => !decide (n = -x))
def mostF (m n : Int) : Int := if absI n > m then absI n else m
def most (ns : List Int) : Int := ns.foldl mostF 0
theorem most_snoc (ns : List Int) (n : Int) : most (ns ++ [n]) = mostF (most ns) n := by simp [most, List.foldl_append]
theorem mostF_ge (m n : Int) : m ≤ mostF m n ∧ -(mostF m n) ≤ n ∧ n ≤ mostF m n := by unfold mostF absI; split <;> split at * <;> omega
theorem most_ge : ∀ (ns : List Int) (m : Int), m ≤ ns.foldl mostF m ∧ ∀ n ∈ ns, -(ns.foldl mostF m) ≤ n ∧ n ≤ ns.foldl mostF m
  | [], m => ⟨Int.le_refl _, fun _ h => nomatch h⟩
  | n :: ns, m => by
    obtain ⟨h1, h2⟩ := most_ge ns (mostF m n)
    obtain ⟨g1, g2, g3⟩ := mostF_ge m n
    refine ⟨Int.le_trans g1 h1, fun k hk => ?_⟩
    rcases List.mem_cons.mp hk with rfl | hk
    · exact ⟨by simp only [List.foldl_cons]; omega, by simp only [List.foldl_cons]; omega⟩
    · exact h2 k hk
theorem most_le {b : Int} : ∀ (ns : List Int) (m : Int), m ≤ b → (∀ n ∈ ns, -b ≤ n ∧ n ≤ b) → ns.foldl mostF m ≤ b
  | [], _, h, _ => h
  | n :: ns, m, h, h2 => most_le ns (mostF m n) (by have := h2 n List.mem_cons_self; unfold mostF absI; split <;> split at * <;> omega) fun k hk => h2 k (List.mem_cons_of_mem _ hk)
theorem most_nn (ns : List Int) : 0 ≤ most ns := (most_ge ns 0).1
def rise (ns : List Int) : List Int := ((List.range (most ns + 1 - (0 - most ns)).toNat).filter fun i : Nat => decide (0 - most ns + (i : Int) ∈ ns)).map fun i : Nat => 0 - most ns + (i : Int)
theorem mem_rise {ns : List Int} {x : Int} : x ∈ rise ns ↔ x ∈ ns := by
  unfold rise
  rw [List.mem_map]
  constructor
  · rintro ⟨i, hi, rfl⟩
    exact of_decide_eq_true (List.mem_filter.mp hi).2
  · intro h
    have h0 := most_nn ns
    have h1 := (most_ge ns 0).2 x h
    have h1' : -(most ns) ≤ x ∧ x ≤ most ns := h1
    have e : 0 - most ns + (((x + most ns).toNat : Nat) : Int) = x := by omega
    refine ⟨(x + most ns).toNat, List.mem_filter.mpr ⟨List.mem_range.mpr (by omega), ?_⟩, e⟩
    apply decide_eq_true
    rw [e]; exact h
theorem rise_rising (ns : List Int) : Rising ns (rise ns) := by
  refine ⟨?_, fun x => mem_rise⟩
  unfold rise
  rw [List.pairwise_map]
  refine List.Pairwise.sublist List.filter_sublist ?_
  refine List.Pairwise.imp (fun {a b} h => ?_) (List.pairwise_lt_range)
  omega
def mrg (x : Int) (ns ms : List Int) : List Int := rise (mrows x ns ms)
theorem mem_mrows {x y : Int} {ns ms : List Int} : y ∈ mrows x ns ms ↔ (y ∈ ns ∧ y ≠ x) ∨ (y ∈ ms ∧ y ≠ -x) := by
  unfold mrows
  rw [List.mem_append, List.mem_filter, List.mem_filter]
  simp
theorem mem_mrg {x y : Int} {ns ms : List Int} : y ∈ mrg x ns ms ↔ (y ∈ ns ∧ y ≠ x) ∨ (y ∈ ms ∧ y ≠ -x) := mem_rise.trans mem_mrows
theorem mrows_len (x : Int) (ns ms : List Int) : (mrows x ns ms).length ≤ ns.length + ms.length := by
  unfold mrows
  rw [List.length_append]
  exact Nat.add_le_add (List.length_filter_le _ _) (List.length_filter_le _ _)
theorem sorted_len : ∀ {a b : List Int}, a.Pairwise (· < ·) → (∀ x ∈ a, x ∈ b) → a.length ≤ b.length
  | [], _, _, _ => Nat.zero_le _
  | x :: a, b, ha, h => by
    obtain ⟨ha1, ha2⟩ := List.pairwise_cons.mp ha
    have hx : x ∈ b := h x List.mem_cons_self
    have := sorted_len (a := a) (b := b.erase x) ha2 fun y hy => by
      have hne : y ≠ x := by have := ha1 y hy; omega
      exact (List.mem_erase_of_ne hne).mpr (h y (List.mem_cons_of_mem _ hy))
    rw [List.length_erase_of_mem hx] at this
    have hp : 0 < b.length := List.length_pos_of_mem hx
    rw [List.length_cons]; omega
theorem mrg_len (x : Int) (ns ms : List Int) : (mrg x ns ms).length ≤ ns.length + ms.length := Nat.le_trans (sorted_len (rise_rising _).1 fun y hy => ((rise_rising _).2 y).mp hy) (mrows_len x ns ms)
def spLmerge (K : PySem.W.Frag) : Sp := fun vs H Q _ => ∃ (a b : Addr) (x : Int) (ns ms : List Int), vs = [.ref a, .ref b, .int x] ∧ SqL K H a (ns.map V.int) ∧ SqL K H b (ms.map V.int) ∧ ns.length + ms.length ≤ 1000 ∧ (∀ n ∈ ns, n.natAbs ≤ 10000) ∧ (∀ n ∈ ms, n.natAbs ≤ 10000) ∧
  ∀ l H', H l = none → Same H H' → H' l = some (.lst ((mrg x ns ms).map V.int)) → Q (.ref l) H'
section
variable {P : Program} {w : World} {K : PySem.W.Frag} {mg : Str → Option Value} {base : Heap}
theorem ok_l_merge (B : Blt mg) (Df : Def K mg "_law_merge" s_l_merge p_l_merge) : Cal P w K mg base 1 "_law_merge" p_l_merge (spLmerge K) := by
  refine Df.cal sc_l_merge (fun vs H Q E h => ?_) (fun f cdv A outer s H vs Q E hr h => ?_)
  · obtain ⟨a, b, x, ns, ms, rfl, _⟩ := h; rfl
  · obtain ⟨a, b, x, ns, ms, rfl, hS, hT, hz, hn, hm, q⟩ := h
    refine ⟨_, (pss_cons (ps_set (i := 3) sc_l_merge.nd rfl (Or.inr rfl) (pe_comp (fvn := ["_law_lamp"]) (js := [2]) rfl (pi_list (pv 0)) (.cons rfl (by first | exact .inl rfl | exact .inr rfl) rfl .nil) ⟨by decide +kernel, rfl, by decide +kernel, rfl, by decide +kernel, by decide +kernel⟩ (fun _ _ _ _ _ => (pts_one (pt_cmpR op_ne (pv 0) (pv 1) (nomark _)))) (fun _ _ _ _ _ => (pv 0))))
 (pss_cons (ps_set (i := 3) sc_l_merge.nd rfl (Or.inr rfl) (pe_op op_cat (pv 3) (pe_comp (fvn := ["_law_lamp"]) (js := [2]) rfl (pi_list (pv 1)) (.cons rfl (by first | exact .inl rfl | exact .inr rfl) rfl .nil) ⟨by decide +kernel, rfl, by decide +kernel, rfl, by decide +kernel, by decide +kernel⟩ (fun _ _ _ _ _ => (pts_one (pt_cmpR op_ne (pv 0) (pe_un un_neg (pv 1)) (nomark _)))) (fun _ _ _ _ _ => (pv 0)))))
 (pss_cons (ps_set (i := 4) sc_l_merge.nd rfl (Or.inl rfl) pe_int)
 (pss_cons (ps_for PassesOwn.never rfl (pi_list (pv 3)) (pg_name (i := 5) sc_l_merge.nd rfl (Or.inl rfl))
 (pss_one (ps_set (i := 4) sc_l_merge.nd rfl (Or.inl rfl) (pe_callB (call_max2 rfl) (by rfl) B.max_ bt_max (pa_cons (pv 4) (pa_cons (pe_callB call_abs (by rfl) B.abs_ bt_abs (pa_cons (pv 5) pa_nil)) pa_nil))))))
 (pss_one (ps_ret (pe_comp (fvn := ["_law_rows"]) (js := [3]) rfl (pi_range2 (by rfl) B.range_ (pa_cons (pe_op op_sub pe_int (pv 4)) (pa_cons (pe_op op_add (pv 4) pe_int) pa_nil))) (.cons rfl (by first | exact .inl rfl | exact .inr rfl) rfl .nil) ⟨by decide +kernel, rfl, by decide +kernel, rfl, by decide +kernel, by decide +kernel⟩ (fun _ _ _ _ _ => (pts_one (pt_cmpR (op_in_seqK (K := K) rfl) (pv 0) (pv 1) (by with_unfolding_all rfl)))) (fun _ _ _ _ _ => (pv 0))))))))), ?_⟩
    have ne1 : ∀ n y : Int, (!decide (V.int n = V.int y)) = (!decide (n = y)) := fun n y => by simp
    refine rd_seq (t := tAsg (tComp _ _ _ _) _) (rd_asg (tcomp_list (K := K) ?_))
    refine ⟨_, rfl, a, rfl, ⟨_, hS⟩, ?_⟩
    refine comp_pure (K := K) (a := a) (xs := ns) (g := V.int) (fun n => !decide (n = x)) V.int (small6' (by omega)) hS (fun n _ R hR => ?_) (fun n _ _ R hR => ⟨_, rfl, hR⟩) (fun l1 hl1 => ?_)
    · refine ⟨_, rfl, _, rfl, rfl, _, rfl, ?_⟩
      rw [ne1]
      exact hR
    have sm1 : Same H (upd H l1 (.lst ((ns.filter fun n => !decide (n = x)).map V.int))) := (Same.refl H).upd hl1
    have g1 : upd H l1 (.lst ((ns.filter fun n => !decide (n = x)).map V.int)) l1 = some (.lst ((ns.filter fun n => !decide (n = x)).map V.int)) := upd_same
    generalize upd H l1 (.lst ((ns.filter fun n => !decide (n = x)).map V.int)) = H1 at sm1 g1
    dsimp only [gName]
    refine ⟨_, rfl, ?_⟩
    refine tcomp_list (K := K) ?_
    refine ⟨_, rfl, b, rfl, ⟨_, sm1.seq hT⟩, ?_⟩
    refine comp_pure (K := K) (a := b) (xs := ms) (g := V.int) (fun n => !decide (n = -x)) V.int (small6' (by omega)) (sm1.seq hT) (fun n _ R hR => ?_) (fun n _ _ R hR => ⟨_, rfl, hR⟩) (fun l2 hl2 => ?_)
    · refine ⟨_, rfl, _, rfl, _, rfl, rfl, _, rfl, ?_⟩
      rw [ne1]
      exact hR
    have n12 : l1 ≠ l2 := ne_of_none g1 hl2
    have sm2 : Same H (upd H1 l2 (.lst ((ms.filter fun n => !decide (n = -x)).map V.int))) := sm1.upd (sm1.free hl2)
    have g2 : upd H1 l2 (.lst ((ms.filter fun n => !decide (n = -x)).map V.int)) l2 = some (.lst ((ms.filter fun n => !decide (n = -x)).map V.int)) := upd_same
    have g12 : upd H1 l2 (.lst ((ms.filter fun n => !decide (n = -x)).map V.int)) l1 = some (.lst ((ns.filter fun n => !decide (n = x)).map V.int)) := by rw [upd_ne n12]; exact g1
    generalize upd H1 l2 (.lst ((ms.filter fun n => !decide (n = -x)).map V.int)) = H2 at sm2 g2 g12
    have f1 : (ns.filter fun n => !decide (n = x)).length ≤ ns.length := List.length_filter_le _ _
    have f2 : (ms.filter fun n => !decide (n = -x)).length ≤ ms.length := List.length_filter_le _ _
    refine ⟨l1, l2, _, _, rfl, rfl, g12, g2, by have := sizeLine_eq; simp only [List.length_map]; omega, fun l3 hl3 => ?_⟩
    have e3 : (ns.filter fun n => !decide (n = x)).map V.int ++ (ms.filter fun n => !decide (n = -x)).map V.int = (mrows x ns ms).map V.int := by unfold mrows; rw [List.map_append]
    rw [e3]
    have sm3 : Same H (upd H2 l3 (.lst ((mrows x ns ms).map V.int))) := sm2.upd (sm2.free hl3)
    have g3 : upd H2 l3 (.lst ((mrows x ns ms).map V.int)) l3 = some (.lst ((mrows x ns ms).map V.int)) := upd_same
    generalize upd H2 l3 (.lst ((mrows x ns ms).map V.int)) = H3 at sm3 g3
    have hb : ∀ n ∈ mrows x ns ms, -10000 ≤ n ∧ n ≤ 10000 := fun n hn' => by
      rcases mem_mrows.mp hn' with ⟨z, _⟩ | ⟨z, _⟩
      · have := hn n z; omega
      · have := hm n z; omega
    have hl := mrows_len x ns ms
    generalize er : mrows x ns ms = rs at hb hl g3
    refine ⟨_, rfl, l3, rfl, ⟨_, SqL.of g3⟩, for_list (K := K) (a := l3) (xs := rs.map V.int) (fun i σ H4 => ∃ v, σ = [some (.ref a), some (.ref b), some (.int x), some (.ref l3), some (.int (most (rs.take i))), v] ∧ H4 = H3)
      ⟨none, rfl, rfl⟩ (fun i σ H4 _ ⟨_, _, e⟩ => by rw [e]; exact SqL.of g3) ?_ ?_⟩
    · rintro i y σ H4 hi ⟨v, rfl, rfl⟩
      obtain ⟨n, hni, rfl⟩ := getV hi
      refine ⟨_, rfl, _, rfl, n, rfl, _, _, rfl, ?_⟩
      refine ⟨some (.int n), ?_, rfl⟩
      rw [List.take_add_one, hni]
      show _ = [_, _, _, _, some (V.int (most (rs.take i ++ [n]))), _]
      rw [most_snoc]
      rfl
    · rintro σ H4 ⟨v, rfl, rfl⟩
      have et : rs.take (rs.map V.int).length = rs := by rw [List.length_map, List.take_length]
      rw [et]
      have m0 := most_nn rs
      have m1 : most rs ≤ 10000 := most_le rs 0 (by decide) hb
      dsimp only
      refine rd_ret (tcomp_range2 ?_)
      refine ⟨_, rfl, _, _, rfl, rfl, _, rfl, _, _, rfl, rfl, _, _, rfl, ⟨by omega, by omega, by omega, by omega⟩, ?_⟩
      refine comp_pureR (fun i => decide (0 - most rs + (i : Int) ∈ rs)) (fun i => V.int (0 - most rs + (i : Int))) (small6' (by omega)) (fun i hi R hR => ?_) (fun i hi _ R hR => ⟨_, rfl, hR⟩) (fun l4 hl4 => ?_)
      · refine ⟨_, rfl, _, rfl, l3, _, rfl, .inl (SqL.of g3), rfl, flat_ints rs, _, rfl, ?_⟩
        rw [if_neg Bool.false_ne_true, inV_ints]
        exact hR
      · refine q l4 _ (sm3.free hl4) (sm3.upd (sm3.free hl4)) ?_
        rw [upd_same]
        unfold mrg rise
        rw [er, List.map_map]
        rfl
end
abbrev Stp := Int × Int × Int × List Int
abbrev Sr := Addr × Addr × Stp
def srefs (ss : List Sr) : List V := ss.map fun s => V.ref s.1
def tupS (t : Stp) (m : Addr) : HO := .tup [.int t.1, .int t.2.1, .int t.2.2.1, .ref m]
def SsOk (H : Hp) (ss : List Sr) : Prop := ∀ s ∈ ss, H s.1 = some (tupS s.2.2 s.2.1) ∧ H s.2.1 = some (.lst (s.2.2.2.2.2.map V.int))
def sls (ss : List Sr) : List Stp := ss.map fun s => s.2.2
def stD (t : Stp) : D := .tup [.int t.1, .int t.2.1, .int t.2.2.1, .lst (dInts t.2.2.2)]
theorem SsOk.mono {H H' : Hp} {ss : List Sr} (h : SsOk H ss) (e : Same H H') : SsOk H' ss := fun s hs => ⟨e _ _ (h s hs).1, e _ _ (h s hs).2⟩
theorem SsOk.snoc {H : Hp} {ss : List Sr} {s : Sr} (h : SsOk H ss) (h1 : H s.1 = some (tupS s.2.2 s.2.1)) (h2 : H s.2.1 = some (.lst (s.2.2.2.2.2.map V.int))) : SsOk H (ss ++ [s]) := fun x hx => by
  rcases List.mem_append.mp hx with z | z
  · exact h x z
  · have : x = s := by simpa using z
    rw [this]; exact ⟨h1, h2⟩
theorem srefs_len (ss : List Sr) : (srefs ss).length = ss.length := by simp [srefs]
theorem sls_len (ss : List Sr) : (sls ss).length = ss.length := by simp [sls]
theorem sls_snoc (ss : List Sr) (s : Sr) : sls (ss ++ [s]) = sls ss ++ [s.2.2] := by simp [sls]
theorem st_at {H : Hp} {s : Sr} (h1 : H s.1 = some (tupS s.2.2 s.2.1)) (h2 : H s.2.1 = some (.lst (s.2.2.2.2.2.map V.int))) : At H (stD s.2.2) (.ref s.1) := by
  unfold stD At
  exact ⟨s.1, _, rfl, h1, AtL.cons (by unfold At; rfl) (AtL.cons (by unfold At; rfl) (AtL.cons (by unfold At; rfl) (AtL.cons (At.ofInts h2) AtL.nil)))⟩
theorem sts_at {H : Hp} : ∀ {ss : List Sr}, SsOk H ss → AtL H ((sls ss).map stD) (srefs ss)
  | [], _ => AtL.nil
  | s :: ss, h => AtL.cons (st_at (h s List.mem_cons_self).1 (h s List.mem_cons_self).2) (sts_at fun x hx => h x (List.mem_cons_of_mem _ hx))
theorem stD_plain (t : Stp) : (stD t).plain = true := by
  unfold stD
  rw [D.plain, plains, plains, plains, plains, plains, D.plain, D.plain, D.plain, D.plain, plains_ints]; rfl
theorem stD_size (t : Stp) : (stD t).size = 5 + t.2.2.2.length := by
  unfold stD
  rw [D.size, sizes, sizes, sizes, sizes, sizes, D.size, D.size, D.size, D.size, sizes_ints]; omega
theorem stDs_plain : ∀ ts : List Stp, plains (ts.map stD) = true
  | [] => rfl
  | t :: ts => by
    show ((stD t).plain && plains (ts.map stD)) = true
    rw [stDs_plain ts, stD_plain]; rfl
theorem stDs_size {n : Nat} : ∀ {ts : List Stp}, (∀ t ∈ ts, t.2.2.2.length ≤ n) → sizes (ts.map stD) ≤ (5 + n) * ts.length
  | [], _ => Nat.zero_le _
  | t :: ts, h => by
    show (stD t).size + sizes (ts.map stD) ≤ _
    have h1 := stDs_size (ts := ts) fun x hx => h x (List.mem_cons_of_mem _ hx)
    have h2 := h t List.mem_cons_self
    rw [stD_size, List.length_cons, Nat.mul_succ]; omega
theorem sr_get {ss : List Sr} {i : Nat} {y : V} (h : (srefs ss)[i]? = some y) : ∃ q, ss[i]? = some q ∧ y = .ref q.1 := by
  obtain ⟨q, h1, h2⟩ := getV (f := fun p : Sr => V.ref p.1) h
  exact ⟨q, h1, h2⟩
abbrev Pd := Int × Option Int
def stepB (W : List (List Int)) (hand : Int) (wish : List Int) (l j : Int) : Stp :=
  if 0 < l then (j, hand, l, mrg l (W.getD j.toNat []) wish) else (hand, j, -l, mrg (-l) wish (W.getD j.toNat []))
def Cov (wish : List Int) (r : List Pd) : Prop := ∀ y ∈ wish, -y ∈ r.map (·.1)
theorem Cov.len {wish : List Int} {r : List Pd} (h : Cov wish r) (hs : wish.Pairwise (· < ·)) : wish.length ≤ r.length := by
  have := sorted_len (b := r.map fun p => -p.1) hs fun y hy => by
    obtain ⟨p, hp, e⟩ := List.mem_map.mp (h y hy)
    exact List.mem_map.mpr ⟨p, hp, by rw [e, Int.neg_neg]⟩
  simpa using this
def RightS (W : List (List Int)) (t : Stp) : Prop := 0 ≤ t.1 ∧ t.1 < W.length ∧ 0 ≤ t.2.1 ∧ t.2.1 < W.length ∧ 1 ≤ t.2.2.1 ∧ t.2.2.1 ∈ W.getD t.1.toNat [] ∧ -t.2.2.1 ∈ W.getD t.2.1.toNat [] ∧ t.2.2.2 = mrg t.2.2.1 (W.getD t.1.toNat []) (W.getD t.2.1.toNat [])
def RightAll : List (List Int) → List Stp → Prop
  | _, [] => True
  | W, t :: ts => RightS W t ∧ RightAll (W ++ [t.2.2.2]) ts
structure Gone2 (r t : List Pd) (hand : Int) (wish : List Int) : Prop where
  nil : t = [] → wish = []
  cons : t ≠ [] → ∃ r1 l r2, r = r1 ++ (l, none) :: r2 ∧ t = (-l, some hand) :: r2 ∧ -l ∈ wish ∧ ∀ y ∈ wish, y ≠ -l → -y ∈ r2.map (·.1)
def wlSt (ts : List Stp) : List (List Int) := ts.map fun t => t.2.2.2
theorem wlSt_len (ts : List Stp) : (wlSt ts).length = ts.length := by simp [wlSt]
theorem wl_at {ws : List Wr} {j : Int} (h0 : 0 ≤ j) (h1 : j < ws.length) : ∃ wr, wr ∈ ws ∧ atI (wrefs ws) j = some (.ref wr.1) ∧ (wl ws).getD j.toNat [] = wr.2 ∧ (wl ws)[j.toNat]? = some wr.2 := by
  have hl : j.toNat < ws.length := by omega
  refine ⟨ws[j.toNat], List.getElem_mem hl, ?_, ?_, ?_⟩
  · have e : j = ((j.toNat : Nat) : Int) := by omega
    have z : atI (wrefs ws) ((j.toNat : Nat) : Int) = some (.ref ws[j.toNat].1) := atI_nat (by simp [wrefs, hl])
    rw [← e] at z
    exact z
  · simp [wl, hl, List.getD]
  · simp [wl, hl]
instance decRightS (W : List (List Int)) (t : Stp) : Decidable (RightS W t) := by unfold RightS; infer_instance
theorem eqVs_ints : ∀ (ns ms : List Int), eqVs (ns.map V.int) (ms.map V.int) = decide (ns = ms)
  | [], [] => rfl
  | [], _ :: _ => rfl
  | _ :: _, [] => rfl
  | n :: ns, m :: ms => by
    rw [List.map_cons, List.map_cons, eqVs, eqVs_ints ns ms]
    show ((n == m) && decide (ns = ms)) = decide (n :: ns = m :: ms)
    rw [Bool.eq_iff_iff]
    simp
def StSmall (t : Stp) : Prop := t.2.2.2.length ≤ 28 ∧ (∀ n ∈ t.2.2.2, n.natAbs ≤ 10000) ∧ t.2.2.1.natAbs ≤ 10000
def WsS (W : List (List Int)) : Prop := ∀ v ∈ W, v.length ≤ 28 ∧ ∀ n ∈ v, n.natAbs ≤ 10000
def spRightB (K : PySem.W.Frag) : Sp := fun vs H Q _ => ∃ (a p m : Addr) (ks : List Wr) (t : Stp), vs = [.ref a, .ref p] ∧ SqL K H a (wrefs ks) ∧ WsOk H ks ∧ H p = some (tupS t m) ∧ H m = some (.lst (t.2.2.2.map V.int)) ∧ WsS (wl ks) ∧ StSmall t ∧ ∀ H', Same H H' → Q (.bl (decide (RightS (wl ks) t))) H'
section
variable {P : Program} {w : World} {K : PySem.W.Frag} {mg : Str → Option Value} {base : Heap}
theorem ok_l_right_stepB (B : Blt mg) (c_l_whole : Cal P w K mg base 1 "_law_whole" p_l_whole spWhole) (c_l_alike : Cal P w K mg base 2 "_law_alike" p_l_alike spAlikeI) (c_l_merge : Cal P w K mg base 1 "_law_merge" p_l_merge (spLmerge K)) (Df : Def K mg "_law_right_step" s_l_right_step p_l_right_step) :
    Cal P w K mg base 3 "_law_right_step" p_l_right_step (spRightB K) := by
  refine Df.cal sc_l_right_step (fun vs H Q E h => ?_) (fun f cdv A outer s H vs Q E hr h => ?_)
  · obtain ⟨a, p, m, ks, t, rfl, _⟩ := h; rfl
  · obtain ⟨a, p, m, ks, ⟨one, two, x, wish⟩, rfl, ha, hW, hp, hm, hsm, hst, q⟩ := h
    dsimp only [tupS, StSmall] at hm hp hst
    have no : ∀ {H'}, Same H H' → ¬ RightS (wl ks) (one, two, x, wish) → Q (.bl false) H' := fun {H'} s n => by have := q H' s; rw [decide_eq_false n] at this; exact this
    refine ⟨_, (pss_cons (ps_if (PW.pt (pw_or (pt_not (pt_val (pe_callB call_isi (by rfl) B.isinstance_ bt_isinstance (pa_cons (pv 1) (pa_cons (pe_ty B.tuple_ bt_tuple) pa_nil))))) (pw_or (pt_cmpR op_ne (pe_callB call_len_seq (by rfl) B.len_ PySem.boot_len (pa_cons (pv 1) pa_nil)) pe_int (nomark _)) (pw_or1 (pt_not (pt_val (pe_callB call_isi (by rfl) B.isinstance_ bt_isinstance (pa_cons (pe_ix ix_tup (pv 1) pe_int (fun _ _ => rfl)) (pa_cons (pe_ty B.list_ bt_list) pa_nil)))))))))
 (pss_one (ps_ret pe_bl))
 pss_nil)
 (pss_cons (ps_asg (pv 1) (pg_tup rfl (pgs_cons (pg_name (i := 2) sc_l_right_step.nd rfl (Or.inl rfl)) (pgs_cons (pg_name (i := 3) sc_l_right_step.nd rfl (Or.inl rfl)) (pgs_cons (pg_name (i := 4) sc_l_right_step.nd rfl (Or.inl rfl)) (pgs_cons (pg_name (i := 5) sc_l_right_step.nd rfl (Or.inl rfl)) pgs_nil))))))
 (pss_cons (ps_if (PW.pt (pw_or (pt_not (pt_val (pe_def c_l_whole hr (by decide) (pa_cons (pv 2) pa_nil)))) (pw_or (pt_not (pt_val (pe_def c_l_whole hr (by decide) (pa_cons (pv 3) pa_nil)))) (pw_or1 (pt_not (pt_val (pe_def c_l_whole hr (by decide) (pa_cons (pv 4) pa_nil))))))))
 (pss_one (ps_ret pe_bl))
 pss_nil)
 (pss_cons (ps_if (PW.pt (pw_or (pt_cmpR op_lt (pv 2) pe_int (nomark _)) (pw_or (pt_cmpR op_ge (pv 2) (pe_callB call_len_seq (by rfl) B.len_ PySem.boot_len (pa_cons (pv 0) pa_nil)) (nomark _)) (pw_or (pt_cmpR op_lt (pv 3) pe_int (nomark _)) (pw_or1 (pt_cmpR op_ge (pv 3) (pe_callB call_len_seq (by rfl) B.len_ PySem.boot_len (pa_cons (pv 0) pa_nil)) (nomark _)))))))
 (pss_one (ps_ret pe_bl))
 pss_nil)
 (pss_cons (ps_if (PW.pt (pw_or (pt_cmpR op_lt (pv 4) pe_int (nomark _)) (pw_or (pt_cmpR op_notIn_seq (pv 4) (pe_ix ix_list (pv 0) (pv 2) (fun _ _ => rfl)) (by with_unfolding_all rfl)) (pw_or1 (pt_cmpR op_notIn_seq (pe_un un_neg (pv 4)) (pe_ix ix_list (pv 0) (pv 3) (fun _ _ => rfl)) (by with_unfolding_all rfl))))))
 (pss_one (ps_ret pe_bl))
 pss_nil)
 (pss_one (ps_ret (pe_def c_l_alike hr (by decide) (pa_cons (pv 5) (pa_cons (pe_def c_l_merge hr (by decide) (pa_cons (pe_ix ix_list (pv 0) (pv 2) (fun _ _ => rfl)) (pa_cons (pe_ix ix_list (pv 0) (pv 3) (fun _ _ => rfl)) (pa_cons (pv 4) pa_nil)))) pa_nil)))))))))), ?_⟩
    refine ⟨_, rfl, _, .tup, .tup, rfl, ⟨_, hp⟩, _, rfl, iteF ?_⟩
    refine ⟨_, rfl, p, _, rfl, .inr (SqT.of hp), rfl, _, rfl, iteNS rfl ?_⟩
    refine ⟨_, rfl, p, _, _, .ref m, rfl, rfl, SqT.of hp, rfl, _, .lst, .lst, rfl, ⟨_, .inl hm⟩, _, rfl, iteF ?_⟩
    refine ⟨_, rfl, p, _, rfl, SqT.of hp, rfl, _, _, rfl, _, _, rfl, _, _, rfl, _, _, rfl, rfl, ?_⟩
    refine ⟨_, rfl, _, .int, rfl, trivial, _, rfl, iteF ?_⟩
    refine ⟨_, rfl, _, .int, rfl, trivial, _, rfl, iteF ?_⟩
    refine ⟨_, rfl, _, .int, rfl, trivial, _, rfl, iteF ?_⟩
    have el := wrefs_len ks
    have ew := wl_len ks
    have S0 := Same.refl H
    refine ⟨_, rfl, _, _, rfl, rfl, _, rfl, ite2 (fun c => iteT (no S0 fun z => ?_)) (fun c => ?_)⟩
    · have := of_decide_eq_true c; have := z.1; omega
    have r1 : 0 ≤ one := by
      by_cases z : one < 0
      · exact absurd (decide_eq_true z) c
      · omega
    clear c
    refine ⟨_, rfl, _, rfl, a, _, rfl, .inl ha, _, _, rfl, rfl, _, rfl, ite2 (fun c => iteT (no S0 fun z => ?_)) (fun c => ?_)⟩
    · have := of_decide_eq_true c; have := z.2.1; dsimp only at this; omega
    have r2 : one < ks.length := by
      by_cases z : ((wrefs ks).length : Int) ≤ one
      · exact absurd (decide_eq_true z) c
      · omega
    clear c
    refine ⟨_, rfl, _, _, rfl, rfl, _, rfl, ite2 (fun c => iteT (no S0 fun z => ?_)) (fun c => ?_)⟩
    · have := of_decide_eq_true c; have := z.2.2.1; dsimp only at this; omega
    have r3 : 0 ≤ two := by
      by_cases z : two < 0
      · exact absurd (decide_eq_true z) c
      · omega
    clear c
    refine ⟨_, rfl, _, rfl, a, _, rfl, .inl ha, _, _, rfl, rfl, _, rfl, ite2 (fun c => no S0 fun z => ?_) (fun c => ?_)⟩
    · have := of_decide_eq_true c; have := z.2.2.2.1; dsimp only at this; omega
    have r4 : two < ks.length := by
      by_cases z : ((wrefs ks).length : Int) ≤ two
      · exact absurd (decide_eq_true z) c
      · omega
    clear c
    obtain ⟨k1, hk1, at1, gd1, ge1⟩ := wl_at r1 r2
    obtain ⟨k2, hk2, at2, gd2, ge2⟩ := wl_at r3 r4
    have s1 := hsm _ (List.mem_of_getElem? ge1)
    have s2 := hsm _ (List.mem_of_getElem? ge2)
    have g1 := hW k1 hk1
    have g2 := hW k2 hk2
    refine ⟨_, rfl, _, _, rfl, rfl, _, rfl, ite2 (fun c => iteT (no S0 fun z => ?_)) (fun c => ?_)⟩
    · have := of_decide_eq_true c; have := z.2.2.2.2.1; dsimp only at this; omega
    have r5 : 1 ≤ x := by
      by_cases z : x < 1
      · exact absurd (decide_eq_true z) c
      · omega
    clear c
    refine ⟨_, rfl, _, rfl, _, rfl, a, _, _, .ref k1.1, rfl, rfl, ha, at1, k1.1, _, rfl, .inl (SqL.of g1), rfl, flat_ints _, _, rfl, if_notIn (fun hn => iteT (no S0 fun z => ?_)) (fun r6 => ?_)⟩
    · have := z.2.2.2.2.2.1; dsimp only at this; rw [gd1] at this; exact hn this
    refine ⟨_, rfl, _, rfl, _, rfl, _, rfl, a, _, _, .ref k2.1, rfl, rfl, ha, at2, k2.1, _, rfl, .inl (SqL.of g2), rfl, flat_ints _, _, rfl, if_notIn (fun hn => no S0 fun z => ?_) (fun r7 => ?_)⟩
    · have := z.2.2.2.2.2.2.1; dsimp only at this; rw [gd2] at this; exact hn this
    refine ⟨_, rfl, _, rfl, _, rfl, a, _, _, .ref k1.1, rfl, rfl, ha, at1, _, rfl, _, rfl, a, _, _, .ref k2.1, rfl, rfl, ha, at2, _, rfl, k1.1, k2.1, x, k1.2, k2.2, rfl, SqL.of g1, SqL.of g2, by omega, s1.2, s2.2, fun lm H1 hlm sm1 h1 => ?_⟩
    have hl := mrg_len x k1.2 k2.2
    refine ⟨m, lm, wish, mrg x k1.2 k2.2, rfl, sm1 _ _ hm, h1, by omega, by omega, fun H2 sm2 => ?_⟩
    have e : decide (wish = mrg x k1.2 k2.2) = decide (RightS (wl ks) (one, two, x, wish)) := by
      refine decide_eq_decide.mpr ⟨fun z => ⟨r1, by dsimp only; omega, r3, by dsimp only; omega, r5, ?_, ?_, ?_⟩, fun z => ?_⟩
      · dsimp only; rw [gd1]; exact r6
      · dsimp only; rw [gd2]; exact r7
      · dsimp only; rw [gd1, gd2]; exact z
      · have := z.2.2.2.2.2.2.2; dsimp only at this; rw [gd1, gd2] at this; exact this
    rw [e]
    exact q H2 (sm1.trans sm2)
end
theorem cut_ints (ns : List Int) (lo hi : Option Int) : ∃ cs : List Int, cutV (ns.map V.int) lo hi = cs.map V.int ∧ cs.length ≤ ns.length ∧ ∀ n ∈ cs, n ∈ ns := by
  refine ⟨(ns.drop (HT.sIx (ns.map V.int).length 0 lo)).take (HT.sIx (ns.map V.int).length (ns.map V.int).length hi - HT.sIx (ns.map V.int).length 0 lo), ?_, ?_, fun n hn => ?_⟩
  · unfold cutV; rw [List.map_take, List.map_drop]
  · rw [List.length_take, List.length_drop]; omega
  · exact List.mem_of_mem_drop (List.mem_of_mem_take hn)
theorem cut_pre (xs : List V) (n : Nat) : cutV xs none (some (n : Int)) = xs.take n := by
  unfold cutV
  rw [HT.sIx_none, HT.sIx_nat, List.drop_zero, Nat.sub_zero, List.take_eq_take_iff]
  omega
def WsSmall (W : List (List Int)) : Prop := ∀ v ∈ W, v.length ≤ 500 ∧ ∀ n ∈ v, n.natAbs ≤ 10000
def spStepOf (K : PySem.W.Frag) : Sp := fun vs H Q _ => ∃ (a : Addr) (ks : List Wr) (one two l : Int), vs = [.ref a, .int one, .int two, .int l] ∧ SqL K H a (wrefs ks) ∧ WsOk H ks ∧ WsSmall (wl ks) ∧ 0 ≤ one ∧ one < ks.length ∧ 0 ≤ two ∧ two < ks.length ∧
  ∀ t m H', H t = none → H m = none → Same H H' → H' t = some (tupS (stepB (wl ks) two ((wl ks).getD two.toNat []) l one) m) → H' m = some (.lst ((stepB (wl ks) two ((wl ks).getD two.toNat []) l one).2.2.2.map V.int)) → Q (.ref t) H'
section
variable {P : Program} {w : World} {K : PySem.W.Frag} {mg : Str → Option Value} {base : Heap}
theorem ok_l_step_of (B : Blt mg) (c_l_merge : Cal P w K mg base 1 "_law_merge" p_l_merge (spLmerge K)) (Df : Def K mg "_law_step_of" s_l_step_of p_l_step_of) : Cal P w K mg base 2 "_law_step_of" p_l_step_of (spStepOf K) := by
  refine Df.cal sc_l_step_of (fun vs H Q E h => ?_) (fun f cdv A outer s H vs Q E hr h => ?_)
  · obtain ⟨a, ks, one, two, l, rfl, _⟩ := h; rfl
  · obtain ⟨a, ks, one, two, l, rfl, ha, hW, hsm, r1, r2, r3, r4, q⟩ := h
    obtain ⟨k1, hk1, at1, gd1, ge1⟩ := wl_at r1 r2
    obtain ⟨k2, hk2, at2, gd2, ge2⟩ := wl_at r3 r4
    have s1 := hsm _ (List.mem_of_getElem? ge1)
    have s2 := hsm _ (List.mem_of_getElem? ge2)
    have g1 := hW k1 hk1
    have g2 := hW k2 hk2
    refine ⟨_, (pss_cons (ps_if (pt_cmpR op_gt (pv 3) pe_int (nomark _))
 (pss_one (ps_ret (pe_tup (pa_cons (pv 1) (pa_cons (pv 2) (pa_cons (pv 3) (pa_cons (pe_def c_l_merge hr (by decide) (pa_cons (pe_ix ix_list (pv 0) (pv 1) (fun _ _ => rfl)) (pa_cons (pe_ix ix_list (pv 0) (pv 2) (fun _ _ => rfl)) (pa_cons (pv 3) pa_nil)))) pa_nil)))))))
 pss_nil)
 (pss_one (ps_ret (pe_tup (pa_cons (pv 2) (pa_cons (pv 1) (pa_cons (pe_un un_neg (pv 3)) (pa_cons (pe_def c_l_merge hr (by decide) (pa_cons (pe_ix ix_list (pv 0) (pv 2) (fun _ _ => rfl)) (pa_cons (pe_ix ix_list (pv 0) (pv 1) (fun _ _ => rfl)) (pa_cons (pe_un un_neg (pv 3)) pa_nil)))) pa_nil)))))))), ?_⟩
    refine ⟨_, rfl, _, _, rfl, rfl, _, rfl, ite2 (fun c => ?_) (fun c => ?_)⟩
    · have c' : 0 < l := of_decide_eq_true c
      refine ⟨_, rfl, _, rfl, _, rfl, _, rfl, _, rfl, a, _, _, .ref k1.1, rfl, rfl, ha, at1, _, rfl, _, rfl, a, _, _, .ref k2.1, rfl, rfl, ha, at2, _, rfl, k1.1, k2.1, l, k1.2, k2.2, rfl, SqL.of g1, SqL.of g2, by omega, s1.2, s2.2, fun m H1 hm sm1 h1 => ?_⟩
      refine ⟨(by show 4 ≤ sizeLine; decide), fun t ht => ?_⟩
      have es : stepB (wl ks) two ((wl ks).getD two.toNat []) l one = (one, two, l, mrg l k1.2 k2.2) := by unfold stepB; rw [if_pos c', gd1, gd2]
      rw [es] at q
      exact q t m _ (sm1.free ht) hm (sm1.upd (sm1.free ht)) upd_same (by rw [upd_ne (ne_of_none h1 ht)]; exact h1)
    · have c' : ¬ 0 < l := fun z => c (decide_eq_true z)
      refine ⟨_, rfl, _, rfl, _, rfl, _, rfl, _, rfl, _, rfl, a, _, _, .ref k2.1, rfl, rfl, ha, at2, _, rfl, _, rfl, a, _, _, .ref k1.1, rfl, rfl, ha, at1, _, rfl, _, rfl, k2.1, k1.1, -l, k2.2, k1.2, rfl, SqL.of g2, SqL.of g1, by omega, s2.2, s1.2, fun m H1 hm sm1 h1 => ?_⟩
      refine ⟨(by show 4 ≤ sizeLine; decide), fun t ht => ?_⟩
      have es : stepB (wl ks) two ((wl ks).getD two.toNat []) l one = (two, one, -l, mrg (-l) k2.2 k1.2) := by unfold stepB; rw [if_neg c', gd1, gd2]
      rw [es] at q
      exact q t m _ (sm1.free ht) hm (sm1.upd (sm1.free ht)) upd_same (by rw [upd_ne (ne_of_none h1 ht)]; exact h1)
end
theorem comp_copy {K : PySem.W.Frag} {a : Addr} {ws : List Wr} {σ : L2.St} {js : List Nat} {te : TE} {Q : VK} {H : Hp} (h : SqL K H a (wrefs ws)) (hW : WsOk H ws) (hz : ws.length ≤ 100000)
    (he : ∀ (wr : Wr) (H2 : Hp) (N : VK), H2 wr.1 = some (.lst (wr.2.map V.int)) → (∀ p, H2 p = none → N (.ref p) (upd H2 p (.lst (wr.2.map V.int)))) → te (inner σ js (some (.ref wr.1))) H2 N)
    (hd : ∀ (l : Addr) (hs : List Wr) (H' : Hp), H l = none → Same H H' → WsOk H' hs → (∀ r ∈ hs, H r.1 = none ∧ r.1 ≠ l) → wl hs = wl ws → H' l = some (.lst (wrefs hs)) → Q (.ref l) H') : CompW (Itl K a) σ js tTrue te Q H := by
  refine comp_list (K := K) (a := a) (xs := wrefs ws) (fun i ys H2 => ∃ hs : List Wr, ys = wrefs hs ∧ Same H H2 ∧ WsOk H2 hs ∧ (∀ r ∈ hs, H r.1 = none) ∧ wl hs = (wl ws).take i) ⟨[], rfl, Same.refl _, (fun _ h => nomatch h), (fun _ h => nomatch h), by simp [wl]⟩ (small6' (by rw [wrefs_len]; omega)) (fun i ys H2 _ ⟨_, _, e, _⟩ => e.seq h) ?_ ?_
  · rintro i y ys H2 N hi hyl ⟨hs, rfl, sm2, hO, hF, hwl⟩ hN
    obtain ⟨wr, hwi, rfl⟩ := wr_get hi
    have hmem := List.mem_of_getElem? hwi
    have hwr2 : (wl ws)[i]? = some wr.2 := by unfold wl; rw [List.getElem?_map, hwi]; rfl
    refine iteT ?_
    refine he wr H2 _ (sm2 _ _ (hW wr hmem)) fun pl hpl => ?_
    refine hN _ _ ⟨hs ++ [(pl, wr.2)], by simp [wrefs], sm2.upd (sm2.free hpl), fun q hq => ?_, fun q hq => ?_, ?_⟩ (by simpa using hyl)
    · rcases List.mem_append.mp hq with z | z
      · exact (hO.mono ((Same.refl H2).upd hpl)) q z
      · have : q = (pl, wr.2) := by simpa using z
        rw [this]; exact upd_same
    · rcases List.mem_append.mp hq with z | z
      · exact hF q z
      · have : q = (pl, wr.2) := by simpa using z
        rw [this]; exact sm2.free hpl
    · rw [List.take_add_one, hwr2, ← hwl]; simp [wl]
  · rintro ys H2 ⟨hs, rfl, sm2, hO, hF, hwl⟩ l hl
    have s3 : Same H2 (upd H2 l (.lst (wrefs hs))) := (Same.refl H2).upd hl
    refine hd l hs _ (sm2.free hl) (sm2.trans s3) (hO.mono s3) (fun r hr => ⟨hF r hr, ne_of_none (hO r hr) hl⟩) ?_ upd_same
    rw [hwl, wrefs_len, ← wl_len, List.take_length]
theorem comp_copyS {K : PySem.W.Frag} {a : Addr} {ss : List Sr} {σ : L2.St} {js : List Nat} {te : TE} {Q : VK} {H : Hp} (h : SqL K H a (srefs ss)) (hS : SsOk H ss) (hz : ss.length ≤ 100000)
    (he : ∀ (sr : Sr) (H2 : Hp) (N : VK), H2 sr.1 = some (tupS sr.2.2 sr.2.1) → H2 sr.2.1 = some (.lst (sr.2.2.2.2.2.map V.int)) → (∀ p m H3, H2 p = none → H2 m = none → Same H2 H3 → H3 p = some (tupS sr.2.2 m) → H3 m = some (.lst (sr.2.2.2.2.2.map V.int)) → N (.ref p) H3) → te (inner σ js (some (.ref sr.1))) H2 N)
    (hd : ∀ (l : Addr) (hs : List Sr) (H' : Hp), H l = none → Same H H' → SsOk H' hs → sls hs = sls ss → H' l = some (.lst (srefs hs)) → Q (.ref l) H') : CompW (Itl K a) σ js tTrue te Q H := by
  refine comp_list (K := K) (a := a) (xs := srefs ss) (fun i ys H2 => ∃ hs : List Sr, ys = srefs hs ∧ Same H H2 ∧ SsOk H2 hs ∧ sls hs = (sls ss).take i) ⟨[], rfl, Same.refl _, (fun _ h => nomatch h), by simp [sls]⟩ (small6' (by rw [srefs_len]; omega)) (fun i ys H2 _ ⟨_, _, e, _⟩ => e.seq h) ?_ ?_
  · rintro i y ys H2 N hi hyl ⟨hs, rfl, sm2, hO, hsl⟩ hN
    obtain ⟨sr, hsi, rfl⟩ := sr_get hi
    have hmem := List.mem_of_getElem? hsi
    have hsr2 : (sls ss)[i]? = some sr.2.2 := by unfold sls; rw [List.getElem?_map, hsi]; rfl
    refine iteT ?_
    refine he sr H2 _ (sm2 _ _ (hS sr hmem).1) (sm2 _ _ (hS sr hmem).2) fun p m H3 hp hm s3 g1 g2 => ?_
    refine hN _ _ ⟨hs ++ [(p, m, sr.2.2)], by simp [srefs], sm2.trans s3, (hO.mono s3).snoc g1 g2, ?_⟩ (by simpa using hyl)
    rw [List.take_add_one, hsr2, ← hsl]; simp [sls]
  · rintro ys H2 ⟨hs, rfl, sm2, hO, hsl⟩ l hl
    have s3 : Same H2 (upd H2 l (.lst (srefs hs))) := (Same.refl H2).upd hl
    refine hd l hs _ (sm2.free hl) (sm2.trans s3) (hO.mono s3) ?_ upd_same
    rw [hsl, srefs_len, ← sls_len, List.take_length]
theorem wsD_wl (ws : List Wr) : wsD ws = (wl ws).map fun v => D.lst (dInts v) := by unfold wsD wl; rw [List.map_map]; rfl
theorem sizes_wsD : ∀ ws : List Wr, sizes (wsD ws) = total (wl ws) + ws.length
  | [] => rfl
  | p :: ws => by
    show (D.lst (dInts p.2)).size + sizes (wsD ws) = _
    rw [sizes_wsD ws, D.size, sizes_ints]
    simp only [wl, total, List.map_cons, List.sum_cons, List.length_cons]; omega
theorem plains_wsD : ∀ ws : List Wr, plains (wsD ws) = true
  | [] => rfl
  | p :: ws => by
    show ((D.lst (dInts p.2)).plain && plains (wsD ws)) = true
    rw [plains_wsD ws, D.plain, plains_ints]; rfl
theorem RightAll_at : ∀ {ts : List Stp} {W : List (List Int)} {k : Nat} {t : Stp}, RightAll W ts → ts[k]? = some t → RightS (W ++ wlSt (ts.take k)) t
  | t :: ts, W, 0, u, ⟨h, _⟩, e => by
    have : t = u := by simpa using e
    rw [← this]; simpa [wlSt] using h
  | t :: ts, W, k + 1, u, ⟨_, h⟩, e => by
    have := RightAll_at (k := k) h (by simpa using e)
    simpa [wlSt] using this
  | [], _, k, _, _, e => by simp at e
inductive Nd (f : Nat) (ts : List Stp) : Nat → Prop where
  | last {k : Nat} (h : ts.length = k + 1) : Nd f ts k
  | one {k j : Nat} {t : Stp} (h : Nd f ts k) (ht : ts[k]? = some t) (e : t.1 = (f : Int) + j) : Nd f ts j
  | two {k j : Nat} {t : Stp} (h : Nd f ts k) (ht : ts[k]? = some t) (e : t.2.1 = (f : Int) + j) : Nd f ts j
def cntT (M : List Bool) (k : Nat) : Nat := ((M.take k).filter id).length
theorem cntT_succ {M : List Bool} {k : Nat} (h : k < M.length) : cntT M (k + 1) = cntT M k + (if M.getD k false = true then 1 else 0) := by
  unfold cntT
  rw [List.take_add_one, List.getElem?_eq_getElem h]
  have e : M.getD k false = M[k] := by simp [h]
  rw [e]
  cases hb : M[k] <;> simp
theorem cntT_mono {M : List Bool} {j k : Nat} (h : j ≤ k) : cntT M j ≤ cntT M k := by
  unfold cntT
  exact List.Sublist.length_le (List.Sublist.filter _ (List.take_sublist_take_left h))
def newN (f : Nat) (M : List Bool) (x : Int) : Int := if x < f then x else (f : Int) + cntT M (x - f).toNat
def movd (f : Nat) (M : List Bool) (t : Stp) : Stp := (newN f M t.1, newN f M t.2.1, t.2.2.1, t.2.2.2)
def rowT (f : Nat) (M : List Bool) (ts : List Stp) : Nat → List Stp
  | 0 => []
  | k + 1 => match ts[k]? with
    | some t => if M.getD k false = true then rowT f M ts k ++ [movd f M t] else rowT f M ts k
    | none => rowT f M ts k
theorem rowT_len {f : Nat} {M : List Bool} {ts : List Stp} (hl : M.length = ts.length) : ∀ {k : Nat}, k ≤ ts.length → (rowT f M ts k).length = cntT M k
  | 0, _ => by simp [rowT, cntT]
  | k + 1, h => by
    have ih := rowT_len (f := f) hl (k := k) (by omega)
    have hk : k < ts.length := by omega
    rw [cntT_succ (by omega)]
    unfold rowT
    rw [List.getElem?_eq_getElem hk]
    dsimp only
    by_cases c : M.getD k false = true
    · rw [if_pos c, if_pos c, List.length_append, ih]; rfl
    · rw [if_neg c, if_neg c, ih]; rfl
theorem rowT_step {f : Nat} {M : List Bool} {ts : List Stp} {k : Nat} {t : Stp} (h : ts[k]? = some t) : rowT f M ts (k + 1) = if M.getD k false = true then rowT f M ts k ++ [movd f M t] else rowT f M ts k := by
  show (match ts[k]? with
    | some t => if M.getD k false = true then rowT f M ts k ++ [movd f M t] else rowT f M ts k
    | none => rowT f M ts k) = _
  rw [h]
structure Mks (f : Nat) (ts : List Stp) (M : List Bool) : Prop where
  len : M.length = ts.length
  nd : ∀ k, M.getD k false = true ↔ (k < ts.length ∧ Nd f ts k)
def Refs (f : Nat) (ts : List Stp) : Prop := ∀ (k : Nat) (t : Stp), ts[k]? = some t → 0 ≤ t.1 ∧ t.1 < (f : Int) + k ∧ 0 ≤ t.2.1 ∧ t.2.1 < (f : Int) + k
theorem refs_of {ts : List Stp} {W : List (List Int)} (h : RightAll W ts) : Refs W.length ts := fun k t e => by
  obtain ⟨a, b, c, d, _⟩ := RightAll_at h e
  have hk : k < ts.length := (List.getElem?_eq_some_iff.mp e).1
  have el : (W ++ wlSt (ts.take k)).length = W.length + k := by simp [wlSt]; omega
  rw [el] at b d
  exact ⟨a, by omega, c, by omega⟩
theorem RightAll_snoc : ∀ {ts : List Stp} {W : List (List Int)} {t : Stp}, RightAll W ts → RightS (W ++ wlSt ts) t → RightAll W (ts ++ [t])
  | [], W, t, _, h => ⟨by simpa [wlSt] using h, trivial⟩
  | u :: ts, W, t, ⟨h1, h2⟩, h => ⟨h1, RightAll_snoc h2 (by simpa [wlSt] using h)⟩
theorem wlSt_get {ts : List Stp} {k : Nat} {t : Stp} (h : ts[k]? = some t) : (wlSt ts)[k]? = some t.2.2.2 := by unfold wlSt; rw [List.getElem?_map, h]; rfl
theorem trim_known {W : List (List Int)} {M : List Bool} {ts : List Stp} (hM : Mks W.length ts M) : ∀ {k : Nat}, k ≤ ts.length → ∀ x : Int, 0 ≤ x → x < W.length + k → (∀ j : Nat, x = (W.length : Int) + j → M.getD j false = true) →
    0 ≤ newN W.length M x ∧ newN W.length M x < (W ++ wlSt (rowT W.length M ts k)).length ∧ (W ++ wlSt (rowT W.length M ts k)).getD (newN W.length M x).toNat [] = (W ++ wlSt (ts.take k)).getD x.toNat [] := by
  intro k hk x x0 x1 hm
  have hrl := rowT_len (f := W.length) hM.len hk
  have el : (W ++ wlSt (rowT W.length M ts k)).length = W.length + cntT M k := by simp [wlSt, hrl]
  rw [el]
  by_cases c : x < (W.length : Int)
  · have e : newN W.length M x = x := by unfold newN; rw [if_pos c]
    rw [e]
    refine ⟨x0, by omega, ?_⟩
    have hx : x.toNat < W.length := by omega
    simp [List.getD, List.getElem?_append_left hx]
  · obtain ⟨j, hj⟩ : ∃ j : Nat, x = (W.length : Int) + j := ⟨(x - W.length).toNat, by omega⟩
    have hmj := hm j hj
    have e : newN W.length M x = (W.length : Int) + cntT M j := by
      unfold newN; rw [if_neg c, hj]
      have : ((W.length : Int) + j - W.length).toNat = j := by omega
      rw [this]
    have hjk : j < k := by omega
    have hlt : cntT M j < cntT M k := by
      have h1 : cntT M (j + 1) ≤ cntT M k := cntT_mono (by omega)
      rw [cntT_succ (by have := hM.len; omega), if_pos hmj] at h1
      omega
    rw [e]
    refine ⟨by omega, by omega, ?_⟩
    have t1 : ((W.length : Int) + (cntT M j : Int)).toNat = W.length + cntT M j := by omega
    have t2 : x.toNat = W.length + j := by omega
    rw [t1, t2]
    have hjl : j < ts.length := by omega
    have key : ∀ {k : Nat}, k ≤ ts.length → j < k → (rowT W.length M ts k)[cntT M j]? = some (movd W.length M ts[j]) := by
      intro k
      induction k with
      | zero => intro _ h; omega
      | succ k ih =>
        intro hk2 hjk2
        have hkl : k < ts.length := by omega
        rw [rowT_step (List.getElem?_eq_getElem hkl)]
        by_cases ej : j = k
        · subst ej
          rw [if_pos hmj]
          have := rowT_len (f := W.length) hM.len (k := j) (by omega)
          rw [← this]; simp
        · have ih' := ih (by omega) (by omega)
          by_cases z : M.getD k false = true
          · rw [if_pos z, List.getElem?_append_left (List.getElem?_eq_some_iff.mp ih').1]; exact ih'
          · rw [if_neg z]; exact ih'
    have g1 := wlSt_get (key hk hjk)
    have g2 := wlSt_get (ts := ts.take k) (k := j) (t := ts[j]) (by rw [List.getElem?_take_of_lt hjk, List.getElem?_eq_getElem hjl])
    have e1 : (W ++ wlSt (rowT W.length M ts k))[W.length + cntT M j]? = some (movd W.length M ts[j]).2.2.2 := by
      rw [List.getElem?_append_right (by omega)]
      have : W.length + cntT M j - W.length = cntT M j := by omega
      rw [this]; exact g1
    have e2 : (W ++ wlSt (ts.take k))[W.length + j]? = some ts[j].2.2.2 := by
      rw [List.getElem?_append_right (by omega)]
      have : W.length + j - W.length = j := by omega
      rw [this]; exact g2
    rw [List.getD_eq_getElem?_getD, List.getD_eq_getElem?_getD, e1, e2]; rfl
theorem trim_right {W : List (List Int)} {M : List Bool} {ts : List Stp} (hM : Mks W.length ts M) (hr : RightAll W ts) : ∀ {k : Nat}, k ≤ ts.length → RightAll W (rowT W.length M ts k)
  | 0, _ => trivial
  | k + 1, hk => by
    have ih := trim_right hM hr (k := k) (by omega)
    have hkl : k < ts.length := by omega
    have hg := List.getElem?_eq_getElem hkl
    rw [rowT_step hg]
    by_cases c : M.getD k false = true
    · rw [if_pos c]
      refine RightAll_snoc ih ?_
      have hS := RightAll_at hr hg
      obtain ⟨r1, r2, r3, r4⟩ := refs_of hr k _ hg
      have hnd := ((hM.nd k).mp c).2
      have in1 : ∀ j : Nat, ts[k].1 = (W.length : Int) + j → M.getD j false = true := fun j e => (hM.nd j).mpr ⟨by omega, .one hnd hg e⟩
      have in2 : ∀ j : Nat, ts[k].2.1 = (W.length : Int) + j → M.getD j false = true := fun j e => (hM.nd j).mpr ⟨by omega, .two hnd hg e⟩
      obtain ⟨a1, a2, a3⟩ := trim_known hM (k := k) (by omega) ts[k].1 r1 (by omega) in1
      obtain ⟨b1, b2, b3⟩ := trim_known hM (k := k) (by omega) ts[k].2.1 r3 (by omega) in2
      obtain ⟨_, _, _, _, h5, h6, h7, h8⟩ := hS
      refine ⟨a1, a2, b1, b2, h5, ?_, ?_, ?_⟩
      · show ts[k].2.2.1 ∈ (W ++ wlSt (rowT W.length M ts k)).getD (newN W.length M ts[k].1).toNat []
        rw [a3]; exact h6
      · show -ts[k].2.2.1 ∈ (W ++ wlSt (rowT W.length M ts k)).getD (newN W.length M ts[k].2.1).toNat []
        rw [b3]; exact h7
      · show ts[k].2.2.2 = mrg ts[k].2.2.1 ((W ++ wlSt (rowT W.length M ts k)).getD (newN W.length M ts[k].1).toNat []) ((W ++ wlSt (rowT W.length M ts k)).getD (newN W.length M ts[k].2.1).toNat [])
        rw [a3, b3]; exact h8
    · rw [if_neg c]; exact ih
theorem trim_last {f : Nat} {M : List Bool} {ts : List Stp} (hM : Mks f ts M) {pre : List Stp} {t : Stp} (e : ts = pre ++ [t]) : ∃ r, rowT f M ts ts.length = r ++ [movd f M t] := by
  have hl : ts.length = pre.length + 1 := by rw [e]; simp
  have hg : ts[pre.length]? = some t := by rw [e]; simp
  have hm : M.getD pre.length false = true := (hM.nd _).mpr ⟨by omega, .last hl⟩
  refine ⟨rowT f M ts pre.length, ?_⟩
  rw [hl, rowT_step hg, if_pos hm]
structure Ndn (f : Nat) (ts : List Stp) (N : Nat) (S : List Int) : Prop where
  sound : ∀ k : Nat, (f : Int) + k ∈ S → k < ts.length → Nd f ts k
  last : ∀ k, ts.length = k + 1 → (f : Int) + k ∈ S
  clo : ∀ k t, N ≤ k → ts[k]? = some t → (f : Int) + k ∈ S → t.1 ∈ S ∧ t.2.1 ∈ S
theorem Ndn.step {f : Nat} {ts : List Stp} {N : Nat} {S S' : List Int} {t : Stp} (h : Ndn f ts (N + 1) S) (hr : Refs f ts) (ht : ts[N]? = some t) (hin : (f : Int) + N ∈ S) (hS : ∀ x, x ∈ S' ↔ x ∈ S ∨ x = t.1 ∨ x = t.2.1) : Ndn f ts N S' := by
  have hN : N < ts.length := (List.getElem?_eq_some_iff.mp ht).1
  have hnd := h.sound N hin hN
  refine ⟨fun k hk hl => ?_, fun k hk => (hS _).mpr (.inl (h.last k hk)), fun k u hNk hu hk => ?_⟩
  · rcases (hS _).mp hk with z | z | z
    · exact h.sound k z hl
    · exact .one hnd ht z.symm
    · exact .two hnd ht z.symm
  · by_cases e : k = N
    · subst e
      rw [ht] at hu
      have : t = u := Option.some.inj hu
      rw [← this]
      exact ⟨(hS _).mpr (.inr (.inl rfl)), (hS _).mpr (.inr (.inr rfl))⟩
    · obtain ⟨_, r2, _, r4⟩ := hr N t ht
      have hkS : (f : Int) + k ∈ S := by
        rcases (hS _).mp hk with z | z | z
        · exact z
        · omega
        · omega
      obtain ⟨a, b⟩ := h.clo k u (by omega) hu hkS
      exact ⟨(hS _).mpr (.inl a), (hS _).mpr (.inl b)⟩
theorem Ndn.skip {f : Nat} {ts : List Stp} {N : Nat} {S : List Int} (h : Ndn f ts (N + 1) S) (hno : ¬ (f : Int) + N ∈ S) : Ndn f ts N S :=
  ⟨h.sound, h.last, fun k u hNk hu hk => by
    by_cases e : k = N
    · subst e; exact absurd hk hno
    · exact h.clo k u (by omega) hu hk⟩
theorem Ndn.done {f : Nat} {ts : List Stp} {S : List Int} (h : Ndn f ts 0 S) {k : Nat} (hr : Refs f ts) : ((f : Int) + k ∈ S ∧ k < ts.length) ↔ (k < ts.length ∧ Nd f ts k) := by
  constructor
  · rintro ⟨a, b⟩; exact ⟨b, h.sound k a b⟩
  · rintro ⟨a, hn⟩
    refine ⟨?_, a⟩
    have : ∀ {k}, Nd f ts k → (f : Int) + k ∈ S := fun {k} hn => by
      induction hn with
      | last e => exact h.last _ e
      | one _ ht e ih => rw [← e]; exact (h.clo _ _ (Nat.zero_le _) ht ih).1
      | two _ ht e ih => rw [← e]; exact (h.clo _ _ (Nat.zero_le _) ht ih).2
    exact this hn
structure Mkg (f : Nat) (ts : List Stp) (M : List Bool) (todo : List Int) : Prop where
  len : M.length = ts.length
  s1 : ∀ k, M.getD k false = true → Nd f ts k
  s2 : ∀ k : Nat, (k : Int) ∈ todo → Nd f ts k
  b2 : ∀ x ∈ todo, x < ts.length
  last : ∀ k, ts.length = k + 1 → M.getD k false = true ∨ (k : Int) ∈ todo
  clo : ∀ k t, ts[k]? = some t → M.getD k false = true → (∀ j : Nat, t.1 = (f : Int) + j → M.getD j false = true ∨ (j : Int) ∈ todo) ∧ (∀ j : Nat, t.2.1 = (f : Int) + j → M.getD j false = true ∨ (j : Int) ∈ todo)
theorem getD_set {M : List Bool} {k j : Nat} (h : k < M.length) : (M.set k true).getD j false = if j = k then true else M.getD j false := by
  rw [List.getD_eq_getElem?_getD, List.getD_eq_getElem?_getD]
  by_cases e : j = k
  · subst e; rw [if_pos rfl, List.getElem?_set_self h]; rfl
  · rw [if_neg e, List.getElem?_set_ne (Ne.symm e)]
theorem Mkg.skip {f : Nat} {ts : List Stp} {M : List Bool} {todo : List Int} {x : Int} (h : Mkg f ts M (todo ++ [x])) (hx : x < 0 ∨ M.getD x.toNat false = true) : Mkg f ts M todo := by
  have mem : ∀ {j : Nat}, M.getD j false = true ∨ (j : Int) ∈ todo ++ [x] → M.getD j false = true ∨ (j : Int) ∈ todo := fun {j} hj => by
    rcases hj with z | z
    · exact .inl z
    · rcases List.mem_append.mp z with y | y
      · exact .inr y
      · have e : (j : Int) = x := by simpa using y
        rcases hx with w | w
        · omega
        · left; rw [← e] at w; simpa using w
  exact ⟨h.len, h.s1, fun k hk => h.s2 k (List.mem_append_left _ hk), fun y hy => h.b2 y (List.mem_append_left _ hy), fun k hk => mem (h.last k hk), fun k t ht hk => ⟨fun j e => mem ((h.clo k t ht hk).1 j e), fun j e => mem ((h.clo k t ht hk).2 j e)⟩⟩
theorem Mkg.mark {f : Nat} {ts : List Stp} {M : List Bool} {todo : List Int} {k : Nat} {t : Stp} (h : Mkg f ts M (todo ++ [(k : Int)])) (hr : Refs f ts) (ht : ts[k]? = some t) : Mkg f ts (M.set k true) (todo ++ [t.1 - f, t.2.1 - f]) := by
  have hk : k < ts.length := (List.getElem?_eq_some_iff.mp ht).1
  have hkM : k < M.length := by rw [h.len]; exact hk
  have hnd : Nd f ts k := h.s2 k (by simp)
  obtain ⟨_, r2, _, r4⟩ := hr k t ht
  have mem : ∀ {j : Nat}, M.getD j false = true ∨ (j : Int) ∈ todo ++ [(k : Int)] → (M.set k true).getD j false = true ∨ (j : Int) ∈ todo ++ [t.1 - (f : Int), t.2.1 - f] := fun {j} hj => by
    rw [getD_set hkM]
    rcases hj with z | z
    · left; split
      · rfl
      · exact z
    · rcases List.mem_append.mp z with y | y
      · exact .inr (List.mem_append_left _ y)
      · have e : j = k := by have : (j : Int) = k := by simpa using y
                             omega
        left; rw [if_pos e]
  refine ⟨by rw [List.length_set]; exact h.len, fun j hj => ?_, fun j hj => ?_, fun x hx => ?_, fun j hj => mem (h.last j hj), fun j u hu hj => ?_⟩
  · rw [getD_set hkM] at hj
    by_cases e : j = k
    · rw [e]; exact hnd
    · rw [if_neg e] at hj; exact h.s1 j hj
  · rcases List.mem_append.mp hj with z | z
    · exact h.s2 j (List.mem_append_left _ z)
    · have : (j : Int) = t.1 - f ∨ (j : Int) = t.2.1 - f := by simpa using z
      rcases this with e | e
      · exact .one hnd ht (by omega)
      · exact .two hnd ht (by omega)
  · rcases List.mem_append.mp hx with z | z
    · exact h.b2 x (List.mem_append_left _ z)
    · have : x = t.1 - f ∨ x = t.2.1 - f := by simpa using z
      omega
  · rw [getD_set hkM] at hj
    by_cases e : j = k
    · subst e
      rw [ht] at hu
      have : t = u := Option.some.inj hu
      subst this
      exact ⟨fun i ei => .inr (by simp; omega), fun i ei => .inr (by simp; omega)⟩
    · rw [if_neg e] at hj
      exact ⟨fun i ei => mem ((h.clo j u hu hj).1 i ei), fun i ei => mem ((h.clo j u hu hj).2 i ei)⟩
theorem Mkg.done {f : Nat} {ts : List Stp} {M : List Bool} (h : Mkg f ts M []) (hr : Refs f ts) : Mks f ts M := by
  refine ⟨h.len, fun k => ⟨fun hk => ⟨?_, h.s1 k hk⟩, fun ⟨_, hn⟩ => ?_⟩⟩
  · by_cases z : k < ts.length
    · exact z
    · have : M.getD k false = false := by simp [List.getD, h.len, Nat.not_lt.mp z]
      rw [this] at hk; cases hk
  · have no : ∀ {j : Nat}, M.getD j false = true ∨ (j : Int) ∈ ([] : List Int) → M.getD j false = true := fun h => h.elim id fun z => nomatch z
    have key : ∀ {k : Nat}, Nd f ts k → M.getD k false = true := fun {k} hn => by
      induction hn with
      | last e => exact no (h.last _ e)
      | one _ ht e ih => exact no ((h.clo _ _ ht ih).1 _ e)
      | two _ ht e ih => exact no ((h.clo _ _ ht ih).2 _ e)
    exact key hn
def draw (n p m : Int) : Int := n * 48271 % p % m
def spDraw : Sp := fun vs H Q _ => ∃ n p m : Int, vs = [.int n, .int p, .int m] ∧ 0 < p ∧ 0 < m ∧ Q (.int (draw n p m)) H
section
variable {P : Program} {w : World} {K : PySem.W.Frag} {mg : Str → Option Value} {base : Heap}
theorem ok_l_draw (Df : Def K mg "_law_draw" s_l_draw p_l_draw) : Cal P w K mg base 1 "_law_draw" p_l_draw spDraw := by
  refine Df.cal sc_l_draw (fun vs H Q E h => ?_) (fun f cdv A outer s H vs Q E hr h => ?_)
  · obtain ⟨n, p, m, rfl, _⟩ := h; rfl
  · obtain ⟨n, p, m, rfl, hp, hm, q⟩ := h
    refine ⟨_, (pss_one (ps_ret (pe_op op_mod (pe_op op_mod (pe_op op_mul (pv 0) pe_int) (pv 1)) (pv 2)))), ?_⟩
    exact ⟨_, rfl, _, _, rfl, rfl, .inr ⟨by decide, by decide⟩, _, rfl, _, _, rfl, rfl, hp, _, rfl, _, _, rfl, rfl, hm, q⟩
end
def spNeed (K : PySem.W.Frag) : Sp := fun vs H Q _ => ∃ (f : Nat) (a : Addr) (ss : List Sr), vs = [.int f, .ref a] ∧ SqL K H a (srefs ss) ∧ SsOk H ss ∧ f ≤ 1000 ∧ ss.length ≤ 1000 ∧ Refs f (sls ss) ∧ ∀ (d : Addr) (S : List Int) (H' : Hp), H d = none → Same H H' → H' d = some (.dK (mk S)) → (∀ k : Nat, ((f : Int) + k ∈ S ∧ k < (sls ss).length) ↔ (k < (sls ss).length ∧ Nd f (sls ss) k)) → Q (.ref d) H'
section
variable {P : Program} {w : World} {K : PySem.W.Frag} {mg : Str → Option Value} {base : Heap}
theorem ok_needed (B : Blt mg) (c_marked : Cal P w K mg base 1 "marked" p_marked (spMarked K)) (Df : Def K mg "needed_numbers" s_needed_numbers p_needed_numbers) : Cal P w K mg base 2 "needed_numbers" p_needed_numbers (spNeed K) := by
  refine Df.cal sc_needed_numbers (fun vs H Q E h => ?_) (fun f cdv A outer s H vs Q E hr h => ?_)
  · obtain ⟨f, a, ss, rfl, _⟩ := h; rfl
  · obtain ⟨f, a, ss, rfl, hS, hO, hf, hz, hR, q⟩ := h
    have hu := hu_of hr
    have esl := srefs_len ss
    have ell := sls_len ss
    refine ⟨_, (pss_cons (ps_set (i := 2) sc_needed_numbers.nd rfl (Or.inl rfl) (pe_op op_sub (pe_op op_add (pv 0) (pe_callB call_len_seq (by rfl) B.len_ PySem.boot_len (pa_cons (pv 1) pa_nil))) pe_int))
 (pss_cons (ps_set (i := 3) sc_needed_numbers.nd rfl (Or.inl rfl) (pe_def c_marked hr (by decide) (pa_cons (pe_lst (pa_cons (pv 2) pa_nil)) pa_nil)))
 (pss_cons (ps_for PassesOwn.never rfl (pi_range3 (by rfl) B.range_ (pa_cons (pv 2) (pa_cons (pe_op op_sub (pv 0) pe_int) (pa_cons (pe_un un_neg pe_int) pa_nil)))) (pg_name (i := 4) sc_needed_numbers.nd rfl (Or.inl rfl))
 (pss_one (ps_if (pt_cmp (pc_din hu (pv 4) (pv 3)))
 (pss_cons (ps_set (i := 5) sc_needed_numbers.nd rfl (Or.inl rfl) (pe_ix ix_list (pv 1) (pe_op op_sub (pv 4) (pv 0)) (fun _ _ => rfl)))
 (pss_cons (ps_dput hu (pv 3) (pe_ix ix_tup (pv 5) pe_int (fun _ _ => rfl)) pe_bl rfl)
 (pss_one (ps_dput hu (pv 3) (pe_ix ix_tup (pv 5) pe_int (fun _ _ => rfl)) pe_bl rfl))))
 pss_nil)))
 (pss_one (ps_ret (pv 3)))))), ?_⟩
    refine ⟨_, rfl, _, rfl, a, _, rfl, .inl hS, _, _, rfl, rfl, _, _, rfl, rfl, ?_⟩
    refine ⟨_, rfl, len1, fun p hp => ?_⟩
    have s1 : Same H (upd H p (.lst [V.int ((f : Int) + ((srefs ss).length : Nat) - 1)])) := (Same.refl H).upd hp
    have g1 : upd H p (.lst [V.int ((f : Int) + ((srefs ss).length : Nat) - 1)]) p = some (.lst ([(f : Int) + (ss.length : Nat) - 1].map V.int)) := by rw [upd_same, esl]; rfl
    generalize upd H p (.lst [V.int ((f : Int) + ((srefs ss).length : Nat) - 1)]) = H1 at s1 g1
    refine ⟨p, _, rfl, SqL.of g1, by simp, fun d H2 hd s2 h2 => ?_⟩
    have s12 := s1.trans s2
    have hdH := s1.free hd
    refine ⟨_, rfl, _, rfl, _, _, rfl, rfl, 1, rfl, _, _, _, rfl, ⟨by omega, by omega, by omega, by omega⟩, .inr rfl, ?_⟩
    have en : rngN ((f : Int) + ((srefs ss).length : Nat) - 1) ((f : Int) - 1) (-1) = ss.length := by rw [rngN_down]; omega
    rw [en]
    refine for_ranges (fun i σ Hx => ∃ (S : List Int) (v4 v5 : Option V), σ = [some (.int f), some (.ref a), some (.int ((f : Int) + ((srefs ss).length : Nat) - 1)), some (.ref d), v4, v5] ∧ Same H Hx ∧ Hx d = some (.dK (mk S)) ∧ Ndn f (sls ss) (ss.length - i) S ∧ S.length ≤ 1 + 2 * i)
      ⟨_, none, none, rfl, s12, h2, ?_, ?_⟩ ?_ ?_
    · have eo : once [(f : Int) + (ss.length : Nat) - 1] = [(f : Int) + (ss.length : Nat) - 1] := rfl
      rw [eo]
      refine ⟨fun k hk hl => ?_, fun k hk => ?_, fun k t hk ht => ?_⟩
      · have : (f : Int) + k = (f : Int) + (ss.length : Nat) - 1 := by simpa using hk
        exact .last (by omega)
      · have : (f : Int) + k = (f : Int) + (ss.length : Nat) - 1 := by omega
        rw [this]; simp
      · have := (List.getElem?_eq_some_iff.mp ht).1
        omega
    · exact Nat.le_refl _
    · rintro i σ Hx hi ⟨S, v4, v5, rfl, sx, hx, hnd, hSl⟩
      obtain ⟨k, hk⟩ : ∃ k, ss.length = k + i + 1 := ⟨ss.length - i - 1, by omega⟩
      have e1 : ss.length - i = k + 1 := by omega
      have e2 : ss.length - (i + 1) = k := by omega
      have enum : (f : Int) + ((srefs ss).length : Nat) - 1 + (i : Int) * -1 = (f : Int) + k := by omega
      rw [e1] at hnd
      rw [e2, enum]
      have hkl : k < ss.length := by omega
      have hg : ss[k]? = some ss[k] := List.getElem?_eq_getElem hkl
      have hm := List.getElem_mem hkl
      generalize ss[k] = st at hg hm
      have hgt : (sls ss)[k]? = some st.2.2 := by unfold sls; rw [List.getElem?_map, hg]; rfl
      have hgr : (srefs ss)[k]? = some (.ref st.1) := by unfold srefs; rw [List.getElem?_map, hg]; rfl
      refine ⟨_, rfl, _, rfl, d, _, rfl, DGet.k (k := Sum.inl ((f : Int) + k)) hx, _, rfl, ?_⟩
      rw [has_mk]
      refine ite2 (fun c1 => ?_) (fun c1 => ?_)
      · have hin : (f : Int) + k ∈ S := of_decide_eq_true c1
        have hat : atI (srefs ss) ((f : Int) + k - f) = some (.ref st.1) := by
          have : (f : Int) + k - f = ((k : Nat) : Int) := by omega
          rw [this]; exact atI_nat hgr
        refine ⟨_, rfl, _, rfl, _, rfl, _, _, rfl, rfl, a, _, _, _, rfl, rfl, sx.seq hS, hat, ?_⟩
        have ht := sx _ _ (hO st hm).1
        have nd : st.1 ≠ d := ne_of ht hx (by unfold tupS; intro z; cases z)
        refine ⟨_, rfl, _, rfl, st.1, _, _, _, rfl, rfl, SqT.of ht, rfl, d, _, rfl, DPut.k (k := Sum.inl st.2.2.1) hx (small6 (by rw [mk_len]; omega)), ?_⟩
        rw [put_mk]
        have h3 : upd Hx d (.dK (mk (onceF S st.2.2.1))) d = some (.dK (mk (onceF S st.2.2.1))) := upd_same
        have s3 : Same H (upd Hx d (.dK (mk (onceF S st.2.2.1)))) := sx.upd hdH
        generalize upd Hx d (.dK (mk (onceF S st.2.2.1))) = H3 at h3 s3
        have hl1 : (onceF S st.2.2.1).length ≤ S.length + 1 := by unfold onceF; split <;> simp
        have hl2 : (onceF (onceF S st.2.2.1) st.2.2.2.1).length ≤ (onceF S st.2.2.1).length + 1 := by
          generalize onceF S st.2.2.1 = S'
          unfold onceF; split <;> simp
        refine ⟨_, rfl, _, rfl, st.1, _, _, _, rfl, rfl, SqT.of (s3 _ _ (hO st hm).1), rfl, d, _, rfl, DPut.k (k := Sum.inl st.2.2.2.1) h3 (small6 (by rw [mk_len]; omega)), ?_⟩
        rw [put_mk]
        refine ⟨_, _, _, rfl, s3.upd hdH, upd_same, hnd.step hR hgt hin fun x => ?_, by omega⟩
        rw [mem_onceF, mem_onceF, or_assoc]
      · exact ⟨S, _, _, rfl, sx, hx, hnd.skip fun z => c1 (decide_eq_true z), by omega⟩
    · rintro σ Hx ⟨S, v4, v5, rfl, sx, hx, hnd, hSl⟩
      rw [Nat.sub_self] at hnd
      exact ⟨_, rfl, q d S Hx hdH sx hx fun k => hnd.done hR⟩
end
theorem Mks.unique {f : Nat} {ts : List Stp} {M N : List Bool} (h : Mks f ts M) (g : Mks f ts N) : M = N := by
  refine List.ext_getElem (by rw [h.len, g.len]) fun i h1 h2 => ?_
  have e1 : M.getD i false = M[i] := by simp [h1]
  have e2 : N.getD i false = N[i] := by simp [h2]
  rw [← e1, ← e2, Bool.eq_iff_iff, h.nd i, g.nd i]
structure Mvd (f : Nat) (M : List Bool) (kv : List (Key × V)) (i : Nat) : Prop where
  new : ∀ j : Nat, j < i → M.getD j false = true → valV kv (Sum.inl ((f : Int) + j)) = some (.int ((f : Int) + cntT M j))
  old : ∀ x : Int, x < f → valV kv (Sum.inl x) = none
theorem Mvd.put {f : Nat} {M : List Bool} {kv : List (Key × V)} {i : Nat} (h : Mvd f M kv i) : Mvd f M (putK kv (Sum.inl ((f : Int) + i)) (.int ((f : Int) + cntT M i))) (i + 1) := by
  refine ⟨fun j hj hm => ?_, fun x hx => ?_⟩
  · rw [valV_put]
    by_cases e : j = i
    · subst e; rw [if_pos rfl]
    · rw [if_neg (fun z => e (by have := Sum.inl.inj z; omega))]
      exact h.new j (by omega) hm
  · rw [valV_put, if_neg (fun z => by have := Sum.inl.inj z; omega)]
    exact h.old x hx
theorem Mvd.skip {f : Nat} {M : List Bool} {kv : List (Key × V)} {i : Nat} (h : Mvd f M kv i) (hn : ¬ M.getD i false = true) : Mvd f M kv (i + 1) :=
  ⟨fun j hj hm => h.new j (by
    by_cases e : j = i
    · subst e; exact absurd hm hn
    · omega) hm, h.old⟩
theorem Mvd.get {f : Nat} {M : List Bool} {kv : List (Key × V)} {i : Nat} {x : Int} (h : Mvd f M kv i) (hx : x < (f : Int) + i) (hm : ∀ j : Nat, x = (f : Int) + j → M.getD j false = true) : (valV kv (Sum.inl x)).getD (.int x) = .int (newN f M x) := by
  unfold newN
  by_cases c : x < (f : Int)
  · rw [if_pos c, h.old x c]; rfl
  · rw [if_neg c]
    obtain ⟨j, hj⟩ : ∃ j : Nat, x = (f : Int) + j := ⟨(x - f).toNat, by omega⟩
    have e : (x - f).toNat = j := by omega
    rw [e, hj, h.new j (by omega) (hm j hj)]; rfl
theorem putK_len (kvs : List (Key × V)) (k : Key) (v : V) : (putK kvs k v).length ≤ kvs.length + 1 := by
  unfold putK; split <;> simp
def spTrim (K : PySem.W.Frag) : Sp := fun vs H Q _ => ∃ (a b : Addr) (ws : List Wr) (ss : List Sr), vs = [.ref a, .ref b] ∧ SqL K H a (wrefs ws) ∧ SqL K H b (srefs ss) ∧ SsOk H ss ∧ ws.length ≤ 1000 ∧ ss.length ≤ 1000 ∧ Refs ws.length (sls ss) ∧
  ∀ (l : Addr) (rs : List Sr) (H' : Hp), H l = none → Same H H' → H' l = some (.lst (srefs rs)) → SsOk H' rs → (∀ M, Mks ws.length (sls ss) M → sls rs = rowT ws.length M (sls ss) (sls ss).length) → Q (.ref l) H'
section
variable {P : Program} {w : World} {K : PySem.W.Frag} {mg : Str → Option Value} {base : Heap}
theorem ok_trimmed (B : Blt mg) (c_needed_numbers : Cal P w K mg base 2 "needed_numbers" p_needed_numbers (spNeed K)) (Df : Def K mg "trimmed" s_trimmed p_trimmed) : Cal P w K mg base 3 "trimmed" p_trimmed (spTrim K) := by
  refine Df.cal sc_trimmed (fun vs H Q E h => ?_) (fun f cdv A outer s H vs Q E hr h => ?_)
  · obtain ⟨a, b, ws, ss, rfl, _⟩ := h; rfl
  · obtain ⟨a, b, ws, ss, rfl, hS, hT, hO, hz1, hz2, hR, q⟩ := h
    have hu := hu_of hr
    have ewl := wrefs_len ws
    have esl := srefs_len ss
    have ell := sls_len ss
    refine ⟨_, (pss_cons (ps_set (i := 2) sc_trimmed.nd rfl (Or.inl rfl) (pe_callB call_len_seq (by rfl) B.len_ PySem.boot_len (pa_cons (pv 0) pa_nil)))
 (pss_cons (ps_set (i := 3) sc_trimmed.nd rfl (Or.inl rfl) (pe_def c_needed_numbers hr (by decide) (pa_cons (pv 2) (pa_cons (pv 1) pa_nil))))
 (pss_cons (ps_set (i := 4) sc_trimmed.nd rfl (Or.inl rfl) pe_dnewK)
 (pss_cons (ps_set (i := 5) sc_trimmed.nd rfl (Or.inl rfl) (pe_lst pa_nil))
 (pss_cons (ps_for PassesOwn.never rfl (pi_enumS B.enumerate_ (pv 1) (pv 2)) (pg_tup rfl (pgs_cons (pg_name (i := 6) sc_trimmed.nd rfl (Or.inl rfl)) (pgs_cons (pg_name (i := 7) sc_trimmed.nd rfl (Or.inl rfl)) pgs_nil)))
 (pss_one (ps_if (pt_cmp (pc_din hu (pv 6) (pv 3)))
 (pss_cons (ps_dput hu (pv 4) (pv 6) (pe_op op_add (pv 2) (pe_callB call_len_seq (by rfl) B.len_ PySem.boot_len (pa_cons (pv 5) pa_nil))) rfl)
 (pss_one (ps_expr (pe_bm PySem.F.plainAttrs_list PySem.F.slot_list_append PySem.F.type_list_append mt_append (pv 5) (pa_cons (pe_tup (pa_cons (pe_dget2 hu (pv 4) (pe_ix ix_tup (pv 7) pe_int (fun _ _ => rfl)) (pe_ix ix_tup (pv 7) pe_int (fun _ _ => rfl)) ⟨rfl, rfl, rfl, rfl⟩) (pa_cons (pe_dget2 hu (pv 4) (pe_ix ix_tup (pv 7) pe_int (fun _ _ => rfl)) (pe_ix ix_tup (pv 7) pe_int (fun _ _ => rfl)) ⟨rfl, rfl, rfl, rfl⟩) (pa_cons (pe_ix ix_tup (pv 7) pe_int (fun _ _ => rfl)) (pa_cons (pe_callTy call_list_of (by rfl) B.list_ bt_list (pa_cons (pe_ix ix_tup (pv 7) pe_int (fun _ _ => rfl)) pa_nil)) pa_nil))))) pa_nil)))))
 pss_nil)))
 (pss_one (ps_ret (pv 5)))))))), ?_⟩
    refine ⟨_, rfl, a, _, rfl, .inl hS, ?_⟩
    dsimp only
    rw [ewl]
    refine ⟨_, rfl, _, rfl, ws.length, b, ss, rfl, hT, hO, hz1, hz2, hR, fun d S H1 hd s1 h1 hnd => ?_⟩
    obtain ⟨M, hM⟩ : ∃ M, Mks ws.length (sls ss) M := by
      refine ⟨(List.range (sls ss).length).map fun k => decide ((ws.length : Int) + (k : Nat) ∈ S), by simp, fun k => ?_⟩
      rw [← hnd k]
      by_cases hk : k < (sls ss).length
      · simp [hk]
      · simp [hk]
    have hMS : ∀ i : Nat, i < ss.length → decide ((ws.length : Int) + i ∈ S) = M.getD i false := fun i hi => by
      rw [Bool.eq_iff_iff, decide_eq_true_iff, hM.nd i, ← hnd i]
      exact ⟨fun z => ⟨z, by omega⟩, fun z => z.1⟩
    intro dm hdm
    have s2 : Same H1 (upd H1 dm (.dK [])) := (Same.refl H1).upd hdm
    have g2 : upd H1 dm (.dK []) dm = some (.dK []) := upd_same
    generalize upd H1 dm (.dK []) = H2 at s2 g2
    refine ⟨by decide, fun lr hlr => ?_⟩
    have s3 : Same H2 (upd H2 lr (.lst [])) := (Same.refl H2).upd hlr
    have g3 : upd H2 lr (.lst []) lr = some (.lst (srefs [])) := upd_same
    generalize upd H2 lr (.lst []) = H3 at s3 g3
    have s13 := s2.trans s3
    have s03 := s1.trans s13
    have hlr0 : H lr = none := s1.free (s2.free hlr)
    have hdm0 : H dm = none := s1.free hdm
    refine ⟨_, rfl, _, rfl, b, ws.length, rfl, rfl, by omega, ⟨_, s03.seq hT⟩, ?_⟩
    refine for_enumS (K := K) (a := b) (st0 := ws.length) (xs := srefs ss) (fun i σ Hx => ∃ (rs : List Sr) (kv : List (Key × V)) (v6 v7 : Option V), σ = [some (.ref a), some (.ref b), some (.int ws.length), some (.ref d), some (.ref dm), some (.ref lr), v6, v7] ∧ Same H Hx ∧ Hx d = some (.dK (mk S)) ∧ Hx dm = some (.dK kv) ∧ Hx lr = some (.lst (srefs rs)) ∧ SsOk Hx rs ∧ sls rs = rowT ws.length M (sls ss) i ∧ Mvd ws.length M kv i ∧ kv.length ≤ i ∧ rs.length ≤ i ∧ ∀ r ∈ rs, r.2.1 ≠ lr)
      ⟨[], [], none, none, rfl, s03, s13 _ _ h1, s3 _ _ g2, g3, (fun _ h => nomatch h), rfl, ⟨fun j hj => by omega, fun x _ => rfl⟩, Nat.le_refl _, Nat.le_refl _, (fun _ h => nomatch h)⟩ (fun i σ Hx _ ⟨_, _, _, _, _, e, _⟩ => e.seq hT) ?_ ?_
    · rintro i y σ Hx p hy ⟨rs, kv, v6, v7, rfl, sx, hxd, hxm, hxl, hOx, ers, hmv, hkl, hrl, hnl⟩ hp
      obtain ⟨st, hsi, rfl⟩ := sr_get hy
      have hm := List.mem_of_getElem? hsi
      have hil : i < ss.length := (List.getElem?_eq_some_iff.mp hsi).1
      have hgt : (sls ss)[i]? = some st.2.2 := by unfold sls; rw [List.getElem?_map, hsi]; rfl
      have s4 : Same Hx (upd Hx p (.tup [.int ((ws.length + i : Nat) : Int), .ref st.1])) := (Same.refl Hx).upd hp
      have g4 : upd Hx p (.tup [.int ((ws.length + i : Nat) : Int), .ref st.1]) p = some (.tup [.int ((ws.length + i : Nat) : Int), .ref st.1]) := upd_same
      generalize upd Hx p (.tup [.int ((ws.length + i : Nat) : Int), .ref st.1]) = H4 at s4 g4
      have enum : ((ws.length + i : Nat) : Int) = (ws.length : Int) + i := by omega
      have sx4 := sx.trans s4
      have h4d := s4 _ _ hxd
      have h4m := s4 _ _ hxm
      have h4l := s4 _ _ hxl
      have hO4 := hOx.mono s4
      refine ⟨p, _, rfl, SqT.of g4, rfl, _, _, rfl, _, _, rfl, rfl, ?_⟩
      rw [enum]
      refine ⟨_, rfl, _, rfl, d, _, rfl, DGet.k (k := Sum.inl ((ws.length : Int) + i)) h4d, _, rfl, ?_⟩
      rw [has_mk, hMS i hil]
      have e0 := rowT_step (f := ws.length) (M := M) hgt
      refine ite2 (fun c1 => ?_) (fun c1 => ?_)
      · rw [if_pos c1] at e0
        have hnd' := ((hM.nd i).mp c1).2
        obtain ⟨r1, r2, r3, r4⟩ := hR i _ hgt
        have in1 : ∀ j : Nat, st.2.2.1 = (ws.length : Int) + j → M.getD j false = true := fun j e => (hM.nd j).mpr ⟨by omega, .one hnd' hgt e⟩
        have in2 : ∀ j : Nat, st.2.2.2.1 = (ws.length : Int) + j → M.getD j false = true := fun j e => (hM.nd j).mpr ⟨by omega, .two hnd' hgt e⟩
        have erl : rs.length = cntT M i := by rw [← rowT_len (f := ws.length) hM.len (by omega), ← ers, sls_len]
        have esr := srefs_len rs
        refine ⟨_, rfl, _, rfl, lr, _, rfl, .inl (SqL.of h4l), _, _, rfl, rfl, _, rfl, _, rfl, dm, _, rfl, DPut.k (k := Sum.inl ((ws.length : Int) + i)) h4m (small6 (by omega)), ?_⟩
        rw [esr, erl]
        have hmv' := hmv.put
        have hkl' := putK_len kv (Sum.inl ((ws.length : Int) + i)) (.int ((ws.length : Int) + (cntT M i : Nat)))
        generalize putK kv (Sum.inl ((ws.length : Int) + i)) (.int ((ws.length : Int) + (cntT M i : Nat))) = kv' at hmv' hkl'
        have g5 : upd H4 dm (.dK kv') dm = some (.dK kv') := upd_same
        have kp : ∀ {z : Addr} {o : HO}, H4 z = some o → z ≠ dm → upd H4 dm (.dK kv') z = some o := fun h n => by rw [upd_ne n]; exact h
        have s5 : Same H (upd H4 dm (.dK kv')) := sx4.upd hdm0
        have nl : lr ≠ dm := ne_of h4l h4m (by intro z; cases z)
        have nd : d ≠ dm := ne_of_none (show H1 d = some _ from h1) hdm
        have h5l := kp h4l nl
        have h5d := kp h4d nd
        have hO5 : SsOk (upd H4 dm (.dK kv')) rs := fun r hr => ⟨kp (hO4 r hr).1 (ne_of (hO4 r hr).1 h4m (by unfold tupS; intro z; cases z)), kp (hO4 r hr).2 (ne_of (hO4 r hr).2 h4m (by intro z; cases z))⟩
        generalize upd H4 dm (.dK kv') = H5 at g5 s5 h5l h5d hO5
        have ht5 := s5 _ _ (hO st hm).1
        have hm5 := s5 _ _ (hO st hm).2
        refine ⟨_, rfl, .inl ⟨rfl, _, SqL.of h5l⟩, ?_⟩
        refine ⟨_, rfl, dm, rfl, .inl ⟨_, .inl g5⟩, _, rfl, st.1, _, _, _, rfl, rfl, SqT.of ht5, rfl, _, rfl, st.1, _, _, _, rfl, rfl, SqT.of ht5, rfl, _, DGet.k (k := Sum.inl st.2.2.1) g5, ?_⟩
        refine ⟨_, rfl, dm, rfl, .inl ⟨_, .inl g5⟩, _, rfl, st.1, _, _, _, rfl, rfl, SqT.of ht5, rfl, _, rfl, st.1, _, _, _, rfl, rfl, SqT.of ht5, rfl, _, DGet.k (k := Sum.inl st.2.2.2.1) g5, ?_⟩
        refine ⟨_, rfl, st.1, _, _, _, rfl, rfl, SqT.of ht5, rfl, _, rfl, st.1, _, _, _, rfl, rfl, SqT.of ht5, rfl, st.2.1, _, rfl, .inl (SqL.of hm5), fun ml hml => ?_⟩
        rw [hmv'.get (x := st.2.2.1) (by omega) in1, hmv'.get (x := st.2.2.2.1) (by omega) in2]
        have s6 : Same H5 (upd H5 ml (.lst (st.2.2.2.2.2.map V.int))) := (Same.refl H5).upd hml
        have g6 : upd H5 ml (.lst (st.2.2.2.2.2.map V.int)) ml = some (.lst (st.2.2.2.2.2.map V.int)) := upd_same
        generalize upd H5 ml (.lst (st.2.2.2.2.2.map V.int)) = H6 at s6 g6
        refine ⟨(by show 4 ≤ sizeLine; decide), fun tp htp => ?_⟩
        have s7 : Same H6 (upd H6 tp (.tup [.int (newN ws.length M st.2.2.1), .int (newN ws.length M st.2.2.2.1), .int st.2.2.2.2.1, .ref ml])) := (Same.refl H6).upd htp
        have g7 : upd H6 tp (.tup [.int (newN ws.length M st.2.2.1), .int (newN ws.length M st.2.2.2.1), .int st.2.2.2.2.1, .ref ml]) tp = some (tupS (movd ws.length M st.2.2) ml) := upd_same
        generalize upd H6 tp (.tup [.int (newN ws.length M st.2.2.1), .int (newN ws.length M st.2.2.2.1), .int st.2.2.2.2.1, .ref ml]) = H7 at s7 g7
        have s57 := s6.trans s7
        have h7l := s57 _ _ h5l
        refine ⟨lr, _, _, rfl, rfl, h7l, small6 (by omega), ?_⟩
        have er : srefs rs ++ [V.ref tp] = srefs (rs ++ [(tp, ml, movd ws.length M st.2.2)]) := by simp [srefs]
        dsimp only
        rw [er]
        have kp7 : ∀ {z : Addr} {o : HO}, H7 z = some o → z ≠ lr → upd H7 lr (.lst (srefs (rs ++ [(tp, ml, movd ws.length M st.2.2)]))) z = some o := fun h n => by rw [upd_ne n]; exact h
        have hmlne : ml ≠ lr := fun e => by rw [e] at hml; rw [h5l] at hml; cases hml
        refine ⟨rs ++ [(tp, ml, movd ws.length M st.2.2)], kv', _, _, rfl, (s5.trans s57).upd hlr0, kp7 (s57 _ _ h5d) (ne_of (s57 _ _ h5d) h7l (by intro z; cases z)), kp7 (s57 _ _ g5) (ne_of (s57 _ _ g5) h7l (by intro z; cases z)), upd_same, ?_, ?_, hmv', by omega, by simp; omega, fun r hrr => ?_⟩
        · intro r hrr
          rcases List.mem_append.mp hrr with z | z
          · have hh := hO5 r z
            refine ⟨kp7 (s57 _ _ hh.1) (ne_of (s57 _ _ hh.1) h7l (by unfold tupS; intro z; cases z)), kp7 (s57 _ _ hh.2) ?_⟩
            exact hnl r z
          · have e : r = (tp, ml, movd ws.length M st.2.2) := by simpa using z
            rw [e]
            exact ⟨kp7 g7 (ne_of g7 h7l (by unfold tupS; intro z; cases z)), kp7 (s7 _ _ g6) hmlne⟩
        · rw [sls_snoc, ers, e0]
        · rcases List.mem_append.mp hrr with z | z
          · exact hnl r z
          · have e : r = (tp, ml, movd ws.length M st.2.2) := by simpa using z
            rw [e]; exact hmlne
      · rw [if_neg c1] at e0
        exact ⟨rs, kv, _, _, rfl, sx4, h4d, h4m, h4l, hO4, by rw [ers, e0], hmv.skip c1, by omega, by omega, hnl⟩
    · rintro σ Hx ⟨rs, kv, v6, v7, rfl, sx, hxd, hxm, hxl, hOx, ers, hmv, hkl, hrl, hnl⟩
      refine ⟨_, rfl, q lr rs Hx hlr0 sx hxl hOx fun N hN => ?_⟩
      rw [hN.unique hM, ers, esl, ell]
end
def spNewN (K : PySem.W.Frag) : Sp := fun vs H Q _ => ∃ (x : Int) (a : Addr) (f : Nat) (M : List Bool), vs = [.int x, .ref a, .int f] ∧ SqL K H a (M.map V.bl) ∧ ∀ H', Same H H' → Q (.int (newN f M x)) H'
section
variable {P : Program} {w : World} {K : PySem.W.Frag} {mg : Str → Option Value} {base : Heap}
theorem ok_l_new_number (B : Blt mg) (Df : Def K mg "_law_new_number" s_l_new_number p_l_new_number) : Cal P w K mg base 1 "_law_new_number" p_l_new_number (spNewN K) := by
  refine Df.cal sc_l_new_number (fun vs H Q E h => ?_) (fun f cdv A outer s H vs Q E hr h => ?_)
  · obtain ⟨x, a, f, M, rfl, _⟩ := h; rfl
  · obtain ⟨x, a, f, M, rfl, hS, q⟩ := h
    refine ⟨_, (pss_cons (ps_if (pt_cmpR op_lt (pv 0) (pv 2) (nomark _))
 (pss_one (ps_ret (pv 0)))
 pss_nil)
 (pss_cons (ps_set (i := 3) sc_l_new_number.nd rfl (Or.inl rfl) (pv 2))
 (pss_cons (ps_for PassesOwn.never rfl (pi_list (pe_slice sl_list (pv 1) po_none (po_some (pe_op op_sub (pv 0) (pv 2))))) (pg_name (i := 4) sc_l_new_number.nd rfl (Or.inl rfl))
 (pss_one (ps_set (i := 3) sc_l_new_number.nd rfl (Or.inl rfl) (pe_op op_add (pv 3) (pe_callTy call_int1 (by rfl) B.int_ bt_int (pa_cons (pv 4) pa_nil))))))
 (pss_one (ps_ret (pv 3)))))), ?_⟩
    refine ⟨_, rfl, _, rfl, _, _, rfl, rfl, _, rfl, ite2 (fun c => ?_) (fun c => ?_)⟩
    · have c' : x < (f : Int) := of_decide_eq_true c
      have : newN f M x = x := by unfold newN; rw [if_pos c']
      have q' := q H (Same.refl H)
      rw [this] at q'
      exact ⟨_, rfl, q'⟩
    · have c' : ¬ x < (f : Int) := fun z => c (decide_eq_true z)
      obtain ⟨j, hj⟩ : ∃ j : Nat, x - (f : Int) = (j : Int) := ⟨(x - f).toNat, by omega⟩
      have en : newN f M x = (f : Int) + cntT M j := by
        unfold newN; rw [if_neg c']
        have : (x - (f : Int)).toNat = j := by omega
        rw [this]
      rw [en] at q
      refine ⟨_, rfl, ?_⟩
      refine ⟨_, rfl, _, rfl, _, rfl, _, _, rfl, rfl, _, rfl, a, _, rfl, hS, fun p hp => ?_⟩
      rw [hj, cut_pre, ← List.map_take]
      have s1 : Same H (upd H p (.lst ((M.take j).map V.bl))) := (Same.refl H).upd hp
      have g1 : upd H p (.lst ((M.take j).map V.bl)) p = some (.lst ((M.take j).map V.bl)) := upd_same
      generalize upd H p (.lst ((M.take j).map V.bl)) = H1 at s1 g1
      refine ⟨p, rfl, ⟨_, SqL.of g1⟩, for_list (K := K) (a := p) (xs := (M.take j).map V.bl) (fun i σ Hx => ∃ v4 : Option V, σ = [some (.int x), some (.ref a), some (.int f), some (.int ((f : Int) + cntT (M.take j) i)), v4] ∧ Hx = H1)
        ⟨none, by rw [show ((f : Int) + cntT (M.take j) 0) = f by simp [cntT]]; rfl, rfl⟩ (fun i σ Hx _ ⟨_, _, e⟩ => by rw [e]; exact SqL.of g1) ?_ ?_⟩
      · rintro i y σ Hx hi ⟨v4, rfl, rfl⟩
        obtain ⟨b, hb, rfl⟩ := getV hi
        have hil : i < (M.take j).length := (List.getElem?_eq_some_iff.mp hb).1
        have hgd : (M.take j).getD i false = b := by rw [List.getD_eq_getElem?_getD, hb]; rfl
        refine ⟨_, rfl, _, rfl, .inr ⟨_, rfl, _, _, rfl, rfl, ?_⟩⟩
        have e2 : ((f : Int) + cntT (M.take j) i) + (if b = true then 1 else 0) = (f : Int) + cntT (M.take j) (i + 1) := by
          rw [cntT_succ hil, hgd]
          cases b <;> simp <;> omega
        refine ⟨some (.bl b), ?_, rfl⟩
        rw [← e2]; rfl
      · rintro σ Hx ⟨v4, rfl, rfl⟩
        refine ⟨_, rfl, ?_⟩
        have : cntT (M.take j) ((M.take j).map V.bl).length = cntT M j := by
          unfold cntT
          rw [List.length_map, List.take_length]
        rw [this]
        exact q _ s1
end
def spMarksOf (K : PySem.W.Frag) : Sp := fun vs H Q _ => ∃ (a : Addr) (f : Nat) (ss : List Sr), vs = [.ref a, .int f] ∧ SqL K H a (srefs ss) ∧ SsOk H ss ∧ ss.length ≤ 1000 ∧ Refs f (sls ss) ∧ ∀ (l : Addr) (M : List Bool) (H' : Hp), H l = none → Same H H' → H' l = some (.lst (M.map V.bl)) → Mks f (sls ss) M → Q (.ref l) H'
def unm (M : List Bool) : Nat := (M.filter fun b => !b).length
theorem unm_set : ∀ {M : List Bool} {k : Nat}, M.getD k false = false → k < M.length → unm (M.set k true) + 1 = unm M
  | b :: M, 0, h, _ => by
    have : b = false := by simpa using h
    subst this
    simp [unm]
  | b :: M, k + 1, h, hl => by
    have ih := unm_set (M := M) (k := k) (by simpa using h) (by simpa using hl)
    unfold unm at ih ⊢
    rw [List.set_cons_succ, List.filter_cons, List.filter_cons]
    split
    · simp only [List.length_cons]; omega
    · exact ih
  | [], _, _, h => by simp at h
section
variable {P : Program} {w : World} {K : PySem.W.Frag} {mg : Str → Option Value} {base : Heap}
theorem ok_l_marks_of (B : Blt mg) (Df : Def K mg "_law_marks_of" s_l_marks_of p_l_marks_of) : Cal P w K mg base 1 "_law_marks_of" p_l_marks_of (spMarksOf K) := by
  refine Df.cal sc_l_marks_of (fun vs H Q E h => ?_) (fun f cdv A outer s H vs Q E hr h => ?_)
  · obtain ⟨a, f, ss, rfl, _⟩ := h; rfl
  · obtain ⟨a, f, ss, rfl, hS, hO, hz, hR, q⟩ := h
    have esl := srefs_len ss
    have ell := sls_len ss
    refine ⟨_, (pss_cons (ps_set (i := 2) sc_l_marks_of.nd rfl (Or.inl rfl) (pe_op op_rep (pe_lst (pa_cons pe_bl pa_nil)) (pe_callB call_len_seq (by rfl) B.len_ PySem.boot_len (pa_cons (pv 0) pa_nil))))
 (pss_cons (ps_set (i := 3) sc_l_marks_of.nd rfl (Or.inl rfl) (pe_lst (pa_cons (pe_op op_sub (pe_callB call_len_seq (by rfl) B.len_ PySem.boot_len (pa_cons (pv 0) pa_nil)) pe_int) pa_nil)))
 (pss_cons (ps_while PassesOwn.never (pt_cmpR (op_neL (hu0 hr)) (pv 3) (pe_lst pa_nil) (nomark _))
 (pss_cons (ps_set (i := 4) sc_l_marks_of.nd rfl (Or.inl rfl) (pe_bm0 PySem.F.plainAttrs_list PySem.F.slot_list_pop PySem.F.type_list_pop mt_pop (pv 3)))
 (pss_one (ps_if (PW.pt (pw_and (pt_cmpR op_ge (pv 4) pe_int (nomark _)) (pw_and1 (pt_not (pt_val (pe_ix ix_list (pv 2) (pv 4) (fun _ _ => rfl)))))))
 (pss_cons (ps_asg pe_bl (pg_sub (pv 2) (pv 4) set_list))
 (pss_one (ps_expr (pe_bm PySem.F.plainAttrs_list PySem.F.slot_list_extend PySem.F.type_list_extend mt_extendLT (pv 3) (pa_cons (pe_lst (pa_cons (pe_op op_sub (pe_ix ix_tup (pe_ix ix_list (pv 0) (pv 4) (fun _ _ => rfl)) pe_int (fun _ _ => rfl)) (pv 1)) (pa_cons (pe_op op_sub (pe_ix ix_tup (pe_ix ix_list (pv 0) (pv 4) (fun _ _ => rfl)) pe_int (fun _ _ => rfl)) (pv 1)) pa_nil))) pa_nil)))))
 pss_nil))))
 (pss_one (ps_ret (pv 2)))))), ?_⟩
    refine ⟨len1, fun p0 hp0 => ?_⟩
    have s1 : Same H (upd H p0 (.lst [V.bl false])) := (Same.refl H).upd hp0
    have g1 : upd H p0 (.lst [V.bl false]) p0 = some (.lst [V.bl false]) := upd_same
    generalize upd H p0 (.lst [V.bl false]) = H1 at s1 g1
    refine ⟨_, rfl, a, _, rfl, .inl (s1.seq hS), p0, _, _, rfl, rfl, g1, by omega, by omega, small6' (by simp; omega), fun pm hpm => ?_⟩
    have erep : (List.replicate (((srefs ss).length : Nat) : Int).toNat [V.bl false]).flatten = (List.replicate ss.length false).map V.bl := by
      have : (((srefs ss).length : Nat) : Int).toNat = ss.length := by omega
      rw [this]
      generalize ss.length = n
      induction n with
      | zero => rfl
      | succ n ih => rw [List.replicate_succ, List.flatten_cons, ih, List.replicate_succ]; rfl
    rw [erep]
    have s2 : Same H1 (upd H1 pm (.lst ((List.replicate ss.length false).map V.bl))) := (Same.refl H1).upd hpm
    have g2 : upd H1 pm (.lst ((List.replicate ss.length false).map V.bl)) pm = some (.lst ((List.replicate ss.length false).map V.bl)) := upd_same
    generalize upd H1 pm (.lst ((List.replicate ss.length false).map V.bl)) = H2 at s2 g2
    have s02 := s1.trans s2
    refine ⟨_, rfl, a, _, rfl, .inl (s02.seq hS), _, _, rfl, rfl, len1, fun pt hpt => ?_⟩
    have s3 : Same H2 (upd H2 pt (.lst [V.int (((srefs ss).length : Nat) - 1)])) := (Same.refl H2).upd hpt
    have g3 : upd H2 pt (.lst [V.int (((srefs ss).length : Nat) - 1)]) pt = some (.lst ([((ss.length : Nat) : Int) - 1].map V.int)) := by rw [upd_same, esl]; rfl
    generalize upd H2 pt (.lst [V.int (((srefs ss).length : Nat) - 1)]) = H3 at s3 g3
    have s03 := s02.trans s3
    have hpmH : H pm = none := s1.free hpm
    have hptH : H pt = none := s02.free hpt
    have nmt : pm ≠ pt := ne_of_none g2 hpt
    have mk0 : Mkg f (sls ss) (List.replicate ss.length false) [((ss.length : Nat) : Int) - 1] := by
      have hno : ∀ k, (List.replicate ss.length false).getD k false = false := fun k => by
        rw [List.getD_eq_getElem?_getD, List.getElem?_replicate]; split <;> rfl
      refine ⟨by simp [ell], fun k hk => ?_, fun k hk => ?_, fun x hx => ?_, fun k hk => .inr ?_, fun k t _ hk => ?_⟩
      · rw [hno] at hk; cases hk
      · have : (k : Int) = ((ss.length : Nat) : Int) - 1 := by simpa using hk
        exact .last (by omega)
      · have : x = ((ss.length : Nat) : Int) - 1 := by simpa using hx
        omega
      · have : (k : Int) = ((ss.length : Nat) : Int) - 1 := by omega
        rw [this]; simp
      · rw [hno] at hk; cases hk
    refine ⟨fun m σ Hx => ∃ (M : List Bool) (todo : List Int) (v4 : Option V), m = 3 * unm M + todo.length ∧ σ = [some (.ref a), some (.int f), some (.ref pm), some (.ref pt), v4] ∧ Same H Hx ∧ Hx pm = some (.lst (M.map V.bl)) ∧ Hx pt = some (.lst (todo.map V.int)) ∧ Mkg f (sls ss) M todo ∧ 2 * unm M + todo.length ≤ 2 * ss.length + 1,
      ⟨_, _, _, none, rfl, rfl, s03, s3 _ _ g2, g3, mk0, ?_⟩, ?_⟩
    · have : unm (List.replicate ss.length false) = ss.length := by simp [unm]
      rw [this]; simp
    rintro m σ Hx ⟨M, todo, v4, rfl, rfl, sx, hxm, hxt, hmk, hsz⟩
    refine ⟨_, rfl, by decide, fun pe hpe => ?_⟩
    have s4 : Same Hx (upd Hx pe (.lst [])) := (Same.refl Hx).upd hpe
    have g4 : upd Hx pe (.lst []) pe = some (.lst []) := upd_same
    generalize upd Hx pe (.lst []) = H4 at s4 g4
    have h4t := s4 _ _ hxt
    have h4m := s4 _ _ hxm
    have s04 := sx.trans s4
    refine ⟨(todo.map V.int).isEmpty, ⟨pt, pe, _, [], rfl, rfl, SqL.of h4t, SqL.of g4, .inl ⟨rfl, rfl⟩⟩, _, rfl, ?_⟩
    cases htd : todo with
    | nil =>
      rw [htd] at hmk
      refine ite2 (fun z => by cases z) (fun _ => ?_)
      exact ⟨_, rfl, q pm M H4 hpmH s04 h4m (hmk.done hR)⟩
    | cons u0 r0 =>
      obtain ⟨td, x, etd⟩ : ∃ td x, todo = td ++ [x] := ⟨_, _, (List.dropLast_concat_getLast (by rw [htd]; simp)).symm⟩
      rw [← htd]
      have hem : (todo.map V.int).isEmpty = false := by rw [etd]; simp
      rw [hem]
      refine iteT ?_
      rw [etd] at hmk h4t hsz
      have elm : (td ++ [x]).map V.int = td.map V.int ++ [V.int x] := by simp
      rw [elm] at h4t
      refine ⟨_, fun σ' H' h => h, ?_⟩
      refine ⟨_, rfl, .inl ⟨rfl, _, SqL.of h4t⟩, pt, _, .int x, rfl, rfl, h4t, by simp, ?_⟩
      have edl : (td.map V.int ++ [V.int x]).dropLast = td.map V.int := by simp
      dsimp only
      rw [edl]
      have s5 : Same H (upd H4 pt (.lst (td.map V.int))) := s04.upd hptH
      have g5 : upd H4 pt (.lst (td.map V.int)) pt = some (.lst (td.map V.int)) := upd_same
      have h5m : upd H4 pt (.lst (td.map V.int)) pm = some (.lst (M.map V.bl)) := by rw [upd_ne nmt]; exact h4m
      generalize upd H4 pt (.lst (td.map V.int)) = H5 at s5 g5 h5m
      have hxb : x < (sls ss).length := hmk.b2 x (by simp)
      have again : (x < 0 ∨ M.getD x.toNat false = true) → ∃ m', m' < 3 * unm M + todo.length ∧ ∃ (M' : List Bool) (todo' : List Int) (v4 : Option V), m' = 3 * unm M' + todo'.length ∧ [some (.ref a), some (.int f), some (.ref pm), some (.ref pt), some (.int x)] = [some (.ref a), some (.int f), some (.ref pm), some (.ref pt), v4] ∧ Same H H5 ∧ H5 pm = some (.lst (M'.map V.bl)) ∧ H5 pt = some (.lst (todo'.map V.int)) ∧ Mkg f (sls ss) M' todo' ∧ 2 * unm M' + todo'.length ≤ 2 * ss.length + 1 := fun h =>
        ⟨_, by rw [etd]; simp, M, td, _, rfl, rfl, s5, h5m, g5, hmk.skip h, by simp at hsz; omega⟩
      refine ⟨_, rfl, _, _, rfl, rfl, _, rfl, ite2 (fun c1 => ?_) (fun c1 => ?_)⟩
      · have hx0 : 0 ≤ x := by have := of_decide_eq_true c1; omega
        obtain ⟨k, rfl⟩ : ∃ k : Nat, x = (k : Int) := ⟨x.toNat, by omega⟩
        have hkl : k < ss.length := by omega
        have hkM : k < M.length := by rw [hmk.len]; omega
        have hatM : atI (M.map V.bl) ((k : Nat) : Int) = some (.bl (M.getD k false)) := atI_nat (by simp [hkM])
        refine ⟨_, rfl, _, rfl, pm, _, _, _, rfl, rfl, SqL.of h5m, hatM, _, rfl, ?_⟩
        cases hb : M.getD k false with
        | true => exact iteF (again (.inr (by simpa using hb)))
        | false =>
          refine iteT ?_
          have hg : ss[k]? = some ss[k] := List.getElem?_eq_getElem hkl
          have hm := List.getElem_mem hkl
          generalize ss[k] = st at hg hm
          have hgt : (sls ss)[k]? = some st.2.2 := by unfold sls; rw [List.getElem?_map, hg]; rfl
          have hgr : (srefs ss)[k]? = some (.ref st.1) := by unfold srefs; rw [List.getElem?_map, hg]; rfl
          have hix : ixN (M.map V.bl).length ((k : Nat) : Int) = some k := by unfold ixN; rw [if_pos (by omega), if_pos (by rw [List.length_map]; omega)]; simp
          refine ⟨_, rfl, _, rfl, pm, _, _, k, rfl, rfl, h5m, hix, ?_⟩
          have eset : (M.map V.bl).set k (V.bl true) = (M.set k true).map V.bl := by rw [List.map_set]
          rw [eset]
          have s6 : Same H (upd H5 pm (.lst ((M.set k true).map V.bl))) := s5.upd hpmH
          have g6 : upd H5 pm (.lst ((M.set k true).map V.bl)) pm = some (.lst ((M.set k true).map V.bl)) := upd_same
          have h6t : upd H5 pm (.lst ((M.set k true).map V.bl)) pt = some (.lst (td.map V.int)) := by rw [upd_ne nmt.symm]; exact g5
          generalize upd H5 pm (.lst ((M.set k true).map V.bl)) = H6 at s6 g6 h6t
          have ht6 := s6 _ _ (hO st hm).1
          refine ⟨_, rfl, .inl ⟨rfl, _, SqL.of h6t⟩, ?_⟩
          refine ⟨_, rfl, _, rfl, a, _, _, _, rfl, rfl, s6.seq hS, atI_nat hgr, st.1, _, _, _, rfl, rfl, SqT.of ht6, rfl, _, rfl, _, _, rfl, rfl, ?_⟩
          refine ⟨_, rfl, _, rfl, a, _, _, _, rfl, rfl, s6.seq hS, atI_nat hgr, st.1, _, _, _, rfl, rfl, SqT.of ht6, rfl, _, rfl, _, _, rfl, rfl, len2, fun p7 hp7 => ?_⟩
          have s7 : Same H6 (upd H6 p7 (.lst [V.int (st.2.2.1 - (f : Int)), V.int (st.2.2.2.1 - (f : Int))])) := (Same.refl H6).upd hp7
          have g7 : upd H6 p7 (.lst [V.int (st.2.2.1 - (f : Int)), V.int (st.2.2.2.1 - (f : Int))]) p7 = some (.lst [V.int (st.2.2.1 - (f : Int)), V.int (st.2.2.2.1 - (f : Int))]) := upd_same
          generalize upd H6 p7 (.lst [V.int (st.2.2.1 - (f : Int)), V.int (st.2.2.2.1 - (f : Int))]) = H7 at s7 g7
          have hus := unm_set hb hkM
          have htl : td.length + 1 + 2 * unm M ≤ 2 * ss.length + 1 := by simp at hsz; omega
          refine ⟨pt, p7, _, _, rfl, rfl, s7 _ _ h6t, .inl g7, small6' (by simp; omega), ?_⟩
          have e8 : td.map V.int ++ [V.int (st.2.2.1 - (f : Int)), V.int (st.2.2.2.1 - (f : Int))] = (td ++ [st.2.2.1 - (f : Int), st.2.2.2.1 - (f : Int)]).map V.int := by simp
          dsimp only
          rw [e8]
          refine ⟨3 * unm (M.set k true) + (td ++ [st.2.2.1 - (f : Int), st.2.2.2.1 - (f : Int)]).length, by rw [etd]; simp; omega, M.set k true, _, _, rfl, rfl, (s6.trans s7).upd hptH, by rw [upd_ne nmt]; exact s7 _ _ g6, upd_same, hmk.mark hR hgt, by simp; omega⟩
      · exact again (.inl (by have : ¬ (0 : Int) ≤ x := fun z => c1 (decide_eq_true z); omega))
end
structure GoodK (lg : List Int) (W : List (List Int)) (hand gone : Nat) : Prop where
  z : W.getD 0 [] = lg
  one : ∀ i, i < lg.length → W.getD (i + 1) [] = [-lg.getD i 0]
  big : lg.length < W.length
  hl : hand < W.length
  rest : ∀ j, gone ≤ j → j < lg.length → lg.getD j 0 ∈ W.getD hand []
  sm : ∀ v ∈ W, v.length ≤ 12 ∧ ∀ y ∈ v, y.natAbs ≤ 12
theorem getD_app {W : List (List Int)} {v : List Int} {i : Nat} (h : i < W.length) : (W ++ [v]).getD i [] = W.getD i [] := by
  rw [List.getD_eq_getElem?_getD, List.getD_eq_getElem?_getD, List.getElem?_append_left h]
theorem stepB_lone {W : List (List Int)} {lg : List Int} {a i : Nat} {l : Int} (l0 : l ≠ 0) (ha : a < W.length) (hi : i + 1 < W.length) (hw : W.getD (i + 1) [] = [-l]) (hl : l ∈ W.getD a []) :
    RightS W (stepB W ((i : Int) + 1) (W.getD ((i : Int) + 1).toNat []) l (a : Int)) ∧ (∀ y, y ∈ (stepB W ((i : Int) + 1) (W.getD ((i : Int) + 1).toNat []) l (a : Int)).2.2.2 ↔ y ∈ W.getD a [] ∧ y ≠ l) ∧ (stepB W ((i : Int) + 1) (W.getD ((i : Int) + 1).toNat []) l (a : Int)).2.2.2.length ≤ (W.getD a []).length := by
  have e1 : ((i : Int) + 1).toNat = i + 1 := by omega
  have e2 : ((a : Int)).toNat = a := by omega
  rw [e1, hw]
  unfold stepB
  rw [e2]
  by_cases c : 0 < l
  · rw [if_pos c]
    have hm : ∀ y, y ∈ mrg l (W.getD a []) [-l] ↔ y ∈ W.getD a [] ∧ y ≠ l := fun y => by
      rw [mem_mrg]; simp
    refine ⟨⟨by show (0 : Int) ≤ a; omega, by show (a : Int) < W.length; omega, by show (0 : Int) ≤ (i : Int) + 1; omega, by show (i : Int) + 1 < W.length; omega, by show (1 : Int) ≤ l; omega, ?_, ?_, ?_⟩, hm, sorted_len (rise_rising _).1 fun y hy => ((hm y).mp hy).1⟩
    · show l ∈ W.getD ((a : Int)).toNat []
      rw [e2]; exact hl
    · show -l ∈ W.getD ((i : Int) + 1).toNat []
      rw [e1, hw]; simp
    · show mrg l (W.getD a []) [-l] = mrg l (W.getD ((a : Int)).toNat []) (W.getD ((i : Int) + 1).toNat [])
      rw [e2, e1, hw]
  · rw [if_neg c]
    have hm : ∀ y, y ∈ mrg (-l) [-l] (W.getD a []) ↔ y ∈ W.getD a [] ∧ y ≠ l := fun y => by
      rw [mem_mrg]; simp
    refine ⟨⟨by show (0 : Int) ≤ (i : Int) + 1; omega, by show (i : Int) + 1 < W.length; omega, by show (0 : Int) ≤ a; omega, by show (a : Int) < W.length; omega, by show (1 : Int) ≤ -l; omega, ?_, ?_, ?_⟩, hm, sorted_len (rise_rising _).1 fun y hy => ((hm y).mp hy).1⟩
    · show -l ∈ W.getD ((i : Int) + 1).toNat []
      rw [e1, hw]; simp
    · show - -l ∈ W.getD ((a : Int)).toNat []
      rw [e2, Int.neg_neg]; exact hl
    · show mrg (-l) [-l] (W.getD a []) = mrg (-l) (W.getD ((i : Int) + 1).toNat []) (W.getD ((a : Int)).toNat [])
      rw [e2, e1, hw]
theorem GoodK.snoc {lg : List Int} {W : List (List Int)} {hand gone hand' gone' : Nat} {v : List Int} (h : GoodK lg W hand gone) (hv : v.length ≤ 12 ∧ ∀ y ∈ v, y.natAbs ≤ 12) (hh : hand' < W.length + 1) (hr : ∀ j, gone' ≤ j → j < lg.length → lg.getD j 0 ∈ (W ++ [v]).getD hand' []) : GoodK lg (W ++ [v]) hand' gone' := by
  have hb := h.big
  refine ⟨by rw [getD_app (by omega)]; exact h.z, fun i hi => by rw [getD_app (by omega)]; exact h.one i hi, by simp; omega, by simp; omega, hr, fun u hu => ?_⟩
  rcases List.mem_append.mp hu with z | z
  · exact h.sm u z
  · have : u = v := by simpa using z
    rw [this]; exact hv
theorem getD_mem0 {W : List (List Int)} {i : Nat} (h : i < W.length) : W.getD i [] ∈ W := by
  rw [List.getD_eq_getElem?_getD, List.getElem?_eq_getElem h]; exact List.getElem_mem h
def But (k : Addr) (H H' : Hp) : Prop := ∀ b o, b ≠ k → H b = some o → H' b = some o
theorem But.same {k : Addr} {H H1 H2 : Hp} (h : But k H H1) (s : Same H1 H2) : But k H H2 := fun b o n e => s _ _ (h b o n e)
theorem But.upd {k : Addr} {H H1 : Hp} {o : HO} (h : But k H H1) : But k H (upd H1 k o) := fun b o' n e => by rw [upd_ne n]; exact h b o' n e
theorem But.new {k l : Addr} {H H1 : Hp} {o : HO} (h : But k H H1) (hl : H l = none) : But k H (L2.upd H1 l o) := fun b o' n e => by rw [upd_ne (ne_of_none e hl)]; exact h b o' n e
def spRowsOf (K : PySem.W.Frag) : Sp := fun vs H Q _ => ∃ (a b k : Addr) (cells lg : List Int) (ks : List Wr), vs = [.ref a, .ref b, .ref k] ∧ H a = some (.lst (cells.map V.int)) ∧ H b = some (.lst (lg.map V.int)) ∧ H k = some (.lst (wrefs ks)) ∧ WsOk H ks ∧ (∀ r ∈ ks, r.1 ≠ k) ∧ a ≠ k ∧ b ≠ k ∧ cells.length ≤ 100 ∧ 0 < lg.length ∧ lg.length ≤ 12 ∧ ks.length ≤ 100 ∧ (∀ i, i < lg.length → lg.getD i 0 ≠ 0) ∧ (∀ i j, i < j → j < lg.length → lg.getD i 0 ≠ lg.getD j 0) ∧ GoodK lg (wl ks) 0 0 ∧
  ∀ (l : Addr) (ss : List Sr) (H' : Hp), H l = none → But k H H' → H' l = some (.lst (srefs ss)) → SsOk H' ss → (∀ s ∈ ss, s.2.1 ≠ l ∧ s.2.1 ≠ k) → RightAll (wl ks) (sls ss) → ss.length ≤ cells.length + lg.length → (∀ s ∈ ss, s.2.2.2.2.2.length ≤ 12 ∧ (∀ y ∈ s.2.2.2.2.2, y.natAbs ≤ 12) ∧ s.2.2.2.2.1.natAbs ≤ 12) → Q (.ref l) H'
structure RowsI (lg : List Int) (ks0 ks : List Wr) (ss : List Sr) (k ls : Addr) (hand gone : Nat) (H0 Hx : Hp) : Prop where
  bt : But k H0 Hx
  hl : Hx ls = some (.lst (srefs ss))
  hk : Hx k = some (.lst (wrefs ks))
  ok : WsOk Hx ks
  nk : ∀ r ∈ ks, r.1 ≠ k ∧ r.1 ≠ ls
  so : SsOk Hx ss
  sn : ∀ s ∈ ss, s.2.1 ≠ ls ∧ s.2.1 ≠ k
  ew : wl ks = wl ks0 ++ wlSt (sls ss)
  ra : RightAll (wl ks0) (sls ss)
  gk : GoodK lg (wl ks) hand gone
  gl : gone ≤ lg.length
  sz : ∀ s ∈ ss, s.2.2.2.2.2.length ≤ 12 ∧ (∀ y ∈ s.2.2.2.2.2, y.natAbs ≤ 12) ∧ s.2.2.2.2.1.natAbs ≤ 12
theorem RowsI.same {lg : List Int} {ks0 ks : List Wr} {ss : List Sr} {k ls : Addr} {hand gone : Nat} {H0 Hx H' : Hp} (h : RowsI lg ks0 ks ss k ls hand gone H0 Hx) (s : Same Hx H') : RowsI lg ks0 ks ss k ls hand gone H0 H' :=
  ⟨h.bt.same s, s _ _ h.hl, s _ _ h.hk, h.ok.mono s, h.nk, h.so.mono s, h.sn, h.ew, h.ra, h.gk, h.gl, h.sz⟩
section
variable {P : Program} {w : World} {K : PySem.W.Frag} {mg : Str → Option Value} {base : Heap}
theorem ok_l_rows_of (B : Blt mg) (c_l_step_of : Cal P w K mg base 2 "_law_step_of" p_l_step_of (spStepOf K)) (Df : Def K mg "_law_rows_of" s_l_rows_of p_l_rows_of) : Cal P w K mg base 3 "_law_rows_of" p_l_rows_of (spRowsOf K) := by
  refine Df.cal sc_l_rows_of (fun vs H Q E h => ?_) (fun f cdv A outer s H vs Q E hr h => ?_)
  · obtain ⟨a, b, k, cells, lg, ks, rfl, _⟩ := h; rfl
  · obtain ⟨a, b, k, cells, lg, ks0, rfl, hS, hb, hk, hW, hnk, nak, nbk, hc, hg0, hg, hks, hlz, hld, hgk, q⟩ := h
    refine ⟨_, (pss_cons (ps_set (i := 3) sc_l_rows_of.nd rfl (Or.inl rfl) (pe_lst pa_nil))
 (pss_cons (ps_set (i := 4) sc_l_rows_of.nd rfl (Or.inl rfl) pe_int)
 (pss_cons (ps_set (i := 5) sc_l_rows_of.nd rfl (Or.inl rfl) pe_int)
 (pss_cons (ps_for PassesOwn.never rfl (pi_range1 (by rfl) B.range_ (pa_cons (pe_op op_add (pe_callB call_len_seq (by rfl) B.len_ PySem.boot_len (pa_cons (pv 0) pa_nil)) (pe_callB call_len_seq (by rfl) B.len_ PySem.boot_len (pa_cons (pv 1) pa_nil))) pa_nil)) (pg_name (i := 6) sc_l_rows_of.nd rfl (Or.inl rfl))
 (pss_cons (ps_set (i := 7) sc_l_rows_of.nd rfl (Or.inl rfl) pe_int)
 (pss_cons (ps_if (pt_cmpR op_lt (pv 6) (pe_callB call_len_seq (by rfl) B.len_ PySem.boot_len (pa_cons (pv 0) pa_nil)) (nomark _))
 (pss_one (ps_set (i := 7) sc_l_rows_of.nd rfl (Or.inl rfl) (pe_ix ix_list (pv 0) (pv 6) (fun _ _ => rfl))))
 pss_nil)
 (pss_cons (ps_set (i := 8) sc_l_rows_of.nd rfl (Or.inl rfl) (pe_op op_mod (pe_op op_fdiv (pv 7) pe_int) (pe_callB call_len_seq (by rfl) B.len_ PySem.boot_len (pa_cons (pv 1) pa_nil))))
 (pss_cons (ps_set (i := 9) sc_l_rows_of.nd rfl (Or.inl rfl) pe_non)
 (pss_cons (ps_if (pt_cmpR op_eq (pe_op op_mod (pv 7) pe_int) pe_int (nomark _))
 (pss_one (ps_set (i := 9) sc_l_rows_of.nd rfl (Or.inl rfl) (pe_def c_l_step_of hr (by decide) (pa_cons (pv 2) (pa_cons pe_int (pa_cons (pe_op op_add (pv 8) pe_int) (pa_cons (pe_ix ix_list (pv 1) (pv 8) (fun _ _ => rfl)) pa_nil)))))))
 (pss_one (ps_if (pt_cmpR op_lt (pv 5) (pe_callB call_len_seq (by rfl) B.len_ PySem.boot_len (pa_cons (pv 1) pa_nil)) (nomark _))
 (pss_cons (ps_set (i := 9) sc_l_rows_of.nd rfl (Or.inl rfl) (pe_def c_l_step_of hr (by decide) (pa_cons (pv 2) (pa_cons (pv 4) (pa_cons (pe_op op_add (pv 5) pe_int) (pa_cons (pe_ix ix_list (pv 1) (pv 5) (fun _ _ => rfl)) pa_nil))))))
 (pss_cons (ps_set (i := 4) sc_l_rows_of.nd rfl (Or.inl rfl) (pe_callB call_len_seq (by rfl) B.len_ PySem.boot_len (pa_cons (pv 2) pa_nil)))
 (pss_one (ps_set (i := 5) sc_l_rows_of.nd rfl (Or.inl rfl) (pe_op op_add (pv 5) pe_int)))))
 pss_nil)))
 (pss_one (ps_if (pt_cmpR op_notN (pv 9) pe_non (nomark _))
 (pss_cons (ps_expr (pe_bm PySem.F.plainAttrs_list PySem.F.slot_list_append PySem.F.type_list_append mt_append (pv 3) (pa_cons (pv 9) pa_nil)))
 (pss_one (ps_expr (pe_bm PySem.F.plainAttrs_list PySem.F.slot_list_append PySem.F.type_list_append mt_append (pv 2) (pa_cons (pe_ix ix_tup (pv 9) pe_int (fun _ _ => rfl)) pa_nil)))))
 pss_nil))))))))
 (pss_one (ps_ret (pv 3))))))), ?_⟩
    refine ⟨by decide, fun ls hls => ?_⟩
    have s1 : Same H (upd H ls (.lst [])) := (Same.refl H).upd hls
    have g1 : upd H ls (.lst []) ls = some (.lst (srefs [])) := upd_same
    generalize upd H ls (.lst []) = H1 at s1 g1
    have nlk : ls ≠ k := fun e => by rw [e, hk] at hls; cases hls
    have i0 : RowsI lg ks0 ks0 [] k ls 0 0 H H1 := ⟨fun b o _ e => s1 _ _ e, g1, s1 _ _ hk, hW.mono s1, fun r hr => ⟨hnk r hr, ne_of_none (hW r hr) hls⟩, (fun _ h => nomatch h), (fun _ h => nomatch h), by simp [wlSt, sls], trivial, hgk, Nat.zero_le _, (fun _ h => nomatch h)⟩
    have seqA : ∀ {Hx : Hp}, But k H Hx → SqL K Hx a (cells.map V.int) := fun hx => SqL.of (hx a _ nak hS)
    have getB : ∀ {Hx : Hp}, But k H Hx → Hx b = some (.lst (lg.map V.int)) := fun hx => hx b _ nbk hb
    refine ⟨_, rfl, a, _, rfl, .inl (seqA i0.bt), _, rfl, b, _, rfl, .inl (SqL.of (getB i0.bt)), _, _, rfl, rfl, _, rfl, by simp; omega, by simp; omega, ?_⟩
    have en : ((((cells.map V.int).length : Nat) : Int) + (((lg.map V.int).length : Nat) : Int)).toNat = cells.length + lg.length := by simp; omega
    rw [en]
    refine for_range (fun i σ Hx => ∃ (ks : List Wr) (ss : List Sr) (hand gone : Nat) (v6 v7 v8 v9 : Option V), σ = [some (.ref a), some (.ref b), some (.ref k), some (.ref ls), some (.int hand), some (.int gone), v6, v7, v8, v9] ∧ RowsI lg ks0 ks ss k ls hand gone H Hx ∧ ss.length ≤ i)
      ⟨ks0, [], 0, 0, none, none, none, none, rfl, i0, Nat.le_refl _⟩ ?_ ?_
    · rintro i σ Hx hi ⟨ks, ss, hand, gone, v6, v7, v8, v9, rfl, hI, hsl⟩
      have ekl : ks.length = ks0.length + ss.length := by
        have := congrArg List.length hI.ew
        rw [wl_len] at this
        simp [wl, wlSt, sls] at this
        exact this
      have hsm : WsSmall (wl ks) := fun v hv => ⟨by have := (hI.gk.sm v hv).1; omega, fun n hn => by have := (hI.gk.sm v hv).2 n hn; omega⟩
      have hbig := hI.gk.big
      have hhl := hI.gk.hl
      rw [wl_len] at hbig hhl
      dsimp only [gName]
      refine rd_seq (rd_asg ?_)
      dsimp only [tC, gName]
      refine rd_cut (fun σ Hy => ∃ n : Int, σ = [some (.ref a), some (.ref b), some (.ref k), some (.ref ls), some (.int hand), some (.int gone), some (.int (0 + (i : Int))), some (.int n), v8, v9] ∧ Hy = Hx) (fun N hN => ?_) ?_
      · refine ⟨_, rfl, _, rfl, a, _, rfl, .inl (seqA hI.bt), _, _, rfl, rfl, _, rfl, ite2 (fun c1 => ?_) (fun c1 => ?_)⟩
        · have hil : i < cells.length := by have := of_decide_eq_true c1; simp at this; omega
          have hat : atI (cells.map V.int) (0 + (i : Int)) = some (.int (cells.getD i 0)) := by
            have : (0 + (i : Int)) = ((i : Nat) : Int) := by omega
            rw [this]; exact atI_nat (by simp [hil])
          exact ⟨_, rfl, _, rfl, a, _, _, _, rfl, rfl, seqA hI.bt, hat, hN _ _ ⟨_, rfl, rfl⟩⟩
        · exact hN _ _ ⟨_, rfl, rfl⟩
      rintro σ Hy ⟨n, rfl, rfl⟩
      refine ⟨_, rfl, _, _, rfl, rfl, ⟨by decide, by decide⟩, _, rfl, b, _, rfl, .inl (SqL.of (getB hI.bt)), _, _, rfl, rfl, (by simp; omega), ?_⟩
      obtain ⟨sp, hsp, hspl⟩ : ∃ sp : Nat, n / 3 % ((((lg.map V.int).length : Nat)) : Int) = (sp : Int) ∧ sp < lg.length := by
        rw [List.length_map]
        have h1 := Int.emod_nonneg (n / 3) (show (lg.length : Int) ≠ 0 by omega)
        have h2 := Int.emod_lt_of_pos (n / 3) (show (0 : Int) < (lg.length : Int) by omega)
        exact ⟨(n / 3 % (lg.length : Int)).toNat, by omega, by omega⟩
      dsimp only
      rw [hsp]
      have getL : ∀ {j : Nat}, j < lg.length → atI (lg.map V.int) ((j : Nat) : Int) = some (.int (lg.getD j 0)) := fun {j} hj => atI_nat (by simp [hj])
      have hin0 : ∀ {j : Nat}, j < lg.length → lg.getD j 0 ∈ (wl ks).getD 0 [] := fun {j} hj => by
        rw [hI.gk.z, List.getD_eq_getElem?_getD, List.getElem?_eq_getElem hj]; exact List.getElem_mem hj
      refine rd_seq (rd_asg ?_)
      dsimp only [tC, gName]
      refine rd_cut (fun σ Hz => ∃ v9' : V, (σ = [some (.ref a), some (.ref b), some (.ref k), some (.ref ls), some (.int hand), some (.int gone), some (.int (0 + (i : Int))), some (.int n), some (.int sp), some .non] ∧ RowsI lg ks0 ks ss k ls hand gone H Hz) ∨
          ∃ (t m : Addr) (st : Stp) (hand' gone' : Nat), σ = [some (.ref a), some (.ref b), some (.ref k), some (.ref ls), some (.int hand'), some (.int gone'), some (.int (0 + (i : Int))), some (.int n), some (.int sp), some (.ref t)] ∧ RowsI lg ks0 ks ss k ls hand gone H Hz ∧ Hz t = some (tupS st m) ∧ Hz m = some (.lst (st.2.2.2.map V.int)) ∧ m ≠ ls ∧ m ≠ k ∧ RightS (wl ks) st ∧ (st.2.2.2.length ≤ 12 ∧ (∀ y ∈ st.2.2.2, y.natAbs ≤ 12) ∧ st.2.2.1.natAbs ≤ 12) ∧ GoodK lg (wl ks ++ [st.2.2.2]) hand' gone' ∧ gone' ≤ lg.length) (fun N hN => ?_) ?_
      · refine ⟨_, rfl, _, _, rfl, rfl, (by show (0 : Int) < 3; decide), rfl, _, rfl, ite2 (fun c1 => ?_) (fun c1 => ?_)⟩
        · -- beside
          refine ⟨_, rfl, _, rfl, _, _, rfl, rfl, _, rfl, _, rfl, b, _, _, _, rfl, rfl, SqL.of (getB hI.bt), getL hspl, ?_⟩
          refine ⟨k, ks, 0, (sp : Int) + 1, lg.getD sp 0, rfl, SqL.of hI.hk, hI.ok, hsm, by omega, by omega, by omega, by omega, fun t m H2 ht hm s2 h2t h2m => ?_⟩
          obtain ⟨r1, r2, r3⟩ := stepB_lone (lg := lg) (a := 0) (i := sp) (hlz sp hspl) (by rw [wl_len]; omega) (by rw [wl_len]; omega) (hI.gk.one sp hspl) (hin0 hspl)
          have h2t' : H2 t = some (tupS (stepB (wl ks) ((sp : Int) + 1) ((wl ks).getD ((sp : Int) + 1).toNat []) (lg.getD sp 0) ((0 : Nat) : Int)) m) := h2t
          have h2m' : H2 m = some (.lst ((stepB (wl ks) ((sp : Int) + 1) ((wl ks).getD ((sp : Int) + 1).toNat []) (lg.getD sp 0) ((0 : Nat) : Int)).2.2.2.map V.int)) := h2m
          have hlamp : (stepB (wl ks) ((sp : Int) + 1) ((wl ks).getD ((sp : Int) + 1).toNat []) (lg.getD sp 0) ((0 : Nat) : Int)).2.2.1.natAbs = (lg.getD sp 0).natAbs := by unfold stepB; split <;> simp
          generalize stepB (wl ks) ((sp : Int) + 1) ((wl ks).getD ((sp : Int) + 1).toNat []) (lg.getD sp 0) ((0 : Nat) : Int) = st at r1 r2 r3 h2t' h2m' hlamp
          have h0 := hI.gk.sm _ (getD_mem0 (W := wl ks) (i := 0) (by rw [wl_len]; omega))
          have hsz : st.2.2.2.length ≤ 12 ∧ (∀ y ∈ st.2.2.2, y.natAbs ≤ 12) ∧ st.2.2.1.natAbs ≤ 12 := ⟨by omega, fun y hy => h0.2 y ((r2 y).mp hy).1, by rw [hlamp]; exact h0.2 _ (hin0 hspl)⟩
          refine hN _ _ ⟨.non, .inr ⟨t, m, st, hand, gone, rfl, hI.same s2, h2t', h2m', ne_of_none hI.hl hm |>.symm, ne_of_none hI.hk hm |>.symm, r1, hsz, hI.gk.snoc ⟨hsz.1, hsz.2.1⟩ (by rw [wl_len]; omega) (fun j h1 h2 => ?_), hI.gl⟩⟩
          rw [getD_app (by rw [wl_len]; omega)]; exact hI.gk.rest j h1 h2
        · refine ⟨_, rfl, _, rfl, b, _, rfl, .inl (SqL.of (getB hI.bt)), _, _, rfl, rfl, _, rfl, ite2 (fun c2 => ?_) (fun c2 => ?_)⟩
          · have hgl : gone < lg.length := by have := of_decide_eq_true c2; simp at this; omega
            refine ⟨_, rfl, _, rfl, _, rfl, _, _, rfl, rfl, _, rfl, _, rfl, b, _, _, _, rfl, rfl, SqL.of (getB hI.bt), getL hgl, ?_⟩
            refine ⟨k, ks, (hand : Int), (gone : Int) + 1, lg.getD gone 0, rfl, SqL.of hI.hk, hI.ok, hsm, by omega, by omega, by omega, by omega, fun t m H2 ht hm s2 h2t h2m => ?_⟩
            have hin : lg.getD gone 0 ∈ (wl ks).getD hand [] := hI.gk.rest gone (Nat.le_refl _) hgl
            obtain ⟨r1, r2, r3⟩ := stepB_lone (lg := lg) (a := hand) (i := gone) (hlz gone hgl) (by rw [wl_len]; omega) (by rw [wl_len]; omega) (hI.gk.one gone hgl) hin
            have hlamp : (stepB (wl ks) ((gone : Int) + 1) ((wl ks).getD ((gone : Int) + 1).toNat []) (lg.getD gone 0) (hand : Int)).2.2.1.natAbs = (lg.getD gone 0).natAbs := by unfold stepB; split <;> simp
            generalize stepB (wl ks) ((gone : Int) + 1) ((wl ks).getD ((gone : Int) + 1).toNat []) (lg.getD gone 0) (hand : Int) = st at r1 r2 r3 h2t h2m hlamp
            have h0 := hI.gk.sm _ (getD_mem0 (W := wl ks) (i := hand) (by rw [wl_len]; omega))
            have hsz : st.2.2.2.length ≤ 12 ∧ (∀ y ∈ st.2.2.2, y.natAbs ≤ 12) ∧ st.2.2.1.natAbs ≤ 12 := ⟨by omega, fun y hy => h0.2 y ((r2 y).mp hy).1, by rw [hlamp]; exact h0.2 _ hin⟩
            have hI2 := hI.same s2
            refine ⟨_, rfl, k, _, rfl, .inl (SqL.of hI2.hk), ?_⟩
            refine ⟨_, rfl, _, _, rfl, rfl, ?_⟩
            have ekl2 : (((wrefs ks).length : Nat) : Int) = ((ks.length : Nat) : Int) := by rw [wrefs_len]
            refine hN _ _ ⟨.non, .inr ⟨t, m, st, ks.length, gone + 1, by rw [ekl2]; rfl, hI2, h2t, h2m, ne_of_none hI.hl hm |>.symm, ne_of_none hI.hk hm |>.symm, r1, hsz, hI.gk.snoc ⟨hsz.1, hsz.2.1⟩ (by rw [wl_len]; omega) (fun j h1 h2 => ?_), hgl⟩⟩
            have eg : (wl ks ++ [st.2.2.2]).getD ks.length [] = st.2.2.2 := by
              rw [List.getD_eq_getElem?_getD, ← wl_len ks]; simp
            rw [eg]
            exact (r2 _).mpr ⟨hI.gk.rest j (by omega) h2, fun e => hld gone j (by omega) h2 e.symm⟩
          · exact hN _ _ ⟨.non, .inl ⟨rfl, hI⟩⟩
      rintro σ Hz ⟨_, ⟨rfl, hIz⟩ | ⟨t, m, st, hand', gone', rfl, hIz, hzt, hzm, nml, nmk, r1, hsz, hgk', hgl'⟩⟩
      · refine ⟨_, rfl, rfl, _, rfl, iteF ?_⟩
        exact ⟨ks, ss, hand, gone, _, _, _, _, rfl, hIz, by omega⟩
      · refine ⟨_, rfl, rfl, _, rfl, iteT ?_⟩
        refine ⟨_, rfl, .inl ⟨rfl, _, SqL.of hIz.hl⟩, _, rfl, ls, _, _, rfl, rfl, hIz.hl, small6 (by rw [srefs_len]; omega), ?_⟩
        have er : srefs ss ++ [V.ref t] = srefs (ss ++ [(t, m, st)]) := by simp [srefs]
        dsimp only
        rw [er]
        have kp : ∀ {z : Addr} {o : HO}, Hz z = some o → z ≠ ls → upd Hz ls (.lst (srefs (ss ++ [(t, m, st)]))) z = some o := fun h n => by rw [upd_ne n]; exact h
        have g2 : upd Hz ls (.lst (srefs (ss ++ [(t, m, st)]))) ls = some (.lst (srefs (ss ++ [(t, m, st)]))) := upd_same
        have b2 : But k H (upd Hz ls (.lst (srefs (ss ++ [(t, m, st)])))) := hIz.bt.new hls
        have ntl : t ≠ ls := ne_of hzt hIz.hl (by unfold tupS; intro z; cases z)
        have h2t := kp hzt ntl
        have h2m := kp hzm nml
        have h2k := kp hIz.hk nlk.symm
        have h2w : WsOk (upd Hz ls (.lst (srefs (ss ++ [(t, m, st)])))) ks := fun r hr => kp (hIz.ok r hr) (hIz.nk r hr).2
        have h2s : SsOk (upd Hz ls (.lst (srefs (ss ++ [(t, m, st)])))) ss := fun r hr => ⟨kp (hIz.so r hr).1 (ne_of (hIz.so r hr).1 hIz.hl (by unfold tupS; intro z; cases z)), kp (hIz.so r hr).2 (hIz.sn r hr).1⟩
        generalize upd Hz ls (.lst (srefs (ss ++ [(t, m, st)]))) = H2 at g2 b2 h2t h2m h2k h2w h2s
        refine ⟨_, rfl, .inl ⟨rfl, _, SqL.of h2k⟩, _, rfl, t, _, _, _, rfl, rfl, SqT.of h2t, rfl, k, _, _, rfl, rfl, h2k, small6 (by rw [wrefs_len]; omega), ?_⟩
        have er2 : wrefs ks ++ [V.ref m] = wrefs (ks ++ [(m, st.2.2.2)]) := by simp [wrefs]
        dsimp only
        rw [er2]
        have kp2 : ∀ {z : Addr} {o : HO}, H2 z = some o → z ≠ k → upd H2 k (.lst (wrefs (ks ++ [(m, st.2.2.2)]))) z = some o := fun h n => by rw [upd_ne n]; exact h
        have ntk : t ≠ k := ne_of h2t h2k (by unfold tupS; intro z; cases z)
        have ewl : wl (ks ++ [(m, st.2.2.2)]) = wl ks ++ [st.2.2.2] := by simp [wl]
        refine ⟨ks ++ [(m, st.2.2.2)], ss ++ [(t, m, st)], hand', gone', _, _, _, _, rfl, ⟨b2.upd, kp2 g2 nlk, upd_same, fun r hr => ?_, fun r hr => ?_, fun r hr => ?_, fun r hr => ?_, ?_, ?_, by rw [ewl]; exact hgk', hgl', fun r hr => ?_⟩, by simp; omega⟩
        · rcases List.mem_append.mp hr with z | z
          · exact kp2 (h2w r z) (hIz.nk r z).1
          · have e : r = (m, st.2.2.2) := by simpa using z
            rw [e]; exact kp2 h2m nmk
        · rcases List.mem_append.mp hr with z | z
          · exact hIz.nk r z
          · have e : r = (m, st.2.2.2) := by simpa using z
            rw [e]; exact ⟨nmk, nml⟩
        · rcases List.mem_append.mp hr with z | z
          · exact ⟨kp2 (h2s r z).1 (ne_of (h2s r z).1 h2k (by unfold tupS; intro z; cases z)), kp2 (h2s r z).2 (hIz.sn r z).2⟩
          · have e : r = (t, m, st) := by simpa using z
            rw [e]; exact ⟨kp2 h2t ntk, kp2 h2m nmk⟩
        · rcases List.mem_append.mp hr with z | z
          · exact hIz.sn r z
          · have e : r = (t, m, st) := by simpa using z
            rw [e]; exact ⟨nml, nmk⟩
        · rw [ewl, hIz.ew, sls_snoc]; simp [wlSt]
        · rw [sls_snoc]
          exact RightAll_snoc hIz.ra (by rw [← hIz.ew]; exact r1)
        · rcases List.mem_append.mp hr with z | z
          · exact hIz.sz r z
          · have e : r = (t, m, st) := by simpa using z
            rw [e]; exact hsz
    · rintro σ Hx ⟨ks, ss, hand, gone, v6, v7, v8, v9, rfl, hI, hsl⟩
      exact ⟨_, rfl, q ls ss Hx hls hI.bt hI.hl hI.so hI.sn hI.ra hsl hI.sz⟩
end
abbrev lawK : Nat := 4
theorem wsD_of {ws hs : List Wr} (h : wl hs = wl ws) : wsD hs = wsD ws := by rw [wsD_wl, wsD_wl, h]
theorem total_small {n : Nat} : ∀ {W : List (List Int)}, (∀ v ∈ W, v.length ≤ n) → total W ≤ n * W.length
  | [], _ => Nat.zero_le _
  | v :: W, h => by
    have h1 := total_small (W := W) fun x hx => h x (List.mem_cons_of_mem _ hx)
    have h2 := h v List.mem_cons_self
    have e : total (v :: W) = v.length + total W := by simp [total]
    rw [e, List.length_cons, Nat.mul_succ]; omega
theorem ss_at {H : Hp} {ss : List Sr} {a : Addr} (h : SsOk H ss) (ha : H a = some (.lst (srefs ss))) : At H (.lst ((sls ss).map stD)) (.ref a) := by
  unfold At
  exact ⟨a, _, rfl, ha, sts_at h⟩
theorem rowT_mem {f : Nat} {M : List Bool} {ts : List Stp} {r : Stp} : ∀ {k : Nat}, r ∈ rowT f M ts k → ∃ t ∈ ts, r = movd f M t
  | 0, h => by simp [rowT] at h
  | k + 1, h => by
    cases hk : ts[k]? with
    | none =>
      have e : rowT f M ts (k + 1) = rowT f M ts k := by
        show (match ts[k]? with
          | some t => if M.getD k false = true then rowT f M ts k ++ [movd f M t] else rowT f M ts k
          | none => rowT f M ts k) = _
        rw [hk]
      rw [e] at h
      exact rowT_mem h
    | some t =>
      rw [rowT_step hk] at h
      split at h
      · rcases List.mem_append.mp h with z | z
        · exact rowT_mem z
        · exact ⟨t, List.mem_of_getElem? hk, by simpa using z⟩
      · exact rowT_mem h
theorem wl_snoc' (ws : List Wr) (p : Wr) : wl (ws ++ [p]) = wl ws ++ [p.2] := by simp [wl]
section
variable {P : Program} {w : World} {K : PySem.W.Frag} {mg : Str → Option Value} {base : Heap}
set_option maxHeartbeats 4000000
theorem ok_law {f : Addr} {fd : FuncData} (F : Fun K "law" "law" s_law f fd) (B : Blt mg) (D_marked : Def K mg "marked" s_marked p_marked) (D_trimmed : Def K mg "trimmed" s_trimmed p_trimmed) (D_needed_numbers : Def K mg "needed_numbers" s_needed_numbers p_needed_numbers) (L_draw : Def K mg "_law_draw" s_l_draw p_l_draw) (L_whole : Def K mg "_law_whole" s_l_whole p_l_whole) (L_at : Def K mg "_law_at" s_l_at p_l_at) (L_alike : Def K mg "_law_alike" s_l_alike p_l_alike) (L_merge : Def K mg "_law_merge" s_l_merge p_l_merge) (L_right_step : Def K mg "_law_right_step" s_l_right_step p_l_right_step) (L_step_of : Def K mg "_law_step_of" s_l_step_of p_l_step_of) (L_rows_of : Def K mg "_law_rows_of" s_l_rows_of p_l_rows_of) (L_marks_of : Def K mg "_law_marks_of" s_l_marks_of p_l_marks_of) (L_new_number : Def K mg "_law_new_number" s_l_new_number p_l_new_number) : FnOk P w K mg base CX0 lawK f fd ["_law_script"] (spLaw K) := by
  have c_marked : Cal P w K mg base 1 "marked" p_marked (spMarked K) := ok_marked D_marked
  have c_needed_numbers : Cal P w K mg base 2 "needed_numbers" p_needed_numbers (spNeed K) := ok_needed B c_marked D_needed_numbers
  have c_trimmed : Cal P w K mg base 3 "trimmed" p_trimmed (spTrim K) := ok_trimmed B c_needed_numbers D_trimmed
  have c_l_draw : Cal P w K mg base 1 "_law_draw" p_l_draw spDraw := ok_l_draw L_draw
  have c_l_whole : Cal P w K mg base 1 "_law_whole" p_l_whole spWhole := ok_l_whole B L_whole
  have c_l_at : Cal P w K mg base 1 "_law_at" p_l_at (spAt K) := ok_l_at B L_at
  have c_l_alike : Cal P w K mg base 2 "_law_alike" p_l_alike spAlike := ok_l_alike B c_l_whole L_alike
  have c_l_alikeI : Cal P w K mg base 2 "_law_alike" p_l_alike spAlikeI := ok_l_alikeI B c_l_whole L_alike
  have c_l_merge : Cal P w K mg base 1 "_law_merge" p_l_merge (spLmerge K) := ok_l_merge B L_merge
  have c_l_right_step : Cal P w K mg base 3 "_law_right_step" p_l_right_step (spRightB K) := ok_l_right_stepB B c_l_whole c_l_alikeI c_l_merge L_right_step
  have c_l_step_of : Cal P w K mg base 2 "_law_step_of" p_l_step_of (spStepOf K) := ok_l_step_of B c_l_merge L_step_of
  have c_l_rows_of : Cal P w K mg base 3 "_law_rows_of" p_l_rows_of (spRowsOf K) := ok_l_rows_of B c_l_step_of L_rows_of
  have c_l_marks_of : Cal P w K mg base 1 "_law_marks_of" p_l_marks_of (spMarksOf K) := ok_l_marks_of B L_marks_of
  have c_l_new_number : Cal P w K mg base 1 "_law_new_number" p_l_new_number (spNewN K) := ok_l_new_number B L_new_number
  refine F.ok sc_law (fun vs H Q E h => ?_) (fun cdv A outer s H vs Q E hr h => ?_)
  · obtain ⟨a, ns, rfl, _⟩ := h; rfl
  obtain ⟨a, ns, rfl, hS, hz, q⟩ := h
  obtain ⟨u8, hu8, key8⟩ : ∃ u, PSs (cxOf CX0 P w K mg base n_law "law" (defScope s_law) f cdv A outer s H E).nox ((defBody s_law).drop 8) u ∧
      ∀ (x1 : Int) (c : Nat) (ll lw ls : Addr) (o4 : Option V) (ws : List Wr) (ss : List Sr) (H1 : Hp), H1 lw = some (.lst (wrefs ws)) → WsOk H1 ws → H1 ls = some (.lst (srefs ss)) → SsOk H1 ss → ws.length ≤ 13 → (∀ v ∈ wl ws, v.length ≤ 12 ∧ ∀ y ∈ v, y.natAbs ≤ 12) → ss.length ≤ 80 → (∀ s ∈ ss, s.2.2.2.2.2.length ≤ 12 ∧ (∀ y ∈ s.2.2.2.2.2, y.natAbs ≤ 12) ∧ s.2.2.2.2.1.natAbs ≤ 12) → RightAll (wl ws) (sls ss) →
        u { nx := fun _ H' => Q .non H', rt := Q } [some (.ref a), some (.int x1), some (.int c), some (.ref ll), o4, some (.ref lw), some (.int ws.length), some (.ref ls), none, none, none, none, none, none, none, none, none, none, none] H1 := by
    refine ⟨_, (pss_cons (ps_set (i := 8) sc_law.nd rfl (Or.inl rfl) (pe_def c_l_marks_of hr (by decide) (pa_cons (pv 7) (pa_cons (pv 6) pa_nil))))
 (pss_cons (ps_set (i := 9) sc_law.nd rfl (Or.inl rfl) (pe_lst pa_nil))
 (pss_cons (ps_for PassesOwn.never rfl (pi_range1 (by rfl) B.range_ (pa_cons (pe_callB call_len_seq (by rfl) B.len_ PySem.boot_len (pa_cons (pv 7) pa_nil)) pa_nil)) (pg_name (i := 4) sc_law.nd rfl (Or.inl rfl))
 (pss_cons (ps_asg (pe_ix ix_list (pv 7) (pv 4) (fun _ _ => rfl)) (pg_tup rfl (pgs_cons (pg_name (i := 10) sc_law.nd rfl (Or.inl rfl)) (pgs_cons (pg_name (i := 11) sc_law.nd rfl (Or.inl rfl)) (pgs_cons (pg_name (i := 12) sc_law.nd rfl (Or.inl rfl)) (pgs_cons (pg_name (i := 13) sc_law.nd rfl (Or.inl rfl)) pgs_nil))))))
 (pss_one (ps_if (pt_val (pe_ix ix_list (pv 8) (pv 4) (fun _ _ => rfl)))
 (pss_cons (ps_set (i := 10) sc_law.nd rfl (Or.inl rfl) (pe_def c_l_new_number hr (by decide) (pa_cons (pv 10) (pa_cons (pv 8) (pa_cons (pv 6) pa_nil)))))
 (pss_one (ps_expr (pe_bm PySem.F.plainAttrs_list PySem.F.slot_list_append PySem.F.type_list_append mt_append (pv 9) (pa_cons (pe_tup (pa_cons (pv 10) (pa_cons (pe_def c_l_new_number hr (by decide) (pa_cons (pv 11) (pa_cons (pv 8) (pa_cons (pv 6) pa_nil)))) (pa_cons (pv 12) (pa_cons (pv 13) pa_nil))))) pa_nil)))))
 pss_nil))))
 (pss_cons (ps_comp (i := 14) sc_law.nd rfl (Or.inl rfl) (fvn := []) (js := []) rfl (pi_list (pv 5)) .nil ⟨by decide +kernel, rfl, by decide +kernel, rfl, by decide +kernel, by decide +kernel⟩ (fun _ _ _ _ _ => pts_nil) (fun _ _ _ _ _ => (pe_callTy (call_list_ofK (K := K) rfl) (by rfl) B.list_ bt_list (pa_cons (pv 0) pa_nil))))
 (pss_cons (ps_comp (i := 15) sc_law.nd rfl (Or.inl rfl) (fvn := []) (js := []) rfl (pi_list (pv 7)) .nil ⟨by decide +kernel, rfl, by decide +kernel, rfl, by decide +kernel, by decide +kernel⟩ (fun _ _ _ _ _ => pts_nil) (fun _ _ _ _ _ => (pe_op (op_catTK (K := K) rfl) (pe_slice (sl_tupK (K := K) rfl) (pv 0) po_none (po_some pe_int)) (pe_tup (pa_cons (pe_callTy (call_list_ofK (K := K) rfl) (by rfl) B.list_ bt_list (pa_cons (pe_ix (ix_tupK (K := K) rfl) (pv 0) pe_int (fun _ _ => rfl)) pa_nil)) pa_nil)))))
 (pss_cons (ps_set (i := 16) sc_law.nd rfl (Or.inl rfl) (pe_def c_trimmed hr (by decide) (pa_cons (pv 14) (pa_cons (pv 15) pa_nil))))
 (pss_cons (ps_if (PW.pt (pw_or (pt_not (pt_val (pe_def c_l_alike hr (by decide) (pa_cons (pv 14) (pa_cons (pv 5) pa_nil))))) (pw_or1 (pt_not (pt_val (pe_def c_l_alike hr (by decide) (pa_cons (pv 15) (pa_cons (pv 7) pa_nil))))))))
 (pss_one (ps_ret pe_bl))
 pss_nil)
 (pss_cons (ps_if (PW.pt (pw_or (pt_not (pt_val (pe_callB call_isi (by rfl) B.isinstance_ bt_isinstance (pa_cons (pv 16) (pa_cons (pe_ty B.list_ bt_list) pa_nil))))) (pw_or1 (pt_not (pt_val (pe_def c_l_alike hr (by decide) (pa_cons (pv 16) (pa_cons (pv 9) pa_nil))))))))
 (pss_one (ps_ret pe_bl))
 pss_nil)
 (pss_cons (ps_set (i := 17) sc_law.nd rfl (Or.inl rfl) (pe_callTy call_list_of (by rfl) B.list_ bt_list (pa_cons (pv 5) pa_nil)))
 (pss_cons (ps_for PassesOwn.never rfl (pi_list (pv 16)) (pg_name (i := 18) sc_law.nd rfl (Or.inl rfl))
 (pss_cons (ps_if (pt_not (pt_val (pe_def c_l_right_step hr (by decide) (pa_cons (pv 17) (pa_cons (pv 18) pa_nil)))))
 (pss_one (ps_ret pe_bl))
 pss_nil)
 (pss_one (ps_expr (pe_bm PySem.F.plainAttrs_list PySem.F.slot_list_append PySem.F.type_list_append mt_append (pv 17) (pa_cons (pe_ix ix_tup (pv 18) pe_int (fun _ _ => rfl)) pa_nil))))))
 (pss_one (ps_ret (pe_or (pe_cmpR (op_eqL (hu0 hr)) (pv 7) (pe_lst pa_nil) (nomark _)) (pe_one (pe_cmpR (op_eqL (hu0 hr)) (pe_ix ix_list (pv 17) (pe_un un_neg pe_int) (fun _ _ => rfl)) (pe_ix ix_tup (pe_ix ix_list (pv 7) (pe_un un_neg pe_int) (fun _ _ => rfl)) pe_int (fun _ _ => rfl)) (nomark _)))))))))))))))), fun x1 c ll lw ls o4 ws ss H1 hlw hW hls hO hwl hwv hsl hsv hra => ?_⟩
    have ewl := wl_len ws
    have hR : Refs ws.length (sls ss) := by have := refs_of hra; rwa [ewl] at this
    have esr := srefs_len ss
    have esl := sls_len ss
    refine ⟨_, rfl, _, rfl, ls, ws.length, ss, rfl, SqL.of hls, hO, by omega, hR, fun lm M H2 hlm s2 h2 hM => ?_⟩
    refine ⟨by decide, fun ld hld => ?_⟩
    have s3 : Same H2 (upd H2 ld (.lst [])) := (Same.refl H2).upd hld
    have g3 : upd H2 ld (.lst []) ld = some (.lst (srefs [])) := upd_same
    generalize upd H2 ld (.lst []) = H3 at s3 g3
    have s13 := s2.trans s3
    have hld1 : H1 ld = none := s2.free hld
    have nlm : lm ≠ ld := ne_of_none h2 hld
    refine ⟨_, rfl, ls, _, rfl, .inl (SqL.of (s13 _ _ hls)), _, rfl, by omega, by omega, ?_⟩
    have en : (((srefs ss).length : Nat) : Int).toNat = ss.length := by omega
    rw [en]
    refine for_range (fun i σ Hx => ∃ (ds : List Sr) (o4 o10 o11 o12 o13 : Option V), σ = [some (.ref a), some (.int x1), some (.int c), some (.ref ll), o4, some (.ref lw), some (.int ws.length), some (.ref ls), some (.ref lm), some (.ref ld), o10, o11, o12, o13, none, none, none, none, none] ∧ Same H2 Hx ∧ Hx ld = some (.lst (srefs ds)) ∧ SsOk Hx ds ∧ (∀ s ∈ ds, s.2.1 ≠ ld) ∧ sls ds = rowT ws.length M (sls ss) i ∧ ds.length ≤ i)
      ⟨[], o4, none, none, none, none, rfl, s3, g3, (fun _ h => nomatch h), (fun _ h => nomatch h), rfl, Nat.le_refl _⟩ ?_ ?_
    · rintro i σ Hx hi ⟨ds, o4, o10, o11, o12, o13, rfl, sx, hx, hOx, hnd, eds, hdl⟩
      have ei : (0 + (i : Int)) = ((i : Nat) : Int) := by omega
      have hg : ss[i]? = some ss[i] := List.getElem?_eq_getElem hi
      have hm := List.getElem_mem hi
      generalize ss[i] = st at hg hm
      have hgt : (sls ss)[i]? = some st.2.2 := by unfold sls; rw [List.getElem?_map, hg]; rfl
      have hgr : (srefs ss)[i]? = some (.ref st.1) := by unfold srefs; rw [List.getElem?_map, hg]; rfl
      have s1x := s2.trans sx
      have htx := s1x _ _ (hO st hm).1
      have hat : atI (srefs ss) (0 + (i : Int)) = some (.ref st.1) := by rw [ei]; exact atI_nat hgr
      have hMl : M.length = ss.length := by rw [hM.len, esl]
      have hatM : atI (M.map V.bl) (0 + (i : Int)) = some (.bl (M.getD i false)) := by rw [ei]; exact atI_nat (by simp [hMl, hi])
      refine ⟨_, rfl, _, rfl, ls, _, _, _, rfl, rfl, SqL.of (s1x _ _ hls), hat, ?_⟩
      refine ⟨st.1, _, rfl, SqT.of htx, rfl, _, _, rfl, _, _, rfl, _, _, rfl, _, _, rfl, rfl, ?_⟩
      refine ⟨_, rfl, _, rfl, lm, _, _, _, rfl, rfl, SqL.of (sx _ _ h2), hatM, _, rfl, ?_⟩
      have e0 := rowT_step (f := ws.length) (M := M) hgt
      cases hb : M.getD i false with
      | false =>
        rw [hb] at e0
        refine iteF ?_
        exact ⟨ds, _, _, _, _, _, rfl, sx, hx, hOx, hnd, by rw [eds, e0]; rfl, by omega⟩
      | true =>
        rw [hb, if_pos rfl] at e0
        refine iteT ?_
        refine ⟨_, rfl, _, rfl, _, rfl, _, lm, ws.length, M, rfl, SqL.of (sx _ _ h2), fun H4 s4 => ?_⟩
        have h4l := s4 _ _ hx
        refine ⟨_, rfl, .inl ⟨rfl, _, SqL.of h4l⟩, ?_⟩
        refine ⟨_, rfl, _, rfl, _, rfl, _, rfl, _, lm, ws.length, M, rfl, SqL.of (s4 _ _ (sx _ _ h2)), fun H5 s5 => ?_⟩
        refine ⟨_, rfl, _, rfl, (by show 4 ≤ sizeLine; decide), fun tp htp => ?_⟩
        have s6 : Same H5 (upd H5 tp (.tup [.int (newN ws.length M st.2.2.1), .int (newN ws.length M st.2.2.2.1), .int st.2.2.2.2.1, .ref st.2.1])) := (Same.refl H5).upd htp
        have g6 : upd H5 tp (.tup [.int (newN ws.length M st.2.2.1), .int (newN ws.length M st.2.2.2.1), .int st.2.2.2.2.1, .ref st.2.1]) tp = some (tupS (movd ws.length M st.2.2) st.2.1) := upd_same
        generalize upd H5 tp (.tup [.int (newN ws.length M st.2.2.1), .int (newN ws.length M st.2.2.2.1), .int st.2.2.2.2.1, .ref st.2.1]) = H6 at s6 g6
        have s46 := (s4.trans s5).trans s6
        have h6l := s46 _ _ hx
        refine ⟨ld, _, _, rfl, rfl, h6l, small6 (by rw [srefs_len]; omega), ?_⟩
        have er : srefs ds ++ [V.ref tp] = srefs (ds ++ [(tp, st.2.1, movd ws.length M st.2.2)]) := by simp [srefs]
        dsimp only
        rw [er]
        have kp : ∀ {z : Addr} {o : HO}, H6 z = some o → z ≠ ld → upd H6 ld (.lst (srefs (ds ++ [(tp, st.2.1, movd ws.length M st.2.2)]))) z = some o := fun h n => by rw [upd_ne n]; exact h
        have hmw := (s1x.trans s46) _ _ (hO st hm).2
        have nmw : st.2.1 ≠ ld := ne_of_none (hO st hm).2 hld1
        refine ⟨ds ++ [(tp, st.2.1, movd ws.length M st.2.2)], _, _, _, _, _, rfl, (sx.trans s46).upd hld, upd_same, fun r hrr => ?_, fun r hrr => ?_, by rw [sls_snoc, eds, e0], by simp; omega⟩
        · rcases List.mem_append.mp hrr with z | z
          · have hh := hOx r z
            exact ⟨kp (s46 _ _ hh.1) (ne_of (s46 _ _ hh.1) h6l (by unfold tupS; intro z; cases z)), kp (s46 _ _ hh.2) (hnd r z)⟩
          · have e : r = (tp, st.2.1, movd ws.length M st.2.2) := by simpa using z
            rw [e]
            exact ⟨kp g6 (ne_of g6 h6l (by unfold tupS; intro z; cases z)), kp hmw nmw⟩
        · rcases List.mem_append.mp hrr with z | z
          · exact hnd r z
          · have e : r = (tp, st.2.1, movd ws.length M st.2.2) := by simpa using z
            rw [e]; exact nmw
    rintro σ H4 ⟨ds, o4, o10, o11, o12, o13, rfl, s4, h4d, hO4, _, eds, hdl⟩
    have s14 := s2.trans s4
    dsimp only
    refine rd_seq (t := tAsg (tComp _ _ _ _) _) (rd_asg (tcomp_list (K := K) ?_))
    refine ⟨_, rfl, lw, rfl, ⟨_, SqL.of (s14 _ _ hlw)⟩, ?_⟩
    refine comp_copy (SqL.of (s14 _ _ hlw)) (hW.mono s14) (by omega) (fun wr H2 N h2 hN => ⟨_, rfl, wr.1, _, rfl, .inl (SqL.of h2), hN⟩) fun lh hs H5 hlh s5 hO5 hF5 ewh h5 => ?_
    have hsl5 : hs.length = ws.length := by rw [← wl_len, ewh, wl_len]
    dsimp only [gName]
    have s15 := s14.trans s5
    refine rd_seq (t := tAsg (tComp _ _ _ _) _) (rd_asg (tcomp_list (K := K) ?_))
    refine ⟨_, rfl, ls, rfl, ⟨_, SqL.of (s15 _ _ hls)⟩, ?_⟩
    refine comp_copyS (SqL.of (s15 _ _ hls)) (hO.mono s15) (by omega) (fun sr H2 N h1 h2 hN => ?_) fun lv sv H6 hlv s6 hO6 esv h6 => ?_
    · refine ⟨_, rfl, _, rfl, sr.1, _, rfl, SqT.of h1, ?_, fun p1 hp1 => ?_⟩
      · show ¬ (HT.sIx 4 0 none = 0 ∧ HT.sIx 4 4 (some 3) = 4)
        decide
      have e3 : cutV [V.int sr.2.2.1, .int sr.2.2.2.1, .int sr.2.2.2.2.1, .ref sr.2.1] none (some 3) = [V.int sr.2.2.1, .int sr.2.2.2.1, .int sr.2.2.2.2.1] := rfl
      rw [e3]
      have t1 : Same H2 (upd H2 p1 (.tup [V.int sr.2.2.1, .int sr.2.2.2.1, .int sr.2.2.2.2.1])) := (Same.refl H2).upd hp1
      have k1 : upd H2 p1 (.tup [V.int sr.2.2.1, .int sr.2.2.2.1, .int sr.2.2.2.2.1]) p1 = some (.tup [V.int sr.2.2.1, .int sr.2.2.2.1, .int sr.2.2.2.2.1]) := upd_same
      generalize upd H2 p1 (.tup [V.int sr.2.2.1, .int sr.2.2.2.1, .int sr.2.2.2.2.1]) = H3 at t1 k1
      refine ⟨_, rfl, sr.1, _, _, .ref sr.2.1, rfl, rfl, SqT.of (t1 _ _ h1), rfl, sr.2.1, _, rfl, .inl (SqL.of (t1 _ _ h2)), fun m hm => ?_⟩
      have t2 : Same H3 (upd H3 m (.lst (sr.2.2.2.2.2.map V.int))) := (Same.refl H3).upd hm
      have k2 : upd H3 m (.lst (sr.2.2.2.2.2.map V.int)) m = some (.lst (sr.2.2.2.2.2.map V.int)) := upd_same
      generalize upd H3 m (.lst (sr.2.2.2.2.2.map V.int)) = H4' at t2 k2
      refine ⟨len1, fun p2 hp2 => ?_⟩
      have t3 : Same H4' (upd H4' p2 (.tup [.ref m])) := (Same.refl H4').upd hp2
      have k3 : upd H4' p2 (.tup [.ref m]) p2 = some (.tup [.ref m]) := upd_same
      generalize upd H4' p2 (.tup [.ref m]) = H5' at t3 k3
      refine ⟨p1, p2, _, _, rfl, rfl, SqT.of (t3 _ _ (t2 _ _ k1)), SqT.of k3, by simp, (by show 4 ≤ sizeLine; decide), (fun z => by simp at z), fun _ p hp => ?_⟩
      have t4 : Same H5' (upd H5' p (.tup ([V.int sr.2.2.1, .int sr.2.2.2.1, .int sr.2.2.2.2.1] ++ [.ref m]))) := (Same.refl H5').upd hp
      exact hN p m _ (t1.free (t2.free (t3.free hp))) (t1.free hm) (((t1.trans t2).trans t3).trans t4) upd_same (t4 _ _ (t3 _ _ k2))
    have s16 := s15.trans s6
    have svl : sv.length = ss.length := by rw [← sls_len, esv, sls_len]
    dsimp only [gName]
    refine ⟨_, rfl, _, rfl, lh, lv, hs, sv, rfl, SqL.of (s6 _ _ h5), SqL.of h6, hO6, by omega, by omega, by rw [esv, hsl5]; exact hR, fun lf rs H7 hlf s7 h7 hO7 hrow => ?_⟩
    have s17 := s16.trans s7
    have erow : sls rs = rowT ws.length M (sls ss) (sls ss).length := by
      rw [hsl5, esv] at hrow
      exact hrow M hM
    have eds' : sls ds = sls rs := by rw [eds, erow, esl]
    have hrra : RightAll (wl ws) (sls rs) := by
      rw [erow]
      have := trim_right (W := wl ws) (M := M) (ts := sls ss) (by rw [ewl]; exact hM) hra (k := (sls ss).length) (Nat.le_refl _)
      rwa [ewl] at this
    have hrl : rs.length ≤ 80 := by
      have e1 : rs.length = (rowT ws.length M (sls ss) (sls ss).length).length := by rw [← erow, sls_len]
      rw [e1, rowT_len hM.len (Nat.le_refl _)]
      unfold cntT
      have := List.length_filter_le id (M.take (sls ss).length)
      have h3 : (M.take (sls ss).length).length ≤ 80 := by rw [List.length_take]; omega
      omega
    have hrv : ∀ r ∈ rs, r.2.2.2.2.2.length ≤ 12 ∧ (∀ y ∈ r.2.2.2.2.2, y.natAbs ≤ 12) ∧ r.2.2.2.2.1.natAbs ≤ 12 := fun r hr => by
      have hm : r.2.2 ∈ rowT ws.length M (sls ss) (sls ss).length := by rw [← erow]; exact List.mem_map.mpr ⟨r, hr, rfl⟩
      obtain ⟨t, ht, e⟩ := rowT_mem hm
      obtain ⟨s', hs', rfl⟩ := List.mem_map.mp ht
      have := hsv s' hs'
      rw [e]; exact this
    have hstv : ∀ t ∈ sls ss, t.2.2.2.length ≤ 12 := fun t ht => by
      obtain ⟨s', hs', rfl⟩ := List.mem_map.mp ht
      exact (hsv s' hs').1
    have hrtv : ∀ t ∈ sls rs, t.2.2.2.length ≤ 12 := fun t ht => by
      obtain ⟨s', hs', rfl⟩ := List.mem_map.mp ht
      exact (hrv s' hs').1
    have htot : total (wl ws) ≤ 12 * ws.length := by rw [← ewl]; exact total_small fun v hv => (hwv v hv).1
    refine ⟨_, rfl, _, rfl, _, _, .lst (wsD ws), rfl, by rw [← wsD_of ewh]; exact ws_at (hO5.mono (s6.trans s7)) ((s6.trans s7) _ _ h5), ws_at (hW.mono s17) (s17 _ _ hlw), by rw [D.plain]; exact plains_wsD ws, by rw [D.size, sizes_wsD]; omega, fun H8 s8 => ⟨_, rfl, iteF ?_⟩⟩
    have z1 := stDs_size (n := 12) (ts := sls ss) hstv
    have z2 := stDs_size (n := 12) (ts := sls rs) hrtv
    rw [esl] at z1
    rw [sls_len] at z2
    have s78 := s7.trans s8
    have s18 := s17.trans s8
    refine ⟨_, rfl, _, rfl, _, _, .lst ((sls ss).map stD), rfl, by rw [← esv]; exact ss_at (hO6.mono s78) (s78 _ _ h6), ss_at (hO.mono s18) (s18 _ _ hls), by rw [D.plain]; exact stDs_plain _, by rw [D.size]; omega, fun H9 s9 => ⟨_, rfl, iteF ?_⟩⟩
    have s79 := s8.trans s9
    have s19 := s18.trans s9
    have h9 := s79 _ _ h7
    have hO9 := hO7.mono s79
    have s49 := ((s5.trans s6).trans s7).trans s79
    dsimp only [tNext]
    refine ⟨_, rfl, _, .lst, .lst, rfl, ⟨_, .inl h9⟩, _, rfl, iteF ?_⟩
    refine ⟨_, rfl, _, rfl, _, _, .lst ((sls rs).map stD), rfl, ss_at hO9 h9, by rw [← eds']; exact ss_at (hO4.mono s49) (s49 _ _ h4d), by rw [D.plain]; exact stDs_plain _, by rw [D.size]; omega, fun H10 s10 => ⟨_, rfl, iteF ?_⟩⟩
    have s1A := s19.trans s10
    have hA := s10 _ _ h9
    have hOA := hO9.mono s10
    dsimp only [tNext]
    refine ⟨_, rfl, lw, _, rfl, .inl (SqL.of (s1A _ _ hlw)), fun lk hlk => ?_⟩
    have s11 : Same H10 (upd H10 lk (.lst (wrefs ws))) := (Same.refl H10).upd hlk
    have g11 : upd H10 lk (.lst (wrefs ws)) lk = some (.lst (wrefs ws)) := upd_same
    generalize upd H10 lk (.lst (wrefs ws)) = H11 at s11 g11
    refine ⟨_, rfl, lf, rfl, ⟨_, SqL.of (s11 _ _ hA)⟩, for_list (K := K) (a := lf) (xs := srefs rs) (fun i σ Hx => ∃ (ks : List Wr) (o18 : Option V), σ = [some (.ref a), some (.int x1), some (.int c), some (.ref ll), o4, some (.ref lw), some (.int ws.length), some (.ref ls), some (.ref lm), some (.ref ld), o10, o11, o12, o13, some (.ref lh), some (.ref lv), some (.ref lf), some (.ref lk), o18] ∧ Same H10 Hx ∧ Hx lk = some (.lst (wrefs ks)) ∧ WsOk Hx ks ∧ (∀ r ∈ ks, r.1 ≠ lk) ∧ wl ks = wl ws ++ wlSt ((sls rs).take i))
      ⟨ws, none, rfl, s11, g11, (hW.mono s1A).mono s11, fun r hr => ne_of_none ((hW.mono s1A) r hr) hlk, by simp [wlSt]⟩ (fun i σ Hx _ ⟨_, _, _, e, _⟩ => SqL.of (e _ _ hA)) ?_ ?_⟩
    · rintro i y σ Hx hi ⟨ks, o18, rfl, sx, hx, hWx, hnk, ek⟩
      obtain ⟨st, hsi, rfl⟩ := sr_get hi
      have hm := List.mem_of_getElem? hsi
      have hil : i < rs.length := (List.getElem?_eq_some_iff.mp hsi).1
      have hgt : (sls rs)[i]? = some st.2.2 := by unfold sls; rw [List.getElem?_map, hsi]; rfl
      have hRS := RightAll_at hrra hgt
      rw [← ek] at hRS
      have hst := (hOA.mono sx) st hm
      have hkv : ∀ v ∈ wl ks, v.length ≤ 28 ∧ ∀ n ∈ v, n.natAbs ≤ 10000 := fun v hv => by
        rw [ek] at hv
        rcases List.mem_append.mp hv with z | z
        · have := hwv v z; exact ⟨by omega, fun n hn => by have := this.2 n hn; omega⟩
        · obtain ⟨t, ht, rfl⟩ := List.mem_map.mp z
          obtain ⟨s', hs', rfl⟩ := List.mem_map.mp (List.mem_of_mem_take ht)
          have := hrv s' hs'
          exact ⟨by omega, fun n hn => by have := this.2.1 n hn; omega⟩
      have hkl : ks.length = ws.length + i := by
        have := congrArg List.length ek
        rw [wl_len, List.length_append, wl_len, wlSt_len, List.length_take, sls_len] at this
        omega
      have hv := hrv st hm
      refine ⟨_, rfl, _, rfl, lk, st.1, st.2.1, ks, st.2.2, rfl, SqL.of hx, hWx, hst.1, hst.2, hkv, ⟨by omega, fun n hn => by have := hv.2.1 n hn; omega, by omega⟩, fun H12 s12 => ⟨_, rfl, ?_⟩⟩
      rw [decide_eq_true hRS]
      refine iteF ?_
      have h12k := s12 _ _ hx
      refine ⟨_, rfl, .inl ⟨rfl, _, SqL.of h12k⟩, _, rfl, st.1, _, _, _, rfl, rfl, SqT.of (s12 _ _ hst.1), rfl, lk, _, _, rfl, rfl, h12k, small6 (by rw [wrefs_len]; omega), ?_⟩
      have er : wrefs ks ++ [V.ref st.2.1] = wrefs (ks ++ [(st.2.1, st.2.2.2.2.2)]) := by simp [wrefs]
      dsimp only
      rw [er]
      have nst : st.2.1 ≠ lk := ne_of_none ((hOA st hm).2) hlk
      refine ⟨ks ++ [(st.2.1, st.2.2.2.2.2)], _, rfl, (sx.trans s12).upd hlk, upd_same, fun r hrr => ?_, fun r hrr => ?_, ?_⟩
      · rcases List.mem_append.mp hrr with z | z
        · rw [upd_ne (hnk r z)]; exact s12 _ _ (hWx r z)
        · have e : r = (st.2.1, st.2.2.2.2.2) := by simpa using z
          rw [e, upd_ne nst]; exact s12 _ _ hst.2
      · rcases List.mem_append.mp hrr with z | z
        · exact hnk r z
        · have e : r = (st.2.1, st.2.2.2.2.2) := by simpa using z
          rw [e]; exact nst
      · rw [List.take_add_one, hgt]
        simp [wl, wlSt] at ek ⊢
        rw [ek]; simp
    · rintro σ Hx ⟨ks, o18, rfl, sx, hx, hWx, hnk, ek⟩
      have etk : (sls rs).take (srefs rs).length = sls rs := by rw [srefs_len, ← sls_len, List.take_length]
      rw [etk] at ek
      have hls2 := (s1A.trans sx) _ _ hls
      have hO2 := hO.mono (s1A.trans sx)
      refine ⟨_, rfl, by decide, fun pe hpe => ?_⟩
      have s12 : Same Hx (upd Hx pe (.lst [])) := (Same.refl Hx).upd hpe
      have g12 : upd Hx pe (.lst []) pe = some (.lst []) := upd_same
      generalize upd Hx pe (.lst []) = H12 at s12 g12
      refine .inl ⟨_, ⟨ls, pe, _, [], rfl, rfl, SqL.of (s12 _ _ hls2), SqL.of g12, .inl ⟨rfl, rfl⟩⟩, _, rfl, ?_⟩
      by_cases hne : ss = []
      · rw [hne]
        exact iteT (q _)
      · have e : (srefs ss).isEmpty = false := by cases ss with | nil => exact absurd rfl hne | cons x xs => rfl
        rw [e]
        refine iteF ?_
        obtain ⟨pre, st, ess⟩ : ∃ pre st, ss = pre ++ [st] := ⟨_, _, (List.dropLast_concat_getLast hne).symm⟩
        have hstm : st ∈ ss := by rw [ess]; simp
        obtain ⟨r0, er0⟩ := trim_last (f := ws.length) (M := M) (ts := sls ss) hM (pre := sls pre) (t := st.2.2) (by rw [ess, sls_snoc])
        have ekl : wl ks = (wl ws ++ wlSt r0) ++ [st.2.2.2.2.2] := by
          rw [ek, erow, er0]
          simp [wlSt, movd]
        obtain ⟨kpre, kl, eks⟩ : ∃ kpre kl, ks = kpre ++ [kl] := ⟨_, _, (List.dropLast_concat_getLast (by intro z; rw [z] at ekl; simp [wl] at ekl)).symm⟩
        have ekl2 : kl.2 = st.2.2.2.2.2 := by
          rw [eks, wl_snoc'] at ekl
          have := (List.append_inj' ekl rfl).2
          simpa using this
        have hklm : kl ∈ ks := by rw [eks]; simp
        have atk : atI (wrefs ks) (-1) = some (.ref kl.1) := by
          have e : wrefs ks = wrefs kpre ++ [V.ref kl.1] := by rw [eks]; simp [wrefs]
          rw [e]; exact atI_last _ _
        have ats : atI (srefs ss) (-1) = some (.ref st.1) := by
          have e : srefs ss = srefs pre ++ [V.ref st.1] := by rw [ess]; simp [srefs]
          rw [e]; exact atI_last _ _
        have hkl12 := s12 _ _ (hWx kl hklm)
        have hst12 := hO2.mono s12 st hstm
        refine ⟨_, rfl, 1, rfl, lk, _, _, _, rfl, rfl, SqL.of (s12 _ _ hx), atk, _, rfl, 1, rfl, ls, _, _, _, rfl, rfl, SqL.of (s12 _ _ hls2), ats, st.1, _, _, _, rfl, rfl, SqT.of hst12.1, rfl, ?_⟩
        refine .inl ⟨_, ⟨kl.1, st.2.1, _, _, rfl, rfl, SqL.of hkl12, SqL.of hst12.2, .inr ⟨flat_ints _, flat_ints _, rfl⟩⟩, ?_⟩
        rw [ekl2, eqVs_ints, decide_eq_true rfl]
        exact q _
  refine ⟨_, (pss_cons (ps_set (i := 1) sc_law.nd rfl (Or.inl rfl) (pe_def c_l_at hr (by decide) (pa_cons (pv 0) (pa_cons pe_int pa_nil))))
 (pss_cons (ps_set (i := 2) sc_law.nd rfl (Or.inl rfl) (pe_op op_add pe_int (pe_op op_mod (pe_def c_l_at hr (by decide) (pa_cons (pv 0) (pa_cons pe_int pa_nil))) pe_int)))
 (pss_cons (ps_set (i := 3) sc_law.nd rfl (Or.inl rfl) (pe_lst pa_nil))
 (pss_cons (ps_for PassesOwn.never rfl (pi_range1 (by rfl) B.range_ (pa_cons (pv 2) pa_nil)) (pg_name (i := 4) sc_law.nd rfl (Or.inl rfl))
 (pss_one (ps_expr (pe_bm PySem.F.plainAttrs_list PySem.F.slot_list_append PySem.F.type_list_append mt_append (pv 3) (pa_cons (pe_op op_mul (pe_op op_add (pv 4) pe_int) (pe_op op_sub pe_int (pe_op op_mul pe_int (pe_def c_l_draw hr (by decide) (pa_cons (pe_op op_add (pv 1) (pe_op op_mul pe_int (pv 4))) (pa_cons pe_int (pa_cons pe_int pa_nil))))))) pa_nil)))))
 (pss_cons (ps_set (i := 5) sc_law.nd rfl (Or.inl rfl) (pe_op op_cat (pe_lst (pa_cons (pv 3) pa_nil)) (pe_comp (fvn := []) (js := []) rfl (pi_list (pv 3)) .nil ⟨by decide +kernel, rfl, by decide +kernel, rfl, by decide +kernel, by decide +kernel⟩ (fun _ _ _ _ _ => pts_nil) (fun _ _ _ _ _ => (pe_lst (pa_cons (pe_un un_neg (pv 0)) pa_nil))))))
 (pss_cons (ps_set (i := 6) sc_law.nd rfl (Or.inl rfl) (pe_callB call_len_seq (by rfl) B.len_ PySem.boot_len (pa_cons (pv 5) pa_nil)))
 (pss_cons (ps_set (i := 7) sc_law.nd rfl (Or.inl rfl) (pe_def c_l_rows_of hr (by decide) (pa_cons (pe_slice sl_list (pv 0) (po_some pe_int) po_none) (pa_cons (pv 3) (pa_cons (pe_callTy call_list_of (by rfl) B.list_ bt_list (pa_cons (pv 5) pa_nil)) pa_nil)))))
 (pss_cons (ps_if (pt_cmpR op_eq (pe_op op_mod (pv 1) pe_int) pe_int (nomark _))
 (pss_one (ps_set (i := 7) sc_law.nd rfl (Or.inl rfl) (pe_lst pa_nil)))
 pss_nil)
 hu8)))))))), ?_⟩
  refine ⟨_, rfl, a, ns, 1, rfl, hS, ?_⟩
  generalize ns.getD 1 0 = x1
  refine ⟨_, rfl, a, ns, 0, rfl, hS, _, _, rfl, rfl, (by show (0 : Int) < 12; decide), _, _, rfl, rfl, ?_⟩
  obtain ⟨c, hc0, hc, hce⟩ : ∃ c : Nat, 0 < c ∧ c ≤ 12 ∧ 1 + ns.getD 0 0 % 12 = (c : Int) := by
    have h1 := Int.emod_nonneg (ns.getD 0 0) (show (12 : Int) ≠ 0 by decide)
    have h2 := Int.emod_lt_of_pos (ns.getD 0 0) (show (0 : Int) < 12 by decide)
    exact ⟨(1 + ns.getD 0 0 % 12).toNat, by omega, by omega, by omega⟩
  dsimp only
  rw [hce]
  refine ⟨by decide, fun ll hll => ?_⟩
  have s1 : Same H (upd H ll (.lst [])) := (Same.refl H).upd hll
  have g1 : upd H ll (.lst []) ll = some (.lst (([] : List Int).map V.int)) := upd_same
  generalize upd H ll (.lst []) = H1 at s1 g1
  refine ⟨_, rfl, _, rfl, by omega, by omega, ?_⟩
  have en : ((c : Int)).toNat = c := by omega
  rw [en]
  refine for_range (fun i σ Hx => ∃ (L : List Int) (o4 : Option V), σ = [some (.ref a), some (.int x1), some (.int c), some (.ref ll), o4, none, none, none, none, none, none, none, none, none, none, none, none, none, none] ∧ Same H Hx ∧ Hx ll = some (.lst (L.map V.int)) ∧ L.length = i ∧ ∀ j, j < i → (L.getD j 0).natAbs = j + 1)
    ⟨[], none, rfl, s1, g1, rfl, fun j hj => by omega⟩ ?_ ?_
  · rintro i σ Hx hi ⟨L, o4, rfl, sx, hx, hLl, hLj⟩
    refine ⟨_, rfl, .inl ⟨rfl, _, SqL.of hx⟩, _, rfl, _, _, rfl, rfl, ?_⟩
    have hd2 : draw (x1 + 7919 * (0 + (i : Int))) 1013 2 = 0 ∨ draw (x1 + 7919 * (0 + (i : Int))) 1013 2 = 1 := by
      unfold draw
      generalize (x1 + 7919 * (0 + (i : Int))) * 48271 % 1013 = z
      omega
    refine ⟨_, rfl, _, rfl, _, _, rfl, rfl, .inl ⟨by decide, by decide⟩, _, _, rfl, rfl, _, _, _, rfl, by decide, by decide, _, _, rfl, rfl, .inl ⟨by decide, by decide⟩, _, _, rfl, rfl, _, _, rfl, rfl, .inr ⟨by omega, by omega⟩, ll, _, _, rfl, rfl, hx, small6 (by rw [List.length_map]; omega), ?_⟩
    generalize draw (x1 + 7919 * (0 + (i : Int))) 1013 2 = dv at hd2
    refine ⟨L ++ [(0 + (i : Int) + 1) * (1 - 2 * dv)], _, rfl, sx.upd hll, by rw [upd_same]; simp, by simp [hLl], fun j hj => ?_⟩
    by_cases e : j < i
    · rw [List.getD_eq_getElem?_getD, List.getElem?_append_left (by omega), ← List.getD_eq_getElem?_getD]
      exact hLj j e
    · have ej : j = L.length := by omega
      have e1 : (L ++ [(0 + (i : Int) + 1) * (1 - 2 * dv)]).getD j 0 = (0 + (i : Int) + 1) * (1 - 2 * dv) := by
        rw [List.getD_eq_getElem?_getD, ej]; simp
      rw [e1]
      rcases hd2 with z | z
      · rw [z]; omega
      · rw [z]; omega
  · rintro σ Hx ⟨L, o4, rfl, sx, hx, hLl, hLj⟩
    generalize hHx : Hx = Hx0 at sx hx
    dsimp only
    refine rd_cut (fun σ Hx => ∃ (lw : Addr) (ws : List Wr), σ = [some (.ref a), some (.int x1), some (.int c), some (.ref ll), o4, some (.ref lw), none, none, none, none, none, none, none, none, none, none, none, none, none] ∧ Same Hx0 Hx ∧ Hx0 lw = none ∧ Hx lw = some (.lst (wrefs ws)) ∧ WsOk Hx ws ∧ (∀ r ∈ ws, r.1 ≠ lw) ∧ wl ws = L :: L.map fun x => [-x]) (fun N hN => ?_) ?_
    · refine ⟨_, rfl, len1, fun p1 hp1 => ?_⟩
      have s3 : Same Hx0 (upd Hx0 p1 (.lst [.ref ll])) := (Same.refl Hx0).upd hp1
      have g3 : upd Hx0 p1 (.lst [.ref ll]) p1 = some (.lst [.ref ll]) := upd_same
      generalize upd Hx0 p1 (.lst [.ref ll]) = H3 at s3 g3
      refine tcomp_list (K := K) ?_
      refine ⟨_, rfl, ll, rfl, ⟨_, SqL.of (s3 _ _ hx)⟩, ?_⟩
      refine comp_list (K := K) (a := ll) (xs := L.map V.int) (fun i ys Hx => ∃ hs : List Wr, ys = wrefs hs ∧ Same H3 Hx ∧ WsOk Hx hs ∧ wl hs = (L.map fun x => [-x]).take i) ⟨[], rfl, Same.refl _, (fun _ h => nomatch h), by simp [wl]⟩ (small6' (by simp; omega)) (fun i ys Hx _ ⟨_, _, e, _⟩ => SqL.of (e _ _ (s3 _ _ hx))) ?_ ?_
      · rintro i y ys Hx N' hi hyl ⟨hs, rfl, sx, hO, hwl⟩ hN'
        obtain ⟨n, hni, rfl⟩ := getV hi
        refine iteT ⟨_, rfl, _, rfl, len1, fun pl hpl => ?_⟩
        have s4 : Same Hx (upd Hx pl (.lst [.int (-n)])) := (Same.refl Hx).upd hpl
        refine hN' _ _ ⟨hs ++ [(pl, [-n])], by simp [wrefs], sx.trans s4, fun r hr => ?_, ?_⟩ (by simpa using hyl)
        · rcases List.mem_append.mp hr with z | z
          · exact hO.mono s4 r z
          · have : r = (pl, [-n]) := by simpa using z
            rw [this]; exact upd_same
        · have hn2 : (L.map fun x => [-x])[i]? = some [-n] := by rw [List.getElem?_map, hni]; rfl
          rw [List.take_add_one, hn2, ← hwl]; simp [wl]
      · rintro ys Hx ⟨hs, rfl, sx, hO, hwl⟩ p2 hp2
        have s4 : Same Hx (upd Hx p2 (.lst (wrefs hs))) := (Same.refl Hx).upd hp2
        have g4 : upd Hx p2 (.lst (wrefs hs)) p2 = some (.lst (wrefs hs)) := upd_same
        generalize upd Hx p2 (.lst (wrefs hs)) = H4 at s4 g4
        have hsl : hs.length = L.length := by
          have := congrArg List.length hwl
          simpa [wl_len] using this
        refine ⟨p1, p2, _, _, rfl, rfl, s4 _ _ (sx _ _ g3), g4, by have := sizeLine_eq; rw [wrefs_len]; simp only [List.length_cons, List.length_nil]; omega, fun lw hlw => ?_⟩
        have s34 := (s3.trans sx).trans s4
        have s5 : Same H4 (upd H4 lw (.lst ([V.ref ll] ++ wrefs hs))) := (Same.refl H4).upd hlw
        refine hN _ _ ⟨lw, (ll, L) :: hs, rfl, s34.trans s5, s34.free hlw, by rw [upd_same]; simp [wrefs], fun r hr => ?_, fun r hr => ?_, ?_⟩
        · rcases List.mem_cons.mp hr with z | z
          · rw [z]; exact s5 _ _ (s34 _ _ hx)
          · exact s5 _ _ (s4 _ _ (hO r z))
        · rcases List.mem_cons.mp hr with z | z
          · rw [z]; exact ne_of_none (s34 _ _ hx) hlw
          · exact ne_of_none (s4 _ _ (hO r z)) hlw
        · have : wl hs = L.map fun x => [-x] := by rw [hwl]; exact List.take_of_length_le (by simp)
          rw [← this]; simp [wl]
    rintro σ H3 ⟨lw, ws, rfl, s3, hlw2, hw, hW, hnw, ewl⟩
    have s03 := sx.trans s3
    have hws : ws.length = c + 1 := by
      have := congrArg List.length ewl
      simp [wl_len] at this
      omega
    have hLmem : ∀ y ∈ L, y ≠ 0 ∧ y.natAbs ≤ 12 := fun y hy => by
      obtain ⟨j, hj, e⟩ := List.mem_iff_getElem.mp hy
      have h1 := hLj j (by omega)
      have h2 : L.getD j 0 = y := by rw [List.getD_eq_getElem?_getD, List.getElem?_eq_getElem hj, e]; rfl
      rw [h2] at h1
      omega
    have hwv : ∀ v ∈ wl ws, v.length ≤ 12 ∧ ∀ y ∈ v, y.natAbs ≤ 12 := fun v hv => by
      rw [ewl] at hv
      rcases List.mem_cons.mp hv with z | z
      · rw [z]; exact ⟨by omega, fun y hy => (hLmem y hy).2⟩
      · obtain ⟨y, hy, rfl⟩ := List.mem_map.mp z
        refine ⟨by simp, fun n hn => ?_⟩
        have : n = -y := by simpa using hn
        have := hLmem y hy
        omega
    refine ⟨_, rfl, lw, _, rfl, .inl (SqL.of hw), ?_⟩
    dsimp only
    rw [wrefs_len]
    obtain ⟨cells, hcut, hcl, _⟩ := cut_ints ns (some 2) none
    refine ⟨_, rfl, _, rfl, a, _, rfl, s03.seq hS, fun pc hpc => ?_⟩
    rw [hcut]
    have s4 : Same H3 (upd H3 pc (.lst (cells.map V.int))) := (Same.refl H3).upd hpc
    have g4 : upd H3 pc (.lst (cells.map V.int)) pc = some (.lst (cells.map V.int)) := upd_same
    generalize upd H3 pc (.lst (cells.map V.int)) = H4 at s4 g4
    have hll4 := s4 _ _ (s3 _ _ hx)
    have hw4 := s4 _ _ hw
    refine ⟨_, rfl, _, rfl, lw, _, rfl, .inl (SqL.of hw4), fun lk hlk => ?_⟩
    have s5 : Same H4 (upd H4 lk (.lst (wrefs ws))) := (Same.refl H4).upd hlk
    have g5 : upd H4 lk (.lst (wrefs ws)) lk = some (.lst (wrefs ws)) := upd_same
    have npc : pc ≠ lk := ne_of_none g4 hlk
    have nll : ll ≠ lk := ne_of_none hll4 hlk
    have hnk : ∀ r ∈ ws, r.1 ≠ lk := fun r hr => ne_of_none ((hW.mono s4) r hr) hlk
    have nlw : lw ≠ lk := ne_of_none hw4 hlk
    generalize upd H4 lk (.lst (wrefs ws)) = H5 at s5 g5
    have s35 := s4.trans s5
    have gk : GoodK L (wl ws) 0 0 := by
      rw [ewl]
      refine ⟨rfl, fun i hi => ?_, by simp, by simp, fun j _ hj => ?_, by rw [← ewl]; exact hwv⟩
      · rw [List.getD_eq_getElem?_getD, List.getElem?_cons_succ, List.getElem?_map, List.getElem?_eq_getElem hi]
        simp [List.getElem?_eq_getElem hi]
      · show L.getD j 0 ∈ L
        rw [List.getD_eq_getElem?_getD, List.getElem?_eq_getElem hj]; exact List.getElem_mem hj
    refine ⟨pc, ll, lk, cells, L, ws, rfl, s5 _ _ g4, s5 _ _ hll4, g5, hW.mono s35, hnk, npc, nll, by omega, by omega, by omega, by omega, fun i hi => ?_, fun i j hij hj e => ?_, gk, fun ls ss H6 hls b6 h6 hO6 hn6 hra hssl hsv => ?_⟩
    · have := hLj i (by omega); omega
    · have h1 := hLj i (by omega)
      have h2 := hLj j (by omega)
      rw [e] at h1; omega
    have hw6 := b6 lw _ nlw (s5 _ _ hw4)
    have hW6 : WsOk H6 ws := fun r hr => b6 _ _ (hnk r hr) ((hW.mono s35) r hr)
    have wsl : (ws.length : Int) = ((ws.length : Nat) : Int) := rfl
    refine ⟨_, rfl, _, _, rfl, rfl, (by show (0 : Int) < 8; decide), rfl, _, rfl, ite2 (fun _ => ?_) (fun _ => ?_)⟩
    · refine ⟨by decide, fun l7 hl7 => ?_⟩
      have s7 : Same H6 (upd H6 l7 (.lst [])) := (Same.refl H6).upd hl7
      have g7 : upd H6 l7 (.lst []) l7 = some (.lst (srefs [])) := upd_same
      generalize upd H6 l7 (.lst []) = H7 at s7 g7
      exact key8 x1 c ll lw l7 o4 ws [] H7 (s7 _ _ hw6) (hW6.mono s7) g7 (fun _ h => nomatch h) (by omega) hwv (by simp) (fun _ h => nomatch h) trivial
    · exact key8 x1 c ll lw ls o4 ws ss H6 hw6 hW6 h6 hO6 (by omega) hwv (by omega) hsv hra
end
theorem all_mk {l : PySem.W.OpenLaw} {w : World} {K : PySem.W.Frag} {h : Heap} {mg : Str → Option Value} {fa : Addr} (X : K.In h) (G : h.Ns mainGlobals mg) (hfa : mg "law" = some (.ref fa))
    {f_marked : Addr} {od_marked an_marked : Option Addr} {sl_marked : Array (Option Value)} {oc_marked kV_marked dc_marked pm_marked cd_marked ct_marked : Value}
    (a_marked : PySem.W.nsIn K mainGlobals "marked" = some (some (.ref f_marked))) (l_marked : K.lookup f_marked = some ⟨oc_marked, od_marked, .func (PySem.W.fnOf "marked" "marked" (defArgs s_marked) (defBody s_marked) (defScope s_marked) .none kV_marked dc_marked pm_marked an_marked cd_marked ct_marked), sl_marked⟩) (c_marked : PySem.W.codeIn K cd_marked "marked" = true) (k_marked : PySem.W.keepIn K (.ref f_marked) = true)
    {f_trimmed : Addr} {od_trimmed an_trimmed : Option Addr} {sl_trimmed : Array (Option Value)} {oc_trimmed kV_trimmed dc_trimmed pm_trimmed cd_trimmed ct_trimmed : Value}
    (a_trimmed : PySem.W.nsIn K mainGlobals "trimmed" = some (some (.ref f_trimmed))) (l_trimmed : K.lookup f_trimmed = some ⟨oc_trimmed, od_trimmed, .func (PySem.W.fnOf "trimmed" "trimmed" (defArgs s_trimmed) (defBody s_trimmed) (defScope s_trimmed) .none kV_trimmed dc_trimmed pm_trimmed an_trimmed cd_trimmed ct_trimmed), sl_trimmed⟩) (c_trimmed : PySem.W.codeIn K cd_trimmed "trimmed" = true) (k_trimmed : PySem.W.keepIn K (.ref f_trimmed) = true)
    {f_needed_numbers : Addr} {od_needed_numbers an_needed_numbers : Option Addr} {sl_needed_numbers : Array (Option Value)} {oc_needed_numbers kV_needed_numbers dc_needed_numbers pm_needed_numbers cd_needed_numbers ct_needed_numbers : Value}
    (a_needed_numbers : PySem.W.nsIn K mainGlobals "needed_numbers" = some (some (.ref f_needed_numbers))) (l_needed_numbers : K.lookup f_needed_numbers = some ⟨oc_needed_numbers, od_needed_numbers, .func (PySem.W.fnOf "needed_numbers" "needed_numbers" (defArgs s_needed_numbers) (defBody s_needed_numbers) (defScope s_needed_numbers) .none kV_needed_numbers dc_needed_numbers pm_needed_numbers an_needed_numbers cd_needed_numbers ct_needed_numbers), sl_needed_numbers⟩) (c_needed_numbers : PySem.W.codeIn K cd_needed_numbers "needed_numbers" = true) (k_needed_numbers : PySem.W.keepIn K (.ref f_needed_numbers) = true)
    {f_l_draw : Addr} {od_l_draw an_l_draw : Option Addr} {sl_l_draw : Array (Option Value)} {oc_l_draw kV_l_draw dc_l_draw pm_l_draw cd_l_draw ct_l_draw : Value}
    (a_l_draw : PySem.W.nsIn K mainGlobals "_law_draw" = some (some (.ref f_l_draw))) (l_l_draw : K.lookup f_l_draw = some ⟨oc_l_draw, od_l_draw, .func (PySem.W.fnOf "_law_draw" "_law_draw" (defArgs s_l_draw) (defBody s_l_draw) (defScope s_l_draw) .none kV_l_draw dc_l_draw pm_l_draw an_l_draw cd_l_draw ct_l_draw), sl_l_draw⟩) (c_l_draw : PySem.W.codeIn K cd_l_draw "_law_draw" = true) (k_l_draw : PySem.W.keepIn K (.ref f_l_draw) = true)
    {f_l_whole : Addr} {od_l_whole an_l_whole : Option Addr} {sl_l_whole : Array (Option Value)} {oc_l_whole kV_l_whole dc_l_whole pm_l_whole cd_l_whole ct_l_whole : Value}
    (a_l_whole : PySem.W.nsIn K mainGlobals "_law_whole" = some (some (.ref f_l_whole))) (l_l_whole : K.lookup f_l_whole = some ⟨oc_l_whole, od_l_whole, .func (PySem.W.fnOf "_law_whole" "_law_whole" (defArgs s_l_whole) (defBody s_l_whole) (defScope s_l_whole) .none kV_l_whole dc_l_whole pm_l_whole an_l_whole cd_l_whole ct_l_whole), sl_l_whole⟩) (c_l_whole : PySem.W.codeIn K cd_l_whole "_law_whole" = true) (k_l_whole : PySem.W.keepIn K (.ref f_l_whole) = true)
    {f_l_at : Addr} {od_l_at an_l_at : Option Addr} {sl_l_at : Array (Option Value)} {oc_l_at kV_l_at dc_l_at pm_l_at cd_l_at ct_l_at : Value}
    (a_l_at : PySem.W.nsIn K mainGlobals "_law_at" = some (some (.ref f_l_at))) (l_l_at : K.lookup f_l_at = some ⟨oc_l_at, od_l_at, .func (PySem.W.fnOf "_law_at" "_law_at" (defArgs s_l_at) (defBody s_l_at) (defScope s_l_at) .none kV_l_at dc_l_at pm_l_at an_l_at cd_l_at ct_l_at), sl_l_at⟩) (c_l_at : PySem.W.codeIn K cd_l_at "_law_at" = true) (k_l_at : PySem.W.keepIn K (.ref f_l_at) = true)
    {f_l_alike : Addr} {od_l_alike an_l_alike : Option Addr} {sl_l_alike : Array (Option Value)} {oc_l_alike kV_l_alike dc_l_alike pm_l_alike cd_l_alike ct_l_alike : Value}
    (a_l_alike : PySem.W.nsIn K mainGlobals "_law_alike" = some (some (.ref f_l_alike))) (l_l_alike : K.lookup f_l_alike = some ⟨oc_l_alike, od_l_alike, .func (PySem.W.fnOf "_law_alike" "_law_alike" (defArgs s_l_alike) (defBody s_l_alike) (defScope s_l_alike) .none kV_l_alike dc_l_alike pm_l_alike an_l_alike cd_l_alike ct_l_alike), sl_l_alike⟩) (c_l_alike : PySem.W.codeIn K cd_l_alike "_law_alike" = true) (k_l_alike : PySem.W.keepIn K (.ref f_l_alike) = true)
    {f_l_merge : Addr} {od_l_merge an_l_merge : Option Addr} {sl_l_merge : Array (Option Value)} {oc_l_merge kV_l_merge dc_l_merge pm_l_merge cd_l_merge ct_l_merge : Value}
    (a_l_merge : PySem.W.nsIn K mainGlobals "_law_merge" = some (some (.ref f_l_merge))) (l_l_merge : K.lookup f_l_merge = some ⟨oc_l_merge, od_l_merge, .func (PySem.W.fnOf "_law_merge" "_law_merge" (defArgs s_l_merge) (defBody s_l_merge) (defScope s_l_merge) .none kV_l_merge dc_l_merge pm_l_merge an_l_merge cd_l_merge ct_l_merge), sl_l_merge⟩) (c_l_merge : PySem.W.codeIn K cd_l_merge "_law_merge" = true) (k_l_merge : PySem.W.keepIn K (.ref f_l_merge) = true)
    {f_l_right_step : Addr} {od_l_right_step an_l_right_step : Option Addr} {sl_l_right_step : Array (Option Value)} {oc_l_right_step kV_l_right_step dc_l_right_step pm_l_right_step cd_l_right_step ct_l_right_step : Value}
    (a_l_right_step : PySem.W.nsIn K mainGlobals "_law_right_step" = some (some (.ref f_l_right_step))) (l_l_right_step : K.lookup f_l_right_step = some ⟨oc_l_right_step, od_l_right_step, .func (PySem.W.fnOf "_law_right_step" "_law_right_step" (defArgs s_l_right_step) (defBody s_l_right_step) (defScope s_l_right_step) .none kV_l_right_step dc_l_right_step pm_l_right_step an_l_right_step cd_l_right_step ct_l_right_step), sl_l_right_step⟩) (c_l_right_step : PySem.W.codeIn K cd_l_right_step "_law_right_step" = true) (k_l_right_step : PySem.W.keepIn K (.ref f_l_right_step) = true)
    {f_l_step_of : Addr} {od_l_step_of an_l_step_of : Option Addr} {sl_l_step_of : Array (Option Value)} {oc_l_step_of kV_l_step_of dc_l_step_of pm_l_step_of cd_l_step_of ct_l_step_of : Value}
    (a_l_step_of : PySem.W.nsIn K mainGlobals "_law_step_of" = some (some (.ref f_l_step_of))) (l_l_step_of : K.lookup f_l_step_of = some ⟨oc_l_step_of, od_l_step_of, .func (PySem.W.fnOf "_law_step_of" "_law_step_of" (defArgs s_l_step_of) (defBody s_l_step_of) (defScope s_l_step_of) .none kV_l_step_of dc_l_step_of pm_l_step_of an_l_step_of cd_l_step_of ct_l_step_of), sl_l_step_of⟩) (c_l_step_of : PySem.W.codeIn K cd_l_step_of "_law_step_of" = true) (k_l_step_of : PySem.W.keepIn K (.ref f_l_step_of) = true)
    {f_l_rows_of : Addr} {od_l_rows_of an_l_rows_of : Option Addr} {sl_l_rows_of : Array (Option Value)} {oc_l_rows_of kV_l_rows_of dc_l_rows_of pm_l_rows_of cd_l_rows_of ct_l_rows_of : Value}
    (a_l_rows_of : PySem.W.nsIn K mainGlobals "_law_rows_of" = some (some (.ref f_l_rows_of))) (l_l_rows_of : K.lookup f_l_rows_of = some ⟨oc_l_rows_of, od_l_rows_of, .func (PySem.W.fnOf "_law_rows_of" "_law_rows_of" (defArgs s_l_rows_of) (defBody s_l_rows_of) (defScope s_l_rows_of) .none kV_l_rows_of dc_l_rows_of pm_l_rows_of an_l_rows_of cd_l_rows_of ct_l_rows_of), sl_l_rows_of⟩) (c_l_rows_of : PySem.W.codeIn K cd_l_rows_of "_law_rows_of" = true) (k_l_rows_of : PySem.W.keepIn K (.ref f_l_rows_of) = true)
    {f_l_marks_of : Addr} {od_l_marks_of an_l_marks_of : Option Addr} {sl_l_marks_of : Array (Option Value)} {oc_l_marks_of kV_l_marks_of dc_l_marks_of pm_l_marks_of cd_l_marks_of ct_l_marks_of : Value}
    (a_l_marks_of : PySem.W.nsIn K mainGlobals "_law_marks_of" = some (some (.ref f_l_marks_of))) (l_l_marks_of : K.lookup f_l_marks_of = some ⟨oc_l_marks_of, od_l_marks_of, .func (PySem.W.fnOf "_law_marks_of" "_law_marks_of" (defArgs s_l_marks_of) (defBody s_l_marks_of) (defScope s_l_marks_of) .none kV_l_marks_of dc_l_marks_of pm_l_marks_of an_l_marks_of cd_l_marks_of ct_l_marks_of), sl_l_marks_of⟩) (c_l_marks_of : PySem.W.codeIn K cd_l_marks_of "_law_marks_of" = true) (k_l_marks_of : PySem.W.keepIn K (.ref f_l_marks_of) = true)
    {f_l_new_number : Addr} {od_l_new_number an_l_new_number : Option Addr} {sl_l_new_number : Array (Option Value)} {oc_l_new_number kV_l_new_number dc_l_new_number pm_l_new_number cd_l_new_number ct_l_new_number : Value}
    (a_l_new_number : PySem.W.nsIn K mainGlobals "_law_new_number" = some (some (.ref f_l_new_number))) (l_l_new_number : K.lookup f_l_new_number = some ⟨oc_l_new_number, od_l_new_number, .func (PySem.W.fnOf "_law_new_number" "_law_new_number" (defArgs s_l_new_number) (defBody s_l_new_number) (defScope s_l_new_number) .none kV_l_new_number dc_l_new_number pm_l_new_number an_l_new_number cd_l_new_number ct_l_new_number), sl_l_new_number⟩) (c_l_new_number : PySem.W.codeIn K cd_l_new_number "_law_new_number" = true) (k_l_new_number : PySem.W.keepIn K (.ref f_l_new_number) = true)
    {f_law : Addr} {od_law an_law : Option Addr} {sl_law : Array (Option Value)} {oc_law kV_law dc_law pm_law cd_law ct_law : Value}
    (a_law : PySem.W.nsIn K mainGlobals "law" = some (some (.ref f_law))) (l_law : K.lookup f_law = some ⟨oc_law, od_law, .func (PySem.W.fnOf "law" "law" (defArgs s_law) (defBody s_law) (defScope s_law) .none kV_law dc_law pm_law an_law cd_law ct_law), sl_law⟩) (c_law : PySem.W.codeIn K cd_law "law" = true) (k_law : PySem.W.keepIn K (.ref f_law) = true)
    (z_len : PySem.W.nsIn K mainGlobals "len" = some none) (z_abs : PySem.W.nsIn K mainGlobals "abs" = some none) (z_isinstance : PySem.W.nsIn K mainGlobals "isinstance" = some none) (z_int : PySem.W.nsIn K mainGlobals "int" = some none) (z_bool : PySem.W.nsIn K mainGlobals "bool" = some none) (z_list : PySem.W.nsIn K mainGlobals "list" = some none) (z_tuple : PySem.W.nsIn K mainGlobals "tuple" = some none) (z_str : PySem.W.nsIn K mainGlobals "str" = some none) (z_range : PySem.W.nsIn K mainGlobals "range" = some none) (z_max : PySem.W.nsIn K mainGlobals "max" = some none) (z_min : PySem.W.nsIn K mainGlobals "min" = some none) (z_sorted : PySem.W.nsIn K mainGlobals "sorted" = some none) (z_set : PySem.W.nsIn K mainGlobals "set" = some none) (z_enumerate : PySem.W.nsIn K mainGlobals "enumerate" = some none) (z_reversed : PySem.W.nsIn K mainGlobals "reversed" = some none) (z_any : PySem.W.nsIn K mainGlobals "any" = some none) :
    ∃ fd : FuncData, (∀ (s : Shared) (v : Value), BindsTo s fd ⟨[v], []⟩ [("_law_script", v)]) ∧ ∀ base : Heap, K.In base → base.Ns mainGlobals mg → FnOk l.prog w K mg base CX0 lawK fa fd ["_law_script"] (spLaw K) := by
  have e := hfa.symm.trans (PySem.W.mg_of X G a_law)
  cases e
  have B : Blt mg := ⟨PySem.W.mg_none_of X G z_len, PySem.W.mg_none_of X G z_abs, PySem.W.mg_none_of X G z_isinstance, PySem.W.mg_none_of X G z_int, PySem.W.mg_none_of X G z_bool, PySem.W.mg_none_of X G z_list, PySem.W.mg_none_of X G z_tuple, PySem.W.mg_none_of X G z_str, PySem.W.mg_none_of X G z_range, PySem.W.mg_none_of X G z_max, PySem.W.mg_none_of X G z_min, PySem.W.mg_none_of X G z_sorted, PySem.W.mg_none_of X G z_set, PySem.W.mg_none_of X G z_enumerate, PySem.W.mg_none_of X G z_reversed, PySem.W.mg_none_of X G z_any⟩
  have D_marked : Def K mg "marked" s_marked p_marked := def_mk (st := s_marked) X G a_marked l_marked c_marked k_marked fun _ _ _ _ _ _ us hl => match us, hl with | [_], _ => rfl
  have D_trimmed : Def K mg "trimmed" s_trimmed p_trimmed := def_mk (st := s_trimmed) X G a_trimmed l_trimmed c_trimmed k_trimmed fun _ _ _ _ _ _ us hl => match us, hl with | [_, _], _ => rfl
  have D_needed_numbers : Def K mg "needed_numbers" s_needed_numbers p_needed_numbers := def_mk (st := s_needed_numbers) X G a_needed_numbers l_needed_numbers c_needed_numbers k_needed_numbers fun _ _ _ _ _ _ us hl => match us, hl with | [_, _], _ => rfl
  have D_l_draw : Def K mg "_law_draw" s_l_draw p_l_draw := def_mk (st := s_l_draw) X G a_l_draw l_l_draw c_l_draw k_l_draw fun _ _ _ _ _ _ us hl => match us, hl with | [_, _, _], _ => rfl
  have D_l_whole : Def K mg "_law_whole" s_l_whole p_l_whole := def_mk (st := s_l_whole) X G a_l_whole l_l_whole c_l_whole k_l_whole fun _ _ _ _ _ _ us hl => match us, hl with | [_], _ => rfl
  have D_l_at : Def K mg "_law_at" s_l_at p_l_at := def_mk (st := s_l_at) X G a_l_at l_l_at c_l_at k_l_at fun _ _ _ _ _ _ us hl => match us, hl with | [_, _], _ => rfl
  have D_l_alike : Def K mg "_law_alike" s_l_alike p_l_alike := def_mk (st := s_l_alike) X G a_l_alike l_l_alike c_l_alike k_l_alike fun _ _ _ _ _ _ us hl => match us, hl with | [_, _], _ => rfl
  have D_l_merge : Def K mg "_law_merge" s_l_merge p_l_merge := def_mk (st := s_l_merge) X G a_l_merge l_l_merge c_l_merge k_l_merge fun _ _ _ _ _ _ us hl => match us, hl with | [_, _, _], _ => rfl
  have D_l_right_step : Def K mg "_law_right_step" s_l_right_step p_l_right_step := def_mk (st := s_l_right_step) X G a_l_right_step l_l_right_step c_l_right_step k_l_right_step fun _ _ _ _ _ _ us hl => match us, hl with | [_, _], _ => rfl
  have D_l_step_of : Def K mg "_law_step_of" s_l_step_of p_l_step_of := def_mk (st := s_l_step_of) X G a_l_step_of l_l_step_of c_l_step_of k_l_step_of fun _ _ _ _ _ _ us hl => match us, hl with | [_, _, _, _], _ => rfl
  have D_l_rows_of : Def K mg "_law_rows_of" s_l_rows_of p_l_rows_of := def_mk (st := s_l_rows_of) X G a_l_rows_of l_l_rows_of c_l_rows_of k_l_rows_of fun _ _ _ _ _ _ us hl => match us, hl with | [_, _, _], _ => rfl
  have D_l_marks_of : Def K mg "_law_marks_of" s_l_marks_of p_l_marks_of := def_mk (st := s_l_marks_of) X G a_l_marks_of l_l_marks_of c_l_marks_of k_l_marks_of fun _ _ _ _ _ _ us hl => match us, hl with | [_, _], _ => rfl
  have D_l_new_number : Def K mg "_law_new_number" s_l_new_number p_l_new_number := def_mk (st := s_l_new_number) X G a_l_new_number l_l_new_number c_l_new_number k_l_new_number fun _ _ _ _ _ _ us hl => match us, hl with | [_, _, _], _ => rfl
  refine ⟨PySem.W.fnOf "law" "law" (defArgs s_law) (defBody s_law) (defScope s_law) .none kV_law dc_law pm_law an_law cd_law ct_law, fun s v => .of_eq rfl, fun base Xb Gb => ?_⟩
  exact ok_law (fun_mk (st := s_law) l_law c_law k_law) B D_marked D_trimmed D_needed_numbers D_l_draw D_l_whole D_l_at D_l_alike D_l_merge D_l_right_step D_l_step_of D_l_rows_of D_l_marks_of D_l_new_number
theorem walk {l : PySem.W.OpenLaw} {q : Program} {loose : List Str} {XP : (Str → Option Value) → Heap → Prop} {YP : World → Heap → Prop} {d : DefRec} {K : Params → PySem.W.Frag} (hn : l.most = some 63) (hdf : d.params.defaults = [])
    (hY : ∀ (w : World) (h : Heap), YP w h → (K w.params).In h)
    (F : ∀ (w : World) (mg : Str → Option Value) (fa : Addr) (h : Heap), (K w.params).In h → h.Ns mainGlobals mg → mg d.name = some (.ref fa) →
      ∃ fd : FuncData, (∀ (s : Shared) (u : Value), BindsTo s fd ⟨[u], []⟩ [("_law_script", u)]) ∧ ∀ base : Heap, (K w.params).In base → base.Ns mainGlobals mg → FnOk l.prog w (K w.params) mg base CX0 lawK fa fd ["_law_script"] (spLaw (K w.params))) :
    PySem.W.WalkO q loose XP YP l.row.toRowW d [] (fun f vs => PySem.call f vs) :=
  L2.walk_of (n := 63) (k := lawK) (x := "_law_script") (CX := fun _ => CX0) (sp := fun w => spLaw (K w.params)) hn (by decide) hdf ⟨rfl, by decide, by decide⟩ hY F (fun _ _ a ns hl _ hS => ⟨a, ns, rfl, hS, hl, fun _ => rfl⟩) fun _ _ _ _ _ z => z
end My
open PySem PySem.W PyProof.Rows
set_option maxRecDepth 100000 in
set_option maxHeartbeats 0 in
theorem PySem.Challenge.cw_lampwish_k09_trimmed_holds : PySem.Challenge.rw_lampwish_k09_trimmed.Holds := by
  w_on; o_law; k_head; (case hw => w_witness2)
  k_fill
  refine My.walk (l := PySem.Challenge.rw_lampwish_k09_trimmed) rfl rfl (fun w h Y => PySem.W.kIn_of Y) ?F
  case F =>
    intro w mg fa h KX G hmg
    refine' My.all_mk KX G hmg ?a_marked ?l_marked ?c_marked ?k_marked ?a_trimmed ?l_trimmed ?c_trimmed ?k_trimmed ?a_needed_numbers ?l_needed_numbers ?c_needed_numbers ?k_needed_numbers ?a_l_draw ?l_l_draw ?c_l_draw ?k_l_draw ?a_l_whole ?l_l_whole ?c_l_whole ?k_l_whole ?a_l_at ?l_l_at ?c_l_at ?k_l_at ?a_l_alike ?l_l_alike ?c_l_alike ?k_l_alike ?a_l_merge ?l_l_merge ?c_l_merge ?k_l_merge ?a_l_right_step ?l_l_right_step ?c_l_right_step ?k_l_right_step ?a_l_step_of ?l_l_step_of ?c_l_step_of ?k_l_step_of ?a_l_rows_of ?l_l_rows_of ?c_l_rows_of ?k_l_rows_of ?a_l_marks_of ?l_l_marks_of ?c_l_marks_of ?k_l_marks_of ?a_l_new_number ?l_l_new_number ?c_l_new_number ?k_l_new_number ?a_law ?l_law ?c_law ?k_law ?z_len ?z_abs ?z_isinstance ?z_int ?z_bool ?z_list ?z_tuple ?z_str ?z_range ?z_max ?z_min ?z_sorted ?z_set ?z_enumerate ?z_reversed ?z_any
    (case a_marked => k_is); (case l_marked => k_is); (case c_marked => k_is); (case k_marked => k_is)
    (case a_trimmed => k_is); (case l_trimmed => k_is); (case c_trimmed => k_is); (case k_trimmed => k_is)
    (case a_needed_numbers => k_is); (case l_needed_numbers => k_is); (case c_needed_numbers => k_is); (case k_needed_numbers => k_is)
    (case a_l_draw => k_is); (case l_l_draw => k_is); (case c_l_draw => k_is); (case k_l_draw => k_is)
    (case a_l_whole => k_is); (case l_l_whole => k_is); (case c_l_whole => k_is); (case k_l_whole => k_is)
    (case a_l_at => k_is); (case l_l_at => k_is); (case c_l_at => k_is); (case k_l_at => k_is)
    (case a_l_alike => k_is); (case l_l_alike => k_is); (case c_l_alike => k_is); (case k_l_alike => k_is)
    (case a_l_merge => k_is); (case l_l_merge => k_is); (case c_l_merge => k_is); (case k_l_merge => k_is)
    (case a_l_right_step => k_is); (case l_l_right_step => k_is); (case c_l_right_step => k_is); (case k_l_right_step => k_is)
    (case a_l_step_of => k_is); (case l_l_step_of => k_is); (case c_l_step_of => k_is); (case k_l_step_of => k_is)
    (case a_l_rows_of => k_is); (case l_l_rows_of => k_is); (case c_l_rows_of => k_is); (case k_l_rows_of => k_is)
    (case a_l_marks_of => k_is); (case l_l_marks_of => k_is); (case c_l_marks_of => k_is); (case k_l_marks_of => k_is)
    (case a_l_new_number => k_is); (case l_l_new_number => k_is); (case c_l_new_number => k_is); (case k_l_new_number => k_is)
    (case a_law => k_is); (case l_law => k_is); (case c_law => k_is); (case k_law => k_is)
    (case z_len => k_is); (case z_abs => k_is); (case z_isinstance => k_is); (case z_int => k_is); (case z_bool => k_is); (case z_list => k_is); (case z_tuple => k_is); (case z_str => k_is); (case z_range => k_is); (case z_max => k_is); (case z_min => k_is); (case z_sorted => k_is); (case z_set => k_is); (case z_enumerate => k_is); (case z_reversed => k_is); (case z_any => k_is)
#print axioms PySem.Challenge.cw_lampwish_k09_trimmed_holds
