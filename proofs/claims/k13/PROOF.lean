import PyProof.Rows.All
import Wide.All
import OpenK.AllK
import Wide.FinOn
import Lean
import PyProof.EqAt
import PyProof.EqKinds
import PyProof.TupleCall
import PySem.Challenge.RW_lampwish_k13_whole_sheet
set_option Elab.async false
set_option linter.all false
set_option maxRecDepth 100000
set_option maxHeartbeats 4000000
namespace L2
open PySem PySem.Spec PyProof.Rows
abbrev Key := Sum Int Str
def keyIs : Key → Value → Bool
  | .inl k, v => Value.isInt k v
  | .inr x, v => Value.isStrOf x v
def keyH (w : World) : Key → Int
  | .inl k => hashInt k
  | .inr x => hashStr w x
theorem keyIs_shape : ∀ {k : Key} {v : Value}, keyIs k v = true → (∃ i t, k = Sum.inl i ∧ v = Value.int i t) ∨ (∃ x t, k = Sum.inr x ∧ v = Value.str x t)
  | .inl i, v, h => by
    obtain ⟨t, e⟩ := Value.isInt_shape (k := i) (v := v) h
    exact .inl ⟨i, t, rfl, e⟩
  | .inr x, v, h => by
    obtain ⟨t, e⟩ := Value.isStrOf_shape (x := x) (v := v) h
    exact .inr ⟨x, t, rfl, e⟩
theorem key_ll (a b : Int) : decide ((Sum.inl a : Key) = Sum.inl b) = (a == b) := by
  by_cases e : a = b
  · subst e; simp
  · have h : ¬ (Sum.inl a : Key) = Sum.inl b := fun q => e (Sum.inl.inj q)
    rw [decide_eq_false h]
    exact (beq_eq_false_iff_ne.mpr e).symm
theorem key_rr (a b : Str) : decide ((Sum.inr a : Key) = Sum.inr b) = decide (a = b) := by
  by_cases e : a = b
  · subst e; simp
  · have h : ¬ (Sum.inr a : Key) = Sum.inr b := fun q => e (Sum.inr.inj q)
    rw [decide_eq_false h, decide_eq_false e]
theorem key_lr (a : Int) (b : Str) : decide ((Sum.inl a : Key) = Sum.inr b) = false := decide_eq_false (fun q => nomatch q)
theorem key_rl (a : Str) (b : Int) : decide ((Sum.inr a : Key) = Sum.inl b) = false := decide_eq_false (fun q => nomatch q)
def mixKind (prog : Program) (w : World) : PySem.KeyKind prog w Key where
  is := keyIs
  hash := keyH w
  inj := fun v a b ha hb => by
    rcases keyIs_shape ha with ⟨i, t, rfl, rfl⟩ | ⟨x, t, rfl, rfl⟩
    · rcases keyIs_shape hb with ⟨j, u, rfl, e⟩ | ⟨y, u, rfl, e⟩
      · injection e with e1 _; rw [e1]
      · exact nomatch e
    · rcases keyIs_shape hb with ⟨j, u, rfl, e⟩ | ⟨y, u, rfl, e⟩
      · exact nomatch e
      · injection e with e1 _; rw [e1]
  byValue := fun k v h => by
    rcases keyIs_shape h with ⟨i, t, rfl, rfl⟩ | ⟨x, t, rfl, rfl⟩ <;> rfl
  pyHash := fun hv h => by
    rcases keyIs_shape hv with ⟨i, t, rfl, rfl⟩ | ⟨x, t, rfl, rfl⟩
    · exact wpAny_pyHash_int h
    · exact wpAny_pyHash_str h
  eqBool := fun hu hv h => by
    rcases keyIs_shape hu with ⟨i, t, rfl, rfl⟩ | ⟨x, t, rfl, rfl⟩
    · rcases keyIs_shape hv with ⟨j, u, rfl, rfl⟩ | ⟨y, u, rfl, rfl⟩
      · rw [key_ll] at h; exact wpAny_eqBool_int h
      · rw [key_lr] at h; exact SeqAt.EqAt.int_str i t y u _ _ _ _ h
    · rcases keyIs_shape hv with ⟨j, u, rfl, rfl⟩ | ⟨y, u, rfl, rfl⟩
      · rw [key_rl] at h; exact SeqAt.EqAt.str_int x t j u _ _ _ _ h
      · rw [key_rr] at h; exact wpAny_eqBool_str h
  «strs» := fun k x t v h => by
    rcases keyIs_shape h with ⟨i, u, rfl, e⟩ | ⟨y, u, rfl, e⟩
    · exact nomatch e
    · injection e with e1 _
      subst e1
      cases v <;> rfl
end L2
namespace L2
open PySem PySem.Spec PyProof.Rows
inductive V where
  | non | bl (b : Bool) | int (i : Int) | str (x : Str) | byt (b : Array UInt8) | flt (b : UInt64) | ref (a : Addr) | ty (n : String)
  deriving DecidableEq
def RelV : V → Value → Prop
  | .non, u => u = Value.none
  | .bl b, u => u = Value.bool b
  | .int i, u => ∃ t, u = Value.int i t
  | .str x, u => ∃ t, u = Value.str x t
  | .byt b, u => ∃ t, u = Value.bytes b t
  | .flt b, u => ∃ t, u = Value.float b t
  | .ref a, u => u = Value.ref a
  | .ty n, u => u = Value.type n
abbrev Vals : List V → List Value → Prop := Paired RelV
theorem Vals.length {xs : List V} {us : List Value} (r : Vals xs us) : xs.length = us.length := Paired.length r
theorem Vals.get : ∀ {xs : List V} {us : List Value} {i : Nat} {x : V}, Vals xs us → xs[i]? = some x → ∃ u, us[i]? = some u ∧ RelV x u
  | _, _, _, _, .nil, e => by simp at e
  | _, _, 0, _, .cons r _, e => by simp at e; subst e; exact ⟨_, rfl, r⟩
  | _, _, i + 1, x, .cons _ t, e => by
    obtain ⟨u, h1, h2⟩ := Vals.get (i := i) (x := x) t (by simpa using e)
    exact ⟨u, by simpa using h1, h2⟩
theorem Vals.set {x : V} {u : Value} (r : RelV x u) : ∀ {xs : List V} {us : List Value} (i : Nat), Vals xs us → Vals (xs.set i x) (us.set i u)
  | _, _, _, .nil => .nil
  | _, _, 0, .cons _ t => .cons r t
  | _, _, i + 1, .cons q t => .cons q (Vals.set r i t)
theorem Vals.append : ∀ {xs ys : List V} {us ws : List Value}, Vals xs us → Vals ys ws → Vals (xs ++ ys) (us ++ ws)
  | _, _, _, _, .nil, s => s
  | _, _, _, _, .cons r t, s => .cons r (Vals.append t s)
theorem Vals.take : ∀ {xs : List V} {us : List Value} (n : Nat), Vals xs us → Vals (xs.take n) (us.take n)
  | _, _, 0, _ => .nil
  | _, _, _ + 1, .nil => .nil
  | _, _, n + 1, .cons r t => .cons r (Vals.take n t)
theorem Vals.drop : ∀ {xs : List V} {us : List Value} (n : Nat), Vals xs us → Vals (xs.drop n) (us.drop n)
  | _, _, 0, r => r
  | _, _, _ + 1, .nil => .nil
  | _, _, n + 1, .cons _ t => Vals.drop n t
def RelO : Option V → Option Value → Prop
  | some v, some u => RelV v u
  | none, none => True
  | _, _ => False
def KV {κ : Type} : List (κ × V) → List (κ × Value) → Prop := Paired fun (p : κ × V) (q : κ × Value) => p.1 = q.1 ∧ RelV p.2 q.2
def kV : Key → V
  | .inl i => .int i
  | .inr x => .str x
inductive HO where
  | lst (xs : List V)
  | tup (xs : List V)
  | dK (kvs : List (Key × V)) | dT (kvs : List (List Key × V))
  | set (S : Int → Bool) (n : Nat)
  | ins (C dx : Addr) (fs : List (Str × V))
  | own (x : Addr)
  | xd (fs : List (Str × V))
  | met (f x : Addr)
  | rng (lo hi : Int)
  | frz (o : Obj) (u : HO)
  | tbl (ps : Array Value)
  | ext (φ : Heap → Prop)
abbrev Hp := Addr → Option HO
def upd (H : Hp) (a : Addr) (o : HO) : Hp := fun b => if b = a then some o else H b
theorem upd_same {H : Hp} {a : Addr} {o : HO} : upd H a o a = some o := by unfold upd; rw [if_pos rfl]
theorem upd_ne {H : Hp} {a b : Addr} {o : HO} (h : b ≠ a) : upd H a o b = H b := by unfold upd; rw [if_neg h]
theorem ne_of {H : Hp} {a b : Addr} {o u : HO} (h : H a = some o) (h' : H b = some u) (d : o ≠ u) : a ≠ b := by
  intro e; subst e; rw [h] at h'; exact d (Option.some.inj h')
theorem ne_of_none {H : Hp} {a b : Addr} {o : HO} (h : H a = some o) (h' : H b = none) : a ≠ b := by
  intro e; subst e; rw [h] at h'; cases h'
section
variable (P : Program) (w : World)
def ObjOk (H : Hp) (h : Heap) (a : Addr) : HO → Prop
  | .lst xs => xs.length ≤ sizeLine ∧ ∃ (its : List Value) (n : Nat), Vals xs its ∧ h.get? a = some { cls := .type "list", data := .seq its.toArray n }
  | .tup xs => xs.length ≤ sizeLine ∧ ∃ its : List Value, Vals xs its ∧ IsTup h a its.toArray
  | .dK kvs => kvs.length ≤ sizeLine ∧ (a == sysModules) = false ∧ ∃ vs, KV kvs vs ∧ h.DictOf (mixKind P w) a vs
  | .dT kvs => kvs.length ≤ sizeLine ∧ (a == sysModules) = false ∧ ∃ xs : List (List Key × Addr × Value),
      Paired (fun (p : List Key × V) (q : List Key × Addr × Value) => p.1 = q.1 ∧ H q.2.1 = some (.tup (p.1.map kV)) ∧ RelV p.2 q.2.2) kvs xs ∧
      ∃ o es ep, h.get? a = some o ∧ o.ExactDict ∧ o.data = .dict es ep ∧ es.toList = xs.map (entryOfKey (tupleKind (mixKind P w))) ∧ (xs.map (·.1)).Nodup
  | .set S n => h.SetOf (intKind P w) a S n
  | .ins C dx fs => H dx = some (.own a) ∧ fs.length ≤ 1000 ∧ dx ≠ a ∧ h.get? a = some (PySem.W.instObj C dx) ∧
      ∃ mA, h.Ns1 dx mA ∧ (∀ f, RelO (fs.lookup f) (mA f)) ∧ PySem.Within mA (fs.map (·.1))
  | .own _ => ∃ o, h.get? a = some o
  | .xd fs => ∃ mA, h.Ns1 a mA ∧ ∀ f, RelO (fs.lookup f) (mA f)
  | .rng lo hi => ∃ t u v, h.get? a = some { cls := .type "range", data := .fields #[.int lo t, .int hi u, .int 1 v] }
  | .frz o u => h.get? a = some o ∧ ObjOk H h a u
  | .tbl ps => h.get? a = some { cls := .none, data := .fields ps }
  | .met f x => h.get? a = some (PySem.W.methodObj (.ref f) (.ref x))
  | .ext φ => φ h ∧ (∃ o, h.get? a = some o) ∧ ∀ h1 h2 : Heap, φ h1 → (∀ o, h1.get? a = some o → h2.get? a = some o) → φ h2
def HOk (H : Hp) (h : Heap) : Prop := ∀ a o, H a = some o → ObjOk P w H h a o
end
section
variable {P : Program} {w : World} {H H' : Hp} {h h' : Heap} {a : Addr} {o : HO}
theorem ObjOk.lt (x : ObjOk P w H h a o) : a < h.objs.size := by
  cases o with
  | lst xs => obtain ⟨_, _, _, _, e⟩ := x; exact Heap.lt_size e
  | tup xs => obtain ⟨_, _, _, p⟩ := x; exact p.lt
  | dK kvs => obtain ⟨_, _, _, _, o, _, _, e, _⟩ := x; exact Heap.lt_size e
  | dT kvs => obtain ⟨_, _, _, _, o, _, _, e, _⟩ := x; exact Heap.lt_size e
  | set S n => obtain ⟨o, _, _, _, e, _⟩ := x; exact Heap.lt_size e
  | ins C dx fs => obtain ⟨_, _, _, e, _⟩ := x; exact Heap.lt_size e
  | own y => obtain ⟨_, e⟩ := x; exact Heap.lt_size e
  | xd fs => obtain ⟨_, ⟨_, _, _, e, _⟩, _⟩ := x; exact Heap.lt_size e
  | rng lo hi => obtain ⟨_, _, _, e⟩ := x; exact Heap.lt_size e
  | frz ob u => obtain ⟨e, _⟩ := x; exact Heap.lt_size e
  | tbl ps => exact Heap.lt_size (show h.get? a = some _ from x)
  | met f y => exact Heap.lt_size (show h.get? a = some _ from x)
  | ext φ => obtain ⟨_, ⟨_, e⟩, _⟩ := x; exact Heap.lt_size e
theorem Paired.mapP {α β : Type} {F G : α → β → Prop} : ∀ {l₁ : List α} {l₂ : List β}, Paired F l₁ l₂ → (∀ a b, F a b → G a b) → Paired G l₁ l₂
  | _, _, .nil, _ => .nil
  | _, _, .cons r t, f => .cons (f _ _ r) (Paired.mapP t f)
theorem ObjOk.stay (x : ObjOk P w H h a o) (k : ∀ b u, (b = a ∨ H b = some (.own a)) → h.get? b = some u → h'.get? b = some u)
    (ho : ∀ b, H b = some (.own a) → H' b = some (.own a)) (ht : ∀ b xs, H b = some (.tup xs) → H' b = some (.tup xs)) : ObjOk P w H' h' a o := by
  induction o with
  | lst xs => obtain ⟨z, its, n, r, e⟩ := x; exact ⟨z, its, n, r, k _ _ (.inl rfl) e⟩
  | tup xs => obtain ⟨z, its, r, ob, e, c⟩ := x; exact ⟨z, its, r, ob, k _ _ (.inl rfl) e, c⟩
  | dK kvs => obtain ⟨z, y, vs, r, ob, es, ep, e, c⟩ := x; exact ⟨z, y, vs, r, ob, es, ep, k _ _ (.inl rfl) e, c⟩
  | dT kvs =>
    obtain ⟨z, y, xs, r, ob, es, ep, e, c⟩ := x
    exact ⟨z, y, xs, Paired.mapP r fun p q z => ⟨z.1, ht _ _ z.2.1, z.2.2⟩, ob, es, ep, k _ _ (.inl rfl) e, c⟩
  | set S n => obtain ⟨ob, es, ep, t, e, c⟩ := x; exact ⟨ob, es, ep, t, k _ _ (.inl rfl) e, c⟩
  | ins C dx fs =>
    obtain ⟨d, z, ne, e, mA, ⟨od, es, ep, e2, c⟩, r⟩ := x
    exact ⟨ho _ d, z, ne, k _ _ (.inl rfl) e, mA, ⟨od, es, ep, k _ _ (.inr d) e2, c⟩, r⟩
  | own y => obtain ⟨ob, e⟩ := x; exact ⟨ob, k _ _ (.inl rfl) e⟩
  | xd fs => obtain ⟨mA, ⟨od, es, ep, e, c⟩, r⟩ := x; exact ⟨mA, ⟨od, es, ep, k _ _ (.inl rfl) e, c⟩, r⟩
  | rng lo hi => obtain ⟨t, u, v, e⟩ := x; exact ⟨t, u, v, k _ _ (.inl rfl) e⟩
  | frz ob u ih => obtain ⟨e, q⟩ := x; exact ⟨k _ _ (.inl rfl) e, ih q⟩
  | tbl ps =>
    have e : h.get? a = some { cls := .none, data := .fields ps } := x
    show h'.get? a = some { cls := .none, data := .fields ps }
    exact k a _ (.inl rfl) e
  | met f y =>
    have e : h.get? a = some (PySem.W.methodObj (.ref f) (.ref y)) := x
    show h'.get? a = some (PySem.W.methodObj (.ref f) (.ref y))
    exact k a _ (.inl rfl) e
  | ext φ => obtain ⟨p, ⟨o, e⟩, st⟩ := x; exact ⟨st _ _ p fun o q => k _ _ (.inl rfl) q, ⟨o, k _ _ (.inl rfl) e⟩, st⟩
theorem HOk.lt (x : HOk P w H h) (e : H a = some o) : a < h.objs.size := (x a o e).lt
theorem HOk.fresh (x : HOk P w H h) (e : h.objs.size ≤ a) : H a = none := by
  cases q : H a with
  | none => rfl
  | some u => exact absurd (Nat.lt_of_lt_of_le (x.lt q) e) (Nat.lt_irrefl _)
theorem HOk.kept (x : HOk P w H h) (k : ∀ b u, h.get? b = some u → h'.get? b = some u) : HOk P w H h' := fun a o e =>
  (x a o e).stay (fun b u _ q => k b u q) (fun _ q => q) fun _ _ q => q
theorem HOk.laid (x : HOk P w H h) (k : ∀ b u, h.get? b = some u → h'.get? b = some u) (hp : h.objs.size ≤ a) (new : ObjOk P w (upd H a o) h' a o) : HOk P w (upd H a o) h' := fun b u e => by
  have hn := x.fresh hp
  by_cases hb : b = a
  · subst hb; rw [upd_same] at e; cases e; exact new
  · rw [upd_ne hb] at e
    exact (x b u e).stay (fun c v _ q => k c v q) (fun c q => by rw [upd_ne (ne_of_none q hn)]; exact q) fun c xs q => by rw [upd_ne (ne_of_none q hn)]; exact q
end
def Rd (H : Hp) (a : Addr) (u : HO) : Prop := H a = some u ∨ ∃ o, H a = some (.frz o u)
theorem Rd.of {H : Hp} {a : Addr} {u : HO} (h : H a = some u) : Rd H a u := .inl h
theorem Rd.ok {P : Program} {w : World} {H : Hp} {h : Heap} {a : Addr} {u : HO} (r : Rd H a u) (x : HOk P w H h) : ObjOk P w H h a u := by
  rcases r with r | ⟨o, r⟩
  · exact x a u r
  · obtain ⟨_, q⟩ := x a _ r
    exact q
def Mut : Option HO → Prop
  | some (.lst _) => True
  | some (.dK _) => True
  | some (.dT _) => True
  | some (.set _ _) => True
  | some (.ins _ _ _) => True
  | some (.ext _) => True
  | _ => False
section
variable {P : Program} {w : World} {H : Hp} {h h' : Heap} {x e : Addr} {o' : HO}
theorem HOk.write (ok : HOk P w H h) (mu : Mut (H x)) (he : e = x ∨ H e = some (.own x)) (k : ∀ b u, b ≠ e → h.get? b = some u → h'.get? b = some u) (heo : ∃ u, h'.get? e = some u)
    (new : ObjOk P w (upd H x o') h' x o') : HOk P w (upd H x o') h' := fun b u q => by
  have nown : ∀ c y, H c = some (.own y) → c ≠ x := fun c y r z => by subst z; rw [r] at mu; exact mu
  have ntup : ∀ c xs, H c = some (.tup xs) → c ≠ x := fun c xs r z => by subst z; rw [r] at mu; exact mu
  by_cases hb : b = x
  · subst hb; rw [upd_same] at q; cases q; exact new
  · rw [upd_ne hb] at q
    by_cases hbe : b = e
    · have q' : H b = some (.own x) := by
        rcases he with z | z
        · exact absurd (hbe.trans z) hb
        · rw [hbe]; exact z
      rw [q] at q'; cases q'
      obtain ⟨v, hv⟩ := heo
      exact ⟨v, by rw [hbe]; exact hv⟩
    · refine (ok b u q).stay (fun c v hc r => k c v ?_ r) (fun c r => by rw [upd_ne (nown c b r)]; exact r) fun c xs r => by rw [upd_ne (ntup c xs r)]; exact r
      rcases hc with rfl | hc
      · exact hbe
      · rintro rfl
        rcases he with z | z
        · exact nown c b hc z
        · rw [hc] at z; cases z; exact hb rfl
end
structure Un (fs ex : List Addr) (H H' : Hp) (h h' : Heap) : Prop where
  keep : ∀ b o, h.get? b = some o → H b = none → b ∉ fs → b ∉ ex → h'.get? b = some o
  slot : ∀ b o, h.get? b = some o → H b = none → b ∈ fs → b ∉ ex → ∃ sl, h'.get? b = some { o with slots := sl }
  free : ∀ b o, h.get? b = some o → H b = none → b ∉ ex → H' b = none
  there : ∀ b o, h.get? b = some o → b ∉ ex → ∃ o', h'.get? b = some o'
  tups : ∀ b xs, H b = some (.tup xs) → H' b = some (.tup xs)
  frzs : ∀ b o u, H b = some (.frz o u) → H' b = some (.frz o u)
  tbls : ∀ b ps, H b = some (.tbl ps) → ∃ more, H' b = some (.tbl (ps ++ more))
section
variable {fs fs' ex ex' : List Addr} {H H1 H2 : Hp} {h h1 h2 h' : Heap} {a x e : Addr} {o : HO}
theorem Un.any (u : Un fs ex H H1 h h1) {b : Addr} {ob : Obj} (q : h.get? b = some ob) (n : H b = none) (hx : b ∉ ex) : ∃ sl, h1.get? b = some { ob with slots := sl } := by
  by_cases hb : b ∈ fs
  · exact u.slot b ob q n hb hx
  · exact ⟨ob.slots, u.keep b ob q n hb hx⟩
theorem Un.trans (a : Un fs ex H H1 h h1) (b : Un fs ex H1 H2 h1 h2) : Un fs ex H H2 h h2 where
  keep := fun c ob q n hc hx => b.keep c ob (a.keep c ob q n hc hx) (a.free c ob q n hx) hc hx
  slot := fun c ob q n hc hx => by
    obtain ⟨sl, e1⟩ := a.slot c ob q n hc hx
    obtain ⟨sl', e2⟩ := b.slot c _ e1 (a.free c ob q n hx) hc hx
    exact ⟨sl', e2⟩
  free := fun c ob q n hx => by
    obtain ⟨o', e1⟩ := a.there c ob q hx
    exact b.free c o' e1 (a.free c ob q n hx) hx
  there := fun c ob q hx => by
    obtain ⟨o', e1⟩ := a.there c ob q hx
    exact b.there c o' e1 hx
  tups := fun c xs q => b.tups c xs (a.tups c xs q)
  frzs := fun c ob xs q => b.frzs c ob xs (a.frzs c ob xs q)
  tbls := fun c ps q => by
    obtain ⟨m1, e1⟩ := a.tbls c ps q
    obtain ⟨m2, e2⟩ := b.tbls c _ e1
    exact ⟨m1 ++ m2, by rw [e2, Array.append_assoc]⟩
theorem Un.kept (k : ∀ b u, h.get? b = some u → h'.get? b = some u) : Un fs ex H H h h' :=
  ⟨fun b ob q _ _ _ => k b ob q, fun b ob q _ _ _ => ⟨ob.slots, k b ob q⟩, fun _ _ _ n _ => n, fun b ob q _ => ⟨ob, k b ob q⟩, fun _ _ q => q, fun _ _ _ q => q, fun _ ps q => ⟨#[], by rw [q]; simp⟩⟩
theorem Un.refl : Un fs ex H H h h := Un.kept fun _ _ q => q
theorem Un.laid (k : ∀ b u, h.get? b = some u → h'.get? b = some u) (hp : h.objs.size ≤ a) (hn : H a = none) : Un fs ex H (upd H a o) h h' where
  keep := fun b u q _ _ _ => k b u q
  slot := fun b u q _ _ _ => ⟨u.slots, k b u q⟩
  free := fun b u q n _ => by rw [upd_ne (Nat.ne_of_lt (Nat.lt_of_lt_of_le (Heap.lt_size q) hp))]; exact n
  there := fun b u q _ => ⟨u, k b u q⟩
  tups := fun b xs q => by rw [upd_ne (ne_of_none q hn)]; exact q
  frzs := fun b u xs q => by rw [upd_ne (ne_of_none q hn)]; exact q
  tbls := fun b ps q => ⟨#[], by rw [upd_ne (ne_of_none q hn), q]; simp⟩
theorem Un.write (mu : Mut (H x)) (he : e = x ∨ H e = some (.own x)) (k : ∀ b u, b ≠ e → h.get? b = some u → h'.get? b = some u) (heo : ∃ u, h'.get? e = some u) : Un fs ex H (upd H x o) h h' := by
  have hx : ∀ b, H b = none → b ≠ x := fun b n z => by subst z; rw [n] at mu; exact mu
  have hb : ∀ b, H b = none → b ≠ e := fun b n z => by
    subst z
    rcases he with r | r
    · exact hx b n r
    · rw [n] at r; cases r
  have hm : ∀ b u, H b = some u → ¬ Mut (some u) → b ≠ x := fun b u q nm z => by subst z; rw [q] at mu; exact nm mu
  refine ⟨fun b u q n _ _ => k b u (hb b n) q, fun b u q n _ _ => ⟨u.slots, k b u (hb b n) q⟩, fun b u q n _ => by rw [upd_ne (hx b n)]; exact n, fun b u q _ => ?_,
    fun b xs q => by rw [upd_ne (hm b _ q fun z => z)]; exact q, fun b u xs q => by rw [upd_ne (hm b _ q fun z => z)]; exact q, fun b ps q => ⟨#[], by rw [upd_ne (hm b _ q fun z => z), q]; simp⟩⟩
  by_cases hbe : b = e
  · subst hbe; exact heo
  · exact ⟨u, k b u hbe q⟩
theorem Un.mono (u : Un fs ex H H1 h h1) (hs : ∀ b ∈ fs, b ∈ fs') (hx : ∀ b ∈ ex, b ∈ ex') : Un fs' ex' H H1 h h1 :=
  ⟨fun b ob q n hb he => u.keep b ob q n (fun z => hb (hs b z)) fun z => he (hx b z), fun _ _ q n _ he => u.any q n fun z => he (hx _ z), fun b ob q n he => u.free b ob q n fun z => he (hx b z), fun b ob q he => u.there b ob q fun z => he (hx b z), u.tups, u.frzs, u.tbls⟩
end
def trk (h : Heap) (H : Hp) : List Addr := (List.range h.objs.size).filter fun a => (H a).isSome
def hidT (h : Heap) (H : Hp) : Heap := PySem.W.hideAll h (trk h H)
theorem hidT_size (h : Heap) (H : Hp) : (hidT h H).objs.size = h.objs.size := PySem.W.hideAll_size _ _
theorem hidT_get {h : Heap} {H : Hp} {b : Addr} {o : Obj} (e : h.get? b = some o) (n : H b = none) : (hidT h H).get? b = some o :=
  PySem.W.hideAll_get _ e fun hm => by
    have q : (H b).isSome = true := (List.mem_filter.mp hm).2
    rw [n] at q; simp at q
theorem of_hidT {h : Heap} {H : Hp} {b : Addr} {o : Obj} (e : (hidT h H).get? b = some o) : h.get? b = some o ∧ H b = none := by
  have e' : h.get? b = some o := PySem.W.of_hideAll (trk h H) e
  refine ⟨e', ?_⟩
  cases q : H b with
  | none => rfl
  | some x =>
    have hm : b ∈ trk h H := List.mem_filter.mpr ⟨List.mem_range.mpr (Heap.lt_size e'), by simp [q]⟩
    have z : (hidT h H).get? b = none := PySem.W.hideAll_none (trk h H) hm
    rw [z] at e; cases e
def allNews (g h : Heap) (L : Addr) : List (Addr × Obj) := (List.range h.objs.size).filterMap fun a => if a = L ∨ (g.get? a).isSome = true then none else (h.get? a).map fun o => (a, o)
def rest (g h : Heap) (L d : Addr) : List (Addr × Obj) := (allNews g h L).filter fun p => decide (p.1 ≠ d)
end L2
namespace L2
open PySem PySem.Spec PyProof.Rows
structure Mod (K : PySem.W.Frag) (mg : Str → Option Value) (base : Heap) : Prop where
  kin : K.In base
  glob : base.Ns mainGlobals mg
  blt : ∃ mb, base.Ns builtinsNs mb ∧ ∀ x : Str, x ≠ "__name__" → mb x = bootBuiltins x
  nolimit : base.NoLimit
structure Cx where
  prog : Program
  w : World
  K : PySem.W.Frag
  mg : Str → Option Value
  base : Heap
  A : Around
  N : List Str
  s₀ : Shared
  H₀ : Hp
  env : Env
  outer : List Env
  stack : List Env
  ex : List Addr
  fn : Str → Bool
  calm : Bool
  pn : List (Addr × Obj)
  xe : Value → Shared → Prop
def frs (l : List Env) : List Addr := l.filterMap (·.frame)
abbrev Cx.fs (X : Cx) : List Addr := frs X.outer
def Vis (sc : Scope) (x : Str) : Prop := sc.names.lookup x = some .local ∨ sc.names.lookup x = some .cell ∨ sc.names.lookup x = some .free
def Loc (sc : Scope) (x : Str) : Prop := sc.names.lookup x = some .local ∨ sc.names.lookup x = some .cell
def Look (env : Env) (h : Heap) (m : Str → Option Value) (x : Str) (u : Value) : Prop :=
  (env.kindOf x = some .local ∧ m x = some u) ∨ ((env.kindOf x = some .cell ∨ env.kindOf x = some .free) ∧ ∃ c, env.cells.lookup x = some c ∧ h.IsCell c (some u))
structure Cx.Ok (X : Cx) : Prop where
  mod : Mod X.K X.mg X.base
  kind : X.env.scope.kind = .function
  glob : X.env.globals = mainGlobals
  blt : X.env.builtins = builtinsNs
  above : X.s₀.heap.objs.size ≤ X.env.locals
  inj : ∀ x y c, X.env.cells.lookup x = some c → X.env.cells.lookup y = some c → x = y
  has : ∀ x, (X.env.kindOf x = some .cell ∨ X.env.kindOf x = some .free) → ∃ c, X.env.cells.lookup x = some c
  cab : ∀ x c, X.fn x = true → X.env.cells.lookup x = some c → X.s₀.heap.objs.size ≤ c
  hd : X.calm = true → X.A.handled = none
  frames : X.A.frames = some X.stack
  stk : X.stack = X.outer ∨ (X.stack = X.env :: X.outer ∧ X.env.frame = some X.env.locals)
  exf : ∀ b ∈ X.ex, b ≠ X.env.locals ∧ ∀ x c, X.env.cells.lookup x = some c → c ≠ b
  bs : ∀ b o, X.base.get? b = some o → X.s₀.heap.get? b = some o ∧ X.H₀ b = none
  bsz : X.base.objs.size ≤ X.s₀.heap.objs.size
  noex : ∀ b o, X.base.get? b = some o → b ∉ X.ex
  exfs : ∀ b ∈ X.ex, b ∉ X.fs
  funs : X.s₀.heap.FunFrames X.base X.outer
  frf : ∀ b ∈ X.fs, X.H₀ b = none
structure Inv (X : Cx) (pins : List (Addr × Obj)) (σ : List (Option V)) (H : Hp) (s : Shared) : Prop where
  ok : X.Ok
  os : s.os = X.s₀.os
  bare : AllBare s.gens
  base : Un X.fs X.ex X.H₀ H X.s₀.heap s.heap
  loc : ∃ m, s.heap.Ns X.env.locals m ∧ ∀ (i : Nat) (x : Str) (v : V), X.N[i]? = some x → σ[i]? = some (some v) → Vis X.env.scope x → ∃ u, RelV v u ∧ Look X.env s.heap m x u
  cell : ∀ x c, X.env.cells.lookup x = some c → ∃ v, s.heap.IsCell c v
  free : H X.env.locals = none
  freeC : ∀ x c, X.env.cells.lookup x = some c → H c = none
  pin : ∀ p ∈ X.pn ++ pins, s.heap.get? p.1 = some p.2 ∧ H p.1 = none ∧ p.1 ≠ X.env.locals ∧ p.1 ∉ X.fs ∧ ∀ v, p.2.data ≠ .cell v
  hok : HOk X.prog X.w H s.heap
  len : σ.length = X.N.length
section
variable {X : Cx} {pins : List (Addr × Obj)} {σ : List (Option V)} {H H' : Hp} {s : Shared} {h' : Heap}
theorem Cx.Ok.nofr (ok : X.Ok) {b : Addr} {o : Obj} (e : X.base.get? b = some o) : b ∉ X.fs := fun hb => by
  have := (ok.funs.mem hb).1
  rw [e] at this; cases this
theorem Inv.bs (I : Inv X pins σ H s) : ∀ b o, X.base.get? b = some o → s.heap.get? b = some o ∧ H b = none := fun b o e =>
  ⟨I.base.keep b o (I.ok.bs b o e).1 (I.ok.bs b o e).2 (I.ok.nofr e) (I.ok.noex b o e), I.base.free b o (I.ok.bs b o e).1 (I.ok.bs b o e).2 (I.ok.noex b o e)⟩
theorem Inv.bk (I : Inv X pins σ H s) : ∀ b o, X.base.get? b = some o → s.heap.get? b = some o := fun b o e => (I.bs b o e).1
theorem Inv.mod (I : Inv X pins σ H s) : Mod X.K X.mg X.base := I.ok.mod
theorem Inv.kIn (I : Inv X pins σ H s) : X.K.In s.heap := I.ok.mod.kin.keeps I.bk
theorem Inv.nolimit (I : Inv X pins σ H s) : s.heap.NoLimit := I.ok.mod.nolimit.keeps I.bk
theorem Inv.fr (I : Inv X pins σ H s) : ∃ m, Fr X.base X.env.locals s.heap m :=
  let ⟨m, hn, _⟩ := I.loc
  ⟨m, hn, I.bk, Nat.le_trans I.ok.bsz I.ok.above⟩
theorem Inv.lt (I : Inv X pins σ H s) : X.env.locals < s.heap.objs.size := let ⟨_, hn, _⟩ := I.loc; hn.lt
theorem Inv.sz (I : Inv X pins σ H s) : X.s₀.heap.objs.size ≤ s.heap.objs.size := Nat.le_trans I.ok.above (Nat.le_of_lt I.lt)
theorem Inv.nofs (I : Inv X pins σ H s) {a : Addr} (h : s.heap.objs.size ≤ a) : a ∉ X.fs := fun hb => by
  obtain ⟨_, o, ho, _⟩ := I.ok.funs.mem hb
  exact absurd (Nat.lt_of_lt_of_le (Heap.lt_size ho) (Nat.le_trans I.sz h)) (Nat.lt_irrefl _)
theorem Inv.cne (I : Inv X pins σ H s) : ∀ x c, X.env.cells.lookup x = some c → c ≠ X.env.locals := fun x c e z => by
  obtain ⟨v, o, ho, hd⟩ := I.cell x c e
  obtain ⟨m, ⟨o', es, ep, ho', hd', _⟩, _⟩ := I.loc
  rw [z, ho'] at ho; cases ho; rw [hd'] at hd; cases hd
theorem Inv.funs (I : Inv X pins σ H s) : s.heap.FunFrames X.base X.outer := by
  have all : ∀ (l : List Env), (∀ b ∈ frs l, b ∈ X.fs) → X.s₀.heap.FunFrames X.base l → s.heap.FunFrames X.base l := by
    intro l
    induction l with
    | nil => intro _ _; trivial
    | cons env r ih =>
      intro hs hl
      obtain ⟨hk, ⟨L, o, hf, hn, ho, hd⟩, hr⟩ := hl
      have hL : L ∈ X.fs := hs L (by unfold frs; rw [List.filterMap_cons, hf]; exact List.mem_cons_self)
      obtain ⟨sl, e⟩ := I.base.slot L o ho (I.ok.frf L hL) hL fun z => I.ok.exfs L z hL
      exact ⟨hk, ⟨L, _, hf, hn, e, hd⟩, ih (fun b hb => hs b (by unfold frs; rw [List.filterMap_cons, hf]; exact List.mem_cons_of_mem _ hb)) hr⟩
  exact all X.outer (fun _ hb => hb) I.ok.funs
theorem Inv.stack (I : Inv X pins σ H s) : s.heap.FunFrames X.base X.stack := by
  rcases I.ok.stk with e | ⟨e, hf⟩
  · rw [e]; exact I.funs
  · rw [e]
    obtain ⟨m, hn, _⟩ := I.loc
    refine .cons (by rw [I.ok.kind]; decide) hf hn ?_ I.funs
    exact Heap.get?_none_of_le (Nat.le_trans I.ok.bsz I.ok.above)
theorem Inv.stkSub (I : Inv X pins σ H s) : ∀ b ∈ frs X.stack, b ∈ X.env.locals :: X.fs := fun b hb => by
  rcases I.ok.stk with e | ⟨e, hf⟩
  · rw [e] at hb; exact List.mem_cons_of_mem _ hb
  · rw [e] at hb
    unfold frs at hb
    rw [List.filterMap_cons, hf] at hb
    exact hb
theorem Inv.stkFree (I : Inv X pins σ H s) : ∀ b ∈ frs X.stack, H b = none := fun b hb => by
  rcases List.mem_cons.mp (I.stkSub b hb) with e | hb
  · rw [e]; exact I.free
  · obtain ⟨_, o, ho, _⟩ := I.ok.funs.mem hb
    exact I.base.free b o ho (I.ok.frf b hb) fun z => I.ok.exfs b z hb
theorem Inv.step {g' : Array GenState} {t' : Nat} {d' : Drawn} {ch : List Addr} (I : Inv X pins σ H s)
    (hch : ∀ b ∈ ch, (b ∈ X.ex ∨ X.s₀.heap.objs.size ≤ b) ∧ b ≠ X.env.locals ∧ (∀ x c, X.env.cells.lookup x = some c → c ≠ b) ∧ ∀ p ∈ X.pn ++ pins, p.1 ≠ b)
    (keep : ∀ b o, b ≠ X.env.locals → b ∉ X.fs → b ∉ ch → s.heap.get? b = some o → H b = none → h'.get? b = some o)
    (slot : ∀ b o, b ≠ X.env.locals → b ∈ X.fs → b ∉ ch → s.heap.get? b = some o → H b = none → ∃ sl, h'.get? b = some { o with slots := sl }) (free : ∀ b o, b ∉ ch → s.heap.get? b = some o → H b = none → H' b = none)
    (there : ∀ b o, b ∉ ch → s.heap.get? b = some o → ∃ o', h'.get? b = some o')
    (tups : ∀ b xs, H b = some (.tup xs) → H' b = some (.tup xs)) (frzs : ∀ b o u, H b = some (.frz o u) → H' b = some (.frz o u)) (tbls : ∀ b ps, H b = some (.tbl ps) → ∃ more, H' b = some (.tbl (ps ++ more)))
    (ns : ∀ m, s.heap.Ns X.env.locals m → h'.Ns X.env.locals m) (hok : HOk X.prog X.w H' h') (hg : AllBare g') :
    Inv X pins σ H' { s with heap := h', gens := g', drawn := d', toks := t' } := by
  have neL : ∀ b o, X.s₀.heap.get? b = some o → b ≠ X.env.locals := fun b o e => Nat.ne_of_lt (Nat.lt_of_lt_of_le (Heap.lt_size e) I.ok.above)
  have neC : ∀ b o, X.s₀.heap.get? b = some o → b ∉ X.ex → b ∉ ch := fun b o e hx hb => by
    rcases (hch b hb).1 with z | z
    · exact hx z
    · exact absurd (Nat.lt_of_lt_of_le (Heap.lt_size e) z) (Nat.lt_irrefl _)
  have cellK : ∀ x c, X.env.cells.lookup x = some c → ∀ v, s.heap.IsCell c v → h'.IsCell c v := fun x c e v ⟨o, ho, hd⟩ => by
    have nch : c ∉ ch := fun z => (hch c z).2.2.1 x c e rfl
    by_cases hc : c ∈ X.fs
    · obtain ⟨sl, q⟩ := slot c o (I.cne x c e) hc nch ho (I.freeC x c e)
      exact ⟨_, q, hd⟩
    · exact ⟨o, keep c o (I.cne x c e) hc nch ho (I.freeC x c e), hd⟩
  refine ⟨I.ok, I.os, hg, ⟨fun b o e n hb hx => ?_, fun b o e n hb hx => ?_, fun b o e n hx => ?_, fun b o e hx => ?_, fun b xs e => tups b xs (I.base.tups b xs e), fun b o xs e => frzs b o xs (I.base.frzs b o xs e), fun b ps e => ?_⟩, ?_, fun x c e => ?_, ?_, fun x c e => ?_, fun p hp => ?_, hok, I.len⟩
  · exact keep b o (neL b o e) hb (neC b o e hx) (I.base.keep b o e n hb hx) (I.base.free b o e n hx)
  · obtain ⟨sl, e1⟩ := I.base.slot b o e n hb hx
    obtain ⟨sl', e2⟩ := slot b _ (neL b o e) hb (neC b o e hx) e1 (I.base.free b o e n hx)
    exact ⟨sl', e2⟩
  · obtain ⟨o', e1⟩ := I.base.there b o e hx
    exact free b o' (neC b o e hx) e1 (I.base.free b o e n hx)
  · obtain ⟨o', e1⟩ := I.base.there b o e hx
    exact there b o' (neC b o e hx) e1
  · obtain ⟨m1, e1⟩ := I.base.tbls b ps e
    obtain ⟨m2, e2⟩ := tbls b _ e1
    exact ⟨m1 ++ m2, by rw [e2, Array.append_assoc]⟩
  · obtain ⟨m, hn, hl⟩ := I.loc
    refine ⟨m, ns m hn, fun i x v e1 e2 e3 => ?_⟩
    obtain ⟨u, r, l⟩ := hl i x v e1 e2 e3
    refine ⟨u, r, ?_⟩
    rcases l with l | ⟨k, c, e, z⟩
    · exact .inl l
    · exact .inr ⟨k, c, e, cellK x c e _ z⟩
  · obtain ⟨v, z⟩ := I.cell x c e
    exact ⟨v, cellK x c e v z⟩
  · obtain ⟨m, ⟨o, _, _, ho, _⟩, _⟩ := I.loc
    exact free _ o (fun z => (hch _ z).2.1 rfl) ho I.free
  · obtain ⟨v, o, ho, hd⟩ := I.cell x c e
    exact free c o (fun z => (hch c z).2.2.1 x c e rfl) ho (I.freeC x c e)
  · obtain ⟨e, n, ne, nf, d⟩ := I.pin p hp
    have nch : p.1 ∉ ch := fun z => (hch p.1 z).2.2.2 p hp rfl
    exact ⟨keep p.1 p.2 ne nf nch e n, free p.1 p.2 nch e n, ne, nf, d⟩
theorem Inv.un {t' : Nat} (I : Inv X pins σ H s) (u : Un X.fs [] H H' s.heap h') (hok : HOk X.prog X.w H' h') : Inv X pins σ H' { s with heap := h', toks := t' } := by
  obtain ⟨m, ⟨o, es, ep, ho, r⟩, _⟩ := id I.loc
  obtain ⟨sl, hL⟩ := u.any ho I.free (by simp)
  exact I.step (g' := s.gens) (d' := s.drawn) (ch := []) (fun _ z => nomatch z) (fun b o _ hb _ e n => u.keep b o e n hb (by simp)) (fun b o _ hb _ e n => u.slot b o e n hb (by simp)) (fun b o _ e n => u.free b o e n (by simp)) (fun b o _ e => u.there b o e (by simp)) u.tups u.frzs u.tbls (fun m' hm => by
    obtain ⟨o', es', ep', ho', r'⟩ := hm
    rw [ho] at ho'; cases ho'
    exact ⟨_, es', ep', hL, r'⟩) hok I.bare
theorem Inv.call {g' : Array GenState} {t' : Nat} {d' : Drawn} {ch : List Addr} (I : Inv X pins σ H s) (u : Un (frs X.stack) ch H H' s.heap h') (hok : HOk X.prog X.w H' h') (hg : AllBare g')
    (hch : ∀ b ∈ ch, (b ∈ X.ex ∨ X.s₀.heap.objs.size ≤ b) ∧ b ≠ X.env.locals ∧ (∀ x c, X.env.cells.lookup x = some c → c ≠ b) ∧ ∀ p ∈ X.pn ++ pins, p.1 ≠ b) :
    Inv X pins σ H' { s with heap := h', gens := g', drawn := d', toks := t' } := by
  obtain ⟨m, ⟨o, es, ep, ho, r⟩, _⟩ := id I.loc
  obtain ⟨sl, hL⟩ := u.any ho I.free fun z => (hch _ z).2.1 rfl
  exact I.step (ch := ch) hch (fun b o hL hb hc e n => u.keep b o e n (fun z => (List.mem_cons.mp (I.stkSub b z)).elim hL hb) hc) (fun b o _ _ hc e n => u.any e n hc) (fun b o hc e n => u.free b o e n hc) (fun b o hc e => u.there b o e hc) u.tups u.frzs u.tbls (fun m' hm => by
    obtain ⟨o', es', ep', ho', r'⟩ := hm
    rw [ho] at ho'; cases ho'
    exact ⟨_, es', ep', hL, r'⟩) hok hg
theorem Inv.turned {t' : Nat} {it : Addr} (I : Inv X pins σ H s) (k : ∀ b o, b ≠ it → s.heap.get? b = some o → h'.get? b = some o) (hn : H it = none) (hL : it ≠ X.env.locals)
    (h1 : it ∈ X.ex ∨ X.s₀.heap.objs.size ≤ it) (h2 : ∀ x c, X.env.cells.lookup x = some c → c ≠ it) (h3 : ∀ p ∈ X.pn ++ pins, p.1 ≠ it) : Inv X pins σ H { s with heap := h', toks := t' } := by
  have nit : ∀ b u, H b = some u → b ≠ it := fun b u e z => by rw [z, hn] at e; cases e
  refine I.step (g' := s.gens) (d' := s.drawn) (ch := [it]) (fun b hb => ?_) (fun b o _ _ hc e _ => k b o (fun z => hc (by simp [z])) e) (fun b o _ _ hc e _ => ⟨o.slots, k b o (fun z => hc (by simp [z])) e⟩) (fun _ _ _ _ n => n)
    (fun b o hc e => ⟨o, k b o (fun z => hc (by simp [z])) e⟩) (fun _ _ e => e) (fun _ _ _ e => e) (fun b ps e => ⟨#[], by rw [e]; simp⟩) (fun m hm => ?_) (fun b u e => ?_) I.bare
  · have e : b = it := by simpa using hb
    subst e
    exact ⟨h1, hL, h2, h3⟩
  · obtain ⟨o, es, ep, ho, r⟩ := hm
    exact ⟨o, es, ep, k _ o (Ne.symm hL) ho, r⟩
  · refine (I.hok b u e).stay (fun c v hc q => k c v ?_ q) (fun _ q => q) fun _ _ q => q
    rcases hc with z | z
    · rw [z]; exact nit b u e
    · exact nit c _ z
theorem Inv.tok (I : Inv X pins σ H s) (t : Nat) : Inv X pins σ H { s with toks := t } := I.un (h' := s.heap) (t' := t) Un.refl I.hok
theorem Inv.kept {t' : Nat} (I : Inv X pins σ H s) (k : ∀ b u, s.heap.get? b = some u → h'.get? b = some u) : Inv X pins σ H { s with heap := h', toks := t' } := I.un (Un.kept k) (I.hok.kept k)
theorem Inv.laid {a : Addr} {o : HO} {t' : Nat} (I : Inv X pins σ H s) (k : ∀ b u, s.heap.get? b = some u → h'.get? b = some u) (hp : s.heap.objs.size ≤ a) (new : ObjOk X.prog X.w (upd H a o) h' a o) :
    Inv X pins σ (upd H a o) { s with heap := h', toks := t' } := I.un (Un.laid k hp (I.hok.fresh hp)) (I.hok.laid k hp new)
theorem Inv.write {x e : Addr} {o : HO} {t' : Nat} (I : Inv X pins σ H s) (mu : Mut (H x)) (he : e = x ∨ H e = some (.own x)) (k : ∀ b u, b ≠ e → s.heap.get? b = some u → h'.get? b = some u) (heo : ∃ u, h'.get? e = some u)
    (new : ObjOk X.prog X.w (upd H x o) h' x o) : Inv X pins σ (upd H x o) { s with heap := h', toks := t' } := I.un (Un.write mu he k heo) (I.hok.write mu he k heo new)
theorem Inv.pins_of {pins' : List (Addr × Obj)} (I : Inv X pins σ H s) (h : ∀ p ∈ pins', s.heap.get? p.1 = some p.2 ∧ H p.1 = none ∧ p.1 ≠ X.env.locals ∧ p.1 ∉ X.fs ∧ ∀ v, p.2.data ≠ .cell v) : Inv X pins' σ H s :=
  ⟨I.ok, I.os, I.bare, I.base, I.loc, I.cell, I.free, I.freeC, fun p hp => (List.mem_append.mp hp).elim (fun z => I.pin p (List.mem_append_left _ z)) (h p), I.hok, I.len⟩
theorem nodup_ix {N : List Str} (hN : N.Nodup) {i j : Nat} {x : Str} (a : N[i]? = some x) (b : N[j]? = some x) : i = j := by
  obtain ⟨h1, e1⟩ := List.getElem?_eq_some_iff.mp a
  obtain ⟨h2, e2⟩ := List.getElem?_eq_some_iff.mp b
  exact (List.getElem_inj hN).mp (e1.trans e2.symm)
theorem store_ok2 {M : Model} {A : Around} {E : Value → Shared → Prop} {i : Nat} {x : Str} {v : V} {u : Value} {Q : Unit → Shared → Prop} (I : Inv X pins σ H s) (hN : X.N.Nodup) (hi : X.N[i]? = some x) (hx : Loc X.env.scope x) (r : RelV v u)
    (h : ∀ s', Inv X pins (σ.set i (some v)) H s' → (∃ a, Heap.SameBut a s.heap s'.heap ∧ (a = X.env.locals ∨ X.env.cells.lookup x = some a)) → Q () s') (hf : X.fn x = true ∨ X.env.scope.names.lookup x = some .local := by first | exact .inl rfl | exact .inr rfl | assumption) : wpAny M A (storeName X.env x u) Q E s := by
  obtain ⟨m, hn, hl⟩ := id I.loc
  have hcls : (X.env.scope.kind == .class || (X.env.scope.kind == .module && X.env.locals != X.env.globals)) = false := by rw [I.ok.kind]; rfl
  have hiσ : i < σ.length := by rw [I.len]; exact (List.getElem?_eq_some_iff.mp hi).1
  have cne := I.cne
  have tracked : ∀ {a : Addr} {h' : Heap}, (∃ o, s.heap.get? a = some o ∧ H a = none) → Heap.SameBut a s.heap h' → HOk X.prog X.w H h' := fun {a h'} ha hs b ob e => by
    obtain ⟨_, _, hfree⟩ := ha
    refine (I.hok b ob e).stay (fun c w' hc q => (hs.2 c ?_).trans q) (fun _ q => q) fun _ _ q => q
    rintro rfl
    rcases hc with rfl | hc
    · rw [hfree] at e; cases e
    · rw [hfree] at hc; cases hc
  rcases hx with hk | hk
  · refine wpAny_storeName_local hk hn (fun h' hn' hs => ?_) hcls
    obtain ⟨oL, _, _, hoL, _⟩ := id hn
    refine h _ ⟨I.ok, I.os, I.bare, ⟨fun b o e n hb hx => ?_, fun b o e n hb hx => ?_, I.base.free, fun b o e hx => ?_, I.base.tups, I.base.frzs, I.base.tbls⟩, ⟨_, hn', fun j y v' e1 e2 e3 => ?_⟩, fun y c e => ?_, I.free, I.freeC, fun p hp => ?_, tracked ⟨oL, hoL, I.free⟩ hs, by simpa using I.len⟩ ⟨_, hs, .inl rfl⟩
    · exact (hs.2 b (Nat.ne_of_lt (Nat.lt_of_lt_of_le (Heap.lt_size e) I.ok.above))).trans (I.base.keep b o e n hb hx)
    · obtain ⟨sl, e1⟩ := I.base.slot b o e n hb hx
      exact ⟨sl, (hs.2 b (Nat.ne_of_lt (Nat.lt_of_lt_of_le (Heap.lt_size e) I.ok.above))).trans e1⟩
    · obtain ⟨o', e1⟩ := I.base.there b o e hx
      exact ⟨o', (hs.2 b (Nat.ne_of_lt (Nat.lt_of_lt_of_le (Heap.lt_size e) I.ok.above))).trans e1⟩
    · by_cases hj : j = i
      · subst hj
        rw [hi] at e1; cases e1
        rw [List.getElem?_set_self hiσ] at e2
        cases e2
        exact ⟨u, r, .inl ⟨hk, by simp⟩⟩
      · rw [List.getElem?_set_ne (Ne.symm hj)] at e2
        obtain ⟨u', r', q⟩ := hl j y v' e1 e2 e3
        refine ⟨u', r', ?_⟩
        rcases q with ⟨k, e⟩ | ⟨k, c, e, z⟩
        · refine .inl ⟨k, ?_⟩
          have : y ≠ x := fun e => hj (nodup_ix hN e1 (e ▸ hi))
          simp [this, e]
        · exact .inr ⟨k, c, e, z.sameBut hs (cne y c e)⟩
    · obtain ⟨w', z⟩ := I.cell y c e
      exact ⟨w', z.sameBut hs (cne y c e)⟩
    · obtain ⟨e, n, ne, nf, d⟩ := I.pin p hp
      exact ⟨(hs.2 p.1 ne).trans e, n, ne, nf, d⟩
  · have hfn : X.fn x = true := by
      rcases hf with z | z
      · exact z
      · rw [z] at hk; cases hk
    obtain ⟨c, hc⟩ := I.ok.has x (.inl hk)
    obtain ⟨w', z⟩ := I.cell x c hc
    refine wpAny_storeName_cell I.ok.kind hk hc z (fun h' hc' hs => ?_)
    obtain ⟨oc, hoc, hocd⟩ := id z
    refine h { s with heap := h' } ⟨I.ok, I.os, I.bare, ⟨fun b o e n hb hx => ?_, fun b o e n hb hx => ?_, I.base.free, fun b o e hx => ?_, I.base.tups, I.base.frzs, I.base.tbls⟩, ⟨m, hn.sameBut hs (Ne.symm (cne x c hc)), fun j y v' e1 e2 e3 => ?_⟩, fun y c' e => ?_, I.free, I.freeC, fun p hp => ?_, tracked ⟨oc, hoc, I.freeC x c hc⟩ hs, by simpa using I.len⟩ ⟨c, hs, .inr hc⟩
    · exact (hs.2 b (Nat.ne_of_lt (Nat.lt_of_lt_of_le (Heap.lt_size e) (I.ok.cab x c hfn hc)))).trans (I.base.keep b o e n hb hx)
    · obtain ⟨sl, e1⟩ := I.base.slot b o e n hb hx
      exact ⟨sl, (hs.2 b (Nat.ne_of_lt (Nat.lt_of_lt_of_le (Heap.lt_size e) (I.ok.cab x c hfn hc)))).trans e1⟩
    · obtain ⟨o', e1⟩ := I.base.there b o e hx
      exact ⟨o', (hs.2 b (Nat.ne_of_lt (Nat.lt_of_lt_of_le (Heap.lt_size e) (I.ok.cab x c hfn hc)))).trans e1⟩
    · by_cases hj : j = i
      · subst hj
        rw [hi] at e1; cases e1
        rw [List.getElem?_set_self hiσ] at e2
        cases e2
        exact ⟨u, r, .inr ⟨.inl hk, c, hc, hc'⟩⟩
      · rw [List.getElem?_set_ne (Ne.symm hj)] at e2
        obtain ⟨u', r', q⟩ := hl j y v' e1 e2 e3
        refine ⟨u', r', ?_⟩
        rcases q with q | ⟨k, c', e, z'⟩
        · exact .inl q
        · refine .inr ⟨k, c', e, z'.sameBut hs ?_⟩
          rintro rfl
          exact hj (nodup_ix hN e1 (I.ok.inj _ _ _ e hc ▸ hi))
    · by_cases hcc : c' = c
      · subst hcc; exact ⟨_, hc'⟩
      · obtain ⟨w2, z2⟩ := I.cell y c' e
        exact ⟨w2, z2.sameBut hs hcc⟩
    · obtain ⟨e, n, ne, nf, d⟩ := I.pin p hp
      refine ⟨(hs.2 p.1 ?_).trans e, n, ne, nf, d⟩
      intro q
      rw [q, hoc] at e
      have q' : oc = p.2 := Option.some.inj e
      exact d w' (by rw [← q']; exact hocd)
theorem store_ok {M : Model} {A : Around} {E : Value → Shared → Prop} {i : Nat} {x : Str} {v : V} {u : Value} {Q : Unit → Shared → Prop} (I : Inv X pins σ H s) (hN : X.N.Nodup) (hi : X.N[i]? = some x) (hx : Loc X.env.scope x) (r : RelV v u)
    (h : ∀ s', Inv X pins (σ.set i (some v)) H s' → Q () s') (hf : X.fn x = true ∨ X.env.scope.names.lookup x = some .local := by first | exact .inl rfl | exact .inr rfl | assumption) : wpAny M A (storeName X.env x u) Q E s :=
  store_ok2 I hN hi hx r (fun s' I' _ => h s' I') hf
end
abbrev XK := Value → Option Addr → Hp → Prop
abbrev St := List (Option V)
abbrev VK := V → Hp → Prop
abbrev TE := St → Hp → VK → Prop
abbrev TT := St → Hp → (Bool → Hp → Prop) → Prop
abbrev TA := St → Hp → (List V → Hp → Prop) → Prop
structure Ends where
  nx : St → Hp → Prop
  rt : VK
  bk : St → Hp → Prop := fun _ _ => False
  ct : St → Hp → Prop := fun _ _ => False
abbrev TS := Ends → St → Hp → Prop
def EP (X : Cx) (pins : List (Addr × Obj)) (σ : St) (Q : VK) (u : Value) (s' : Shared) : Prop := ∃ v H', Inv X pins σ H' s' ∧ RelV v u ∧ Q v H'
def TP (X : Cx) (pins : List (Addr × Obj)) (σ : St) (Q : Bool → Hp → Prop) (b : Bool) (s' : Shared) : Prop := ∃ H', Inv X pins σ H' s' ∧ Q b H'
def AP (X : Cx) (pins : List (Addr × Obj)) (σ : St) (Q : List V → Hp → Prop) (us : List Value) (s' : Shared) : Prop := ∃ vs H', Inv X pins σ H' s' ∧ Vals vs us ∧ Q vs H'
def SP (X : Cx) (pins : List (Addr × Obj)) (D : Ends) (f : Flow) (s' : Shared) : Prop :=
  match f with
  | .next => ∃ σ' H', Inv X pins σ' H' s' ∧ D.nx σ' H'
  | .brk => ∃ σ' H', Inv X pins σ' H' s' ∧ D.bk σ' H'
  | .cont => ∃ σ' H', Inv X pins σ' H' s' ∧ D.ct σ' H'
  | .ret u => ∃ v σ' H', Inv X pins σ' H' s' ∧ RelV v u ∧ D.rt v H'
def PE (X : Cx) (e : Expr) (t : TE) : Prop :=
  ∀ (pins : List (Addr × Obj)) (s : Shared) (σ : St) (H : Hp) (Q : VK), Inv X pins σ H s → t σ H Q → wpAny (model X.prog X.w) X.A (eval e X.env) (EP X pins σ Q) X.xe s
def PT (X : Cx) (e : Expr) (t : TT) : Prop :=
  ∀ (pins : List (Addr × Obj)) (s : Shared) (σ : St) (H : Hp) (Q : Bool → Hp → Prop), Inv X pins σ H s → t σ H Q → wpAny (model X.prog X.w) X.A (isTrue e X.env (eval e X.env)) (TP X pins σ Q) X.xe s
def PW (X : Cx) (e : Expr) (t : TT) : Prop :=
  ∀ (whole : Sem Value) (pins : List (Addr × Obj)) (s : Shared) (σ : St) (H : Hp) (Q : Bool → Hp → Prop), Inv X pins σ H s → t σ H Q → wpAny (model X.prog X.w) X.A (isTrue e X.env whole) (TP X pins σ Q) X.xe s
theorem PW.pt {X : Cx} {e : Expr} {t : TT} (h : PW X e t) : PT X e t := h _
def PA (X : Cx) (es : List Expr) (t : TA) : Prop :=
  ∀ (pos : Pos) (pins : List (Addr × Obj)) (s : Shared) (σ : St) (H : Hp) (Q : List V → Hp → Prop), Inv X pins σ H s → t σ H Q → wpAny (model X.prog X.w) X.A (spliced (backTo pos (starEach es X.env))) (AP X pins σ Q) X.xe s
def PS (X : Cx) (st : Stmt) (t : TS) : Prop :=
  ∀ (pins : List (Addr × Obj)) (s : Shared) (σ : St) (H : Hp) (D : Ends), Inv X pins σ H s → t D σ H → wpAny (model X.prog X.w) X.A (exec st X.env) (SP X pins D) X.xe s
def PSs (X : Cx) (st : List Stmt) (t : TS) : Prop :=
  ∀ (pins : List (Addr × Obj)) (s : Shared) (σ : St) (H : Hp) (D : Ends), Inv X pins σ H s → t D σ H → wpAny (model X.prog X.w) X.A (execs st X.env) (SP X pins D) X.xe s
theorem thn {α : Type} {t : Sem α} {Q Q' : α → Shared → Prop} {M : Model} {A : Around} {E : Value → Shared → Prop} {s : Shared} (h : wpAny M A t Q E s) (hQ : ∀ a s, Q a s → Q' a s) : wpAny M A t Q' E s := wpAny_mono h hQ fun _ _ x => x
end L2
namespace L2
open PySem PySem.Spec PyProof.Rows
section
variable {X : Cx}
def tVar (i : Nat) : TE := fun σ H Q => ∃ v, σ[i]? = some (some v) ∧ Q v H
def tC (v : V) : TE := fun _ H Q => Q v H
theorem pe_var {i : Nat} {x : Str} {pos : Pos} (hN : X.N[i]? = some x) (hv : Vis X.env.scope x) (hd : (x == ("__debug__" : Str)) = false := by decide) (hcd : (x == ("__classdict__" : Str)) = false := by decide) : PE X (.Name x pos) (tVar i) := by
  intro pins s σ H Q I h
  obtain ⟨v, e, h⟩ := h
  obtain ⟨m, hn, hl⟩ := I.loc
  obtain ⟨u, r, l⟩ := hl i x v hN e hv
  have fin : EP X pins σ Q u s := ⟨v, H, I, r, h⟩
  rcases l with ⟨hk, hm⟩ | ⟨hk, c, hc, hcell⟩
  · exact wpAny_Name (wpAny_loadName_local I.ok.kind hk hn hm fin) hd
  · rcases hk with hk | hk
    · exact wpAny_Name (wpAny_loadName_cell I.ok.kind hk hc hcell fin) hd
    · exact wpAny_Name (wpAny_loadName_free I.ok.kind hk hc hcell fin hcd) hd
theorem pe_int {i j pos} : PE X (.Constant (.int i) j pos) (tC (.int i)) := fun _ _ _ H _ I h => wpAny_Constant_int ⟨.int i, H, I.tok _, ⟨_, rfl⟩, h⟩
theorem pe_bl {b j pos} : PE X (.Constant (.bool b) j pos) (tC (.bl b)) := fun _ _ _ H _ I h => Constant_bool ⟨.bl b, H, I, rfl, h⟩
theorem pe_non {j pos} : PE X (.Constant .none j pos) (tC .non) := fun _ _ _ H _ I h => Constant_none ⟨.non, H, I, rfl, h⟩
theorem pe_str {x j pos} : PE X (.Constant (.str x) j pos) (tC (.str x)) := fun _ _ _ H _ I h => Calls.Constant_str ⟨.str x, H, I.tok _, ⟨_, rfl⟩, h⟩
def Gl (X : Cx) (x : Str) : Prop := X.env.kindOf x = some .globalImplicit
theorem ld_glob {E : Value → Shared → Prop} {pins : List (Addr × Obj)} {s : Shared} {σ : St} {H : Hp} {x : Str} {u : Value} {pos : Pos} {Q : Value → Shared → Prop} (I : Inv X pins σ H s) (hg : Gl X x) (hm : X.mg x = some u) (h : Q u s)
    (hd : (x == ("__debug__" : Str)) = false := by decide) : wpAny (model X.prog X.w) X.A (eval (.Name x pos) X.env) Q E s :=
  Calls.Name_function_global I.ok.kind hg (Calls.loadGlobal_global (by rw [I.ok.glob]; exact I.mod.glob.keeps I.bk) hm h) hd
theorem ld_blt {E : Value → Shared → Prop} {pins : List (Addr × Obj)} {s : Shared} {σ : St} {H : Hp} {x : Str} {u : Value} {pos : Pos} {Q : Value → Shared → Prop} (I : Inv X pins σ H s) (hg : Gl X x) (hm : X.mg x = none) (hv : bootBuiltins x = some u) (h : Q u s)
    (hn : x ≠ "__name__" := by decide) (hd : (x == ("__debug__" : Str)) = false := by decide) : wpAny (model X.prog X.w) X.A (eval (.Name x pos) X.env) Q E s := by
  obtain ⟨mb, h1, h2⟩ := I.mod.blt
  exact Calls.Name_function_global I.ok.kind hg (Calls.loadGlobal_builtin (by rw [I.ok.glob]; exact I.mod.glob.keeps I.bk) hm (by rw [I.ok.blt]; exact h1.keeps I.bk) ((h2 x hn).trans hv) h) hd
theorem pe_bltn {x : Str} {v : V} {u : Value} {pos : Pos} (hg : Gl X x) (hm : X.mg x = none) (hv : bootBuiltins x = some u) (r : RelV v u) (hn : x ≠ "__name__" := by decide) (hd : (x == ("__debug__" : Str)) = false := by decide) : PE X (.Name x pos) (tC v) :=
  fun _ _ _ H _ I h => ld_blt I hg hm hv ⟨v, H, I, r, h⟩ hn hd
variable {a b : Expr} {ta tb : TE} {pos : Pos}
def tB (t : TE) : TT := fun σ H Q => t σ H fun x H1 => ∃ c, x = .bl c ∧ Q c H1
theorem pt_val {e : Expr} {t : TE} (h : PE X e t) (he : ∀ whole, isTrue e X.env whole = (do let v ← whole; standAt e.pos; holding [v] (truthy v)) := by intro _; rfl) : PT X e (tB t) := by
  intro pins s σ H Q I hw
  refine isTrue_plain (thn (h pins s σ H _ I hw) fun v s1 ⟨x, H1, I1, r1, q1⟩ => ?_) (he _)
  obtain ⟨d, rfl, q⟩ := q1
  cases r1
  exact wpAny_truthy_bool ⟨H1, I1, q⟩
variable {tA tB' : TT} {rest : List Expr}
def tAnd (t u : TT) : TT := fun σ H Q => t σ H fun c H1 => if c = true then u σ H1 Q else Q false H1
def tOr (t u : TT) : TT := fun σ H Q => t σ H fun c H1 => if c = true then Q true H1 else u σ H1 Q
def tNot (t : TT) : TT := fun σ H Q => t σ H fun c H1 => Q (!c) H1
theorem pw_and1 (ha : PT X a tA) : PW X (.BoolOp .And [a] pos) tA := by
  intro wh pins s σ H Q I h
  refine isTrue_and (thn (ha pins s σ H Q I h) fun c s1 e => ?_)
  cases c with
  | true => exact isTrue_and_nil e
  | false => exact e
theorem pw_or1 (ha : PT X a tA) : PW X (.BoolOp .Or [a] pos) tA := by
  intro wh pins s σ H Q I h
  refine isTrue_or (thn (ha pins s σ H Q I h) fun c s1 e => ?_)
  cases c with
  | false => exact isTrue_or_nil e
  | true => exact e
theorem pw_and (ha : PT X a tA) (hb : PW X (.BoolOp .And (b :: rest) pos) tB') : PW X (.BoolOp .And (a :: b :: rest) pos) (tAnd tA tB') := by
  intro wh pins s σ H Q I h
  refine isTrue_and (thn (ha pins s σ H _ I h) fun c s1 ⟨H1, I1, q1⟩ => ?_)
  cases c with
  | true => exact hb wh pins s1 σ H1 Q I1 q1
  | false => exact ⟨H1, I1, q1⟩
theorem pw_or (ha : PT X a tA) (hb : PW X (.BoolOp .Or (b :: rest) pos) tB') : PW X (.BoolOp .Or (a :: b :: rest) pos) (tOr tA tB') := by
  intro wh pins s σ H Q I h
  refine isTrue_or (thn (ha pins s σ H _ I h) fun c s1 ⟨H1, I1, q1⟩ => ?_)
  cases c with
  | true => exact ⟨H1, I1, q1⟩
  | false => exact hb wh pins s1 σ H1 Q I1 q1
theorem pt_not (ha : PT X a tA) : PT X (.UnaryOp .Not a pos) (tNot tA) := by
  intro pins s σ H Q I h
  exact isTrue_not (ha pins s σ H (fun c H1 => Q (!c) H1) I h)
def tAndV (ta tb : TE) : TE := fun σ H Q => ta σ H fun x H1 => ∃ c, x = .bl c ∧ if c = true then tb σ H1 Q else Q (.bl false) H1
def tOrV (ta tb : TE) : TE := fun σ H Q => ta σ H fun x H1 => ∃ c, x = .bl c ∧ if c = true then Q (.bl true) H1 else tb σ H1 Q
def tNotV (ta : TE) : TE := fun σ H Q => ta σ H fun x H1 => ∃ c, x = .bl c ∧ Q (.bl (!c)) H1
theorem pe_one {op} {t : TE} (h : PE X a t) : PE X (.BoolOp op [a] pos) t := fun pins s σ H Q I hw => BoolOp_one (h pins s σ H Q I hw)
theorem pe_and (ha : PE X a ta) (hb : PE X (.BoolOp .And (b :: rest) pos) tb) : PE X (.BoolOp .And (a :: b :: rest) pos) (tAndV ta tb) := by
  intro pins s σ H Q I h
  refine BoolOp_and (thn (ha pins s σ H _ I h) fun v s1 ⟨x, H1, I1, r1, q1⟩ => ?_)
  obtain ⟨c, rfl, q1⟩ := q1
  cases r1
  refine wpAny_truthy_bool ?_
  cases c with
  | true => exact hb pins s1 σ H1 Q I1 q1
  | false => exact ⟨.bl false, H1, I1, rfl, q1⟩
theorem pe_or (ha : PE X a ta) (hb : PE X (.BoolOp .Or (b :: rest) pos) tb) : PE X (.BoolOp .Or (a :: b :: rest) pos) (tOrV ta tb) := by
  intro pins s σ H Q I h
  refine BoolOp_or (thn (ha pins s σ H _ I h) fun v s1 ⟨x, H1, I1, r1, q1⟩ => ?_)
  obtain ⟨c, rfl, q1⟩ := q1
  cases r1
  refine wpAny_truthy_bool ?_
  cases c with
  | false => exact hb pins s1 σ H1 Q I1 q1
  | true => exact ⟨.bl true, H1, I1, rfl, q1⟩
theorem pe_not (ha : PE X a ta) : PE X (.UnaryOp .Not a pos) (tNotV ta) := by
  intro pins s σ H Q I h
  refine UnaryOp_ (thn (ha pins s σ H _ I h) fun v s1 ⟨x, H1, I1, r1, q1⟩ => ?_)
  obtain ⟨c, rfl, q1⟩ := q1
  cases r1
  exact not_of (wpAny_truthy_bool ⟨.bl (!c), H1, I1, rfl, q1⟩)
end
end L2
namespace L2
open PySem PySem.Spec PyProof.Rows
def SqL (K : PySem.W.Frag) (H : Hp) (a : Addr) (xs : List V) : Prop :=
  Rd H a (.lst xs) ∨
    ∃ (o : Obj) (its : Array Value) (n : Nat), K.lookup a = some o ∧ o.cls = .type "list" ∧ o.dict = none ∧ o.data = .seq its n ∧ its.size ≤ sizeLine ∧ Vals xs its.toList
def SqT (K : PySem.W.Frag) (H : Hp) (a : Addr) (xs : List V) : Prop :=
  Rd H a (.tup xs) ∨
    ∃ (o : Obj) (its : Array Value) (n : Nat), K.lookup a = some o ∧ o.cls = .type "tuple" ∧ o.data = .seq its n ∧ its.size ≤ sizeLine ∧ Vals xs its.toList
def absV : Value → Option V
  | .none => some .non
  | .bool b => some (.bl b)
  | .int i _ => some (.int i)
  | .str x _ => some (.str x)
  | .bytes b _ => some (.byt b)
  | .float b _ => some (.flt b)
  | .ref a => some (.ref a)
  | .type n => some (.ty n)
  | _ => none
theorem RelV.abs {x : V} {u : Value} (r : RelV x u) : absV u = some x := by
  cases x with
  | non => cases r; rfl
  | bl _ => cases r; rfl
  | int _ => obtain ⟨t, rfl⟩ := r; rfl
  | str _ => obtain ⟨t, rfl⟩ := r; rfl
  | byt _ => obtain ⟨t, rfl⟩ := r; rfl
  | flt _ => obtain ⟨t, rfl⟩ := r; rfl
  | ref _ => cases r; rfl
  | ty _ => cases r; rfl
theorem RelV.inj {x y : V} {u : Value} (r : RelV x u) (q : RelV y u) : x = y := Option.some.inj (r.abs.symm.trans q.abs)
theorem Vals.inj : ∀ {xs ys : List V} {us : List Value}, Vals xs us → Vals ys us → xs = ys
  | _, _, _, .nil, .nil => rfl
  | _, _, _, .cons r t, .cons r' t' => by rw [r.inj r', Vals.inj t t']
section
variable {X : Cx} {pins : List (Addr × Obj)} {σ : St} {H : Hp} {s : Shared} {a : Addr} {xs ys : List V}
theorem SqL.of {K : PySem.W.Frag} (h : H a = some (.lst xs)) : SqL K H a xs := .inl (.inl h)
theorem SqT.of {K : PySem.W.Frag} (h : H a = some (.tup xs)) : SqT K H a xs := .inl (.inl h)
theorem Inv.list (I : Inv X pins σ H s) (h : SqL X.K H a xs) : ∃ its : List Value, Vals xs its ∧ PlainL s.heap a its.toArray ∧ xs.length ≤ sizeLine := by
  rcases h with h | ⟨o, its, n, hk, hc, hd, hs, hz, r⟩
  · obtain ⟨z, its, n, r, e⟩ := h.ok I.hok
    exact ⟨its, r, ⟨_, n, e, rfl, rfl, rfl⟩, z⟩
  · refine ⟨its.toList, r, ⟨o, n, I.kIn a o hk, hc, hd, by simpa using hs⟩, ?_⟩
    have e := r.length
    simp only [Array.length_toList] at e
    omega
theorem Inv.tuple (I : Inv X pins σ H s) (h : SqT X.K H a xs) : ∃ its : List Value, Vals xs its ∧ IsTup s.heap a its.toArray ∧ xs.length ≤ sizeLine := by
  rcases h with h | ⟨o, its, n, hk, hc, hs, hz, r⟩
  · obtain ⟨z, its, r, p⟩ := h.ok I.hok
    exact ⟨its, r, p, z⟩
  · refine ⟨its.toList, r, ⟨o, I.kIn a o hk, hc, n, by simpa using hs⟩, ?_⟩
    have e := r.length
    simp only [Array.length_toList] at e
    omega
theorem Inv.list_inj (I : Inv X pins σ H s) (h : SqL X.K H a xs) (h' : SqL X.K H a ys) : xs = ys := by
  obtain ⟨its, r, ⟨o, n, e, _, _, d⟩, _⟩ := I.list h
  obtain ⟨its', r', ⟨o', n', e', _, _, d'⟩, _⟩ := I.list h'
  rw [e] at e'; cases e'
  rw [d] at d'
  injection d' with d1 _
  have : its = its' := by simpa using congrArg Array.toList d1
  subst this
  exact r.inj r'
end
abbrev Cx.wish (X : Cx) (E : Value → Shared → Prop) : Cx := { X with xe := E }
abbrev Cx.nox (X : Cx) : Cx := X.wish fun _ _ => False
theorem Cx.Ok.wish {X : Cx} (ok : X.Ok) (E : Value → Shared → Prop) : (X.wish E).Ok :=
  ⟨ok.mod, ok.kind, ok.glob, ok.blt, ok.above, ok.inj, ok.has, ok.cab, ok.hd, ok.frames, ok.stk, ok.exf, ok.bs, ok.bsz, ok.noex, ok.exfs, ok.funs, ok.frf⟩
theorem Cx.Ok.unwish {X : Cx} {E : Value → Shared → Prop} (ok : (X.wish E).Ok) : X.Ok :=
  ⟨ok.mod, ok.kind, ok.glob, ok.blt, ok.above, ok.inj, ok.has, ok.cab, ok.hd, ok.frames, ok.stk, ok.exf, ok.bs, ok.bsz, ok.noex, ok.exfs, ok.funs, ok.frf⟩
section
variable {X : Cx} {pins : List (Addr × Obj)} {σ : St} {H : Hp} {s : Shared} {E : Value → Shared → Prop}
theorem Inv.wish (I : Inv X pins σ H s) (E : Value → Shared → Prop) : Inv (X.wish E) pins σ H s := ⟨I.ok.wish E, I.os, I.bare, I.base, I.loc, I.cell, I.free, I.freeC, I.pin, I.hok, I.len⟩
theorem Inv.unwish (I : Inv (X.wish E) pins σ H s) : Inv X pins σ H s := ⟨I.ok.unwish, I.os, I.bare, I.base, I.loc, I.cell, I.free, I.freeC, I.pin, I.hok, I.len⟩
theorem SP.unwish {D : Ends} {f : Flow} {s' : Shared} (h : SP (X.wish E) pins D f s') : SP X pins D f s' := by
  cases f with
  | next => obtain ⟨σ', H', I, q⟩ := h; exact ⟨σ', H', I.unwish, q⟩
  | brk => obtain ⟨σ', H', I, q⟩ := h; exact ⟨σ', H', I.unwish, q⟩
  | cont => obtain ⟨σ', H', I, q⟩ := h; exact ⟨σ', H', I.unwish, q⟩
  | ret u => obtain ⟨v, σ', H', I, r, q⟩ := h; exact ⟨v, σ', H', I.unwish, r, q⟩
theorem PE.nox {e : Expr} {t : TE} (h : PE X.nox e t) : PE X e t := fun pins s σ H Q I hw =>
  wpAny_mono (h pins s σ H Q (I.wish _) hw) (fun _ _ ⟨v, H', I', r, q⟩ => ⟨v, H', I'.unwish, r, q⟩) fun _ _ z => False.elim z
theorem PT.nox {e : Expr} {t : TT} (h : PT X.nox e t) : PT X e t := fun pins s σ H Q I hw =>
  wpAny_mono (h pins s σ H Q (I.wish _) hw) (fun _ _ ⟨H', I', q⟩ => ⟨H', I'.unwish, q⟩) fun _ _ z => False.elim z
theorem PSs.nox {st : List Stmt} {t : TS} (h : PSs X.nox st t) : PSs X st t := fun pins s σ H D I hw =>
  wpAny_mono (h pins s σ H D (I.wish _) hw) (fun _ _ q => q.unwish) fun _ _ z => False.elim z
end
section
variable {X : Cx} {st : Stmt} {rest : List Stmt} {t u : TS} {e : Expr} {te : TE} {pos : Pos}
def tNext : TS := fun D σ H => D.nx σ H
def tSeq (t u : TS) : TS := fun D σ H => t { D with nx := u D } σ H
theorem pss_nil : PSs X [] tNext := fun _ _ σ H _ I h => wpAny_execs_nil ⟨σ, H, I, h⟩
theorem pss_cons (h1 : PS X st t) (h2 : PSs X rest u) : PSs X (st :: rest) (tSeq t u) := by
  intro pins s σ H D I h
  refine wpAny_execs_cons (thn (h1 pins s σ H { D with nx := u D } I h) fun f s1 q => ?_)
  cases f with
  | next =>
    obtain ⟨σ', H', I', q⟩ := q
    exact h2 pins s1 σ' H' D I' q
  | ret v => exact q
  | brk => exact q
  | cont => exact q
theorem pss_one (h1 : PS X st t) : PSs X [st] t := by
  intro pins s σ H D I h
  refine wpAny_execs_cons (thn (h1 pins s σ H D I h) fun f s1 q => ?_)
  cases f with
  | next => exact wpAny_execs_nil q
  | ret v => exact q
  | brk => exact q
  | cont => exact q
theorem Inv.quiet {pins : List (Addr × Obj)} {σ : St} {H : Hp} {s : Shared} (I : Inv X pins σ H s) : interactive X.env = false := by simp [interactive, I.ok.kind]
def tDrop (te : TE) : TS := fun D σ H => te σ H fun _ H1 => D.nx σ H1
theorem ps_expr (he : PE X e te) (hs : swapsWith e none pos.line X.env = pure false := by rfl) : PS X (.Expr e pos) (tDrop te) := by
  intro pins s σ H D I h
  exact wpAny_Expr_any (thn (he pins s σ H _ I h) fun v s1 ⟨x, H1, I1, r1, q1⟩ => ⟨σ, H1, I1, q1⟩) I.quiet hs
def tRet (te : TE) : TS := fun D σ H => te σ H D.rt
theorem ps_ret (he : PE X e te) : PS X (.Return (some e) pos) (tRet te) := by
  intro pins s σ H D I h
  exact wpAny_Return_some (thn (he pins s σ H _ I h) fun v s1 ⟨x, H1, I1, r1, q1⟩ => ⟨x, σ, H1, I1, r1, q1⟩)
def tIfS (c : TT) (t u : TS) : TS := fun D σ H => c σ H fun b H1 => if b = true then t D σ H1 else u D σ H1
theorem ps_if {c : Expr} {a b : List Stmt} {tc : TT} (hc : PT X c tc) (ha : PSs X a t) (hb : PSs X b u) : PS X (.If c a b pos) (tIfS tc t u) := by
  intro pins s σ H D I h
  refine wpAny_If (thn (hc pins s σ H _ I h) fun d s1 ⟨H1, I1, q1⟩ => ?_)
  cases d with
  | true => exact ha pins s1 σ H1 D I1 q1
  | false => exact hb pins s1 σ H1 D I1 q1
end
abbrev TG := V → St → Hp → (St → Hp → Prop) → Prop
abbrev TGs := List V → St → Hp → (St → Hp → Prop) → Prop
def PG (X : Cx) (target : Expr) (t : TG) : Prop :=
  ∀ (pins : List (Addr × Obj)) (s : Shared) (σ : St) (H : Hp) (v : V) (u : Value) (Q : St → Hp → Prop), Inv X pins σ H s → RelV v u → t v σ H Q →
    wpAny (model X.prog X.w) X.A (assign target X.env u) (fun _ s' => ∃ σ' H', Inv X pins σ' H' s' ∧ Q σ' H') X.xe s
def PGs (X : Cx) (ts : List Expr) (t : TGs) : Prop :=
  ∀ (pins : List (Addr × Obj)) (s : Shared) (σ : St) (H : Hp) (vs : List V) (us : List Value) (Q : St → Hp → Prop), Inv X pins σ H s → Vals vs us → t vs σ H Q →
    wpAny (model X.prog X.w) X.A (assignInOrder ((assignEach ts X.env).map (·.2)) us) (fun _ s' => ∃ σ' H', Inv X pins σ' H' s' ∧ Q σ' H') X.xe s
abbrev TIp := V → V → Hp → VK → Prop
def PIp (X : Cx) (op : Operator) (t : TIp) : Prop :=
  ∀ (pins : List (Addr × Obj)) (s : Shared) (σ : St) (H : Hp) (x y : V) (v u : Value) (Q : VK), Inv X pins σ H s → RelV x v → RelV y u → t x y H Q →
    wpAny (model X.prog X.w) X.A (inplaceOp op v u) (EP X pins σ Q) X.xe s
section
variable {X : Cx} {pos : Pos}
def gName (i : Nat) : TG := fun v σ H Q => Q (σ.set i (some v)) H
theorem pg_name {i : Nat} {x : Str} (hN : X.N.Nodup) (hi : X.N[i]? = some x) (hx : Loc X.env.scope x) (hf : X.fn x = true ∨ X.env.scope.names.lookup x = some .local := by first | exact .inl rfl | exact .inr rfl | assumption) : PG X (.Name x pos) (gName i) := by
  intro pins s σ H v u Q I r h
  exact wpAny_assign_Name (store_ok I hN hi hx r (fun s' I' => ⟨_, H, I', h⟩) hf)
def gNil : TGs := fun vs σ H Q => vs = [] ∧ Q σ H
def gCons (t : TG) (u : TGs) : TGs := fun vs σ H Q => ∃ v r, vs = v :: r ∧ t v σ H fun σ' H' => u r σ' H' Q
theorem pgs_nil : PGs X [] gNil := by
  intro pins s σ H vs us Q I r h
  obtain ⟨e, h⟩ := h
  subst e
  cases r
  exact assignInOrder_nil ⟨σ, H, I, h⟩
theorem pgs_cons {e : Expr} {es : List Expr} {t : TG} {u : TGs} (h1 : PG X e t) (h2 : PGs X es u)
    (hs : (assignEach (e :: es) X.env).map (·.2) = assign e X.env :: (assignEach es X.env).map (·.2) := by rfl) : PGs X (e :: es) (gCons t u) := by
  intro pins s σ H vs us Q I r h
  obtain ⟨v, vr, e1, h⟩ := h
  subst e1
  cases r with
  | cons r rr =>
    rw [hs]
    refine assignInOrder_cons (thn (h1 pins s σ H _ _ _ I r h) fun _ s1 ⟨σ1, H1, I1, q1⟩ => ?_)
    exact h2 pins s1 σ1 H1 _ _ Q I1 rr q1
def gTup (K : PySem.W.Frag) (n : Nat) (t : TGs) : TG := fun v σ H Q => ∃ a xs, v = .ref a ∧ SqT K H a xs ∧ xs.length = n ∧ t xs σ H Q
theorem pg_tup {es : List Expr} {k : Nat} {t : TGs} {n : Nat} (hc : X.calm = true) (h : PGs X es t)
    (hn : (assignEach es X.env).length = n := by rfl) (hst : (assignEach es X.env).findIdx? (·.1) = none := by rfl) : PG X (.Tuple es k pos) (gTup X.K n t) := by
  intro pins s σ H v u Q I r hw
  obtain ⟨a, xs, e1, hq, hl, hw⟩ := hw
  subst e1
  cases r
  obtain ⟨its, rv, ht, hz⟩ := I.tuple hq
  refine assign_Tuple_tuple (I.ok.hd hc) ht (by simp [hn, ← hl, rv.length]) hst fun h' hx => ?_
  have I1 : Inv X pins σ H { s with heap := h' } := I.kept (t' := s.toks) fun b o e => hx b o (Nat.ne_of_lt (Heap.lt_size e)) e
  exact h pins _ σ H xs _ Q I1 (by simpa using rv) hw
def tAsg (te : TE) (g : TG) : TS := fun D σ H => te σ H fun x H1 => g x σ H1 D.nx
theorem ps_asg {tg e : Expr} {te : TE} {g : TG} (he : PE X e te) (hg : PG X tg g) (hs : swapsWithSole [tg] e pos.line X.env = pure false := by rfl) (hw : swappedStores [tg] e X.env = pure none := by rfl)
    (h1 : (assignEach [tg] X.env).map (·.2) = [assign tg X.env] := by rfl) : PS X (.Assign [tg] e pos) (tAsg te g) := by
  intro pins s σ H D I h
  refine wpAny_Assign_stores (thn (he pins s σ H _ I h) fun v s1 ⟨x, H1, I1, r1, q1⟩ => ?_) hs hw
  rw [h1]
  exact thn (hg pins s1 σ H1 x v _ I1 r1 q1) fun _ s2 q => q
theorem ps_set {i : Nat} {x : Str} {e : Expr} {te : TE} {pos' : Pos} (hN : X.N.Nodup) (hi : X.N[i]? = some x) (hx : Loc X.env.scope x) (he : PE X e te) (hs : swapsWith e (some (.Name x pos')) pos.line X.env = pure false := by rfl) (hf : X.fn x = true ∨ X.env.scope.names.lookup x = some .local := by first | exact .inl rfl | exact .inr rfl | assumption) :
    PS X (.Assign [.Name x pos'] e pos) (tAsg te (gName i)) := by
  intro pins s σ H D I h
  refine wpAny_Assign_Name (thn (he pins s σ H _ I h) fun v s1 ⟨y, H1, I1, r1, q1⟩ => ?_) hs
  exact store_ok I1 hN hi hx r1 (fun s2 I2 => ⟨_, H1, I2, q1⟩) hf
def tAug (i : Nat) (te : TE) (ti : TIp) : TS := fun D σ H => ∃ x, σ[i]? = some (some x) ∧ te σ H fun y H1 => ti x y H1 fun z H2 => D.nx (σ.set i (some z)) H2
theorem ps_aug {i : Nat} {x : Str} {e : Expr} {te : TE} {op : Operator} {ti : TIp} {pos' : Pos} (hN : X.N.Nodup) (hi : X.N[i]? = some x) (hx : Loc X.env.scope x) (he : PE X e te) (ho : PIp X op ti) (hf : X.fn x = true ∨ X.env.scope.names.lookup x = some .local := by first | exact .inl rfl | exact .inr rfl | assumption) :
    PS X (.AugAssign (.Name x pos') op e pos) (tAug i te ti) := by
  intro pins s σ H D I h
  obtain ⟨v, e1, h⟩ := h
  obtain ⟨m, hn, hl⟩ := I.loc
  have vis : Vis X.env.scope x := by rcases hx with k | k; exact .inl k; exact .inr (.inl k)
  obtain ⟨u, r, l⟩ := hl i x v hi e1 vis
  refine wpAny_AugAssign_Name ?_
  have go : wpAny (model X.prog X.w) X.A (eval e X.env) (fun w s₂ => wpAny (model X.prog X.w) X.A (inplaceOp op u w) (fun r s₃ => wpAny (model X.prog X.w) X.A (storeName X.env x r) (fun _ => SP X pins D .next) X.xe s₃) X.xe s₂) X.xe s := by
    refine thn (he pins s σ H _ I h) fun w s1 ⟨y, H1, I1, r1, q1⟩ => ?_
    refine thn (ho pins s1 σ H1 v y u w _ I1 r r1 q1) fun z s2 ⟨zv, H2, I2, r2, q2⟩ => ?_
    exact store_ok I2 hN hi hx r2 (fun s3 I3 => ⟨_, H2, I3, q2⟩) hf
  rcases l with ⟨hk, hm⟩ | ⟨hk, c, hc, hcell⟩
  · exact wpAny_loadName_local I.ok.kind hk hn hm go
  · rcases hk with hk | hk
    · exact wpAny_loadName_cell I.ok.kind hk hc hcell go
    · rcases hx with k | k
      · have : X.env.scope.names.lookup x = some .free := hk
        rw [k] at this; cases this
      · have : X.env.scope.names.lookup x = some .free := hk
        rw [k] at this; cases this
def ipI (f : Int → Int → Int) : TIp := fun x y H Q => ∃ i j, x = .int i ∧ y = .int j ∧ Q (.int (f i j)) H
theorem ip_add : PIp X .Add (ipI fun i j => i + j) := by
  intro pins s σ H x y v u Q I r1 r2 h
  obtain ⟨i, j, e1, e2, q⟩ := h
  subst e1; subst e2
  obtain ⟨t, rfl⟩ := r1
  obtain ⟨t', rfl⟩ := r2
  exact iadd_int ⟨.int _, H, I.tok _, ⟨_, rfl⟩, q⟩
end
section
variable {X : Cx} {pos : Pos}
def tWhile (c : TT) (tb : TS) : TS := fun D σ H => ∃ W : Nat → St → Hp → Prop, (∃ m, W m σ H) ∧ ∀ m σ H, W m σ H →
  c σ H fun b H1 => if b = true then ∃ N : St → Hp → Prop, (∀ σ' H', N σ' H' → ∃ m', m' < m ∧ W m' σ' H') ∧ tb { D with nx := N, ct := N, bk := D.nx } σ H1 else D.nx σ H1
theorem ps_while {c : Expr} {body : List Stmt} {tc : TT} {tb : TS} (hp : PassesOwn (model X.prog X.w) X.A X.env X.xe) (hc : PT X c tc) (hb : PSs X body tb) : PS X (.While c body [] pos) (tWhile tc tb) := by
  intro pins s σ H D I h
  obtain ⟨W, ⟨m0, w0⟩, turn⟩ := h
  refine wpAny_While (codeAny_whileLoop (fun n s' => ∃ σ' H', Inv X pins σ' H' s' ∧ W n σ' H') ?_ m0 ⟨σ, H, I, w0⟩)
  rintro n s1 ⟨σ1, H1, I1, w1⟩
  refine wpAny_passesOwn hp (thn (hc pins s1 σ1 H1 _ I1 (turn n σ1 H1 w1)) fun b s2 ⟨H2, I2, q2⟩ => ?_)
  cases b with
  | true =>
    obtain ⟨N, hN, q2⟩ := q2
    rw [if_pos rfl]
    refine wpAny_passesOwn hp (thn (hb pins s2 σ1 H2 _ I2 q2) fun f s3 q3 => ?_)
    cases f with
    | next =>
      obtain ⟨σ3, H3, I3, n3⟩ := q3
      obtain ⟨m', hm, w3⟩ := hN σ3 H3 n3
      exact ⟨m', hm, σ3, H3, I3, w3⟩
    | cont =>
      obtain ⟨σ3, H3, I3, n3⟩ := q3
      obtain ⟨m', hm, w3⟩ := hN σ3 H3 n3
      exact ⟨m', hm, σ3, H3, I3, w3⟩
    | brk => exact q3
    | ret v => exact q3
  | false =>
    rw [if_neg Bool.false_ne_true]
    exact wpAny_execs_nil ⟨σ1, H2, I2, q2⟩
end
structure It where
  go : Nat → Hp → Prop
  yld : Nat → Hp → V → Hp → Prop
  stop : Nat → Hp → Prop
def FpOk (X : Cx) (pins : List (Addr × Obj)) (H : Hp) (b : Addr) : Prop :=
  H b = none ∧ b ≠ X.env.locals ∧ b ∉ X.fs ∧ (b ∈ X.ex ∨ X.s₀.heap.objs.size ≤ b) ∧ (∀ x c, X.env.cells.lookup x = some c → c ≠ b) ∧ ∀ p ∈ X.pn ++ pins, p.1 ≠ b
theorem Inv.fpOk {X : Cx} {pins : List (Addr × Obj)} {σ : St} {H H' : Hp} {s : Shared} {b : Addr} (I : Inv X pins σ H s) (hb : s.heap.objs.size ≤ b) (hn : H' b = none) : FpOk X pins H' b := by
  refine ⟨hn, Nat.ne_of_gt (Nat.lt_of_lt_of_le I.lt hb), I.nofs hb, .inr (Nat.le_trans I.sz hb), fun x c e z => ?_, fun p hp z => ?_⟩
  · obtain ⟨v, q⟩ := I.cell x c e
    exact absurd (Nat.lt_of_lt_of_le q.lt (by rw [z]; exact hb)) (Nat.lt_irrefl _)
  · exact absurd (Nat.lt_of_lt_of_le (Heap.lt_size (I.pin p hp).1) (by rw [z]; exact hb)) (Nat.lt_irrefl _)
structure Turn (P : Program) (w : World) (K : PySem.W.Frag) (tg : Expr) (J : It) (fp : List Addr) (it : Addr) (tn : Nat → Heap → Prop) : Prop where
  mem : it ∈ fp
  obj : ∀ i h, tn i h → ∀ b ∈ fp, ∃ o, h.get? b = some o ∧ ∀ v, o.data ≠ .cell v
  keep : ∀ i h h', tn i h → (∀ b ∈ fp, ∀ o, h.get? b = some o → h'.get? b = some o) → tn i h'
  item : ∀ (X : Cx), X.prog = P → X.w = w → X.K = K → X.calm = true → ∀ (i : Nat) (pins : List (Addr × Obj)) (s : Shared) (σ : St) (H : Hp) (E : Value → Shared → Prop), Inv X pins σ H s → (∀ b ∈ fp, FpOk X pins H b) → tn i s.heap → J.go i H →
    wpAny (model P w) X.A (pyNext (.ref it)) (fun r s1 => ∃ u, r = some u ∧
      wpAny (model P w) X.A (letOwnedTupleGo tg (.ref it) u) (fun _ s2 => ∃ x H', Inv X pins σ H' s2 ∧ RelV x u ∧ J.yld i H x H' ∧ tn (i + 1) s2.heap ∧ ∀ b ∈ fp, H' b = none) E s1) E s
  done : ∀ (X : Cx), X.prog = P → X.w = w → X.K = K → X.calm = true → ∀ (i : Nat) (pins : List (Addr × Obj)) (s : Shared) (σ : St) (H : Hp) (E : Value → Shared → Prop), Inv X pins σ H s → (∀ b ∈ fp, FpOk X pins H b) → tn i s.heap → J.stop i H →
    wpAny (model P w) X.A (pyNext (.ref it)) (fun r s1 => r = none ∧ Inv X pins σ H s1) E s
  self : ∀ (A : Around) (i : Nat) (s : Shared) (Q : Value → Shared → Prop) (E : Value → Shared → Prop), tn i s.heap → Q (.ref it) s → wpAny (model P w) A (pyIter (.ref it)) Q E s
abbrev TI := St → Hp → (It → Hp → Prop) → Prop
def PIE (X : Cx) (pins : List (Addr × Obj)) (σ : St) (tg : Expr) (R : It → Hp → Prop) (itv : Value) (s2 : Shared) : Prop :=
  ∃ (it : Addr) (fp : List Addr) (tn : Nat → Heap → Prop) (J : It) (H' : Hp), itv = .ref it ∧ Inv X pins σ H' s2 ∧ Turn X.prog X.w X.K tg J fp it tn ∧ tn 0 s2.heap ∧ (∀ b ∈ fp, FpOk X pins H' b) ∧ R J H'
def PI (X : Cx) (tg iter : Expr) (wi : TI) : Prop :=
  ∀ (pins : List (Addr × Obj)) (s : Shared) (σ : St) (H : Hp) (R : It → Hp → Prop), Inv X pins σ H s → wi σ H R →
    wpAny (model X.prog X.w) X.A (eval iter X.env) (fun v s1 => wpAny (model X.prog X.w) X.A (pyIter v) (PIE X pins σ tg R) X.xe s1) X.xe s
theorem go_of {M : Model} {A : Around} {E : Value → Shared → Prop} {s : Shared} {tg : Expr} {it : Addr} {u : Value} {o : Obj} {n : String} {vs : Array Value} {Q : Unit → Shared → Prop} (ho : s.heap.get? it = some o) (hc : o.cls = .type n) (hd : o.data = .fields vs)
    (hn : ["enumerate", "zip", "dict_itemiterator", "dict_reverseitemiterator", "odict_iterator", "itertools.zip_longest", "itertools.pairwise"].contains n = false) (hQ : Q () s) : wpAny M A (letOwnedTupleGo tg (.ref it) u) Q E s := by
  unfold letOwnedTupleGo
  cases tg <;> first
    | exact wpAny_pure hQ
    | (cases u <;> first
        | exact wpAny_pure hQ
        | (refine wpAny_bind (wpAny_load ho ?_)
           rw [hc, hd]
           show wpAny M A (if (["enumerate", "zip", "dict_itemiterator", "dict_reverseitemiterator", "odict_iterator", "itertools.zip_longest", "itertools.pairwise"].contains n && vs[0]? == some (rawInt _)) = true then _ else _) Q E s
           rw [if_neg (by intro h; rw [hn, Bool.false_and] at h; cases h)]
           exact wpAny_pure hQ))
def Itl (K : PySem.W.Frag) (a : Addr) : It :=
  ⟨fun i H => ∃ xs x, SqL K H a xs ∧ xs[i]? = some x, fun i H x H' => H' = H ∧ ∀ xs, SqL K H a xs → xs[i]? = some x, fun i H => ∃ xs, SqL K H a xs ∧ xs.length ≤ i⟩
def Itr (lo : Int) (n : Nat) : It := ⟨fun i _ => i < n, fun i H x H' => H' = H ∧ x = .int (lo + i), fun i _ => n ≤ i⟩
theorem turn_list {P : Program} {w : World} {K : PySem.W.Frag} {tg : Expr} (a it : Addr) : Turn P w K tg (Itl K a) [it] it (fun i h => h.IsListIter it a i) where
  mem := by simp
  obj := fun i h st b hb => by
    have e : b = it := by simpa using hb
    subst e
    obtain ⟨o, e, c, d⟩ := st
    exact ⟨o, e, fun v z => by rw [d] at z; cases z⟩
  keep := fun i h h' st k => st.at fun o e => k it (by simp) o e
  item := by
    intro X hP hw hK hc i pins s σ H E I hf st hg
    subst hP hw hK
    obtain ⟨xs, x, hq, hx⟩ := hg
    obtain ⟨its, rv, p, hz⟩ := I.list hq
    obtain ⟨u, hu, ru⟩ := rv.get hx
    obtain ⟨f0, f1, f2, f3, f4, f5⟩ := hf it (by simp)
    refine wpAny_pyNext_list_item st p.isList (x := u) (by simpa using hu) fun h' st' sb => ?_
    have I1 : Inv X pins σ H { s with heap := h' } := I.turned (t' := s.toks) (fun b o hb e => (sb.2 b hb).trans e) f0 f1 f3 f4 f5
    obtain ⟨o, e, c, d⟩ := id st'
    exact ⟨u, rfl, go_of (s := { s with heap := h' }) e c d (by decide) ⟨x, H, I1, ru, ⟨rfl, fun ys hy => by rw [I.list_inj hy hq]; exact hx⟩, st', fun b hb => (hf b hb).1⟩⟩
  done := by
    intro X hP hw hK hc i pins s σ H E I hf st hg
    subst hP hw hK
    obtain ⟨xs, hq, hx⟩ := hg
    obtain ⟨its, rv, p, hz⟩ := I.list hq
    obtain ⟨f0, f1, f2, f3, f4, f5⟩ := hf it (by simp)
    have hl := rv.length
    exact wpAny_pyNext_list_end (I.ok.hd hc) st p.isList (by simp; omega) fun h' eb => ⟨rfl, I.turned (t' := s.toks) (fun b o hb e => eb b o hb e) f0 f1 f3 f4 f5⟩
  self := fun _ _ _ _ _ st h => wpAny_pyIter_listiter st h
theorem turn_range {P : Program} {w : World} {K : PySem.W.Frag} {tg : Expr} (it : Addr) (lo : Int) (n : Nat) : Turn P w K tg (Itr lo n) [it] it (fun i h => IsRangeIter h it (lo + (i : Nat) * 1) ((n : Int) - (i : Nat)) 1) where
  mem := by simp
  obj := fun i h st b hb => by
    have e : b = it := by simpa using hb
    subst e
    exact ⟨_, st, fun v z => by
      have z' : Data.fields _ = Data.cell v := z
      cases z'⟩
  keep := fun i h h' st k => k it (by simp) _ st
  item := by
    intro X hP hw hK hc i pins s σ H E I hf st hg
    subst hP hw hK
    obtain ⟨f0, f1, f2, f3, f4, f5⟩ := hf it (by simp)
    have W := Walks.range (prog := X.prog) (w := X.w) (I.ok.hd hc) it lo 1 n
    refine W.item i s _ _ hg st fun v h' tk hv st' kk => ?_
    obtain ⟨t, rfl⟩ := hv
    have I1 : Inv X pins σ H { s with heap := h', toks := tk } := I.turned (fun b o hb e => kk b o (by simpa using hb) e) f0 f1 f3 f4 f5
    refine ⟨_, rfl, go_of (s := { s with heap := h', toks := tk }) (n := "range_iterator") st' rfl rfl (by decide) ⟨.int (lo + i), H, I1, ⟨t, ?_⟩, ⟨rfl, rfl⟩, st', fun b hb => (hf b hb).1⟩⟩
    rw [Int.mul_one]
  done := by
    intro X hP hw hK hc i pins s σ H E I hf st hg
    subst hP hw hK
    obtain ⟨f0, f1, f2, f3, f4, f5⟩ := hf it (by simp)
    exact wpAny_pyNext_range_end (I.ok.hd hc) st (by have : n ≤ i := hg; omega) fun h' eb => ⟨rfl, I.turned (t' := s.toks) (fun b o hb e => eb b o hb e) f0 f1 f3 f4 f5⟩
  self := fun _ _ _ _ _ st h => wpAny_pyIter_rangeiter st h
end L2
namespace L2
open PySem PySem.Spec PyProof.Rows
section
variable {X : Cx} {tg : Expr}
def iList (K : PySem.W.Frag) (tl : TE) : TI := fun σ H R => tl σ H fun x H1 => ∃ a, x = .ref a ∧ (∃ xs, SqL K H1 a xs) ∧ R (Itl K a) H1
theorem pi_list {l : Expr} {tl : TE} (hl : PE X l tl) : PI X tg l (iList X.K tl) := by
  intro pins s σ H R I h
  refine thn (hl pins s σ H _ I h) fun v s1 ⟨x, H1, I1, r1, q1⟩ => ?_
  obtain ⟨a, e, ⟨xs, hq⟩, q⟩ := q1
  subst e
  cases r1
  obtain ⟨its, rv, p, hz⟩ := I1.list hq
  refine wpAny_pyIter_list p.isList ?_
  refine ⟨s1.heap.objs.size, [s1.heap.objs.size], _, _, H1, rfl, I1.kept (t' := s1.toks) fun b o e => Heap.get?_push_of_some _ e, turn_list a _, ⟨_, Heap.get?_push_size _ rfl, rfl, rfl⟩, fun b hb => ?_, q⟩
  have e : b = s1.heap.objs.size := by simpa using hb
  subst e
  exact I1.fpOk (Nat.le_refl _) (I1.hok.fresh (Nat.le_refl _))
theorem range_it {pins : List (Addr × Obj)} {σ : St} {H : Hp} {s : Shared} {R : It → Hp → Prop} {E : Value → Shared → Prop} {lo hi : Int} {t u v : Tok} {tk : Nat} (I : Inv X pins σ H s) (h1 : -(2 ^ 62) ≤ lo) (h2 : lo < 2 ^ 62) (h3 : -(2 ^ 62) ≤ hi) (h4 : hi < 2 ^ 62)
    (q : R (Itr lo (hi - lo).toNat) H) : wpAny (model X.prog X.w) X.A (pyIter (.ref s.heap.objs.size)) (PIE X pins σ tg R) E { s with heap := s.heap.push { cls := .type "range", data := .fields #[.int lo t, .int hi u, .int 1 v] }, toks := tk } := by
  refine wpAny_pyIter_range (IsRange.new ..) (small_one h1 h2 h3 h4) ?_
  have I1 : Inv X pins σ H { s with heap := s.heap.push { cls := .type "range", data := .fields #[.int lo t, .int hi u, .int 1 v] }, toks := tk } := I.kept fun b o e => Heap.get?_push_of_some _ e
  refine ⟨(s.heap.push { cls := .type "range", data := .fields #[.int lo t, .int hi u, .int 1 v] }).objs.size, [(s.heap.push { cls := .type "range", data := .fields #[.int lo t, .int hi u, .int 1 v] }).objs.size], _, _, H, rfl,
    I1.kept (t' := tk) fun b o e => Heap.get?_push_of_some _ e, turn_range _ lo (hi - lo).toNat, ?_, fun b hb => ?_, q⟩
  · have e1 : lo + ((0 : Nat) : Int) * 1 = lo := by simp
    have e2 : (((hi - lo).toNat : Nat) : Int) - ((0 : Nat) : Int) = Builtin.Range.rangeSize lo hi 1 := by rw [rangeSize_one]; split <;> omega
    show IsRangeIter _ _ (lo + ((0 : Nat) : Int) * 1) ((((hi - lo).toNat : Nat) : Int) - ((0 : Nat) : Int)) 1
    rw [e1, e2]
    exact Heap.get?_push_size _ rfl
  · have e : b = (s.heap.push { cls := .type "range", data := .fields #[.int lo t, .int hi u, .int 1 v] }).objs.size := by simpa using hb
    subst e
    exact I1.fpOk (Nat.le_refl _) (I1.hok.fresh (Nat.le_refl _))
def iRng1 (ta : TA) : TI := fun σ H R => ta σ H fun vs H1 => ∃ j : Int, vs = [.int j] ∧ -(2 ^ 62) ≤ j ∧ j < 2 ^ 62 ∧ R (Itr 0 j.toNat) H1
def iRng2 (ta : TA) : TI := fun σ H R => ta σ H fun vs H1 => ∃ i j : Int, vs = [.int i, .int j] ∧ (-(2 ^ 62) ≤ i ∧ i < 2 ^ 62 ∧ -(2 ^ 62) ≤ j ∧ j < 2 ^ 62) ∧ R (Itr i (j - i).toNat) H1
theorem pi_range1 {a : Expr} {ta : TA} {p pos : Pos} (hg : Gl X "range") (hm : X.mg "range" = none) (ha : PA X [a] ta) (hs : starEach [a] X.env = [(false, eval a X.env)] := by rfl) : PI X tg (.Call (.Name "range" p) [a] [] pos) (iRng1 ta) := by
  intro pins s σ H R I h
  refine Call_ (ld_blt I hg hm boot_range (PyProof.Rows.callWith_type1 (thn (ha pos pins s σ H _ I h) fun us s1 ⟨vs, H1, I1, r1, q1⟩ => ?_) hs rfl))
  obtain ⟨j, e, q1, q2, q⟩ := q1
  subst e
  cases r1 with
  | cons r rr =>
    cases rr
    obtain ⟨t, rfl⟩ := r
    exact call_range_1 (range_it I1 (by omega) (by omega) q1 q2 (by simpa using q))
theorem pi_range2 {a b : Expr} {ta : TA} {p pos : Pos} (hg : Gl X "range") (hm : X.mg "range" = none) (ha : PA X [a, b] ta) (hs : starEach [a, b] X.env = [(false, eval a X.env), (false, eval b X.env)] := by rfl) (hs2 : starEach [b] X.env = [(false, eval b X.env)] := by rfl) :
    PI X tg (.Call (.Name "range" p) [a, b] [] pos) (iRng2 ta) := by
  intro pins s σ H R I h
  refine Call_ (ld_blt I hg hm boot_range (PyProof.Rows.callWith_type1 (thn (ha pos pins s σ H _ I h) fun us s1 ⟨vs, H1, I1, r1, q1⟩ => ?_) (by rw [hs, hs2]) (by rw [hs2]; rfl)))
  obtain ⟨i, j, e, ⟨q1, q2, q3, q4⟩, q⟩ := q1
  subst e
  cases r1 with
  | cons r rr =>
    cases rr with
    | cons r' rr =>
      cases rr
      obtain ⟨t, rfl⟩ := r
      obtain ⟨t', rfl⟩ := r'
      exact call_range_2 (range_it I1 q1 q2 q3 q4 q)
def tFor (wi : TI) (g : TG) (tb : TS) : TS := fun D σ H => wi σ H fun J H1 => ∃ W : Nat → Nat → St → Hp → Prop, (∃ m, W 0 m σ H1) ∧ ∀ i m σ H, W i m σ H →
  (J.stop i H ∧ D.nx σ H) ∨ (J.go i H ∧ ∃ N : St → Hp → Prop, (∀ σ' H', N σ' H' → ∃ m', m' < m ∧ W (i + 1) m' σ' H') ∧ ∀ x H', J.yld i H x H' → g x σ H' fun σ2 H2 => tb { D with nx := N, ct := N, bk := D.nx } σ2 H2)
def pinsAt (fp : List Addr) (h : Heap) : List (Addr × Obj) := fp.filterMap fun b => (h.get? b).map fun o => (b, o)
theorem mem_pinsAt {fp : List Addr} {h : Heap} {b : Addr} {o : Obj} (hb : b ∈ fp) (e : h.get? b = some o) : (b, o) ∈ pinsAt fp h := List.mem_filterMap.mpr ⟨b, hb, by rw [e]; rfl⟩
theorem of_pinsAt {fp : List Addr} {h : Heap} {p : Addr × Obj} (hp : p ∈ pinsAt fp h) : p.1 ∈ fp ∧ h.get? p.1 = some p.2 := by
  obtain ⟨b, hb, e⟩ := List.mem_filterMap.mp hp
  cases q : h.get? b with
  | none => rw [q] at e; cases e
  | some o =>
    rw [q] at e
    have e' : (b, o) = p := Option.some.inj e
    subst e'
    exact ⟨hb, q⟩
theorem Inv.pinned {pins : List (Addr × Obj)} {σ : St} {H : Hp} {s : Shared} {fp : List Addr} (I : Inv X pins σ H s) (hf : ∀ b ∈ fp, FpOk X pins H b) (ho : ∀ b ∈ fp, ∃ o, s.heap.get? b = some o ∧ ∀ v, o.data ≠ .cell v) : Inv X (pins ++ pinsAt fp s.heap) σ H s :=
  I.pins_of fun p hp => (List.mem_append.mp hp).elim (fun z => I.pin p (List.mem_append_right _ z)) fun z => by
    obtain ⟨hb, e⟩ := of_pinsAt z
    obtain ⟨f0, f1, f2, _⟩ := hf p.1 hb
    obtain ⟨o, e', d⟩ := ho p.1 hb
    rw [e] at e'; cases e'
    exact ⟨e, f0, f1, f2, d⟩
theorem Inv.unpinned {pins pl : List (Addr × Obj)} {σ : St} {H : Hp} {s : Shared} (I : Inv X (pins ++ pl) σ H s) : Inv X pins σ H s := I.pins_of fun p hp => I.pin p (List.mem_append_right _ (List.mem_append_left _ hp))
theorem ps_for {iter : Expr} {body : List Stmt} {wi : TI} {g : TG} {tb : TS} {pos : Pos} (hp : PassesOwn (model X.prog X.w) X.A X.env X.xe) (hc : X.calm = true) (hi : PI X tg iter wi) (hg : PG X tg g) (hb : PSs X body tb)
    (hs : ∀ x, foldedSetIterable iter X.env x = pure x := by intro _; rfl) : PS X (.For tg iter body [] pos) (tFor wi g tb) := by
  intro pins s σ H D I h
  refine wpAny_For (thn (hi pins s σ H _ I h) fun v s1 h1 => thn h1 fun itv s2 h2 => ?_) hs
  obtain ⟨it, fp, tn, J, H2, e, I2, T, st2, f2, W, ⟨m0, w0⟩, turn⟩ := h2
  subst e
  have stat : ∀ {H' : Hp}, (∀ b ∈ fp, H' b = none) → ∀ b ∈ fp, FpOk X pins H' b := fun hn b hb => ⟨hn b hb, (f2 b hb).2⟩
  refine codeAny_forLoop_any (fun n s' => ∃ i σ' H', Inv X pins σ' H' s' ∧ tn i s'.heap ∧ (∀ b ∈ fp, H' b = none) ∧ W i n σ' H') ?_ m0 ⟨0, σ, H2, I2, st2, fun b hb => (f2 b hb).1, w0⟩
  rintro n s3 ⟨i, σ3, H3, I3, st3, fr3, w3⟩
  rcases turn i n σ3 H3 w3 with ⟨stop, qn⟩ | ⟨go, N, hN, step⟩
  · refine wpAny_passesOwn hp (thn (T.done X rfl rfl rfl hc i pins s3 σ3 H3 X.xe I3 (stat fr3) st3 stop) fun r s4 ⟨hr, I4⟩ => ?_)
    subst hr
    exact wpAny_execs_nil ⟨σ3, H3, I4, qn⟩
  · refine wpAny_passesOwn hp (thn (T.item X rfl rfl rfl hc i pins s3 σ3 H3 X.xe I3 (stat fr3) st3 go) fun r s4 ⟨u, hr, h4⟩ => ?_)
    subst hr
    refine wpAny_passesOwn hp (thn h4 fun _ s5 ⟨x, H5, I5, r5, y5, st5, fr5⟩ => ?_)
    have I5' := I5.pinned (stat fr5) (T.obj _ _ st5)
    refine wpAny_passesOwn hp (thn (hg _ s5 σ3 H5 x u _ I5' r5 (step x H5 y5)) fun _ s6 ⟨σ6, H6, I6, q6⟩ => ?_)
    refine wpAny_passesOwn hp (thn (hb _ s6 σ6 H6 _ I6 q6) fun f s7 q7 => ?_)
    have again : ∀ {σ7 : St} {H7 : Hp}, Inv X (pins ++ pinsAt fp s5.heap) σ7 H7 s7 → N σ7 H7 → ∃ m, m < n ∧ ∃ i σ' H', Inv X pins σ' H' s7 ∧ tn i s7.heap ∧ (∀ b ∈ fp, H' b = none) ∧ W i m σ' H' := fun {σ7 H7} I7 n7 => by
      obtain ⟨m', hm, w7⟩ := hN σ7 H7 n7
      refine ⟨m', hm, i + 1, σ7, H7, I7.unpinned, T.keep _ _ _ st5 fun b hb o e => (I7.pin (b, o) (List.mem_append_right _ (List.mem_append_right _ (mem_pinsAt hb e)))).1, fun b hb => ?_, w7⟩
      obtain ⟨o, e, d⟩ := T.obj _ _ st5 b hb
      exact (I7.pin (b, o) (List.mem_append_right _ (List.mem_append_right _ (mem_pinsAt hb e)))).2.1
    cases f with
    | next => obtain ⟨σ7, H7, I7, n7⟩ := q7; exact again I7 n7
    | cont => obtain ⟨σ7, H7, I7, n7⟩ := q7; exact again I7 n7
    | brk => obtain ⟨σ7, H7, I7, q7⟩ := q7; exact ⟨σ7, H7, I7.unpinned, q7⟩
    | ret v => obtain ⟨x7, σ7, H7, I7, r7, q7⟩ := q7; exact ⟨x7, σ7, H7, I7.unpinned, r7, q7⟩
end
theorem for_list {K : PySem.W.Frag} {a : Addr} {xs : List V} {g : TG} {tb : TS} {D : Ends} {σ : St} {H : Hp} (Pv : Nat → St → Hp → Prop) (h0 : Pv 0 σ H) (hl : ∀ i σ H, i ≤ xs.length → Pv i σ H → SqL K H a xs)
    (hs : ∀ i x σ H, xs[i]? = some x → Pv i σ H → g x σ H fun σ2 H2 => tb { D with nx := Pv (i + 1), ct := Pv (i + 1), bk := D.nx } σ2 H2) (hd : ∀ σ H, Pv xs.length σ H → D.nx σ H) :
    ∃ W : Nat → Nat → St → Hp → Prop, (∃ m, W 0 m σ H) ∧ ∀ i m σ H, W i m σ H →
      ((Itl K a).stop i H ∧ D.nx σ H) ∨ ((Itl K a).go i H ∧ ∃ N : St → Hp → Prop, (∀ σ' H', N σ' H' → ∃ m', m' < m ∧ W (i + 1) m' σ' H') ∧ ∀ x H', (Itl K a).yld i H x H' → g x σ H' fun σ2 H2 => tb { D with nx := N, ct := N, bk := D.nx } σ2 H2) := by
  refine ⟨fun i m σ H => m = xs.length - i ∧ i ≤ xs.length ∧ Pv i σ H, ⟨xs.length, by simp, Nat.zero_le _, h0⟩, ?_⟩
  rintro i m σ H ⟨rfl, hi, p⟩
  have q := hl i σ H hi p
  by_cases hlt : i < xs.length
  · refine .inr ⟨⟨xs, xs[i], q, by simp [hlt]⟩, Pv (i + 1), fun σ' H' p' => ⟨xs.length - (i + 1), by omega, rfl, hlt, p'⟩, fun x H' y => ?_⟩
    obtain ⟨e, y⟩ := y
    subst e
    exact hs i x σ _ (y xs q) p
  · have e : i = xs.length := by omega
    subst e
    exact .inl ⟨⟨xs, q, Nat.le_refl _⟩, hd σ H p⟩
theorem for_range {lo : Int} {n : Nat} {g : TG} {tb : TS} {D : Ends} {σ : St} {H : Hp} (Pv : Nat → St → Hp → Prop) (h0 : Pv 0 σ H)
    (hs : ∀ i σ H, i < n → Pv i σ H → g (.int (lo + i)) σ H fun σ2 H2 => tb { D with nx := Pv (i + 1), ct := Pv (i + 1), bk := D.nx } σ2 H2) (hd : ∀ σ H, Pv n σ H → D.nx σ H) :
    ∃ W : Nat → Nat → St → Hp → Prop, (∃ m, W 0 m σ H) ∧ ∀ i m σ H, W i m σ H →
      ((Itr lo n).stop i H ∧ D.nx σ H) ∨ ((Itr lo n).go i H ∧ ∃ N : St → Hp → Prop, (∀ σ' H', N σ' H' → ∃ m', m' < m ∧ W (i + 1) m' σ' H') ∧ ∀ x H', (Itr lo n).yld i H x H' → g x σ H' fun σ2 H2 => tb { D with nx := N, ct := N, bk := D.nx } σ2 H2) := by
  refine ⟨fun i m σ H => m = n - i ∧ i ≤ n ∧ Pv i σ H, ⟨n, by simp, Nat.zero_le _, h0⟩, ?_⟩
  rintro i m σ H ⟨rfl, hi, p⟩
  by_cases hlt : i < n
  · refine .inr ⟨hlt, Pv (i + 1), fun σ' H' p' => ⟨n - (i + 1), by omega, rfl, hlt, p'⟩, fun x H' y => ?_⟩
    obtain ⟨e, y⟩ := y
    subst e y
    exact hs i σ _ hlt p
  · have e : i = n := by omega
    subst e
    exact .inl ⟨Nat.le_refl _, hd σ H p⟩
end L2
namespace L2
open PySem PySem.Spec PyProof.Rows
abbrev R2 := V → V → Hp → VK → Prop
def OpR (X : Cx) (f : Value → Value → Sem Value) (r : R2) : Prop :=
  ∀ (pins : List (Addr × Obj)) (s : Shared) (σ : St) (H : Hp) (x y : V) (v u : Value) (Q : VK), Inv X pins σ H s → RelV x v → RelV y u → r x y H Q →
    wpAny (model X.prog X.w) X.A (f v u) (EP X pins σ Q) X.xe s
def UnR (X : Cx) (f : Value → Sem Value) (r : V → Hp → VK → Prop) : Prop :=
  ∀ (pins : List (Addr × Obj)) (s : Shared) (σ : St) (H : Hp) (x : V) (v : Value) (Q : VK), Inv X pins σ H s → RelV x v → r x H Q →
    wpAny (model X.prog X.w) X.A (f v) (EP X pins σ Q) X.xe s
def CallR (X : Cx) (f : Value) (r : List V → Hp → VK → Prop) : Prop :=
  ∀ (pins : List (Addr × Obj)) (s : Shared) (σ : St) (H : Hp) (xs : List V) (us : List Value) (Q : VK), Inv X pins σ H s → Vals xs us → r xs H Q →
    wpAny (model X.prog X.w) X.A (call f us) (EP X pins σ Q) X.xe s
def TruR (X : Cx) (r : V → Hp → (Bool → Hp → Prop) → Prop) : Prop :=
  ∀ (pins : List (Addr × Obj)) (s : Shared) (σ : St) (H : Hp) (x : V) (v : Value) (Q : Bool → Hp → Prop), Inv X pins σ H s → RelV x v → r x H Q →
    wpAny (model X.prog X.w) X.A (truthy v) (TP X pins σ Q) X.xe s
def tOp (r : R2) (ta tb : TE) : TE := fun σ H Q => ta σ H fun x H1 => tb σ H1 fun y H2 => r x y H2 Q
def tUn (r : V → Hp → VK → Prop) (ta : TE) : TE := fun σ H Q => ta σ H fun x H1 => r x H1 Q
def rI (C : Int → Int → Prop) (g : Int → Int → V) : R2 := fun x y H Q => ∃ i j, x = .int i ∧ y = .int j ∧ C i j ∧ Q (g i j) H
def rI0 (g : Int → Int → V) : R2 := fun x y H Q => ∃ i j, x = .int i ∧ y = .int j ∧ Q (g i j) H
def rU (g : Int → V) : V → Hp → VK → Prop := fun x H Q => ∃ i, x = .int i ∧ Q (g i) H
section
variable {X : Cx} {a b c : Expr} {ta tb tc : TE} {pos : Pos}
theorem binT (ha : PE X a ta) (hb : PE X b tb) {pins : List (Addr × Obj)} {s : Shared} {σ : St} {H : Hp} {R : V → V → Hp → Prop} (I : Inv X pins σ H s)
    (h : ta σ H fun x H1 => tb σ H1 fun y H2 => R x y H2) {Q : Value → Shared → Prop} {f : Value → Value → Sem Value}
    (hf : ∀ v u s2 x y H2, Inv X pins σ H2 s2 → RelV x v → RelV y u → R x y H2 → wpAny (model X.prog X.w) X.A (f v u) Q X.xe s2) :
    wpAny (model X.prog X.w) X.A (eval a X.env) (fun v s₁ => wpAny (model X.prog X.w) X.A (eval b X.env) (fun u s₂ => wpAny (model X.prog X.w) X.A (f v u) Q X.xe s₂) X.xe s₁) X.xe s := by
  refine thn (ha pins s σ H _ I h) fun v s1 ⟨x, H1, I1, r1, q1⟩ => ?_
  refine thn (hb pins s1 σ H1 _ I1 q1) fun u s2 ⟨y, H2, I2, r2, q2⟩ => ?_
  exact hf v u s2 x y H2 I2 r1 r2 q2
theorem pe_op {op : Operator} {r : R2} (ho : OpR X (binaryOp op) r) (ha : PE X a ta) (hb : PE X b tb) : PE X (.BinOp a op b pos) (tOp r ta tb) := by
  intro pins s σ H Q I h
  exact wpAny_BinOp (binT ha hb I h fun v u s2 x y H2 I2 rx ry q => ho pins s2 σ H2 x y v u Q I2 rx ry q)
theorem pe_un {op : UnaryOp} {r : V → Hp → VK → Prop} (ho : UnR X (unaryOp op) r) (ha : PE X a ta) : PE X (.UnaryOp op a pos) (tUn r ta) := by
  intro pins s σ H Q I h
  exact UnaryOp_ (thn (ha pins s σ H _ I h) fun v s1 ⟨x, H1, I1, r1, q1⟩ => ho pins s1 σ H1 x v Q I1 r1 q1)
theorem opI {f : Value → Value → Sem Value} {C : Int → Int → Prop} {g : Int → Int → Int}
    (rule : ∀ (i j : Int) (t u : Tok) (s : Shared) (Q : Value → Shared → Prop) (E : Value → Shared → Prop), C i j → Q (.int (g i j) s.toks) { s with toks := s.toks + 1 } → wpAny (model X.prog X.w) X.A (f (.int i t) (.int j u)) Q E s) :
    OpR X f (rI C fun i j => .int (g i j)) := by
  intro pins s σ H x y v u Q I rx ry h
  obtain ⟨i, j, rfl, rfl, hc, q⟩ := h
  obtain ⟨t, rfl⟩ := rx
  obtain ⟨t', rfl⟩ := ry
  exact rule i j t t' s _ _ hc ⟨.int (g i j), H, I.tok _, ⟨_, rfl⟩, q⟩
theorem opI0 {f : Value → Value → Sem Value} {g : Int → Int → Int}
    (rule : ∀ (i j : Int) (t u : Tok) (s : Shared) (Q : Value → Shared → Prop) (E : Value → Shared → Prop), Q (.int (g i j) s.toks) { s with toks := s.toks + 1 } → wpAny (model X.prog X.w) X.A (f (.int i t) (.int j u)) Q E s) :
    OpR X f (rI0 fun i j => .int (g i j)) := by
  intro pins s σ H x y v u Q I rx ry h
  obtain ⟨i, j, rfl, rfl, q⟩ := h
  obtain ⟨t, rfl⟩ := rx
  obtain ⟨t', rfl⟩ := ry
  exact rule i j t t' s _ _ ⟨.int (g i j), H, I.tok _, ⟨_, rfl⟩, q⟩
theorem opB0 {f : Value → Value → Sem Value} {g : Int → Int → Bool}
    (rule : ∀ (i j : Int) (t u : Tok) (s : Shared) (Q : Value → Shared → Prop) (E : Value → Shared → Prop), Q (.bool (g i j)) s → wpAny (model X.prog X.w) X.A (f (.int i t) (.int j u)) Q E s) :
    OpR X f (rI0 fun i j => .bl (g i j)) := by
  intro pins s σ H x y v u Q I rx ry h
  obtain ⟨i, j, rfl, rfl, q⟩ := h
  obtain ⟨t, rfl⟩ := rx
  obtain ⟨t', rfl⟩ := ry
  exact rule i j t t' s _ _ ⟨.bl (g i j), H, I, rfl, q⟩
def CDiv (i j : Int) : Prop := 0 < j ∧ j < 1073741824
def CMul (i j : Int) : Prop := (-(2 ^ 64) < i ∧ i < 2 ^ 64) ∨ (-(2 ^ 64) < j ∧ j < 2 ^ 64)
theorem CMul.ok {i j : Int} (h : CMul i j) : IntMulOk i j := by
  rcases h with ⟨h1, h2⟩ | ⟨h1, h2⟩
  · exact .of_left (intBits_le_64 h1 h2)
  · exact .of_right (intBits_le_64 h1 h2)
theorem op_add : OpR X (binaryOp .Add) (rI0 fun i j => .int (i + j)) := opI0 fun _ _ _ _ _ _ _ q => add_int q
theorem op_sub : OpR X (binaryOp .Sub) (rI0 fun i j => .int (i - j)) := opI0 fun _ _ _ _ _ _ _ q => sub_int q
theorem op_mul : OpR X (binaryOp .Mult) (rI CMul fun i j => .int (i * j)) := opI fun _ _ _ _ _ _ _ hc q => mul_int q hc.ok
theorem op_fdiv : OpR X (binaryOp .FloorDiv) (rI CDiv fun i j => .int (i / j)) := opI fun i j _ _ _ _ _ hc q => by
  have h1 : (0 : Int) < j := hc.1
  have h2 : j < 1073741824 := hc.2
  exact floordiv_int (by omega) (by rw [Int.fdiv_eq_ediv_of_nonneg i (by omega)]; exact q) (.inl (PyProof.noPylong_small (by omega)))
theorem op_mod : OpR X (binaryOp .Mod) (rI (fun _ j => 0 < j) fun i j => .int (i % j)) := opI fun i j _ _ _ _ _ hc q => by
  have h1 : (0 : Int) < j := hc
  exact mod_int' (by omega) (by rw [Int.fmod_eq_emod_of_nonneg i (by omega)]; exact q)
theorem unI {f : Value → Sem Value} {g : Int → Int}
    (rule : ∀ (i : Int) (t : Tok) (s : Shared) (Q : Value → Shared → Prop) (E : Value → Shared → Prop), Q (.int (g i) s.toks) { s with toks := s.toks + 1 } → wpAny (model X.prog X.w) X.A (f (.int i t)) Q E s) :
    UnR X f (rU fun i => .int (g i)) := by
  intro pins s σ H x v Q I rx h
  obtain ⟨i, rfl, q⟩ := h
  obtain ⟨t, rfl⟩ := rx
  exact rule i t s _ _ ⟨.int (g i), H, I.tok _, ⟨_, rfl⟩, q⟩
theorem un_neg : UnR X (unaryOp .USub) (rU fun i => .int (-i)) := unI fun _ _ _ _ _ q => neg_int q
end
def scal : V → V → Bool
  | .non, .non => true | .non, .int _ => true | .int _, .non => true | .non, .bl _ => true | .bl _, .non => true | .non, .str _ => true | .str _, .non => true
  | .int _, .int _ => true | .bl _, .bl _ => true | .str _, .str _ => true | .byt _, .byt _ => true
  | .int _, .str _ => true | .str _, .int _ => true | .bl _, .str _ => true | .str _, .bl _ => true
  | _, _ => false
def rEq : R2 := fun x y H Q => scal x y = true ∧ Q (.bl (decide (x = y))) H
def rNe : R2 := fun x y H Q => scal x y = true ∧ Q (.bl (!decide (x = y))) H
theorem dec_int {i j : Int} : decide (V.int i = V.int j) = (i == j) := by
  rw [Bool.eq_iff_iff]
  simp
theorem dec_bl {i j : Bool} : decide (V.bl i = V.bl j) = (i == j) := by
  rw [Bool.eq_iff_iff]
  simp
theorem dec_str {i j : Str} : decide (V.str i = V.str j) = (i == j) := by
  rw [Bool.eq_iff_iff]
  simp
theorem dec_byt {i j : Array UInt8} : decide (V.byt i = V.byt j) = (i.toList == j.toList) := by
  rw [Bool.eq_iff_iff]
  cases i
  cases j
  simp
section
variable {X : Cx} {a b c : Expr} {ta tb tc : TE} {pos : Pos}
theorem fin_bl {pins : List (Addr × Obj)} {σ : St} {H : Hp} {s : Shared} {Q : VK} {k k' : Bool} (I : Inv X pins σ H s) (q : Q (.bl k) H) (e : k = k') : EP X pins σ Q (.bool k') s := by
  subst e
  exact ⟨.bl k, H, I, rfl, q⟩
theorem op_eq : OpR X (compareOp .Eq) rEq := by
  intro pins s σ H x y v u Q I rx ry h
  obtain ⟨hs, q⟩ := h
  cases x with
  | non =>
    cases rx
    cases y with
    | non => cases ry; exact PySem.EqNone.eq_none_none (fin_bl I q (by simp))
    | bl j => cases ry; exact PySem.EqNone.eq_none_bool (fin_bl I q (by simp))
    | int j => obtain ⟨t', rfl⟩ := ry; exact PySem.EqNone.eq_none_int (fin_bl I q (by simp))
    | str j => obtain ⟨t', rfl⟩ := ry; exact PySem.EqNone.eq_none_str (fin_bl I q (by simp))
    | _ => exact absurd (show false = true from hs) Bool.false_ne_true
  | bl i =>
    cases rx
    cases y with
    | non => cases ry; exact PySem.EqNone.eq_bool_none (fin_bl I q (by simp))
    | bl j => cases ry; exact eq_bool (fin_bl I q dec_bl)
    | str j => obtain ⟨t', rfl⟩ := ry; exact PySem.EqMixed.eq_bool_str (fin_bl I q (by simp))
    | _ => exact absurd (show false = true from hs) Bool.false_ne_true
  | int i =>
    obtain ⟨t, rfl⟩ := rx
    cases y with
    | non => cases ry; exact PySem.EqNone.eq_int_none (fin_bl I q (by simp))
    | int j => obtain ⟨t', rfl⟩ := ry; exact eq_int (fin_bl I q dec_int)
    | str j => obtain ⟨t', rfl⟩ := ry; exact PySem.EqMixed.eq_int_str (fin_bl I q (by simp))
    | _ => exact absurd (show false = true from hs) Bool.false_ne_true
  | str i =>
    obtain ⟨t, rfl⟩ := rx
    cases y with
    | non => cases ry; exact PySem.EqNone.eq_str_none (fin_bl I q (by simp))
    | bl j => cases ry; exact PySem.EqMixed.eq_str_bool (fin_bl I q (by simp))
    | int j => obtain ⟨t', rfl⟩ := ry; exact PySem.EqMixed.eq_str_int (fin_bl I q (by simp))
    | str j => obtain ⟨t', rfl⟩ := ry; exact eq_str (fin_bl I q dec_str)
    | _ => exact absurd (show false = true from hs) Bool.false_ne_true
  | byt i =>
    obtain ⟨t, rfl⟩ := rx
    cases y with
    | byt j => obtain ⟨t', rfl⟩ := ry; exact PySem.W.eq_bytes (fin_bl I q dec_byt)
    | _ => exact absurd (show false = true from hs) Bool.false_ne_true
  | _ => cases y <;> exact absurd (show false = true from hs) Bool.false_ne_true
theorem op_ne : OpR X (compareOp .NotEq) rNe := by
  intro pins s σ H x y v u Q I rx ry h
  obtain ⟨hs, q⟩ := h
  cases x with
  | non =>
    cases rx
    cases y with
    | non => cases ry; exact PySem.EqNone.ne_none_none (fin_bl I q (by simp))
    | bl j => cases ry; exact PySem.EqNone.ne_none_bool (fin_bl I q (by simp))
    | int j => obtain ⟨t', rfl⟩ := ry; exact PySem.EqNone.ne_none_int (fin_bl I q (by simp))
    | str j => obtain ⟨t', rfl⟩ := ry; exact PySem.EqNone.ne_none_str (fin_bl I q (by simp))
    | _ => exact absurd (show false = true from hs) Bool.false_ne_true
  | bl i =>
    cases rx
    cases y with
    | non => cases ry; exact PySem.EqNone.ne_bool_none (fin_bl I q (by simp))
    | bl j => cases ry; exact ne_bool (fin_bl I q (congrArg not dec_bl))
    | str j => obtain ⟨t', rfl⟩ := ry; exact PySem.EqMixed.ne_bool_str (fin_bl I q (by simp))
    | _ => exact absurd (show false = true from hs) Bool.false_ne_true
  | int i =>
    obtain ⟨t, rfl⟩ := rx
    cases y with
    | non => cases ry; exact PySem.EqNone.ne_int_none (fin_bl I q (by simp))
    | int j => obtain ⟨t', rfl⟩ := ry; exact ne_int (fin_bl I q (congrArg not dec_int))
    | str j => obtain ⟨t', rfl⟩ := ry; exact PySem.EqMixed.ne_int_str (fin_bl I q (by simp))
    | _ => exact absurd (show false = true from hs) Bool.false_ne_true
  | str i =>
    obtain ⟨t, rfl⟩ := rx
    cases y with
    | non => cases ry; exact PySem.EqNone.ne_str_none (fin_bl I q (by simp))
    | bl j => cases ry; exact PySem.EqMixed.ne_str_bool (fin_bl I q (by simp))
    | int j => obtain ⟨t', rfl⟩ := ry; exact PySem.EqMixed.ne_str_int (fin_bl I q (by simp))
    | str j => obtain ⟨t', rfl⟩ := ry; exact ne_str (fin_bl I q (congrArg not dec_str))
    | _ => exact absurd (show false = true from hs) Bool.false_ne_true
  | byt i =>
    obtain ⟨t, rfl⟩ := rx
    cases y with
    | byt j => obtain ⟨t', rfl⟩ := ry; exact PySem.W.ne_bytes (fin_bl I q (congrArg not dec_byt))
    | _ => exact absurd (show false = true from hs) Bool.false_ne_true
  | _ => cases y <;> exact absurd (show false = true from hs) Bool.false_ne_true
theorem op_lt : OpR X (compareOp .Lt) (rI0 fun i j => .bl (decide (i < j))) := opB0 fun _ _ _ _ _ _ _ q => lt_int q
theorem op_gt : OpR X (compareOp .Gt) (rI0 fun i j => .bl (decide (j < i))) := opB0 fun _ _ _ _ _ _ _ q => gt_int q
theorem op_isN : OpR X (compareOp .Is) (fun x y H Q => y = .non ∧ Q (.bl (decide (x = .non))) H) := by
  intro pins s σ H x y v u Q I rx ry h
  obtain ⟨rfl, q⟩ := h
  cases ry
  refine is_none_gen (fin_bl I q ?_)
  cases x <;> first
    | (cases rx; rfl)
    | (obtain ⟨t, rfl⟩ := rx; rfl)
theorem op_notN : OpR X (compareOp .IsNot) (fun x y H Q => y = .non ∧ Q (.bl (!decide (x = .non))) H) := by
  intro pins s σ H x y v u Q I rx ry h
  obtain ⟨rfl, q⟩ := h
  cases ry
  refine isnot_none_gen (fin_bl I q ?_)
  cases x <;> first
    | (cases rx; rfl)
    | (obtain ⟨t, rfl⟩ := rx; rfl)
theorem OpR.or {f : Value → Value → Sem Value} {r r' : R2} (h : OpR X f r) (h' : OpR X f r') : OpR X f (fun x y H Q => r x y H Q ∨ r' x y H Q) := by
  intro pins s σ H x y v u Q I rx ry q
  rcases q with q | q
  · exact h pins s σ H x y v u Q I rx ry q
  · exact h' pins s σ H x y v u Q I rx ry q
theorem nomark (b : Expr) {op : CmpOp} (h : op ≠ .In := by decide) (h2 : op ≠ .NotIn := by decide) : behindInMarks op b = false := by
  have e1 : (op == CmpOp.In) = false := by cases op <;> first | rfl | exact absurd rfl h
  have e2 : (op == CmpOp.NotIn) = false := by cases op <;> first | rfl | exact absurd rfl h2
  cases b <;> simp [behindInMarks, e1, e2]
theorem pe_cmpR {op : CmpOp} {r : R2} (ho : OpR X (compareOp op) r) (ha : PE X a ta) (hb : PE X b tb) (hm : behindInMarks op b = false) : PE X (.Compare a [op] [b] pos) (tOp r ta tb) := by
  intro pins s σ H Q I h
  exact wpAny_Compare1 (binT ha hb I h fun v u s2 x y H2 I2 rx ry q => ho pins s2 σ H2 x y v u Q I2 rx ry q) hm
def tTest (t : TE) : TT := fun σ H Q => t σ H fun x H' => ∃ k, x = .bl k ∧ Q k H'
theorem pt_cmpR {op : CmpOp} {r : R2} (ho : OpR X (compareOp op) r) (ha : PE X a ta) (hb : PE X b tb) (hm : behindInMarks op b = false) : PT X (.Compare a [op] [b] pos) (tTest (tOp r ta tb)) := by
  intro pins s σ H Q I h
  refine wpAny_isTrue_Compare1 (thn (ha pins s σ H _ I h) fun v s1 ⟨x, H1, I1, r1, q1⟩ => thn (hb pins s1 σ H1 _ I1 q1) fun u s2 ⟨y, H2, I2, r2, q2⟩ =>
    thn (ho pins s2 σ H2 x y v u _ I2 r1 r2 q2) fun c s3 ⟨z, H3, I3, r3, k, e, q3⟩ => ?_) hm
  subst e
  cases r3
  exact wpAny_truthy_bool ⟨H3, I3, q3⟩
def TruV (K : PySem.W.Frag) (x : V) (H : Hp) (k : Bool) : Prop :=
  match x with
  | .non => k = false
  | .bl b => k = b
  | .int i => k = (i != 0)
  | .str y => y.length ≤ sizeLine ∧ k = ((y.length : Int) != 0)
  | .byt y => y.size ≤ sizeLine ∧ k = ((y.size : Int) != 0)
  | .ref p => (∃ xs, SqL K H p xs ∧ k = !xs.isEmpty) ∨ (∃ xs, SqT K H p xs ∧ k = !xs.isEmpty) ∨ ∃ kvs, H p = some (.dK kvs) ∧ k = !kvs.isEmpty
  | _ => False
theorem isEmpty_kv {κ : Type} {kvs : List (κ × V)} {vs : List (κ × Value)} (r : KV kvs vs) : (!vs.isEmpty) = !kvs.isEmpty := by
  cases r <;> rfl
theorem isEmpty_of {xs : List V} {its : List Value} (r : Vals xs its) : (!its.toArray.isEmpty) = !xs.isEmpty := by
  cases r <;> simp
theorem line63 : (sizeLine : Nat) < 2 ^ 63 := by rw [sizeLine_eq]; decide
theorem tru_ok : TruR X (fun x H Q => ∃ k, TruV X.K x H k ∧ Q k H) := by
  intro pins s σ H x v Q I rx h
  obtain ⟨k, e, q⟩ := h
  have hl := line63
  have hs : sizeLine = 16777216 := sizeLine_eq
  cases x with
  | non =>
    cases rx
    have e' : k = false := e
    subst e'
    exact truthy_none ⟨H, I, q⟩
  | bl b =>
    cases rx
    have e' : k = b := e
    subst e'
    exact wpAny_truthy_bool ⟨H, I, q⟩
  | int i =>
    obtain ⟨t, rfl⟩ := rx
    have e' : k = (i != 0) := e
    subst e'
    exact PySem.P.truthy_int ⟨H, I, q⟩
  | str y =>
    obtain ⟨t, rfl⟩ := rx
    obtain ⟨hy, e'⟩ : y.length ≤ sizeLine ∧ k = ((y.length : Int) != 0) := e
    subst e'
    exact PySem.P.truthy_str (by omega) ⟨H, I.tok _, q⟩
  | byt y =>
    obtain ⟨t, rfl⟩ := rx
    obtain ⟨hy, e'⟩ : y.size ≤ sizeLine ∧ k = ((y.size : Int) != 0) := e
    subst e'
    exact PySem.W.truthy_bytes (by omega) ⟨H, I.tok _, q⟩
  | ref p =>
    cases rx
    have e' : (∃ xs, SqL X.K H p xs ∧ k = !xs.isEmpty) ∨ (∃ xs, SqT X.K H p xs ∧ k = !xs.isEmpty) ∨ ∃ kvs, H p = some (.dK kvs) ∧ k = !kvs.isEmpty := e
    rcases e' with ⟨xs, hx, e'⟩ | ⟨xs, hx, e'⟩ | ⟨kvs, hx, e'⟩
    · subst e'
      obtain ⟨its, r, pl, hz⟩ := I.list hx
      have hlen := r.length
      exact wpAny_truthy_list pl.isList (by simp only [List.size_toArray]; omega) ⟨H, I.tok _, by rw [isEmpty_of r]; exact q⟩
    · subst e'
      obtain ⟨its, r, pl, hz⟩ := I.tuple hx
      have hlen := r.length
      exact truthy_tuple pl (by simp only [List.size_toArray]; omega) ⟨H, I.tok _, by rw [isEmpty_of r]; exact q⟩
    · subst e'
      obtain ⟨hz, hS, vs, r, m⟩ : kvs.length ≤ sizeLine ∧ (p == sysModules) = false ∧ ∃ vs, KV kvs vs ∧ s.heap.DictOf (mixKind X.prog X.w) p vs := I.hok p _ hx
      have hlen : kvs.length = vs.length := Paired.length r
      exact wpAny_truthy_dict hS m (by omega) ⟨H, I.tok _, by rw [isEmpty_kv r]; exact q⟩
  | _ => exact (show False from e).elim
theorem pt_truth (ha : PE X a ta) (he : ∀ whole, isTrue a X.env whole = (do let v ← whole; standAt a.pos; holding [v] (truthy v))) :
    PT X a (fun σ H Q => ta σ H fun x H' => ∃ k, TruV X.K x H' k ∧ Q k H') := by
  intro pins s σ H Q I h
  exact isTrue_plain (thn (ha pins s σ H _ I h) fun v s1 ⟨x, H1, I1, r1, q1⟩ => tru_ok pins s1 σ H1 x v Q I1 r1 q1) (he _)
theorem vals1 {x : V} {us : List Value} (r : Vals [x] us) : ∃ u, us = [u] ∧ RelV x u := by
  cases r with
  | cons r1 r2 => cases r2; exact ⟨_, rfl, r1⟩
theorem vals2 {x y : V} {us : List Value} (r : Vals [x, y] us) : ∃ u w', us = [u, w'] ∧ RelV x u ∧ RelV y w' := by
  cases r with
  | cons r1 r2 =>
    cases r2 with
    | cons r3 r4 => cases r4; exact ⟨_, _, rfl, r1, r3⟩
theorem call_abs : CallR X (.builtin "abs") (fun xs H Q => ∃ i, xs = [.int i] ∧ Q (.int (if i < 0 then -i else i)) H) := by
  intro pins s σ H xs us Q I r h
  obtain ⟨i, rfl, q⟩ := h
  obtain ⟨u, rfl, t, rfl⟩ := vals1 r
  exact call_abs_int fun u tk => ⟨.int (if i < 0 then -i else i), H, I.tok _, ⟨_, rfl⟩, q⟩
end
end L2
namespace L2
open PySem PySem.Spec PyProof.Rows
structure ObjM (h : Heap) (x dx C : Addr) (mA : Str → Option Value) : Prop where
  obj : h.get? x = some (PySem.W.instObj C dx)
  ns : h.Ns1 dx mA
  ne : dx ≠ x
section
variable {prog : Program} {w : World} {A : Around} {E : Value → Shared → Prop} {s : Shared} {K : PySem.W.Frag} {x dx C f : Addr} {mA : Str → Option Value} {name : Str} {v : Value}
end
section
variable {P : Program} {w : World} {H H' : Hp} {h h' : Heap} {a C dx : Addr} {fs fs' : List (Str × V)}
end
structure Cls (K : PySem.W.Frag) (C : Addr) : Prop where
  pg : PySem.W.plainGet K C Str.empty = true
  hd : PySem.W.hasDictIn K C = true
  po : PySem.W.plainOver K C = true
  sa : PySem.W.findIn K (.ref C) "__setattr__" = some (some (.builtin "object.__setattr__"))
structure Con (K : PySem.W.Frag) (C : Addr) (f : Str) (v : V) (u : Value) : Prop where
  at_ : PySem.W.findIn K (.ref C) f = some (some u)
  rel : RelV v u
  get : PySem.W.specialIn K u "__get__" = some none
  cp : PySem.W.copiedNames.contains f = false
structure Meth (K : PySem.W.Frag) (C : Addr) (m : Str) (f : Addr) : Prop where
  at_ : PySem.W.findIn K (.ref C) m = some (some (.ref f))
  fn : PySem.W.isFn K (.ref f) = true
  kp : PySem.W.keepIn K (.ref f) = true
section
variable {X : Cx} {pins : List (Addr × Obj)} {σ : St} {H : Hp} {s : Shared} {a C dx : Addr} {fs : List (Str × V)} {f : Str} {v : V} {A : Around} {E : Value → Shared → Prop}
theorem Inv.made (I : Inv X pins σ H s) : Inv X pins σ (upd (upd H s.heap.objs.size (.own (s.heap.objs.size + 1))) (s.heap.objs.size + 1) (.ins C s.heap.objs.size []))
    { s with heap := (s.heap.push PySem.W.emptyDict).push (PySem.W.instObj C s.heap.objs.size) } := by
  have e1 : (s.heap.push PySem.W.emptyDict).get? s.heap.objs.size = some PySem.W.emptyDict := Heap.get?_push_size s.heap rfl
  have e2 : ((s.heap.push PySem.W.emptyDict).push (PySem.W.instObj C s.heap.objs.size)).get? (s.heap.objs.size + 1) = some (PySem.W.instObj C s.heap.objs.size) := by
    have := Heap.get?_push_size (s.heap.push PySem.W.emptyDict) (o := PySem.W.instObj C s.heap.objs.size) rfl
    rwa [Heap.size_push] at this
  have e3 : (s.heap.push PySem.W.emptyDict).Ns s.heap.objs.size (fun _ => none) := ⟨PySem.W.emptyDict, #[], _, e1, rfl, (fun e he => absurd he (by simp)), fun _ => rfl⟩
  have I1 := I.laid (a := s.heap.objs.size) (o := .own (s.heap.objs.size + 1)) (h' := s.heap.push PySem.W.emptyDict) (t' := s.toks) (fun b u q => Heap.get?_push_of_some _ q) (Nat.le_refl _) ⟨_, e1⟩
  refine I1.laid (a := s.heap.objs.size + 1) (o := .ins C s.heap.objs.size []) (t' := s.toks) (fun b u q => Heap.get?_push_of_some _ q) (Nat.le_of_eq (Heap.size_push _ _)) ?_
  have ne : s.heap.objs.size ≠ s.heap.objs.size + 1 := Nat.ne_of_lt (Nat.lt_succ_self _)
  refine ⟨by rw [upd_ne ne, upd_same], Nat.zero_le _, ne, e2, fun _ => none, (Heap.Ns1.of_empty e3).at fun o q => Heap.get?_push_of_some _ q, fun _ => True.intro, fun y hy => absurd rfl hy⟩
end
section
variable {X : Cx} {o e value : Expr} {f : Str} {pos pos' tpos : Pos} {ta tv : TE}
end
section
variable {X : Cx} {pins : List (Addr × Obj)} {σ : St} {H : Hp} {s : Shared} {A : Around} {E : Value → Shared → Prop} {Q : Value → Shared → Prop} {c : Value} {b : Bool}
inductive TyOf (K : PySem.W.Frag) (H : Hp) : V → Value → Prop where
  | non : TyOf K H .non (.type "NoneType")
  | bl (x : Bool) : TyOf K H (.bl x) (.type "bool")
  | int (i : Int) : TyOf K H (.int i) (.type "int")
  | str (x : Str) : TyOf K H (.str x) (.type "str")
  | flt (x : UInt64) : TyOf K H (.flt x) (.type "float")
  | lst {a : Addr} {xs : List V} (e : H a = some (.lst xs)) : TyOf K H (.ref a) (.type "list")
  | frz {a : Addr} {o : Obj} {xs : List V} (e : H a = some (.frz o (.lst xs))) : TyOf K H (.ref a) (.type "list")
  | tup {a : Addr} {xs : List V} (e : H a = some (.tup xs)) : TyOf K H (.ref a) (.type "tuple")
  | dK {a : Addr} {kvs : List (Key × V)} (e : H a = some (.dK kvs)) : TyOf K H (.ref a) (.type "dict")
  | dT {a : Addr} {kvs : List (List Key × V)} (e : H a = some (.dT kvs)) : TyOf K H (.ref a) (.type "dict")
  | ins {a C dx : Addr} {fs : List (Str × V)} (e : H a = some (.ins C dx fs)) (cl : Cls K C) (ha : PySem.W.findIn K (.ref C) "__class__" = some (some (.builtin "object.__class__")))
      (hn : PySem.W.specialIn K (.builtin "object.__class__") "__get__" = some (some (.builtin "getset_descriptor.__get__"))) (htk : PySem.W.takesIn K (.builtin "object.__class__") = some true)
      (hm : PySem.W.mroIn K C (.type "object") = some true) : TyOf K H (.ref a) (.ref C)
end
end L2
namespace L2
open PySem PySem.Spec PyProof.Rows
structure Room (k : Nat) (A : Around) : Prop where
  hd : A.handled = none
  dp : A.depth + 3 * k + 5 < recursionLimit
  un : A.units + 16 * k + 200 < cLine
theorem Room.mono {j k : Nat} {A : Around} (r : Room k A) (h : j ≤ k) : Room j A := ⟨r.hd, by have := r.dp; omega, by have := r.un; omega⟩
theorem Room.deeper {k : Nat} {A : Around} (r : Room (k + 1) A) (env : Env) : Room k (A.deeper env) :=
  ⟨r.hd, by have := r.dp; show A.depth + 1 + 3 * k + 5 < _; omega, by have := r.un; show A.units + 3 + 16 * k + 200 < _; omega⟩
theorem Room.in1 {k : Nat} {A : Around} (r : Room (k + 1) A) : Room k A.in1 :=
  ⟨r.hd, by have := r.dp; show A.depth + 3 * k + 5 < _; omega, by have := r.un; show A.units + 1 + 16 * k + 200 < _; omega⟩
theorem Room.depth {k : Nat} {A : Around} (r : Room k A) : A.depth < recursionLimit := by have := r.dp; omega
theorem Room.units {k : Nat} {A : Around} (r : Room k A) : A.units + 64 < cLine := by have := r.un; omega
theorem Room.units0 {k : Nat} {A : Around} (r : Room k A) : A.units < cLine := by have := r.un; omega
def tNil : TA := fun _ H Q => Q [] H
def tCons (ta : TE) (tr : TA) : TA := fun σ H Q => ta σ H fun x H1 => tr σ H1 fun xs H2 => Q (x :: xs) H2
section
variable {X : Cx} {e : Expr} {es : List Expr} {te : TE} {t : TA} {pos : Pos}
theorem pa_nil : PA X [] tNil := fun _ _ _ _ H Q I h => Calls.spliced_nil ⟨[], H, I, .nil, h⟩
theorem pa_cons (ha : PE X e te) (hr : PA X es t) (hs : starEach (e :: es) X.env = (false, eval e X.env) :: starEach es X.env := by rfl) : PA X (e :: es) (tCons te t) := by
  intro pos pins s σ H Q I h
  rw [hs]
  show wpAny _ _ (spliced ((false, eval e X.env) :: backTo pos (starEach es X.env))) _ _ s
  refine Calls.spliced_cons (thn (ha pins s σ H _ I h) fun u s1 ⟨x, H1, I1, r1, q1⟩ => ?_)
  exact thn (hr pos pins s1 σ H1 _ I1 q1) fun us s2 ⟨xs, H2, I2, r2, q2⟩ => ⟨x :: xs, H2, I2, .cons r1 r2, q2⟩
def tTup (t : TA) : TE := fun σ H Q => t σ H fun xs H1 => xs.length ≤ sizeLine ∧ ∀ p, H1 p = none → Q (.ref p) (upd H1 p (.tup xs))
def tLst (t : TA) : TE := fun σ H Q => t σ H fun xs H1 => xs.length ≤ sizeLine ∧ ∀ p, H1 p = none → Q (.ref p) (upd H1 p (.lst xs))
theorem pe_tup {x1} (h : PA X es t) : PE X (.Tuple es x1 pos) (tTup t) := by
  intro pins s σ H Q I hq
  refine wpAny_Tuple_spliced (thn (h pos pins s σ H _ I hq) fun us s1 ⟨xs, H1, I1, r, z, q⟩ => ⟨by rw [← r.length]; exact z, ?_⟩)
  have hf : H1 s1.heap.objs.size = none := I1.hok.fresh (Nat.le_refl _)
  refine ⟨.ref s1.heap.objs.size, upd H1 s1.heap.objs.size (.tup xs), I1.laid (t' := s1.toks) (fun b u e => Heap.get?_push_of_some _ e) (Nat.le_refl _) ?_, rfl, q _ hf⟩
  exact ⟨z, us, r, ⟨_, Heap.get?_push_size _ rfl, rfl, _, rfl⟩⟩
theorem pe_lst (h : PA X es t) : PE X (.List es pos) (tLst t) := by
  intro pins s σ H Q I hq
  refine wpAny_List_spliced (thn (h pos pins s σ H _ I hq) fun us s1 ⟨xs, H1, I1, r, z, q⟩ => ⟨by rw [← r.length]; exact z, ?_⟩)
  have hf : H1 s1.heap.objs.size = none := I1.hok.fresh (Nat.le_refl _)
  refine ⟨.ref s1.heap.objs.size, upd H1 s1.heap.objs.size (.lst xs), I1.laid (t' := s1.toks) (fun b u e => Heap.get?_push_of_some _ e) (Nat.le_refl _) ?_, rfl, q _ hf⟩
  exact ⟨z, us, 0, r, Heap.get?_push_size _ rfl⟩
end
abbrev Sp := List V → Hp → VK → XK → Prop
abbrev CXT := List Env → Hp → Shared → XK → Value → Shared → Prop
structure Env0 (P : Program) (w : World) (K : PySem.W.Frag) (mg : Str → Option Value) (base : Heap) (A : Around) (outer : List Env) (s : Shared) (H : Hp) : Prop where
  frames : A.frames = some outer
  mod : Mod K mg base
  bs : ∀ b o, base.get? b = some o → s.heap.get? b = some o ∧ H b = none
  bsz : base.objs.size ≤ s.heap.objs.size
  funs : s.heap.FunFrames base outer
  frf : ∀ b ∈ frs outer, H b = none
  hok : HOk P w H s.heap
  bare : AllBare s.gens
def CE (outer : List Env) (P : Program) (w : World) (H : Hp) (s : Shared) (Q : VK) (u : Value) (s' : Shared) : Prop :=
  ∃ v H', s'.os = s.os ∧ AllBare s'.gens ∧ Un (frs outer) [] H H' s.heap s'.heap ∧ HOk P w H' s'.heap ∧ RelV v u ∧ Q v H'
def CR (CX : CXT) (outer : List Env) (P : Program) (w : World) (H : Hp) (s : Shared) (Q : VK) (E : XK) (r : Result) (s' : Shared) : Prop :=
  match r with
  | .ok (.ret u) => CE outer P w H s Q u s'
  | .ok _ => False
  | .error e => CX outer H s E e s'
structure FnOk (P : Program) (w : World) (K : PySem.W.Frag) (mg : Str → Option Value) (base : Heap) (CX : CXT) (k : Nat) (f : Addr) (fd : FuncData) (ps : List Str) (sp : Sp) : Prop where
  len : ∀ vs H Q E, sp vs H Q E → vs.length = ps.length
  run : ∀ (A : Around) (outer : List Env) (s : Shared) (H : Hp) (args : Args) (us : List Value) (vs : List V) (Q : VK) (E : XK), Room k A → Env0 P w K mg base A outer s H → BindsTo s fd args (ps.zip us) → Vals vs us → sp vs H Q E →
    codeAny (model P w) A (.call (.ref f) args) (CR CX outer P w H s Q E) s
theorem FnOk.mono {P : Program} {w : World} {K : PySem.W.Frag} {mg : Str → Option Value} {base : Heap} {CX : CXT} {j k : Nat} {f : Addr} {fd : FuncData} {ps : List Str} {sp : Sp} (F : FnOk P w K mg base CX j f fd ps sp) (h : j ≤ k) :
    FnOk P w K mg base CX k f fd ps sp := ⟨F.len, fun A outer s H args us vs Q E hr => F.run A outer s H args us vs Q E (hr.mono h)⟩
theorem Env0.in1 {P : Program} {w : World} {K : PySem.W.Frag} {mg : Str → Option Value} {base : Heap} {A : Around} {outer : List Env} {s : Shared} {H : Hp} (e : Env0 P w K mg base A outer s H) :
    Env0 P w K mg base A.in1 outer s H := ⟨e.frames, e.mod, e.bs, e.bsz, e.funs, e.frf, e.hok, e.bare⟩
section
variable {X : Cx} {pins : List (Addr × Obj)} {σ : St} {H : Hp} {s s' : Shared}
theorem Inv.env0 (I : Inv X pins σ H s) : Env0 X.prog X.w X.K X.mg X.base X.A X.stack s H :=
  ⟨I.ok.frames, I.ok.mod, I.bs, Nat.le_trans I.ok.bsz I.sz, I.stack, I.stkFree, I.hok, I.bare⟩
theorem Inv.after {Q : VK} {u : Value} (I : Inv X pins σ H s) (h : CE X.stack X.prog X.w H s Q u s') : EP X pins σ Q u s' := by
  obtain ⟨v, H', os, bare, un, hok, r, q⟩ := h
  obtain ⟨hh, g, d, t, os'⟩ := s'
  obtain rfl : os' = s.os := os
  exact ⟨v, H', I.call (h' := hh) (g' := g) (d' := d) (t' := t) (ch := []) un hok bare (fun b z => absurd z (by simp)), r, q⟩
end
def tCall (sp : Sp) (dvs : List V) (E : XK) (t : TA) : TE := fun σ H Q => t σ H fun vs H1 => sp (vs ++ dvs) H1 Q E
def Binds (K : PySem.W.Frag) (fd : FuncData) (ps : List Str) (ds : List Value) : Prop :=
  ∀ (s : Shared) (us : List Value), K.In s.heap → (us ++ ds).length = ps.length → BindsTo s fd ⟨us, []⟩ (ps.zip (us ++ ds))
theorem Binds.all {K : PySem.W.Frag} {fd : FuncData} {ps : List Str} (h : ∀ us : List Value, us.length = ps.length → bindArgs fd ⟨us, []⟩ = pure (ps.zip us)) : Binds K fd ps [] := fun s us _ hl => by
  rw [List.append_nil] at hl ⊢
  exact .of_eq (h us hl)
def Passes (CX : CXT) (X : Cx) (E : XK) : Prop := ∀ (pins : List (Addr × Obj)) (σ : St) (H : Hp) (s : Shared) (e : Value) (s' : Shared), Inv X pins σ H s → CX X.stack H s E e s' → X.xe e s'
section
variable {X : Cx} {CX : CXT} {k : Nat} {f C : Addr} {fd : FuncData} {ps : List Str} {sp : Sp} {dvs : List V} {ds : List Value} {E : XK} {x m : Str} {p pos apos : Pos} {e o : Expr} {es : List Expr} {ta : TE} {t : TA}
theorem run_fn {pins : List (Addr × Obj)} {σ : St} {H : Hp} {s : Shared} {Q : VK} {us : List Value} {vs : List V} (F : FnOk X.prog X.w X.K X.mg X.base CX k f fd ps sp) (hr : Room k X.A) (hb : Binds X.K fd ps ds) (hd : Vals dvs ds) (hx : Passes CX X E)
    (I : Inv X pins σ H s) (r : Vals vs us) (h : sp (vs ++ dvs) H Q E) : wpAny (model X.prog X.w) X.A (call (.ref f) us) (EP X pins σ Q) X.xe s := by
  have r2 : Vals (vs ++ dvs) (us ++ ds) := r.append hd
  have hl : (us ++ ds).length = ps.length := by rw [← r2.length]; exact F.len _ _ _ _ h
  refine wpAny_call (codeAny_mono (F.run X.A X.stack s H ⟨us, []⟩ (us ++ ds) (vs ++ dvs) Q E hr I.env0 (hb s us I.kIn hl) r2 h) fun r s' hq => ?_)
  cases r with
  | error e => exact hx pins σ H s e s' I hq
  | ok fl =>
    cases fl with
    | ret u => exact I.after hq
    | next => exact False.elim hq
    | brk => exact False.elim hq
    | cont => exact False.elim hq
theorem pe_call (F : FnOk X.prog X.w X.K X.mg X.base CX k f fd ps sp) (hr : Room k X.A) (hg : Gl X x) (hm : X.mg x = some (.ref f)) (hk : PySem.W.keepIn X.K (.ref f) = true) (hb : Binds X.K fd ps ds) (hd : Vals dvs ds) (hx : Passes CX X E)
    (ha : PA X (e :: es) t) (hdb : (x == ("__debug__" : Str)) = false := by decide) (he : starEach (e :: es) X.env = (false, eval e X.env) :: starEach es X.env := by rfl) (hpl : (backTo pos (starEach es X.env)).any (·.1) = false := by rfl) :
    PE X (.Call (.Name x p) (e :: es) [] pos) (tCall sp dvs E t) := by
  intro pins s σ H Q I h
  refine wpAny_Call_Name_kw (ld_glob I hg hm ?_ hdb)
  refine PySem.W.callWith_K (h₀ := X.base) I.ok.mod.kin hk (thn (ha pos pins s σ H _ I h) fun us s1 ⟨vs, H1, I1, r, q⟩ => ⟨I1.kIn, ?_⟩) he hpl
  exact run_fn F hr hb hd hx I1 r q
structure Mk (K : PySem.W.Frag) (C f : Addr) : Prop where
  makes : PySem.W.makesIn K C = true
  init : PySem.W.findIn K (.ref C) "__init__" = some (some (.ref f))
  fn : PySem.W.isFn K (.ref f) = true
  kp : PySem.W.keepIn K (.ref C) = true
end
section
variable {X : Cx} {CX : CXT} {k : Nat} {f C : Addr} {fd : FuncData} {ps ks : List Str} {sp : Sp} {E : XK} {x m : Str} {p pos apos kpos : Pos} {e o : Expr} {es : List Expr} {kws : List Keyword} {te ta : TE} {t tk : TA} {nm : Option Str}
structure KBinds (K : PySem.W.Frag) (fd : FuncData) (ps ks : List Str) (g : List Value → List Value → List Value) (gV : List V → List V → List V) : Prop where
  to : ∀ (s : Shared) (us ws : List Value), K.In s.heap → (g us ws).length = ps.length → BindsTo s fd ⟨us, ks.zip ws⟩ (ps.zip (g us ws))
  rel : ∀ {vs : List V} {us : List Value} {zs : List V} {ws : List Value}, Vals vs us → Vals zs ws → Vals (gV vs zs) (g us ws)
variable {g : List Value → List Value → List Value} {gV : List V → List V → List V}
end
structure FnScope (N P : List Str) (sc : Scope) : Prop where
  kind : sc.kind = .function
  co : sc.isCoroutine = false
  gen : sc.isGenerator = false
  nd : N.Nodup
  pre : N.take P.length = P
  par : ∀ x ∈ P, sc.names.lookup x = some .local ∨ sc.names.lookup x = some .cell
  nofree : ∀ y ∈ sc.names, y.2 ≠ .free
theorem bindL_out {kindOf : Str → Option NameKind} {x : Str} : ∀ {binds : List (Str × Value)} {m : Str → Option Value}, (∀ v, (x, v) ∉ binds) → bindL kindOf binds m x = m x
  | [], _, _ => rfl
  | (n, v) :: r, m, h => by
    unfold bindL
    rw [bindL_out fun w hw => h w (List.mem_cons_of_mem _ hw)]
    split
    · have : x ≠ n := by rintro rfl; exact h v List.mem_cons_self
      simp [this]
    · rfl
theorem bindC_out {kindOf : Str → Option NameKind} {x : Str} : ∀ {binds : List (Str × Value)} {m : Str → Option Value}, (∀ v, (x, v) ∉ binds) → bindC kindOf binds m x = m x
  | [], _, _ => rfl
  | (n, v) :: r, m, h => by
    unfold bindC
    rw [bindC_out fun w hw => h w (List.mem_cons_of_mem _ hw)]
    split
    · rfl
    · have : x ≠ n := by rintro rfl; exact h v List.mem_cons_self
      simp [this]
theorem bindL_get {kindOf : Str → Option NameKind} {x : Str} {v : Value} : ∀ {P : List Str} {vs : List Value} {i : Nat} {m : Str → Option Value}, P.Nodup → P[i]? = some x → vs[i]? = some v → kindOf x = some .local →
    bindL kindOf (P.zip vs) m x = some v
  | [], _, _, _, _, h, _, _ => by simp at h
  | _ :: _, [], _, _, _, _, h, _ => by simp at h
  | p :: P, w :: vs, 0, m, nd, h1, h2, hk => by
    simp at h1 h2; subst h1; subst h2
    show bindL kindOf ((p, w) :: P.zip vs) m p = _
    unfold bindL
    rw [bindL_out fun v hv => (List.nodup_cons.mp nd).1 (List.of_mem_zip hv).1, if_pos hk]
    simp
  | p :: P, w :: vs, i + 1, m, nd, h1, h2, hk => by
    show bindL kindOf ((p, w) :: P.zip vs) m x = _
    unfold bindL
    exact bindL_get (i := i) (List.nodup_cons.mp nd).2 (by simpa using h1) (by simpa using h2) hk
theorem bindC_get {kindOf : Str → Option NameKind} {x : Str} {v : Value} : ∀ {P : List Str} {vs : List Value} {i : Nat} {m : Str → Option Value}, P.Nodup → P[i]? = some x → vs[i]? = some v → kindOf x ≠ some .local →
    bindC kindOf (P.zip vs) m x = some v
  | [], _, _, _, _, h, _, _ => by simp at h
  | _ :: _, [], _, _, _, _, h, _ => by simp at h
  | p :: P, w :: vs, 0, m, nd, h1, h2, hk => by
    simp at h1 h2; subst h1; subst h2
    show bindC kindOf ((p, w) :: P.zip vs) m p = _
    unfold bindC
    rw [bindC_out fun v hv => (List.nodup_cons.mp nd).1 (List.of_mem_zip hv).1, if_neg hk]
    simp
  | p :: P, w :: vs, i + 1, m, nd, h1, h2, hk => by
    show bindC kindOf ((p, w) :: P.zip vs) m x = _
    unfold bindC
    exact bindC_get (i := i) (List.nodup_cons.mp nd).2 (by simpa using h1) (by simpa using h2) hk
def start (N : List Str) (vs : List V) : St := vs.map some ++ List.replicate (N.length - vs.length) none
def cxOf (CX : CXT) (P : Program) (w : World) (K : PySem.W.Frag) (mg : Str → Option Value) (base : Heap) (N : List Str) (qual : Str) (scope : Scope) (f : Addr) (cd : Value) (A : Around) (outer : List Env) (s : Shared) (H : Hp) (E : XK) : Cx where
  prog := P
  w := w
  K := K
  mg := mg
  base := base
  A := A.deeper (envOfC qual scope s.heap.objs.size f cd)
  N := N
  s₀ := s
  H₀ := H
  env := envOfC qual scope s.heap.objs.size f cd
  outer := outer
  stack := envOfC qual scope s.heap.objs.size f cd :: outer
  ex := []
  calm := true
  fn := fun _ => true
  pn := []
  xe := fun e s' => wpAny (model P w) (A.deeper (envOfC qual scope s.heap.objs.size f cd)) (leaving (envOfC qual scope s.heap.objs.size f cd) e) (fun _ s'' => CX outer H s E e s'') (fun e' s'' => CX outer H s E e' s'') s'
theorem cell_has {sc : Scope} {n : Nat} {x : Str} (h : sc.names.lookup x = some .cell) : ∃ c, (cellsFrom n sc.names []).lookup x = some c := by
  have q := PySem.W.cellsFrom_some sc.names n [] (.inl h)
  exact Option.isSome_iff_exists.mp q
theorem inv_start {CX : CXT} {P : Program} {w : World} {K : PySem.W.Frag} {mg : Str → Option Value} {base : Heap} {N ps : List Str} {qual : Str} {scope : Scope} {f : Addr} {cd : Value} {A : Around} {outer : List Env} {s s1 : Shared} {H : Hp} {E : XK} {us : List Value} {vs : List V}
    (S : FnScope N ps scope) (hd : A.handled = none) (e0 : Env0 P w K mg base A outer s H) (hl : vs.length = ps.length) (r : Vals vs us)
    (x : InCallC s s.heap.objs.size (bindL (envOfC qual scope s.heap.objs.size f cd).kindOf (ps.zip us) fun _ => none) (cellsFrom (s.heap.objs.size + 1) scope.names []) (bindC (envOfC qual scope s.heap.objs.size f cd).kindOf (ps.zip us) fun _ => none) s1) :
    Inv (cxOf CX P w K mg base N qual scope f cd A outer s H E) [] (start N vs) H s1 := by
  have hpl : ps.length ≤ N.length := by have := congrArg List.length S.pre; rw [List.length_take] at this; omega
  obtain ⟨h1, tk, rfl, hk⟩ := x.done
  have noA : ∀ b : Addr, b ∉ (cxOf CX P w K mg base N qual scope f cd A outer s H E).ex := fun b z => absurd (show b ∈ ([] : List Addr) from z) (by simp)
  refine ⟨⟨e0.mod, S.kind, rfl, rfl, Nat.le_refl _, fun y z c h1 h2 => ?_, fun y hy => ?_, fun y c _ h => ?_, fun _ => hd, Around.frames_deeper e0.frames, .inr ⟨rfl, rfl⟩, fun b z => absurd z (noA b), e0.bs, e0.bsz, fun b _ _ => noA b, fun b z => absurd z (noA b), e0.funs, e0.frf⟩,
    rfl, e0.bare, Un.kept hk, ⟨_, x.toInCall.ns, fun i y v h1 h2 h3 => ?_⟩, fun y c h => ⟨_, x.cell y c h⟩, e0.hok.fresh (Nat.le_refl _), fun y c h => ?_, fun p hp => absurd (show p ∈ ([] : List (Addr × Obj)) from hp) (by simp), e0.hok.kept hk, ?_⟩
  · exact name_of_addr x.apart (PySem.mem_of_lookup h1) (PySem.mem_of_lookup h2)
  · have hy : scope.names.lookup y = some .cell ∨ scope.names.lookup y = some .free := hy
    rcases hy with hy | hy
    · exact cell_has hy
    · exact absurd rfl (S.nofree _ (PySem.mem_of_lookup hy))
  · exact Nat.le_of_lt (x.above y c (PySem.mem_of_lookup h))
  · have hi : i < vs.length := by
      unfold start at h2
      by_cases hi : i < vs.length
      · exact hi
      · rw [List.getElem?_append_right (by simpa using hi)] at h2
        rw [List.getElem?_replicate] at h2
        split at h2 <;> cases h2
    have ha : vs[i]? = some v := by
      unfold start at h2
      rw [List.getElem?_append_left (by simpa using hi), List.getElem?_map] at h2
      cases e : vs[i]? with
      | none => rw [e] at h2; cases h2
      | some a => rw [e] at h2; cases h2; rfl
    obtain ⟨u, hu, rv⟩ := r.get ha
    have hp : ps[i]? = some y := by
      rw [← S.pre, List.getElem?_take_of_lt (by omega)]; exact h1
    have ndP : ps.Nodup := by rw [← S.pre]; exact S.nd.sublist (List.take_sublist _ _)
    refine ⟨u, rv, ?_⟩
    rcases S.par y (List.mem_of_getElem? hp) with k | k
    · exact .inl ⟨k, bindL_get ndP hp hu k⟩
    · obtain ⟨c, e⟩ := cell_has (n := s.heap.objs.size + 1) k
      refine .inr ⟨.inl k, c, e, ?_⟩
      have q := x.cell y c e
      rw [bindC_get ndP hp hu (by show scope.names.lookup y ≠ _; rw [k]; decide)] at q
      exact q
  · exact e0.hok.fresh (Nat.le_of_lt (x.above y c (PySem.mem_of_lookup h)))
  · unfold start
    show _ = N.length
    rw [List.length_append, List.length_map, List.length_replicate]
    omega
theorem fn_of {CX : CXT} {P : Program} {w : World} {K : PySem.W.Frag} {mg : Str → Option Value} {base : Heap} {k : Nat} {f : Addr} {name qual : Str} {params : Arguments} {body : List Stmt} {scope : Scope} {dV kV doc pm cdv ct oc : Value} {an od : Option Addr}
    {osl : Array (Option Value)} {N ps : List Str} {sp : Sp} (lk : K.lookup f = some ⟨oc, od, .func (PySem.W.fnOf name qual params body scope dV kV doc pm an cdv ct), osl⟩) (hcd : PySem.W.codeIn K cdv qual = true) (S : FnScope N ps scope)
    (len : ∀ vs H Q E, sp vs H Q E → vs.length = ps.length)
    (hbody : ∀ (A : Around) (outer : List Env) (s : Shared) (H : Hp) (vs : List V) (Q : VK) (E : XK), Room k (A.deeper (envOfC qual scope s.heap.objs.size f cdv)) → sp vs H Q E →
      ∃ t, PSs (cxOf CX P w K mg base N qual scope f cdv A outer s H E) body t ∧ t { nx := fun _ H' => Q .non H', rt := Q } (start N vs) H) :
    FnOk P w K mg base CX (k + 1) f (PySem.W.fnOf name qual params body scope dV kV doc pm an cdv ct) ps sp := by
  refine ⟨len, fun A outer s H args us vs Q E hr e0 hb r hsp => ?_⟩
  have hl := len _ _ _ _ hsp
  have KX : K.In s.heap := e0.mod.kin.keeps fun b o e => (e0.bs b o e).1
  have lim : s.heap.NoLimit := e0.mod.nolimit.keeps fun b o e => (e0.bs b o e).1
  have hkind : ∀ y ∈ ps.zip us, scope.names.lookup y.1 = some .local ∨ (scope.names.lookup y.1 = some .cell ∧ ((cellsFrom (s.heap.objs.size + 1) scope.names []).lookup y.1).isSome = true) := fun ⟨n, v⟩ hy => by
    rcases S.par n (List.of_mem_zip hy).1 with q | q
    · exact .inl q
    · exact .inr ⟨q, PySem.W.cellsFrom_some _ _ _ (.inl q)⟩
  refine codeAny_call_function hr.depth (KX _ _ lk) rfl S.co S.gen rfl (PySem.W.codeRec_of KX hcd) (hb _ _ _ _ ?_)
  refine wpAny_newFunctionEnv_cells S.kind hkind fun env he s1 x => ?_
  subst he
  refine ⟨lim.keeps x.toInCall.keep, codeAny_func ?_⟩
  obtain ⟨t, ht, hq⟩ := hbody A outer s H vs Q E (hr.deeper _) hsp
  have I : Inv (cxOf CX P w K mg base N qual scope f cdv A outer s H E) [] (start N vs) H s1 := inv_start S hr.hd e0 hl r x
  refine wpAny_mono (ht [] s1 (start N vs) H _ I hq) (fun fl s' hs => ?_) fun e s' hs => hs
  have fin : ∀ {σ' : St} {H' : Hp} {v : V} {u : Value}, Inv (cxOf CX P w K mg base N qual scope f cdv A outer s H E) [] σ' H' s' → RelV v u → Q v H' → CE outer P w H s Q u s' :=
    fun {σ' H' v u} J rv q => ⟨v, H', J.os, J.bare, J.base, J.hok, rv, q⟩
  cases fl with
  | ret u =>
    obtain ⟨v, σ', H', J, rv, q⟩ := hs
    exact fin J rv q
  | next =>
    obtain ⟨σ', H', J, q⟩ := hs
    exact fin (v := V.non) (u := Value.none) J rfl q
  | brk =>
    obtain ⟨_, _, _, q⟩ := hs
    exact False.elim q
  | cont =>
    obtain ⟨_, _, _, q⟩ := hs
    exact False.elim q
end L2
namespace L2
open PySem PySem.Spec PyProof.Rows
section
variable {X : Cx} {x : Str} {p pos : Pos} {e : Expr} {es : List Expr} {t : TA} {id T : String} {r : List V → Hp → VK → Prop}
def tCB (r : List V → Hp → VK → Prop) (t : TA) : TE := fun σ H Q => t σ H fun vs H1 => r vs H1 Q
theorem pe_callB (hc : CallR X (.builtin id) r) (hg : Gl X x) (hm : X.mg x = none) (hv : bootBuiltins x = some (.builtin id)) (ha : PA X (e :: es) t) (hn : x ≠ "__name__" := by decide) (hdb : (x == ("__debug__" : Str)) = false := by decide)
    (he : starEach (e :: es) X.env = (false, eval e X.env) :: starEach es X.env := by rfl) (hpl : (backTo pos (starEach es X.env)).any (·.1) = false := by rfl) : PE X (.Call (.Name x p) (e :: es) [] pos) (tCB r t) := by
  intro pins s σ H Q I h
  refine wpAny_Call_Name_kw (ld_blt I hg hm hv ?_ hn hdb)
  exact PyProof.Rows.callWith_builtin1 (thn (ha pos pins s σ H _ I h) fun us s1 ⟨vs, H1, I1, r1, q1⟩ => hc pins s1 σ H1 vs us Q I1 r1 q1) he hpl
theorem pe_callTy (hc : CallR X (.type T) r) (hg : Gl X x) (hm : X.mg x = none) (hv : bootBuiltins x = some (.type T)) (ha : PA X (e :: es) t) (hn : x ≠ "__name__" := by decide) (hdb : (x == ("__debug__" : Str)) = false := by decide)
    (he : starEach (e :: es) X.env = (false, eval e X.env) :: starEach es X.env := by rfl) (hpl : (backTo pos (starEach es X.env)).any (·.1) = false := by rfl) : PE X (.Call (.Name x p) (e :: es) [] pos) (tCB r t) := by
  intro pins s σ H Q I h
  refine wpAny_Call_Name_kw (ld_blt I hg hm hv ?_ hn hdb)
  exact PyProof.Rows.callWith_type1 (thn (ha pos pins s σ H _ I h) fun us s1 ⟨vs, H1, I1, r1, q1⟩ => hc pins s1 σ H1 vs us Q I1 r1 q1) he hpl
end
end L2
namespace HT
open PySem PyProof.Rows
section
open PySem.SeqAt
open PySem.AutoSeq1 (wpAny_loadPart')
open PySem.MeetsSeq PySem.MeetsSeq2 PySem.MeetsSeq3
end
section
variable {prog : Program} {w : World} {A : Around} {E : Value → Shared → Prop} {s : Shared}
def sIx (n d : Nat) : Option Int → Nat
  | none => d
  | some v => if v < 0 then (v + (n : Int)).toNat else min v.toNat n
theorem sIx_none (n d : Nat) : sIx n d none = d := rfl
theorem sIx_nat (n d k : Nat) : sIx n d (some (k : Int)) = min k n := by
  show (if (k : Int) < 0 then ((k : Int) + (n : Int)).toNat else min (k : Int).toNat n) = min k n
  rw [if_neg (by omega), Int.toNat_natCast]
theorem sIx_le (n d : Nat) (hd : d ≤ n) (o : Option Int) : sIx n d o ≤ n := by
  cases o with
  | none => exact hd
  | some v =>
    show (if v < 0 then (v + (n : Int)).toNat else min v.toNat n) ≤ n
    by_cases hv : v < 0
    · rw [if_pos hv]; omega
    · rw [if_neg hv]; exact Nat.min_le_right _ _
theorem clip_eq (v : Int) (n d : Nat) : (if v < 0 then max (v + (n : Int)) 0 else min v (n : Int)) = ((sIx n d (some v) : Nat) : Int) := by
  show (if v < 0 then max (v + (n : Int)) 0 else min v (n : Int)) = (((if v < 0 then (v + (n : Int)).toNat else min v.toNat n) : Nat) : Int)
  by_cases hv : v < 0
  · simp only [if_pos hv]; omega
  · simp only [if_neg hv]; omega
theorem adjust_gen (lo hi : Option Int) (n : Nat) : Builtin.Slice.sliceAdjust lo hi 1 (n : Int) = (((sIx n 0 lo : Nat) : Int), ((sIx n n hi : Nat) : Int)) := by
  have h1 : ¬ ((1 : Int) < 0) := by omega
  unfold Builtin.Slice.sliceAdjust
  simp only [h1, if_false]
  refine Prod.ext ?_ ?_
  · cases lo with
    | none => rfl
    | some v => exact clip_eq v n 0
  · cases hi with
    | none => rfl
    | some v => exact clip_eq v n n
theorem places_gen (i j : Nat) : Builtin.Slice.slicePlaces (i : Int) (j : Int) 1 = j - i := by
  unfold Builtin.Slice.slicePlaces
  have h1 : (1 : Int) > 0 := by omega
  simp only [h1, if_true, Int.ediv_one]
  split <;> omega
theorem slicePart_ {v : Value} {o : Option Int} {Q : Option Int → Shared → Prop} (p : IsPart v o) (h : Q o s) : wpAny (model prog w) A (Builtin.Slice.slicePartIndex v) Q E s := by
  cases p with
  | none => exact slicePart_none h
  | int i t => exact slicePart_int h
theorem sliceApplied_gen {sl : Addr} {vl vu : Value} {lo hi : Option Int} {n : Nat} {Q : Int × Int × Nat → Shared → Prop} (hs : s.heap.IsSliceOf sl vl vu .none) (pl : IsPart vl lo) (pu : IsPart vu hi)
    (h : Q (((sIx n 0 lo : Nat) : Int), 1, sIx n n hi - sIx n 0 lo) s) : wpAny (model prog w) A (Builtin.Slice.sliceApplied (.ref sl) (pure (n : Int))) Q E s := by
  obtain ⟨os, hos, hcs, hds⟩ := id hs
  unfold Builtin.Slice.sliceApplied Builtin.Slice.sliceFields
  refine wpAny_bind (wpAny_bind (wpAny_field hos hds (x := vl) rfl (wpAny_bind (wpAny_field hos hds (x := vu) rfl (wpAny_bind (wpAny_field hos hds (x := .none) rfl (wpAny_pure ?_)))))))
  refine wpAny_bind (slicePart_none ?_)
  show wpAny _ _ (if ((1 : Int) == 0) = true then _ else _) _ _ s
  rw [if_neg (by decide)]
  refine wpAny_bind (slicePart_ pl (wpAny_bind (slicePart_ pu (wpAny_bind (wpAny_pure ?_)))))
  show wpAny _ _ (match Builtin.Slice.sliceAdjust lo hi 1 (n : Int) with | (lo, hi) => pure (lo, (1 : Int), Builtin.Slice.slicePlaces lo hi 1)) _ _ s
  rw [adjust_gen lo hi n]
  show wpAny _ _ (pure (((sIx n 0 lo : Nat) : Int), (1 : Int), Builtin.Slice.slicePlaces ((sIx n 0 lo : Nat) : Int) ((sIx n n hi : Nat) : Int) 1)) _ _ s
  rw [places_gen]
  exact wpAny_pure h
theorem pick_gen (xs : Array Value) (i k : Nat) : ((List.range k).filterMap fun (m : Nat) => xs[((i : Int) + (m : Int) * 1).toNat]?).toArray = ((xs.toList.drop i).take k).toArray := by
  have e : (fun (m : Nat) => xs[((i : Int) + (m : Int) * 1).toNat]?) = fun m => xs[i + m]? := by
    funext m
    have : ((i : Int) + (m : Int) * 1).toNat = i + m := by omega
    rw [this]
  rw [e]
  have := pick_run xs i k
  rw [List.filterMap_map] at this
  have e2 : ((fun x => xs[x]?) ∘ fun x => i + x) = fun m => xs[i + m]? := rfl
  rw [e2] at this
  rw [this]
theorem getItem_tuple_cut {t sl : Addr} {items : Array Value} {vl vu : Value} {lo hi : Option Int} {Q : Value → Shared → Prop} (ht : IsTup s.heap t items) (hs : s.heap.IsSliceOf sl vl vu .none) (pl : IsPart vl lo) (pu : IsPart vu hi)
    (hw : ¬ (sIx items.size 0 lo = 0 ∧ sIx items.size items.size hi = items.size))
    (h : Q (.ref s.heap.objs.size) { s with heap := s.heap.push { cls := .type "tuple", data := .seq ((items.toList.drop (sIx items.size 0 lo)).take (sIx items.size items.size hi - sIx items.size 0 lo)).toArray } })
    (hsz : items.size ≤ sizeLine) : wpAny (model prog w) A (getItem (.ref t) (.ref sl)) Q E s := by
  have htake : sizeOk (.seq ((items.toList.drop (sIx items.size 0 lo)).take (sIx items.size items.size hi - sIx items.size 0 lo)).toArray) := by
    show ((items.toList.drop (sIx items.size 0 lo)).take (sIx items.size items.size hi - sIx items.size 0 lo)).toArray.size ≤ sizeLine
    rw [List.size_toArray, List.length_take, List.length_drop, Array.length_toList]
    omega
  have hj : sIx items.size items.size hi ≤ items.size := sIx_le _ _ (Nat.le_refl _) hi
  obtain ⟨os, hos, hcs, hds⟩ := id hs
  have hTs : s.TypeIs (.ref sl) "slice" := ⟨os, hos, hcs⟩
  unfold getItem
  try with_reducible refine wpAny_holding ?_
  first | refine wpAny_bind (wpAny_pure ?_) | skip
  refine wpAny_bind (wpAny_sequenceKey ht.typeIs (by decide) ?_)
  refine wpAny_bind (wpAny_callSpecial?_slot (name := Str.ofString "__getitem__") ht.typeIs PyProof.Rows.slot_tuple_getitem
    (wpAny_call_entry PyProof.Rows.slot_tuple_getitem ht.typeIs entry_tuple_getitem ?_ (args_tuple_getitem _ _)))
  show wpAny _ _ (Builtin.Tuple.tupleItemsOf (.ref t) >>= _) _ _ s
  refine wpAny_bind (tupleItemsOf_ ht ?_)
  refine wpAny_bind (wpAny_typeOf hTs ?_)
  rw [if_pos (by decide)]
  refine wpAny_bind (sliceApplied_gen hs pl pu ?_)
  have hno : ¬ ((((sIx items.size 0 lo : Nat) : Int) == 0 && (1 : Int) == 1 && (sIx items.size items.size hi - sIx items.size 0 lo) == items.size) = true) := by
    intro q
    rw [Bool.and_eq_true, Bool.and_eq_true] at q
    have q1 : ((sIx items.size 0 lo : Nat) : Int) = 0 := eq_of_beq q.1.1
    have q2 : sIx items.size items.size hi - sIx items.size 0 lo = items.size := eq_of_beq q.2
    exact hw ⟨by omega, by omega⟩
  show wpAny _ _ (if (((sIx items.size 0 lo : Nat) : Int) == 0 && (1 : Int) == 1 && (sIx items.size items.size hi - sIx items.size 0 lo) == items.size) = true then _ else _) _ _ s
  rw [if_neg hno, pick_gen]
  first
    | exact wpAny_bind (m := Builtin.Tuple.tupleExact _) (wpAny_newObj_type (wpAny_pure ⟨_, rfl, wpAny_pure h⟩) htake)
    | exact wpAny_bind (m := Builtin.Tuple.tupleExact _) (wpAny_newObj_type (wpAny_bind (wpAny_pure (wpAny_pure ⟨_, rfl, wpAny_pure h⟩))) htake)
    | exact wpAny_bind (wpAny_bind (m := Builtin.Tuple.tupleExact _) (wpAny_newObj_type (wpAny_pure (wpAny_pure ⟨_, rfl, wpAny_pure h⟩)) htake))
    | exact wpAny_bind (wpAny_bind (m := Builtin.Tuple.tupleExact _) (wpAny_newObj_type (wpAny_pure ⟨_, rfl, wpAny_pure h⟩) htake))
end
end HT
namespace L2
open PySem PySem.Spec PyProof.Rows
abbrev TO := St → Hp → (Option Int → Hp → Prop) → Prop
def PO (X : Cx) (e : Option Expr) (t : TO) : Prop :=
  ∀ (pins : List (Addr × Obj)) (s : Shared) (σ : St) (H : Hp) (Q : Option Int → Hp → Prop), Inv X pins σ H s → t σ H Q →
    wpAny (model X.prog X.w) X.A (evalPart e X.env) (fun u s' => ∃ o H', Inv X pins σ H' s' ∧ IsPart u o ∧ Q o H') X.xe s
def tNoPart : TO := fun _ H Q => Q none H
def tPart (t : TE) : TO := fun σ H Q => t σ H fun x H1 => ∃ i, x = .int i ∧ Q (some i) H1
section
variable {X : Cx} {e : Expr} {te : TE} {lo hi : Option Expr} {tl th : TO} {pos p2 : Pos}
theorem po_none : PO X none tNoPart := by
  intro pins s σ H Q I h
  rw [evalPart_none]
  exact wpAny_pure ⟨none, H, I, .none, h⟩
theorem po_some (h : PE X e te) : PO X (some e) (tPart te) := by
  intro pins s σ H Q I hw
  rw [evalPart_some]
  refine thn (h pins s σ H _ I hw) fun u s1 ⟨x, H1, I1, r1, q1⟩ => ?_
  obtain ⟨i, rfl, q⟩ := q1
  obtain ⟨t, rfl⟩ := r1
  exact ⟨some i, H1, I1, .int i t, q⟩
def SlR (X : Cx) (r : V → Option Int → Option Int → Hp → VK → Prop) : Prop :=
  ∀ (pins : List (Addr × Obj)) (s : Shared) (σ : St) (H : Hp) (x : V) (v vl vu : Value) (lo hi : Option Int) (sl : Addr) (Q : VK), Inv X pins σ H s → RelV x v → s.heap.IsSliceOf sl vl vu .none → IsPart vl lo → IsPart vu hi → r x lo hi H Q →
    ∃ T id, typeLookup (.type T) "__getitem__" = pure (some (.builtin id)) ∧ s.TypeIs v T ∧ wpAny (model X.prog X.w) X.A (getItem v (.ref sl)) (EP X pins σ Q) X.xe s
theorem SlR.or {r r' : V → Option Int → Option Int → Hp → VK → Prop} (h : SlR X r) (h' : SlR X r') : SlR X (fun x lo hi H Q => r x lo hi H Q ∨ r' x lo hi H Q) := by
  intro pins s σ H x v vl vu lo hi sl Q I rx hs pl pu q
  rcases q with q | q
  · exact h pins s σ H x v vl vu lo hi sl Q I rx hs pl pu q
  · exact h' pins s σ H x v vl vu lo hi sl Q I rx hs pl pu q
def tSl (r : V → Option Int → Option Int → Hp → VK → Prop) (te : TE) (tl th : TO) : TE := fun σ H Q => te σ H fun x H1 => tl σ H1 fun l H2 => th σ H2 fun u H3 => r x l u H3 Q
theorem pe_slice {r : V → Option Int → Option Int → Hp → VK → Prop} (hr : SlR X r) (he : PE X e te) (hl : PO X lo tl) (hu : PO X hi th) : PE X (.Subscript e (.Slice lo hi none p2) pos) (tSl r te tl th) := by
  intro pins s σ H Q I h
  refine Subscript_ (thn (he pins s σ H _ I h) fun v s1 ⟨x, H1, I1, r1, q1⟩ => ?_)
  refine wpAny_Slice (thn (hl pins s1 σ H1 _ I1 q1) fun vl s2 ⟨l, H2, I2, pl, q2⟩ => thn (hu pins s2 σ H2 _ I2 q2) fun vu s3 ⟨u, H3, I3, pu, q3⟩ => ?_)
  rw [evalPart_none]
  refine wpAny_pure ?_
  have I4 : Inv X pins σ H3 { s3 with heap := s3.heap.push { cls := .type "slice", data := .fields #[vl, vu, .none] } } := I3.kept (t' := s3.toks) fun b ob q => Heap.get?_push_of_some _ q
  obtain ⟨T, id, hT, ht, hg⟩ := hr pins { s3 with heap := s3.heap.push { cls := .type "slice", data := .fields #[vl, vu, .none] } } σ H3 x v vl vu l u s3.heap.objs.size Q I4 r1 (Heap.IsSliceOf.new ..) pl pu q3
  show wpAny (model X.prog X.w) X.A (subscriptTail e (.Slice lo hi none p2) v (.ref s3.heap.objs.size)) (EP X pins σ Q) X.xe { s3 with heap := s3.heap.push { cls := .type "slice", data := .fields #[vl, vu, .none] } }
  exact tail_any (ops := [.ref s3.heap.objs.size, v]) ht hT hg (by with_unfolding_all rfl)
def cutV (xs : List V) (lo hi : Option Int) : List V := (xs.drop (HT.sIx xs.length 0 lo)).take (HT.sIx xs.length xs.length hi - HT.sIx xs.length 0 lo)
theorem cutV_length (xs : List V) (lo hi : Option Int) : (cutV xs lo hi).length ≤ xs.length := by
  unfold cutV
  rw [List.length_take, List.length_drop]
  omega
def rSlT (K : PySem.W.Frag) : V → Option Int → Option Int → Hp → VK → Prop := fun x lo hi H Q => ∃ a xs, x = .ref a ∧ SqT K H a xs ∧
  ¬ (HT.sIx xs.length 0 lo = 0 ∧ HT.sIx xs.length xs.length hi = xs.length) ∧ ∀ p, H p = none → Q (.ref p) (upd H p (.tup (cutV xs lo hi)))
theorem sl_tup : SlR X (rSlT X.K) := by
  intro pins s σ H x v vl vu lo hi sl Q I rx hs pl pu h
  obtain ⟨a, xs, rfl, hx, hw, q⟩ := h
  cases rx
  obtain ⟨its, r, ht, hz⟩ := I.tuple hx
  have hlen : its.toArray.size = xs.length := by rw [List.size_toArray]; exact r.length.symm
  refine ⟨"tuple", _, PyProof.Rows.slot_tuple_getitem.lookup, ht.typeIs, ?_⟩
  refine HT.getItem_tuple_cut ht hs pl pu (by rw [hlen]; exact hw) ?_ (by rw [hlen]; exact hz)
  rw [hlen]
  refine ⟨.ref s.heap.objs.size, _, I.laid (t' := s.toks) (o := .tup (cutV xs lo hi)) (fun b ob q => Heap.get?_push_of_some _ q) (Nat.le_refl _) ?_, rfl, q _ (I.hok.fresh (Nat.le_refl _))⟩
  exact ⟨Nat.le_trans (cutV_length xs lo hi) hz, _, (r.drop (HT.sIx xs.length 0 lo)).take (HT.sIx xs.length xs.length hi - HT.sIx xs.length 0 lo), IsTup.new _ _⟩
end
end L2
namespace L2
open PySem PySem.Spec PyProof.Rows
def ixN (n : Nat) (i : Int) : Option Nat := if 0 ≤ i then (if i < n then some i.toNat else none) else if -(n : Int) ≤ i then some (i + n).toNat else none
def atI {α : Type} (xs : List α) (i : Int) : Option α := (ixN xs.length i).bind fun j => xs[j]?
theorem ixN_seq {n : Nat} {i : Int} {j : Nat} (h : ixN n i = some j) : seqIndex? i n = some j ∧ j < n ∧ -(n : Int) ≤ i ∧ i < n := by
  unfold ixN at h
  by_cases h0 : 0 ≤ i
  · rw [if_pos h0] at h
    by_cases h1 : i < n
    · rw [if_pos h1] at h
      have e : i.toNat = j := Option.some.inj h
      exact ⟨by rw [seqIndex_of h0 h1, e], by omega, by omega, h1⟩
    · rw [if_neg h1] at h; cases h
  · rw [if_neg h0] at h
    by_cases h1 : -(n : Int) ≤ i
    · rw [if_pos h1] at h
      have e : (i + n).toNat = j := Option.some.inj h
      exact ⟨by rw [seqIndex_neg (by omega) h1, e], by omega, h1, by omega⟩
    · rw [if_neg h1] at h; cases h
theorem atI_get {α : Type} {xs : List α} {i : Int} {v : α} (h : atI xs i = some v) : ∃ j, seqIndex? i xs.length = some j ∧ xs[j]? = some v ∧ j < xs.length ∧ -(xs.length : Int) ≤ i ∧ i < xs.length := by
  unfold atI at h
  cases e : ixN xs.length i with
  | none => rw [e] at h; cases h
  | some j =>
    rw [e] at h
    obtain ⟨h1, h2, h3, h4⟩ := ixN_seq e
    exact ⟨j, h1, h, h2, h3, h4⟩
theorem atI_nat {α : Type} {xs : List α} {j : Nat} {v : α} (h : xs[j]? = some v) : atI xs (j : Int) = some v := by
  have hj : j < xs.length := (List.getElem?_eq_some_iff.mp h).1
  have e : ixN xs.length (j : Int) = some j := by
    unfold ixN
    rw [if_pos (by omega), if_pos (by omega)]; simp
  unfold atI; rw [e]; exact h
theorem atI_last {α : Type} (xs : List α) (v : α) : atI (xs ++ [v]) (-1) = some v := by
  have hl : (xs ++ [v]).length = xs.length + 1 := by simp
  have e : ixN (xs ++ [v]).length (-1) = some xs.length := by
    unfold ixN
    rw [hl, if_neg (by decide), if_pos (by omega)]
    congr 1
    omega
  unfold atI
  rw [e]
  show (xs ++ [v])[xs.length]? = some v
  simp
def PlainIx (b : Expr) : Prop := ∀ o i, subscripted b false o i = operate [o, i] (getItem o i)
def IxR (X : Cx) (r : R2) : Prop :=
  ∀ (value slice : Expr) (pins : List (Addr × Obj)) (s : Shared) (σ : St) (H : Hp) (x y : V) (v u : Value) (Q : VK), Inv X pins σ H s → RelV x v → RelV y u → r x y H Q →
    subscripted slice false v u = operate [v, u] (getItem v u) → wpAny (model X.prog X.w) X.A (subscriptTail value slice v u) (EP X pins σ Q) X.xe s
def MtR (X : Cx) (id : String) (r : V → List V → Hp → VK → Prop) : Prop :=
  ∀ (pins : List (Addr × Obj)) (s : Shared) (σ : St) (H : Hp) (x : V) (xs : List V) (v : Value) (us : List Value) (Q : VK), Inv X pins σ H s → RelV x v → Vals xs us → r x xs H Q →
    wpAny (model X.prog X.w) X.A (call (.builtin id) (v :: us)) (EP X pins σ Q) X.xe s
section
variable {X : Cx} {a b : Expr} {ta tb : TE} {pos : Pos}
theorem IxR.or {r r' : R2} (h : IxR X r) (h' : IxR X r') : IxR X (fun x y H Q => r x y H Q ∨ r' x y H Q) := by
  intro value slice pins s σ H x y v u Q I rx ry q hs
  rcases q with q | q
  · exact h value slice pins s σ H x y v u Q I rx ry q hs
  · exact h' value slice pins s σ H x y v u Q I rx ry q hs
theorem MtR.or {id : String} {r r' : V → List V → Hp → VK → Prop} (h : MtR X id r) (h' : MtR X id r') : MtR X id (fun x xs H Q => r x xs H Q ∨ r' x xs H Q) := by
  intro pins s σ H x xs v us Q I rx rs q
  rcases q with q | q
  · exact h pins s σ H x xs v us Q I rx rs q
  · exact h' pins s σ H x xs v us Q I rx rs q
theorem pe_ix {r : R2} (hr : IxR X r) (ha : PE X a ta) (hb : PE X b tb) (hs : PlainIx b) : PE X (.Subscript a b pos) (tOp r ta tb) := by
  intro pins s σ H Q I h
  exact Subscript_ (binT ha hb I h fun v u s2 x y H2 I2 rx ry q => hr a b pins s2 σ H2 x y v u Q I2 rx ry q (hs _ _))
def rIxL (K : PySem.W.Frag) : R2 := fun x y H Q => ∃ p xs i v, x = .ref p ∧ y = .int i ∧ SqL K H p xs ∧ atI xs i = some v ∧ Q v H
def rIxT (K : PySem.W.Frag) : R2 := fun x y H Q => ∃ p xs i v, x = .ref p ∧ y = .int i ∧ SqT K H p xs ∧ atI xs i = some v ∧ Q v H
theorem ix_list : IxR X (rIxL X.K) := by
  intro value slice pins s σ H x y v u Q I rx ry h hs
  obtain ⟨p, xs, i, z, rfl, rfl, hq, he, q⟩ := h
  cases rx
  obtain ⟨t, rfl⟩ := ry
  obtain ⟨its, r, pl, hz⟩ := I.list hq
  obtain ⟨j, h1, h2, h3, h4, h5⟩ := atI_get he
  obtain ⟨w, ew, rw'⟩ := r.get h2
  have hl := r.length
  have hn := line63
  have fin : EP X pins σ Q w s := ⟨z, H, I, rw', q⟩
  by_cases h0 : 0 ≤ i
  · have hj : i.toNat = j := by
      rw [seqIndex_of h0 h5] at h1
      exact Option.some.inj h1
    exact item_listR pl.isList h0 (by omega) (by rw [hj]; simpa using ew) fin hs
  · have hj : (i + (its.toArray.size : Int)).toNat = j := by
      rw [seqIndex_neg (by omega) h4] at h1
      rw [List.size_toArray, ← hl]
      exact Option.some.inj h1
    exact subscriptTail_builtinR (x := w) pl.isList.typeIs slot_list_getitem.lookup
      (wpAny_getItem_list_neg (Q := fun r s' => r = w ∧ EP X pins σ Q r s') pl.isList (by omega) (by rw [List.size_toArray] <;> omega) (by omega) (by rw [hj]; simpa using ew) ⟨rfl, fin⟩) hs
theorem ix_tup : IxR X (rIxT X.K) := by
  intro value slice pins s σ H x y v u Q I rx ry h hs
  obtain ⟨p, xs, i, z, rfl, rfl, hq, he, q⟩ := h
  cases rx
  obtain ⟨t, rfl⟩ := ry
  obtain ⟨its, r, pl, hz⟩ := I.tuple hq
  obtain ⟨j, h1, h2, h3, h4, h5⟩ := atI_get he
  obtain ⟨w, ew, rw'⟩ := r.get h2
  have hl := r.length
  have hn := line63
  have fin : EP X pins σ Q w s := ⟨z, H, I, rw', q⟩
  exact subscriptTail_builtinR (x := w) pl.typeIs slot_tuple_getitem.lookup
    (getItem_tuple (j := j) (Q := fun r s' => r = w ∧ EP X pins σ Q r s') pl (by omega) (by omega) (by rw [List.size_toArray, ← hl]; exact h1) (by simpa using ew) ⟨rfl, fin⟩) hs
theorem Inv.lst {pins : List (Addr × Obj)} {σ : St} {H : Hp} {s : Shared} {p : Addr} {xs : List V} (I : Inv X pins σ H s) (h : H p = some (.lst xs)) :
    ∃ (its : List Value) (n : Nat), Vals xs its ∧ s.heap.get? p = some { cls := .type "list", data := .seq its.toArray n } ∧ xs.length ≤ sizeLine := by
  obtain ⟨z, its, n, r, e⟩ := I.hok p _ h
  exact ⟨its, n, r, e, z⟩
theorem slice_bounds (lo hi : Option Int) (n : Nat) : (sliceBounds lo hi none n).1 = ((HT.sIx n 0 lo : Nat) : Int) ∧ (sliceBounds lo hi none n).2.1 = ((HT.sIx n n hi : Nat) : Int) ∧ (sliceBounds lo hi none n).2.2 = 1 := by
  refine ⟨?_, ?_, rfl⟩
  · cases lo with
    | none => simp [sliceBounds, HT.sIx]
    | some i =>
      simp only [sliceBounds, HT.sIx, Option.getD_none, show (1 : Int) > 0 by decide, if_true]
      by_cases h : i < 0
      · simp only [h, if_true] <;> omega
      · simp only [h, if_false] <;> omega
  · cases hi with
    | none => simp [sliceBounds, HT.sIx]
    | some i =>
      simp only [sliceBounds, HT.sIx, Option.getD_none, show (1 : Int) > 0 by decide, if_true]
      by_cases h : i < 0
      · simp only [h, if_true] <;> omega
      · simp only [h, if_false] <;> omega
theorem slicePick_cut (its : List Value) (lo hi : Option Int) : slicePick its.toArray lo hi none = ((its.drop (HT.sIx its.length 0 lo)).take (HT.sIx its.length its.length hi - HT.sIx its.length 0 lo)).toArray := by
  obtain ⟨h1, h2, h3⟩ := slice_bounds lo hi its.toArray.size
  unfold slicePick
  rw [h1, h2, h3]
  simp only [sliceRange_one, pick_run, List.size_toArray] <;> rfl
def rSlL (K : PySem.W.Frag) : V → Option Int → Option Int → Hp → VK → Prop := fun x lo hi H Q => ∃ a xs, x = .ref a ∧ SqL K H a xs ∧ ∀ p, H p = none → Q (.ref p) (upd H p (.lst (cutV xs lo hi)))
theorem sl_list : SlR X (rSlL X.K) := by
  intro pins s σ H x v vl vu lo hi sl Q I rx hs pl pu h
  obtain ⟨a, xs, rfl, hx, q⟩ := h
  cases rx
  obtain ⟨its, r, ht, hz⟩ := I.list hx
  have hlen := r.length
  refine ⟨"list", _, slot_list_getitem.lookup, ht.isList.typeIs, ?_⟩
  refine wpAny_getItem_list_slice ht.isList hs pl pu .none (by simp) ?_ (by rw [List.size_toArray] <;> omega)
  rw [slicePick_cut, ← hlen]
  refine ⟨.ref s.heap.objs.size, _, I.laid (t' := s.toks) (o := .lst (cutV xs lo hi)) (fun b ob q => Heap.get?_push_of_some _ q) (Nat.le_refl _) ?_, rfl, q _ (I.hok.fresh (Nat.le_refl _))⟩
  exact ⟨Nat.le_trans (cutV_length xs lo hi) hz, _, 0, (r.drop (HT.sIx xs.length 0 lo)).take (HT.sIx xs.length xs.length hi - HT.sIx xs.length 0 lo), Heap.get?_push_size _ rfl⟩
def flatV : V → Bool
  | .non => true
  | .bl _ => true
  | .int _ => true
  | .str _ => true
  | _ => false
def eqV : V → V → Bool
  | .non, .non => true
  | .bl a, .bl b => a == b
  | .bl a, .int b => (if a then 1 else 0) == b
  | .int a, .bl b => a == (if b then 1 else 0)
  | .int a, .int b => a == b
  | .str a, .str b => a == b
  | _, _ => false
theorem eqAt_V {A : Around} {s : Shared} {y x : V} {u v : Value} (ry : RelV y u) (rx : RelV x v) (fy : flatV y = true) (fx : flatV x = true) : SeqAt.EqAt A s u v (eqV y x) := by
  cases y with
  | non =>
    cases ry
    cases x with
    | non => cases rx; exact SeqAt.EqAt.same _
    | bl b => cases rx; exact SeqAt.EqAt.none_bool b
    | int b => obtain ⟨t, rfl⟩ := rx; exact SeqAt.EqAt.none_int b t
    | str b => obtain ⟨t, rfl⟩ := rx; exact SeqAt.EqAt.none_str b t
    | _ => exact absurd (show false = true from fx) Bool.false_ne_true
  | bl a =>
    cases ry
    cases x with
    | non => cases rx; exact SeqAt.EqAt.bool_none a
    | bl b => cases rx; exact SeqAt.EqAt.bool_bool a b
    | int b => obtain ⟨t, rfl⟩ := rx; exact SeqAt.EqAt.bool_int a b t
    | str b => obtain ⟨t, rfl⟩ := rx; exact SeqAt.EqAt.bool_str a b t
    | _ => exact absurd (show false = true from fx) Bool.false_ne_true
  | int a =>
    obtain ⟨t', rfl⟩ := ry
    cases x with
    | non => cases rx; exact SeqAt.EqAt.int_none a t'
    | bl b => cases rx; exact SeqAt.EqAt.int_bool a t' b
    | int b => obtain ⟨t, rfl⟩ := rx; exact SeqAt.EqAt.int_int a t' b t
    | str b => obtain ⟨t, rfl⟩ := rx; exact SeqAt.EqAt.int_str a t' b t
    | _ => exact absurd (show false = true from fx) Bool.false_ne_true
  | str a =>
    obtain ⟨t', rfl⟩ := ry
    cases x with
    | non => cases rx; exact SeqAt.EqAt.str_none a t'
    | bl b => cases rx; exact SeqAt.EqAt.str_bool a t' b
    | int b => obtain ⟨t, rfl⟩ := rx; exact SeqAt.EqAt.str_int a t' b t
    | str b => obtain ⟨t, rfl⟩ := rx; exact SeqAt.EqAt.str_str a t' b t
    | _ => exact absurd (show false = true from fx) Bool.false_ne_true
  | _ => exact absurd (show false = true from fy) Bool.false_ne_true
theorem call_len_seq : CallR X (.builtin "len") (fun xs H Q => ∃ p ys, xs = [.ref p] ∧ (SqL X.K H p ys ∨ SqT X.K H p ys) ∧ Q (.int ys.length) H) := by
  intro pins s σ H xs us Q I r h
  obtain ⟨p, ys, rfl, hq, q⟩ := h
  obtain ⟨u, rfl, rx⟩ := vals1 r
  cases rx
  have hn := line63
  rcases hq with hq | hq
  · obtain ⟨its, r', pl, hz⟩ := I.list hq
    have hlen := r'.length
    exact Calls.call_len_list pl.isList (by simp only [List.size_toArray] <;> omega) ⟨.int ys.length, H, I.tok _, ⟨s.toks + 1, by rw [List.size_toArray, hlen]⟩, q⟩
  · obtain ⟨its, r', pl, hz⟩ := I.tuple hq
    have hlen := r'.length
    exact len_tuple pl (by simp only [List.size_toArray] <;> omega) ⟨.int ys.length, H, I.tok _, ⟨s.toks + 1, by rw [List.size_toArray, hlen]⟩, q⟩
theorem CallR.or {f : Value} {r r' : List V → Hp → VK → Prop} (h : CallR X f r) (h' : CallR X f r') : CallR X f (fun xs H Q => r xs H Q ∨ r' xs H Q) := by
  intro pins s σ H xs us Q I rs q
  rcases q with q | q
  · exact h pins s σ H xs us Q I rs q
  · exact h' pins s σ H xs us Q I rs q
theorem call_list_of : CallR X (.type "list") (fun xs H Q => ∃ p ys, xs = [.ref p] ∧ (SqL X.K H p ys ∨ SqT X.K H p ys) ∧ ∀ l, H l = none → Q (.ref l) (upd H l (.lst ys))) := by
  intro pins s σ H xs us Q I r h
  obtain ⟨p, ys, rfl, hq, q⟩ := h
  obtain ⟨u, rfl, rx⟩ := vals1 r
  cases rx
  have fin : ∀ (its : List Value), Vals ys its → ys.length ≤ sizeLine → ∀ (h' : Heap) (c' : Nat), (∀ b o', s.heap.get? b = some o' → h'.get? b = some o') →
      h'.get? s.heap.objs.size = some { cls := .type "list", dict := none, data := .seq its.toArray c', slots := #[] } → EP X pins σ Q (.ref s.heap.objs.size) { s with heap := h' } := fun its r' hz h' c' kp e =>
    ⟨.ref s.heap.objs.size, _, I.laid (t' := s.toks) kp (Nat.le_refl _) (show ObjOk X.prog X.w _ h' _ (.lst ys) from ⟨hz, its, c', r', e⟩), rfl, q _ (I.hok.fresh (Nat.le_refl _))⟩
  rcases hq with hq | hq
  · obtain ⟨its, r', pl, hz⟩ := I.list hq
    have hlen := r'.length
    obtain ⟨o, ho, hc, n, hd⟩ := pl.isList
    exact call_list_seq p (.inl rfl) ho hc hd (fun h' c' kp e => fin its r' hz h' c' kp e) (by simp only [List.size_toArray] <;> omega)
  · obtain ⟨its, r', pl, hz⟩ := I.tuple hq
    have hlen := r'.length
    obtain ⟨o, ho, hc, n, hd⟩ := pl
    exact call_list_seq p (.inr rfl) ho hc hd (fun h' c' kp e => fin its r' hz h' c' kp e) (by simp only [List.size_toArray] <;> omega)
def tyV (K : PySem.W.Frag) (T : String) (x : V) (H : Hp) : Prop := match x with
  | .str _ => T = "str"
  | .int _ => T = "int"
  | .ref p => (T = "list" ∧ ∃ xs, SqL K H p xs) ∨ (T = "tuple" ∧ ∃ o, K.lookup p = some o ∧ o.cls = .type "tuple" ∧ o.dict = none) ∨
      (T = "dict" ∧ ((∃ kvs, H p = some (.dK kvs)) ∨ ∃ kvs, H p = some (.dT kvs))) ∨ (T = "set" ∧ ∃ S n, H p = some (.set S n))
  | _ => False
theorem tyV_is {pins : List (Addr × Obj)} {σ : St} {H : Hp} {s : Shared} {T : String} {x : V} {v : Value} (I : Inv X pins σ H s) (r : RelV x v) (ty : tyV X.K T x H) :
    s.TypeIs v T ∧ ∀ a, v = .ref a → ∃ ob, s.heap.get? a = some ob ∧ ob.dict = none := by
  cases x with
  | str z =>
    obtain ⟨t, rfl⟩ := r
    cases (show T = "str" from ty)
    exact ⟨typeIs_str s z t, fun _ e => nomatch e⟩
  | int i =>
    obtain ⟨t, rfl⟩ := r
    cases (show T = "int" from ty)
    exact ⟨typeIs_int s i t, fun _ e => nomatch e⟩
  | ref p =>
    cases r
    rcases ty with ⟨rfl, xs, hq⟩ | ⟨rfl, o, hk, hc, hd⟩ | ⟨rfl, hk⟩ | ⟨rfl, S, n, hk⟩
    · obtain ⟨its, _, pl, _⟩ := I.list hq
      refine ⟨pl.isList.typeIs, fun a e => ?_⟩
      cases e
      obtain ⟨o, n, e, c, hd, _⟩ := pl
      exact ⟨o, e, hd⟩
    · refine ⟨⟨o, I.kIn p o hk, hc⟩, fun a e => ?_⟩
      cases e
      exact ⟨o, I.kIn _ o hk, hd⟩
    · have z : ∃ o, s.heap.get? p = some o ∧ o.ExactDict := by
        rcases hk with ⟨kvs, hk⟩ | ⟨kvs, hk⟩
        · obtain ⟨_, _, _, _, o, _, _, e, ex, _⟩ := I.hok p _ hk
          exact ⟨o, e, ex⟩
        · obtain ⟨_, _, _, _, o, _, _, e, ex, _⟩ := I.hok p _ hk
          exact ⟨o, e, ex⟩
      obtain ⟨o, e, ex⟩ := z
      refine ⟨⟨o, e, ex.1⟩, fun a e2 => ?_⟩
      cases e2
      exact ⟨o, e, ex.2.1⟩
    · obtain ⟨o, _, _, _, e, ex, _⟩ := I.hok p _ hk
      refine ⟨⟨o, e, ex.1⟩, fun a e2 => ?_⟩
      cases e2
      exact ⟨o, e, ex.2.1⟩
  | _ => exact False.elim ty
def tBM0 (K : PySem.W.Frag) (T : String) (r : V → List V → Hp → VK → Prop) (to : TE) : TE := fun σ H Q => to σ H fun x H1 => tyV K T x H1 ∧ r x [] H1 Q
def tBM (K : PySem.W.Frag) (T : String) (r : V → List V → Hp → VK → Prop) (to : TE) (t : TA) : TE := fun σ H Q => to σ H fun x H1 => tyV K T x H1 ∧ t σ H1 fun xs H2 => r x xs H2 Q
variable {o e : Expr} {es : List Expr} {to : TE} {t : TA} {name : Str} {apos cpos : Pos} {T id : String} {r : V → List V → Hp → VK → Prop}
theorem pe_bm0 (pa : PlainAttrs T) (slot : Slot T name id) (hty : typeOf (.builtin id) = pure (.type "method_descriptor")) (hm : MtR X id r) (ho : PE X o to)
    (hbase : attributeBase o name X.env (eval o X.env) = eval o X.env := by rfl) (hline : (apos.endLine == cpos.line) = true := by rfl) : PE X (.Call (.Attribute o name apos) [] [] cpos) (tBM0 X.K T r to) := by
  intro pins s σ H Q I h
  refine wpAny_Call_method0_late hbase hline (thn (ho pins s σ H _ I h) fun v s1 ⟨x, H1, I1, r1, ty, q1⟩ => ?_)
  obtain ⟨h1, h2⟩ := tyV_is I1 r1 ty
  exact ⟨T, id, pa, slot, hty, h1, h2, Calls.callWith_builtin rfl (PySem.evalArgs_none (hm pins s1 σ H1 x [] v [] Q I1 r1 .nil q1))⟩
theorem pe_bm (pa : PlainAttrs T) (slot : Slot T name id) (hty : typeOf (.builtin id) = pure (.type "method_descriptor")) (hm : MtR X id r) (ho : PE X o to) (ha : PA X (e :: es) t)
    (hbase : attributeBase o name X.env (eval o X.env) = eval o X.env := by rfl)
    (hfew : ((backTo cpos (starEach (e :: es) X.env)).all (fun x => !x.1) && (backToKw cpos (keywordEach [] X.env)).all (fun x => x.1.isSome)
      && decide ((e :: es).length + ([] : List Keyword).length + (if ([] : List Keyword).isEmpty then 0 else 1) < 30)) = true := by rfl)
    (hline : (apos.endLine == cpos.line) = true := by rfl) (hs : starEach (e :: es) X.env = (false, eval e X.env) :: starEach es X.env := by rfl) (hplain : (backTo cpos (starEach es X.env)).any (·.1) = false := by rfl) :
    PE X (.Call (.Attribute o name apos) (e :: es) [] cpos) (tBM X.K T r to t) := by
  intro pins s σ H Q I h
  refine wpAny_Call_method_late hbase hfew hline rfl (thn (ho pins s σ H _ I h) fun v s1 ⟨x, H1, I1, r1, ty, q1⟩ => ?_)
  obtain ⟨h1, h2⟩ := tyV_is I1 r1 ty
  refine ⟨T, id, pa, slot, hty, h1, h2, ?_⟩
  have hA := ha cpos pins s1 σ H1 _ I1 q1
  rw [hs] at hA ⊢
  refine Calls.callWith_builtin (by show (false || (backTo cpos (starEach es X.env)).any (·.1)) = false; rw [hplain] <;> rfl) (Calls.evalArgs_plain ?_)
  exact thn hA fun us s2 ⟨vs, H2, I2, r2, q2⟩ => hm pins s2 σ H2 x vs v us Q I2 r1 r2 q2
end
end L2
namespace L2
open PySem PySem.Spec PyProof.Rows
def MtM (X : Cx) (id : String) (r : V → List V → Hp → VK → Prop) : Prop :=
  ∀ (pins : List (Addr × Obj)) (s : Shared) (σ : St) (H : Hp) (x : V) (xs : List V) (v : Value) (us : List Value) (Q : VK), Inv X pins σ H s → RelV x v → Vals xs us → r x xs H Q →
    wpAny (model X.prog X.w) X.A (call (.builtin id) (v :: us)) (EP X pins σ Q) X.xe s
theorem Vals.one : ∀ {x : V} {us : List Value}, Vals [x] us → ∃ u, us = [u] ∧ RelV x u
  | _, _, .cons r .nil => ⟨_, rfl, r⟩
theorem Vals.two : ∀ {x y : V} {us : List Value}, Vals [x, y] us → ∃ u v, us = [u, v] ∧ RelV x u ∧ RelV y v
  | _, _, _, .cons r (.cons q .nil) => ⟨_, _, rfl, r, q⟩
theorem Vals.zero : ∀ {us : List Value}, Vals [] us → us = []
  | _, .nil => rfl
theorem Vals.dropLast {xs : List V} {us : List Value} (h : Vals xs us) : Vals xs.dropLast us.dropLast := by
  induction h with
  | nil => exact .nil
  | cons r t ih =>
    cases t with
    | nil => exact .nil
    | cons q t' => exact .cons r ih
theorem Vals.eraseIdx : ∀ {xs : List V} {us : List Value} (i : Nat), Vals xs us → Vals (xs.eraseIdx i) (us.eraseIdx i)
  | _, _, _, .nil => .nil
  | _, _, 0, .cons _ t => t
  | _, _, i + 1, .cons r t => .cons r (Vals.eraseIdx i t)
theorem Vals.reverse {xs : List V} {us : List Value} (h : Vals xs us) : Vals xs.reverse us.reverse := by
  induction h with
  | nil => exact .nil
  | cons r t ih => rw [List.reverse_cons, List.reverse_cons]; exact Vals.append ih (.cons r .nil)
theorem erase_last {α : Type} (l : List α) : l.eraseIdx (l.length - 1) = l.dropLast := by
  induction l with
  | nil => rfl
  | cons a r ih =>
    cases r with
    | nil => rfl
    | cons b r =>
      have e : (a :: b :: r).length - 1 = ((b :: r).length - 1) + 1 := by
        have h1 : (a :: b :: r).length = r.length + 2 := rfl
        have h2 : (b :: r).length = r.length + 1 := rfl
        omega
      rw [e, List.eraseIdx_cons_succ, ih]
      all_goals rfl
section
variable {X : Cx} {pins : List (Addr × Obj)} {σ : St} {H : Hp} {s : Shared} {l b : Addr} {xs ys zs : List V}
theorem Inv.lset {its its' : List Value} {n : Nat} {f : Array Value → Array Value} {t' : Nat} (I : Inv X pins σ H s) (hH : H l = some (.lst xs))
    (e : s.heap.get? l = some { cls := .type "list", data := .seq its.toArray n }) (hf : f its.toArray = its'.toArray) (hv : Vals ys its') (hz : ys.length ≤ sizeLine) :
    Inv X pins σ (upd H l (.lst ys)) { s with heap := s.heap.update l (Obj.mapSeq f), toks := t' } := by
  have q := PySem.IsL.update e f
  rw [hf] at q
  refine I.write (x := l) (e := l) (by rw [hH]; exact trivial) (.inl rfl) (fun b' u hb hu => (Heap.get?_update_other s.heap (Obj.mapSeq f) (Ne.symm hb)).trans hu) ⟨_, q⟩ ?_
  exact ⟨hz, its', _, hv, q⟩
theorem Inv.lnew {its : List Value} {t' : Nat} (I : Inv X pins σ H s) (hv : Vals ys its) (hz : ys.length ≤ sizeLine) :
    Inv X pins σ (upd H s.heap.objs.size (.lst ys)) { s with heap := s.heap.push { cls := .type "list", data := .seq its.toArray }, toks := t' } :=
  I.laid (fun _ _ q => Heap.get?_push_of_some _ q) (Nat.le_refl _) ⟨hz, its, 0, hv, Heap.get?_push_size _ rfl⟩
theorem Inv.fresh (I : Inv X pins σ H s) : H s.heap.objs.size = none := I.hok.fresh (Nat.le_refl _)
theorem Inv.lstM (I : Inv X pins σ H s) (hH : H l = some (.lst xs)) : xs.length ≤ sizeLine ∧ ∃ (its : List Value) (n : Nat), Vals xs its ∧ xs.length = its.length ∧ s.heap.get? l = some { cls := .type "list", data := .seq its.toArray n } := by
  obtain ⟨z, its, n, r, e⟩ := I.hok l _ hH
  exact ⟨z, its, n, r, r.length, e⟩
theorem notLongL {n : Nat} (h : n ≤ sizeLine) : Builtin.List.listTooLong n = false := by
  unfold Builtin.List.listTooLong
  exact decide_eq_false (by omega)
end
section
variable {X : Cx}
def rAppend : V → List V → Hp → VK → Prop := fun x vs H Q => ∃ l xs y, x = .ref l ∧ vs = [y] ∧ H l = some (.lst xs) ∧ xs.length < sizeLine ∧ Q .non (upd H l (.lst (xs ++ [y])))
theorem mt_append : MtM X "list.append" rAppend := by
  intro pins s σ H x vs v us Q I rx rv h
  obtain ⟨l, xs, y, rfl, rfl, hH, hz, q⟩ := h
  cases rx
  obtain ⟨u, rfl, ru⟩ := rv.one
  obtain ⟨z, its, n, r, hl, e⟩ := I.lstM hH
  refine call_meets F.slot_list_append ⟨_, e, rfl⟩ F.entry_list_append (F.args_list_append_2 _ _) (PySem.list_append l its.toArray n u (by rw [List.size_toArray]; omega)) ⟨e, ?_⟩
  refine ⟨.non, _, I.lset (its' := its ++ [u]) hH e (by simp) (r.append (.cons ru .nil)) ?_, rfl, q⟩
  rw [List.length_append, List.length_singleton]
  omega
def rExtend : V → List V → Hp → VK → Prop := fun x vs H Q => ∃ l b xs zs, x = .ref l ∧ vs = [.ref b] ∧ H l = some (.lst xs) ∧ H b = some (.lst zs) ∧ xs.length + zs.length ≤ sizeLine ∧ Q .non (upd H l (.lst (xs ++ zs)))
theorem mt_extend : MtM X "list.extend" rExtend := by
  intro pins s σ H x vs v us Q I rx rv h
  obtain ⟨l, b, xs, zs, rfl, rfl, hH, hB, hz, q⟩ := h
  cases rx
  obtain ⟨u, rfl, ru⟩ := rv.one
  cases ru
  obtain ⟨z, its, n, r, hl, e⟩ := I.lstM hH
  obtain ⟨z2, its2, n2, r2, hl2, e2⟩ := I.lstM hB
  have hsz : its.toArray.size + its2.toArray.size ≤ sizeLine := by rw [List.size_toArray, List.size_toArray]; omega
  have hlong : ¬ (!its.toArray.isEmpty && Builtin.List.listTooLong (its.toArray.size + its2.toArray.size)) = true := by
    rw [notLongL hsz, Bool.and_false]
    exact Bool.false_ne_true
  refine call_meets F.slot_list_extend ⟨_, e, rfl⟩ F.entry_list_extend (F.args_list_extend_2 _ _)
    (AutoSeq1.list_extend_list_list_0 l its.toArray n b its2.toArray n2 hlong (by rw [List.size_toArray]; omega) (by omega)) ⟨e, e2, ?_⟩
  refine ⟨.non, _, I.lset (its' := its ++ its2) hH e (by simp) (r.append r2) ?_, rfl, q⟩
  rw [List.length_append]
  omega
def rPop : V → List V → Hp → VK → Prop := fun x vs H Q => ∃ l xs y, x = .ref l ∧ vs = [] ∧ H l = some (.lst xs) ∧ xs[xs.length - 1]? = some y ∧ Q y (upd H l (.lst xs.dropLast))
theorem mt_pop : MtM X "list.pop" rPop := by
  intro pins s σ H x vs v us Q I rx rv h
  obtain ⟨l, xs, y, rfl, rfl, hH, hy, q⟩ := h
  cases rx
  have hus := rv.zero
  subst hus
  obtain ⟨z, its, n, r, hl, e⟩ := I.lstM hH
  obtain ⟨u, hu, ru⟩ := r.get hy
  have hy' : its.toArray[its.toArray.size - 1]? = some u := by
    show its.toArray[its.length - 1]? = some u
    rw [← Array.getElem?_toList, ← hl]
    exact hu
  refine call_meets F.slot_list_pop ⟨_, e, rfl⟩ F.entry_list_pop (F.args_list_pop_1 _) (MeetsSeq.list_pop_last l its.toArray n u hy' (by rw [List.size_toArray]; omega)) ⟨e, ?_⟩
  refine ⟨y, _, I.lset (its' := its.dropLast) hH e ?_ r.dropLast ?_, ru, q⟩
  · show its.toArray.eraseIdxIfInBounds (its.toArray.size - 1) = its.dropLast.toArray
    rw [List.size_toArray, List.eraseIdxIfInBounds_toArray, erase_last]
  · rw [List.length_dropLast]
    omega
def rCat : R2 := fun x y H Q => ∃ l b xs zs, x = .ref l ∧ y = .ref b ∧ H l = some (.lst xs) ∧ H b = some (.lst zs) ∧ xs.length + zs.length ≤ sizeLine ∧ ∀ p, H p = none → Q (.ref p) (upd H p (.lst (xs ++ zs)))
theorem op_cat : OpR X (binaryOp .Add) rCat := by
  intro pins s σ H x y v u Q I rx ry h
  obtain ⟨l, b, xs, zs, rfl, rfl, hH, hB, hz, q⟩ := h
  cases rx
  cases ry
  obtain ⟨z, its, n, r, hl, e⟩ := I.lstM hH
  obtain ⟨z2, its2, n2, r2, hl2, e2⟩ := I.lstM hB
  refine PySem.P.add_list e e2 ?_ (by rw [List.size_toArray, List.size_toArray]; omega)
  have ea : its.toArray ++ its2.toArray = (its ++ its2).toArray := by simp
  rw [ea]
  exact ⟨.ref _, _, I.lnew (t' := s.toks) (r.append r2) (by rw [List.length_append]; omega), rfl, q _ I.fresh⟩
end
section
variable {prog : Program} {w : World} {A : Around} {E : Value → Shared → Prop} {s : Shared}
set_option maxRecDepth 100000 in
end
section
variable {X : Cx}
end
end L2
namespace L2
open PySem PySem.Spec PyProof.Rows
section
variable {κ : Type} [DecidableEq κ]
def valV (kvs : List (κ × V)) (k : κ) : Option V := (kvs.find? fun kv => decide (kv.1 = k)).map (·.2)
def putK (kvs : List (κ × V)) (k : κ) (v : V) : List (κ × V) :=
  if (kvs.any fun kv => decide (kv.1 = k)) = true then kvs.map (fun kv => if kv.1 = k then (kv.1, v) else kv) else kvs ++ [(k, v)]
def dropK (kvs : List (κ × V)) (k : κ) : List (κ × V) := kvs.filter fun kv => decide (kv.1 ≠ k)
theorem RelO.getD {o : Option V} {u : Option Value} {d : V} {d' : Value} (r : RelO o u) (rd : RelV d d') : RelV (o.getD d) (u.getD d') := by
  cases o with
  | none => cases u with
    | none => exact rd
    | some _ => exact (show False from r).elim
  | some _ => cases u with
    | none => exact (show False from r).elim
    | some _ => exact r
theorem KV.any {kvs : List (κ × V)} {vs : List (κ × Value)} (r : KV kvs vs) (k : κ) : (kvs.any fun kv => decide (kv.1 = k)) = vs.any fun kv => decide (kv.1 = k) := by
  unfold KV at r
  induction r with
  | nil => rfl
  | cons h t ih => rw [List.any_cons, List.any_cons, ih, h.1]
theorem KV.drop {kvs : List (κ × V)} {vs : List (κ × Value)} (r : KV kvs vs) (k : κ) : KV (dropK kvs k) (without vs k) := by
  unfold KV at r ⊢
  unfold dropK without
  induction r with
  | nil => exact .nil
  | @cons p q ps qs h t ih =>
    obtain ⟨h1, h2⟩ := h
    rw [List.filter_cons, List.filter_cons]
    by_cases e : p.1 = k
    · have a : ¬ decide (p.1 ≠ k) = true := by simp [e]
      have b : ¬ decide (q.1 ≠ k) = true := by simp [h1.symm.trans e]
      rw [if_neg a, if_neg b]; exact ih
    · have e' : ¬ q.1 = k := fun z => e (h1.trans z)
      have a : decide (p.1 ≠ k) = true := by simp [e]
      have b : decide (q.1 ≠ k) = true := by simp [e']
      rw [if_pos a, if_pos b]; exact .cons ⟨h1, h2⟩ ih
theorem KV.length {kvs : List (κ × V)} {vs : List (κ × Value)} (r : KV kvs vs) : kvs.length = vs.length := Paired.length r
end
abbrev KT (H : Hp) : List (List Key × V) → List (List Key × Addr × Value) → Prop := Paired fun p q => p.1 = q.1 ∧ H q.2.1 = some (.tup (p.1.map kV)) ∧ RelV p.2 q.2.2
theorem KT.keeps {H H' : Hp} {kvs : List (List Key × V)} {xs : List (List Key × Addr × Value)} (r : KT H kvs xs) (ht : ∀ b ys, H b = some (.tup ys) → H' b = some (.tup ys)) : KT H' kvs xs :=
  Paired.mapP r fun _ _ z => ⟨z.1, ht _ _ z.2.1, z.2.2⟩
section
variable {P : Program} {w : World} {H : Hp} {h : Heap} {a : Addr}
end
def DGet (H : Hp) (a : Addr) (y : V) (r : Option V) : Prop :=
  (∃ kvs k, Rd H a (.dK kvs) ∧ y = kV k ∧ r = valV kvs k) ∨ ∃ kvs k b, Rd H a (.dT kvs) ∧ y = .ref b ∧ H b = some (.tup (k.map kV)) ∧ r = valV kvs k
def DPut (H : Hp) (a : Addr) (y v : V) (H' : Hp) : Prop :=
  (∃ kvs k, H a = some (.dK kvs) ∧ y = kV k ∧ kvs.length < sizeLine ∧ H' = upd H a (.dK (putK kvs k v))) ∨
  ∃ kvs k b, H a = some (.dT kvs) ∧ y = .ref b ∧ H b = some (.tup (k.map kV)) ∧ kvs.length < sizeLine ∧ H' = upd H a (.dT (putK kvs k v))
theorem DGet.k {H : Hp} {a : Addr} {kvs : List (Key × V)} {k : Key} (e : H a = some (.dK kvs)) : DGet H a (kV k) (valV kvs k) := .inl ⟨kvs, k, .inl e, rfl, rfl⟩
theorem DGet.t {H : Hp} {a b : Addr} {kvs : List (List Key × V)} {k : List Key} (e : H a = some (.dT kvs)) (eb : H b = some (.tup (k.map kV))) : DGet H a (.ref b) (valV kvs k) := .inr ⟨kvs, k, b, .inl e, rfl, eb, rfl⟩
theorem DPut.k {H : Hp} {a : Addr} {kvs : List (Key × V)} {k : Key} {v : V} (e : H a = some (.dK kvs)) (hl : kvs.length < sizeLine) : DPut H a (kV k) v (upd H a (.dK (putK kvs k v))) := .inl ⟨kvs, k, e, rfl, hl, rfl⟩
theorem DPut.t {H : Hp} {a b : Addr} {kvs : List (List Key × V)} {k : List Key} {v : V} (e : H a = some (.dT kvs)) (eb : H b = some (.tup (k.map kV))) (hl : kvs.length < sizeLine) :
    DPut H a (.ref b) v (upd H a (.dT (putK kvs k v))) := .inr ⟨kvs, k, b, e, rfl, eb, hl, rfl⟩
section
variable {X : Cx} {pins : List (Addr × Obj)} {σ : St} {H : Hp} {s : Shared} {a : Addr} {y v : V} {u r : Value} {o : Option V} {A : Around} {E : Value → Shared → Prop}
end
section
variable {X : Cx} {pins : List (Addr × Obj)} {σ : St} {H : Hp} {s : Shared} {a : Addr} {kvs : List (Key × V)} {k : Key} {u : Value} {A : Around} {E : Value → Shared → Prop}
end
section
variable {X : Cx} {o i e value : Expr} {pos pos' tpos : Pos} {td ty tv : TE}
end
section
variable {X : Cx} {pos : Pos}
end
structure M1 (X : Cx) (o : Expr) (m : Str) (apos : Pos) (e : Expr) (cpos : Pos) : Prop where
  base : attributeBase o m X.env (eval o X.env) = eval o X.env
  few : ((backTo cpos (starEach [e] X.env)).all (fun x => !x.1) && (backToKw cpos (keywordEach [] X.env)).all (fun x => x.1.isSome)
    && decide (([e] : List Expr).length + ([] : List Keyword).length + (if ([] : List Keyword).isEmpty then 0 else 1) < 30)) = true
  line : (apos.endLine == cpos.line) = true
  trees : backTo cpos (starEach [e] X.env) = [(false, eval e X.env)]
structure M2 (X : Cx) (o : Expr) (m : Str) (apos : Pos) (e f : Expr) (cpos : Pos) : Prop where
  base : attributeBase o m X.env (eval o X.env) = eval o X.env
  few : ((backTo cpos (starEach [e, f] X.env)).all (fun x => !x.1) && (backToKw cpos (keywordEach [] X.env)).all (fun x => x.1.isSome)
    && decide (([e, f] : List Expr).length + ([] : List Keyword).length + (if ([] : List Keyword).isEmpty then 0 else 1) < 30)) = true
  line : (apos.endLine == cpos.line) = true
  trees : backTo cpos (starEach [e, f] X.env) = [(false, eval e X.env), (false, eval f X.env)]
section
variable {X : Cx} {pins : List (Addr × Obj)} {σ : St} {H : Hp} {s : Shared} {a : Addr} {y d : V} {u r : Value} {o : Option V} {A : Around} {E : Value → Shared → Prop}
end
section
variable {X : Cx} {o e f : Expr} {apos cpos : Pos} {td ty tx : TE}
end
section
variable {X : Cx} {pins : List (Addr × Obj)} {σ : St} {H : Hp} {s : Shared} {a : Addr} {kvs : List (Key × V)} {A : Around} {E : Value → Shared → Prop}
end
section
variable {X : Cx} {pins : List (Addr × Obj)} {σ : St} {H : Hp} {s : Shared} {a : Addr} {y : V} {u : Value} {A : Around} {E : Value → Shared → Prop}
end
end L2
namespace Att
open PySem PySem.W PySem.Calls PyProof.Rows
theorem ints_of_wellAll {P : Params} {h : Heap} : ∀ (ns : List Int) (vs : List Value), WellAll P h vs (ns.map WData.int) → IntsAre vs ns := by
  intro ns
  induction ns with
  | nil =>
    intro vs w
    rw [List.map_nil] at w
    cases w
    exact .nil
  | cons n ns ih =>
    intro vs w
    rw [List.map_cons] at w
    cases w with
    | cons a b =>
      cases a
      exact .cons _ _ (ih _ b)
theorem script_of {l : OpenLaw} {n : Nat} (hn : l.most = some n) {P : Params} {h : Heap} {args : List WData} {vals : List Value}
    (hpre : l.row.toRowW.claim.pre args = true) (hwl : WellAll P h vals args) :
    ∃ a vs ns, vals = [Value.ref a] ∧ args = [WData.list (ns.map WData.int)] ∧ h.get? a = some { cls := .type "list", data := .seq vs.toArray } ∧ IntsAre vs ns ∧ ns.length ≤ n := by
  have hsh : WShape.hasAll [] args [.list .int] = true := (pre_splitW hpre).1
  have hc : l.pre.holds [] { args := args } = true := (pre_splitW hpre).2
  obtain ⟨d, r, rfl, h1, h2⟩ := hasAllW_cons hsh
  obtain rfl := hasAllW_nil h2
  obtain ⟨xs, rfl, h3⟩ := hasW_list h1
  obtain ⟨ns, rfl⟩ := items_int h3
  have hlen : ns.length ≤ n := by
    unfold OpenLaw.pre at hc
    have h4 : (WTm.not (.lt (.lit (.int (n : Int))) (.len (.arg 0)))).holds [] { args := [.list (ns.map .int)] } = true := by
      have h4 := (holds_andW hc).1
      rw [hn] at h4
      exact h4
    have h5 := condW_of h4 (w_not (w_lt w_lit (w_len_list (w_arg rfl))))
    rw [List.length_map] at h5
    refine Nat.le_of_not_lt fun q => ?_
    have q' : (n : Int) < ((ns.length : Nat) : Int) := by omega
    first
      | (rw [decide_eq_true q'] at h5; exact absurd h5 (by decide))
      | (simp at h5; omega)
  cases hwl with
  | cons w1 w2 =>
    cases w2
    cases w1 with
    | list ho hall => exact ⟨_, _, ns, rfl, rfl, ho, ints_of_wellAll ns _ hall, hlen⟩
theorem post_true (l : OpenLaw) (args : List WData) : l.row.toRowW.claim.post args (.bool true) args = true :=
  postW_of (r := l.row.toRowW) (X := (true == true))
    (show WShape.has [] (.bool true) .bool = true by first | rfl | decide | simp [WShape.has, WShape.arms, WShape.armsAll])
    (show (WTm.eq .res (.lit (.bool true))).value [] { args := args, res := some (.bool true), after := args } = some (.bool (true == true)) from w_eq_bool (w_res rfl) w_lit) rfl
theorem attach_call {l : OpenLaw} {n : Nat} {q : Program} {loose : List Str} {XP : (Str → Option Value) → Heap → Prop} {YP : World → Heap → Prop} {d : DefRec}
    (hn : l.most = some n) (hdf : d.params.defaults = [])
    (call : ∀ (w : World) (s₀ s₁ : Shared) (mg mb : Str → Option Value) (fa : Addr) (o : Obj) (pm cd doc : Value) (a : Addr) (vs : List Value) (ns : List Int),
      Ground q loose [] XP w s₀ mg mb s₁.heap → YP w s₁.heap →
      s₁.heap.get? fa = some o → o.data = .func (docDef d.name d.params d.body d.scope pm cd doc) → s₁.heap.CodeRec cd d.name → mg d.name = some (.ref fa) →
      s₁.heap.get? a = some { cls := .type "list", data := .seq vs.toArray } → IntsAre vs ns → ns.length ≤ n → s₁.gens = #[] →
      codeAny (model l.prog w) callerA (.call (.ref fa) ⟨[.ref a], []⟩) (fun r s' => r = .ok (.ret (.bool true)) ∧ OldK s₁.heap s'.heap ∧ s'.os = s₁.os ∧ AllBare s'.gens) s₁) :
    WalkO q loose XP YP l.row.toRowW d [] (fun f vs => PySem.call f vs) := by
  intro w s₀ s₁ mg mb G Y fa o pm cd doc dV kV ho hd hcd hD hmg hg args vals as hpre hlay hrd hwl hlo
  obtain rfl : dV = .none := Dflts.none hD hdf
  obtain rfl : kV = .none := Dflts.noKw hD
  obtain ⟨a, vs, ns, rfl, rfl, hobj, hints, hlen⟩ := script_of hn hpre hwl
  refine enter_call (codeAny_mono (call w s₀ s₁ mg mb fa o pm cd doc a vs ns G Y ho (fd_plain hd) hcd hmg hobj hints hlen hg) fun r s' hq => ?_)
  obtain ⟨rfl, h2, h3, h4⟩ := hq
  exact ⟨.inl ⟨.bool true, .bool true, [], rfl, fun _ => rfl, .bool true, post_true l _, fun _ => ⟨List.Pairwise.nil, fun _ hm => (nomatch hm)⟩⟩, h2, h3, h4⟩
section
variable {prog : Program} {w : World} {A : Around} {E : Value → Shared → Prop} {s : Shared} {K : Frag}
end
end Att
namespace L2
open PySem PySem.Spec PyProof.Rows
theorem vals_ints : ∀ {vs : List Value} {ns : List Int}, IntsAre vs ns → Vals (ns.map V.int) vs
  | _, _, .nil => .nil
  | _, _, .cons n t h => .cons ⟨t, rfl⟩ (vals_ints h)
def Only (H : Hp) : Prop := ∀ b, H b = none ∨ ∃ o xs, H b = some (.frz o (.lst xs))
theorem law_call {P : Program} {w : World} {K : PySem.W.Frag} {mg mb : Str → Option Value} {CX : CXT} {k : Nat} {fa a : Addr} {fd : FuncData} {x : Str} {sp : Sp} {s₁ : Shared} {vs : List Value} {ns : List Int}
    (KX : K.In s₁.heap) (hns : s₁.heap.Ns mainGlobals mg) (hb : s₁.heap.Ns builtinsNs mb) (hbb : ∀ x : Str, x ≠ "__name__" → mb x = bootBuiltins x) (hlim : s₁.heap.NoLimit) (hg : s₁.gens = #[])
    (ha : s₁.heap.get? a = some { cls := .type "list", data := .seq vs.toArray }) (hi : IntsAre vs ns) (hl : ns.length ≤ sizeLine) (hr : Room k callerA)
    (F : ∀ base : Heap, K.In base → base.Ns mainGlobals mg → FnOk P w K mg base CX k fa fd [x] sp) (hbind : ∀ (s : Shared) (u : Value), BindsTo s fd ⟨[u], []⟩ [(x, u)])
    (hsp : ∀ H : Hp, Only H → SqL K H a (ns.map V.int) → sp [.ref a] H (fun v _ => v = .bl true) fun _ _ _ => False)
    (hCX : ∀ H e s', CX [] H s₁ (fun _ _ _ => False) e s' → False) :
    codeAny (model P w) callerA (.call (.ref fa) ⟨[.ref a], []⟩) (fun r s' => r = .ok (.ret (.bool true)) ∧ OldK s₁.heap s'.heap ∧ s'.os = s₁.os ∧ AllBare s'.gens) s₁ := by
  have rv := vals_ints hi
  have lenV := hi.length
  have core : ∀ H : Hp, Only H → SqL K H a (ns.map V.int) → HOk P w H s₁.heap → (∀ b, H b ≠ none → b = a) → (H a ≠ none → K.lookup a = none) →
      codeAny (model P w) callerA (.call (.ref fa) ⟨[.ref a], []⟩) (fun r s' => r = .ok (.ret (.bool true)) ∧ OldK s₁.heap s'.heap ∧ s'.os = s₁.os ∧ AllBare s'.gens) s₁ := by
    intro H hO hS hok hA hK
    have base_of : ∀ {b : Addr} {o : Obj}, s₁.heap.get? b = some o → H b = none → (hidT s₁.heap H).get? b = some o := fun e n => hidT_get e n
    have noA : ∀ {b : Addr} {o : Obj} {es : Array DictEntry} {ep : Nat}, s₁.heap.get? b = some o → o.data = .dict es ep → H b = none := fun {b o es ep} e d => by
      cases q : H b with
      | none => rfl
      | some u =>
        have e' : b = a := hA b (by rw [q]; simp)
        subst e'
        rw [ha] at e; cases e
        have d' : Data.seq vs.toArray _ = Data.dict es ep := d
        cases d'
    have nsK : ∀ {b : Addr} {m : Str → Option Value}, s₁.heap.Ns b m → (hidT s₁.heap H).Ns b m := fun {b m} ⟨o, es, ep, e, d, r⟩ => ⟨o, es, ep, base_of e (noA e d), d, r⟩
    have hKb : K.In (hidT s₁.heap H) := fun b o e => base_of (KX b o e) (by
      cases q : H b with
      | none => rfl
      | some u =>
        have e' : b = a := hA b (by rw [q]; simp)
        subst e'
        rw [hK (by rw [q]; simp)] at e; cases e)
    have hM : Mod K mg (hidT s₁.heap H) := ⟨hKb, nsK hns, ⟨mb, nsK hb, hbb⟩, let ⟨mc, h1, h2⟩ := hlim; ⟨mc, nsK h1, h2⟩⟩
    have e0 : Env0 P w K mg (hidT s₁.heap H) callerA [] s₁ H := ⟨rfl, hM, fun b o e => of_hidT e, Nat.le_of_eq (hidT_size _ _), trivial, fun b hb => absurd (show b ∈ ([] : List Addr) from hb) (by simp), hok, .of_eq hg⟩
    refine codeAny_mono ((F _ hKb (nsK hns)).run callerA [] s₁ H ⟨[.ref a], []⟩ [.ref a] [.ref a] _ _ hr e0 (hbind s₁ (.ref a)) (.cons rfl .nil) (hsp H hO hS)) fun r s' h => ?_
    cases r with
    | error e => exact (hCX H e s' h).elim
    | ok fl =>
      cases fl with
      | next => exact False.elim h
      | brk => exact False.elim h
      | cont => exact False.elim h
      | ret u =>
        obtain ⟨v, H', os, bare, un, hok', r', q⟩ := h
        have q' : v = .bl true := q
        subst q'
        obtain rfl : u = Value.bool true := r'
        refine ⟨rfl, OldK.of_keep fun b o e => ?_, os, bare⟩
        cases q : H b with
        | none => exact un.keep b o e q (by intro z; exact absurd (show b ∈ ([] : List Addr) from z) (by simp)) (by simp)
        | some u =>
          rcases hO b with z | ⟨ob, xs, z⟩
          · rw [q] at z; cases z
          · have z2 := un.frzs b ob _ z
            obtain ⟨e1, _⟩ := hok b _ z
            obtain ⟨e2, _⟩ := hok' b _ z2
            rw [e] at e1; cases e1
            exact e2
  cases hk : K.lookup a with
  | some o =>
    have e := KX a o hk
    rw [ha] at e
    cases e
    refine core (fun _ => none) (fun _ => .inl rfl) (.inr ⟨_, vs.toArray, _, hk, rfl, rfl, rfl, by rw [List.size_toArray, lenV]; exact hl, by simpa using rv⟩) (fun b u z => by have z' : (none : Option HO) = some u := z; cases z') (fun b z => absurd rfl z) fun z => absurd rfl z
  | none =>
    refine core (fun b => if b = a then some (.frz { cls := .type "list", data := .seq vs.toArray } (.lst (ns.map V.int))) else none) (fun b => ?_) (.inl (.inr ⟨{ cls := .type "list", data := .seq vs.toArray }, if_pos rfl⟩)) (fun b u z => ?_) (fun b z => ?_) fun _ => hk
    · by_cases hb : b = a
      · exact .inr ⟨_, _, if_pos hb⟩
      · exact .inl (if_neg hb)
    · by_cases hb : b = a
      · have z' := (if_pos hb).symm.trans z
        cases z'
        subst hb
        exact ⟨ha, by rw [List.length_map]; exact hl, vs, _, rv, ha⟩
      · have z' := (if_neg hb).symm.trans z
        cases z'
    · by_cases hb : b = a
      · exact hb
      · exact absurd (if_neg hb) z
end L2
namespace L2
open PySem PySem.Spec PyProof.Rows
theorem walk_of {l : PySem.W.OpenLaw} {n k : Nat} {q : Program} {loose : List Str} {XP : (Str → Option Value) → Heap → Prop} {YP : World → Heap → Prop} {d : DefRec} {K : Params → PySem.W.Frag} {CX : World → CXT} {sp : World → Sp} {x : Str}
    (hn : l.most = some n) (hn2 : n ≤ sizeLine) (hdf : d.params.defaults = []) (hr : Room k callerA)
    (hY : ∀ (w : World) (h : Heap), YP w h → (K w.params).In h)
    (F : ∀ (w : World) (mg : Str → Option Value) (fa : Addr) (h : Heap), (K w.params).In h → h.Ns mainGlobals mg → mg d.name = some (.ref fa) →
      ∃ fd : FuncData, (∀ (s : Shared) (u : Value), BindsTo s fd ⟨[u], []⟩ [(x, u)]) ∧
        ∀ base : Heap, (K w.params).In base → base.Ns mainGlobals mg → FnOk l.prog w (K w.params) mg base (CX w) k fa fd [x] (sp w))
    (hsp : ∀ (w : World) (H : Hp) (a : Addr) (ns : List Int), ns.length ≤ n → Only H → SqL (K w.params) H a (ns.map V.int) → sp w [.ref a] H (fun v _ => v = .bl true) fun _ _ _ => False)
    (hCX : ∀ (w : World) (H : Hp) (s : Shared) (e : Value) (s' : Shared), CX w [] H s (fun _ _ _ => False) e s' → False) :
    PySem.W.WalkO q loose XP YP l.row.toRowW d [] (fun f vs => PySem.call f vs) := by
  refine Att.attach_call hn hdf fun w s₀ s₁ mg mb fa o pm cd doc a vs ns G Y ho hd hcd hmg hobj hints hlen hg => ?_
  have KX := hY w _ Y
  obtain ⟨fd, hb, hF⟩ := F w mg fa _ KX G.T.g hmg
  exact law_call KX G.T.g G.T.b G.T.builtins G.T.nolimit hg hobj hints (Nat.le_trans hlen hn2) hr hF hb (fun H hO hS => hsp w H a ns hlen hO hS) fun H e s' => hCX w H s₁ e s'
end L2
namespace L2
open PySem PySem.Spec PyProof.Rows
def defArgs (s : Stmt) : Arguments := match s with
  | .FunctionDef _ a _ _ _ _ _ _ _ _ => a
  | _ => { posonlyargs := [], args := [], vararg := none, kwonlyargs := [], kw_defaults := [], kwarg := none, defaults := [] }
def defBody (s : Stmt) : List Stmt := match s with
  | .FunctionDef _ _ b _ _ _ _ _ _ _ => b
  | _ => []
def defScope (s : Stmt) : Scope := match s with
  | .FunctionDef _ _ _ _ _ _ sc _ _ _ => sc
  | _ => { kind := .function, names := [], isGenerator := false, isCoroutine := false }
abbrev CX0 : CXT := fun _ _ _ _ _ _ => False
abbrev E0 : XK := fun _ _ _ => False
theorem pass0 {X : Cx} : Passes CX0 X E0 := fun _ _ _ _ _ _ _ h => h.elim
structure Fun (K : PySem.W.Frag) (x qual : Str) (st : Stmt) (f : Addr) (fd : FuncData) : Prop where
  ex : ∃ (oc : Value) (od : Option Addr) (kV doc pm : Value) (an : Option Addr) (cdv ct : Value) (osl : Array (Option Value)),
    fd = PySem.W.fnOf x qual (defArgs st) (defBody st) (defScope st) .none kV doc pm an cdv ct ∧ K.lookup f = some ⟨oc, od, .func fd, osl⟩ ∧ PySem.W.codeIn K cdv qual = true
  kp : PySem.W.keepIn K (.ref f) = true
section
variable {P : Program} {w : World} {K : PySem.W.Frag} {mg : Str → Option Value} {base : Heap}
theorem Fun.ok {x qual : Str} {st : Stmt} {f : Addr} {fd : FuncData} {N ps : List Str} {k : Nat} {sp : Sp} (F : Fun K x qual st f fd) (S : FnScope N ps (defScope st)) (len : ∀ vs H Q E, sp vs H Q E → vs.length = ps.length)
    (hbody : ∀ (cdv : Value) (A : Around) (outer : List Env) (s : Shared) (H : Hp) (vs : List V) (Q : VK) (E : XK), Room k (A.deeper (envOfC qual (defScope st) s.heap.objs.size f cdv)) → sp vs H Q E →
      ∃ t, PSs (cxOf CX0 P w K mg base N qual (defScope st) f cdv A outer s H E).nox (defBody st) t ∧ t { nx := fun _ H' => Q .non H', rt := Q } (start N vs) H) : FnOk P w K mg base CX0 (k + 1) f fd ps sp := by
  obtain ⟨oc, od, kV, doc, pm, an, cdv, ct, osl, rfl, lk, hcd⟩ := F.ex
  refine fn_of lk hcd S len fun A outer s H vs Q E hr hsp => ?_
  obtain ⟨t, h, q⟩ := hbody cdv A outer s H vs Q E hr hsp
  exact ⟨t, h.nox, q⟩
theorem Fun.binds {x qual : Str} {st : Stmt} {f : Addr} {fd : FuncData} {ps : List Str} (F : Fun K x qual st f fd)
    (h : ∀ (kV doc pm : Value) (an : Option Addr) (cdv ct : Value) (us : List Value), us.length = ps.length → bindArgs (PySem.W.fnOf x qual (defArgs st) (defBody st) (defScope st) .none kV doc pm an cdv ct) ⟨us, []⟩ = pure (ps.zip us)) : Binds K fd ps [] := by
  obtain ⟨oc, od, kV, doc, pm, an, cdv, ct, osl, rfl, lk, hcd⟩ := F.ex
  exact .all (h kV doc pm an cdv ct)
theorem fun_mk {x qual : Str} {st : Stmt} {f : Addr} {oc : Value} {od an : Option Addr} {osl : Array (Option Value)} {kV doc pm cdv ct : Value} (l : K.lookup f = some ⟨oc, od, .func (PySem.W.fnOf x qual (defArgs st) (defBody st) (defScope st) .none kV doc pm an cdv ct), osl⟩)
    (c : PySem.W.codeIn K cdv qual = true) (k : PySem.W.keepIn K (.ref f) = true) : Fun K x qual st f (PySem.W.fnOf x qual (defArgs st) (defBody st) (defScope st) .none kV doc pm an cdv ct) := ⟨⟨oc, od, kV, doc, pm, an, cdv, ct, osl, rfl, l, c⟩, k⟩
end
section
variable {X : Cx}
theorem pv (i : Nat) {x : Str} {pos : Pos} (hN : X.N[i]? = some x := by rfl) (hv : Vis X.env.scope x := by first | exact Or.inl rfl | exact Or.inr (Or.inl rfl) | exact Or.inr (Or.inr rfl)) (hd : (x == ("__debug__" : Str)) = false := by decide)
    (hcd : (x == ("__classdict__" : Str)) = false := by decide) : PE X (.Name x pos) (tVar i) := pe_var hN hv hd hcd
end
theorem iteF {A B : Prop} (h : B) : if false = true then A else B := by
  rw [if_neg Bool.false_ne_true]
  exact h
theorem iteT {A B : Prop} (h : A) : if true = true then A else B := by
  rw [if_pos rfl]
  exact h
theorem ite2 {c A B : Prop} [Decidable c] (h1 : c → A) (h2 : ¬ c → B) : if c then A else B := by
  by_cases h : c
  · rw [if_pos h]
    exact h1 h
  · rw [if_neg h]
    exact h2 h
theorem iteNS {c A B : Prop} [Decidable c] (hc : c) (h : B) : if (!decide c) = true then A else B := by
  rw [decide_eq_true hc]
  exact iteF h
def Same (H H' : Hp) : Prop := ∀ b o, H b = some o → H' b = some o
theorem Same.refl (H : Hp) : Same H H := fun _ _ h => h
theorem Same.trans {H H1 H2 : Hp} (a : Same H H1) (b : Same H1 H2) : Same H H2 := fun c o h => b c o (a c o h)
theorem Same.free {H H' : Hp} (e : Same H H') {l : Addr} (h : H' l = Option.none) : H l = Option.none := by
  cases q : H l with
  | none => rfl
  | some o =>
    rw [e l o q] at h
    cases h
theorem Same.seq {K : PySem.W.Frag} {H H' : Hp} {a : Addr} {xs : List V} (e : Same H H') (h : SqL K H a xs) : SqL K H' a xs := by
  rcases h with (h | ⟨o, h⟩) | h
  · exact .inl (.inl (e _ _ h))
  · exact .inl (.inr ⟨o, e _ _ h⟩)
  · exact .inr h
end L2
namespace L2
open PySem PySem.Spec PyProof.Rows
section
variable {X : Cx}
end
section
variable {κ : Type} [DecidableEq κ]
end
end L2
namespace L2
open PySem PySem.Spec PyProof.Rows
theorem ne_nat {a b : Nat} (h : a < b ∨ b < a) : a ≠ b := by omega
def drawn (env : Env) : List (Str × NameKind) → List (Str × Addr) → List (Str × Addr)
  | [], cs => cs
  | (n, k) :: r, cs => if k = .free then (match env.cells.lookup n with | some c => drawn env r ((n, c) :: cs) | none => drawn env r cs) else drawn env r cs
section
variable {prog : Program} {w : World} {A : Around} {R : Result → Shared → Prop} {s : Shared}
end
inductive Fv (X : Cx) (scope : Scope) : List Str → List Nat → Prop where
  | nil : Fv X scope [] []
  | cons {y : Str} {j : Nat} {ys : List Str} {js : List Nat} (hN : X.N[j]? = some y) (hk : X.env.kindOf y = some .cell ∨ X.env.kindOf y = some .free) (hm : scope.names.lookup y = some .free) (r : Fv X scope ys js) : Fv X scope (y :: ys) (j :: js)
theorem Fv.mem {X : Cx} {scope : Scope} {ys : List Str} {js : List Nat} (h : Fv X scope ys js) {y : Str} (hy : y ∈ ys) : X.env.kindOf y = some .cell ∨ X.env.kindOf y = some .free := by
  induction h with
  | nil => exact nomatch hy
  | cons hN hk hm r ih =>
    rcases List.mem_cons.mp hy with e | hy
    · rw [e]; exact hk
    · exact ih hy
theorem Fv.at {X : Cx} {scope : Scope} {ys : List Str} {js : List Nat} (h : Fv X scope ys js) : ∀ {k : Nat} {y : Str}, ys[k]? = some y → ∃ j, js[k]? = some j ∧ X.N[j]? = some y ∧ (X.env.kindOf y = some .cell ∨ X.env.kindOf y = some .free) ∧ scope.names.lookup y = some .free := by
  induction h with
  | nil => intro k y e; simp at e
  | @cons y0 j0 ys0 js0 hN hk hm r ih =>
    intro k y e
    cases k with
    | zero => simp at e; subst e; exact ⟨j0, by simp, hN, hk, hm⟩
    | succ k => obtain ⟨j, a, b⟩ := ih (k := k) (y := y) (by simpa using e); exact ⟨j, by simpa using a, b⟩
theorem Fv.len {X : Cx} {scope : Scope} {ys : List Str} {js : List Nat} (h : Fv X scope ys js) : ys.length = js.length := by
  induction h with
  | nil => rfl
  | cons _ _ _ _ ih => simp [ih]
structure CompOk (X : Cx) (x : Str) (fvn : List Str) (scope : Scope) : Prop where
  cell : ∀ y ∈ scope.names, y.2 ≠ .cell
  kind : scope.kind = .function
  names : ∀ y ∈ scope.names, y.2 = .local → scope.names.lookup y.1 = some .local
  xl : scope.names.lookup x = some .local
  free : ∀ y ∈ scope.names, y.2 = .free → y.1 ∈ fvn
  nd : (x :: fvn).Nodup
section
variable {X : Cx} {elt iter : Expr} {x : Str} {px pos : Pos} {ifs : List Expr} {scope : Scope} {fvn : List Str} {js : List Nat} {wi : TI} {tc : TT} {te : TE}
end
end L2
namespace L2
open PySem PySem.Spec PyProof.Rows
theorem bt_int : bootBuiltins "int" = some (.type "int") := by decide +kernel
theorem bt_bool : bootBuiltins "bool" = some (.type "bool") := by decide +kernel
theorem bt_list : bootBuiltins "list" = some (.type "list") := by decide +kernel
theorem bt_tuple : bootBuiltins "tuple" = some (.type "tuple") := by decide +kernel
theorem bt_isinstance : bootBuiltins "isinstance" = some (.builtin "isinstance") := by decide +kernel
theorem bt_abs : bootBuiltins "abs" = some (.builtin "abs") := by decide +kernel
section
variable {X : Cx}
theorem pe_ty {x : Str} {n : String} {pos : Pos} (hm : X.mg x = none) (hv : bootBuiltins x = some (.type n)) (hg : Gl X x := by rfl) (hn : x ≠ "__name__" := by decide) (hd : (x == ("__debug__" : Str)) = false := by decide) : PE X (.Name x pos) (tC (.ty n)) := pe_bltn hg hm hv rfl hn hd
inductive Ty where
  | non | bl | int | str | lst | tup
  deriving DecidableEq
def Ty.name : Ty → String
  | .non => "NoneType" | .bl => "bool" | .int => "int" | .str => "str" | .lst => "list" | .tup => "tuple"
def Ty.isa (a b : Ty) : Bool := decide (a = b) || (decide (a = .bl) && decide (b = .int))
theorem kit_ty (K : PySem.W.Frag) (a b : Ty) : PySem.W.kitOne K (.type a.name) (.type b.name) = some (a.isa b) := by
  cases a <;> cases b <;> rfl
def TyIs (H : Hp) : V → Ty → Prop
  | .non, .non => True
  | .bl _, .bl => True
  | .int _, .int => True
  | .str _, .str => True
  | .ref a, .lst => ∃ xs, Rd H a (.lst xs)
  | .ref a, .tup => ∃ xs, H a = some (.tup xs)
  | _, _ => False
theorem kitx_at {pins : List (Addr × Obj)} {σ : St} {H : Hp} {s : Shared} {x : V} {u : Value} {a : Ty} (I : Inv X pins σ H s) (rx : RelV x u) (ty : TyIs H x a) :
    ∃ P : Heap → Prop, PySem.W.KitX X.K u (.type a.name) P ∧ P s.heap ∧ u ≠ .builtin "__main__.__loader__#opaque" := by
  cases x with
  | non => cases a <;> first | exact ty.elim | (cases (show u = Value.none from rx); exact ⟨_, PySem.W.kitx_none, True.intro, fun z => nomatch z⟩)
  | bl y => cases a <;> first | exact ty.elim | (cases (show u = Value.bool y from rx); exact ⟨_, PySem.W.kitx_bool, True.intro, fun z => nomatch z⟩)
  | int i => cases a <;> first | exact ty.elim | (obtain ⟨t, q⟩ := (show ∃ t, u = Value.int i t from rx); cases q; exact ⟨_, PySem.W.kitx_int, True.intro, fun z => nomatch z⟩)
  | str y => cases a <;> first | exact ty.elim | (obtain ⟨t, q⟩ := (show ∃ t, u = Value.str y t from rx); cases q; exact ⟨_, PySem.W.kitx_str, True.intro, fun z => nomatch z⟩)
  | ref p =>
    cases (show u = Value.ref p from rx)
    cases a with
    | lst =>
      obtain ⟨xs, e⟩ := ty
      obtain ⟨_, _, n, _, h1⟩ := (show ObjOk X.prog X.w H s.heap p (.lst xs) from e.ok I.hok)
      exact ⟨_, PySem.W.kitx_list, ⟨_, h1, rfl⟩, fun z => nomatch z⟩
    | tup =>
      obtain ⟨xs, e⟩ := ty
      obtain ⟨_, _, _, pp⟩ := (show ObjOk X.prog X.w H s.heap p (.tup xs) from I.hok p _ e)
      obtain ⟨o, h1, h2, _⟩ := pp
      exact ⟨_, PySem.W.kitx_tuple, ⟨o, h1, h2⟩, fun z => nomatch z⟩
    | _ => exact ty.elim
  | _ => cases a <;> exact ty.elim
theorem call_isi : CallR X (.builtin "isinstance") (fun xs H Q => ∃ x a b, xs = [x, .ty (Ty.name b)] ∧ TyIs H x a ∧ Q (.bl (a.isa b)) H) := by
  intro pins s σ H xs us Q I r h
  obtain ⟨x, a, b, rfl, ty, q⟩ := h
  obtain ⟨u, w', rfl, ru, rw'⟩ := vals2 r
  cases (show w' = Value.type _ from rw')
  obtain ⟨P, Z, p, nb⟩ := kitx_at I ru ty
  exact PySem.W.kia_one Z I.kIn p (kit_ty _ a b) nb fun tk => ⟨.bl _, H, I.tok tk, rfl, q⟩
theorem kit_any (K : PySem.W.Frag) (a : Ty) : ∀ bs : List Ty, PySem.W.kitAny K (.type a.name) (bs.map fun b : Ty => Value.type b.name) = some (bs.any a.isa)
  | [] => rfl
  | b :: r => by
    show (match PySem.W.kitOne K (.type a.name) (.type b.name) with | some true => some true | some false => PySem.W.kitAny K (.type a.name) (r.map fun b : Ty => Value.type b.name) | none => none) = _
    rw [kit_ty, kit_any K a r, List.any_cons]
    cases a.isa b <;> rfl
theorem vals_tys : ∀ {bs : List Ty} {us : List Value}, Vals (bs.map fun b : Ty => V.ty b.name) us → us = bs.map fun b : Ty => Value.type b.name
  | [], _, .nil => rfl
  | b :: r, u :: us, .cons q t => by
    cases (show u = Value.type _ from q)
    rw [vals_tys (bs := r) t]; rfl
theorem call_isiT : CallR X (.builtin "isinstance") (fun xs H Q => ∃ (x : V) (p : Addr) (a : Ty) (bs : List Ty), xs = [x, .ref p] ∧ H p = some (.tup (bs.map fun b : Ty => V.ty b.name)) ∧ TyIs H x a ∧ Q (.bl (bs.any (Ty.isa a))) H) := by
  intro pins s σ H xs us Q I r h
  obtain ⟨x, p, a, bs, rfl, hp, ty, q⟩ := h
  obtain ⟨u, w', rfl, ru, rw'⟩ := vals2 r
  cases (show w' = Value.ref p from rw')
  obtain ⟨P, Z, pp, nb⟩ := kitx_at I ru ty
  obtain ⟨_, its, rv, o, h1, h2, n, h3⟩ := (show ObjOk X.prog X.w H s.heap p (.tup _) from I.hok p _ hp)
  obtain ⟨c, dd, dt, sl⟩ := o
  cases (show c = _ from h2)
  cases (show dt = _ from h3)
  have e := vals_tys rv
  subst e
  exact PySem.W.kia_tup Z I.kIn pp h1 (kit_any _ a bs) nb fun tk => ⟨.bl _, H, I.tok tk, rfl, q⟩
def eqVs : List V → List V → Bool
  | [], [] => true
  | x :: xs, y :: ys => eqV x y && eqVs xs ys
  | _, _ => false
theorem eqVs_len : ∀ {xs ys : List V}, xs.length ≠ ys.length → eqVs xs ys = false
  | [], [], h => absurd rfl h
  | [], _ :: _, _ => rfl
  | _ :: _, [], _ => rfl
  | x :: xs, y :: ys, h => by
    have : xs.length ≠ ys.length := fun e => h (by simp [e])
    simp [eqVs, eqVs_len this]
theorem eqVs_all : ∀ {xs ys : List V}, xs.length = ys.length → ((List.range xs.length).all fun j => eqV (xs.getD j .non) (ys.getD j .non)) = eqVs xs ys
  | [], [], _ => rfl
  | x :: xs, y :: ys, h => by
    have h' : xs.length = ys.length := by simpa using h
    rw [List.length_cons, List.range_succ_eq_map, List.all_cons, List.all_map, eqVs, ← eqVs_all h']
    rfl
def LCmp (K : PySem.W.Frag) (H : Hp) (x y : V) (k : Bool) : Prop :=
  ∃ a b xs ys, x = .ref a ∧ y = .ref b ∧ SqL K H a xs ∧ SqL K H b ys ∧ ((ys = [] ∧ k = xs.isEmpty) ∨ (xs.all flatV = true ∧ ys.all flatV = true ∧ k = eqVs xs ys))
theorem rc_lists {pins : List (Addr × Obj)} {σ : St} {H : Hp} {s : Shared} {x y : V} {v u : Value} {k : Bool} (hu : X.A.units < cLine) (I : Inv X pins σ H s) (rx : RelV x v) (ry : RelV y u) (h : LCmp X.K H x y k) :
    SeqAt.RcAt X.A s v u k ∧ SeqAt.RcNeAt X.A s v u (!k) := by
  obtain ⟨a, b, xs, ys, rfl, rfl, hx, hy, hk⟩ := h
  cases (show v = Value.ref a from rx)
  cases (show u = Value.ref b from ry)
  obtain ⟨its, r1, p1, z1⟩ := I.list hx
  obtain ⟨its2, r2, p2, z2⟩ := I.list hy
  have l1 := r1.length
  have l2 := r2.length
  by_cases hl : xs.length = ys.length
  · have hsz : its.toArray.size = its2.toArray.size := by simp; omega
    have he : ∀ j (h1 : j < its.toArray.size) (h2 : j < its2.toArray.size), SeqAt.EqAt X.A.in1 s its.toArray[j] its2.toArray[j] (eqV (xs.getD j .non) (ys.getD j .non)) := by
      intro j h1 h2
      have h1' : j < its.length := by simpa using h1
      have h2' : j < its2.length := by simpa using h2
      rcases hk with ⟨e, _⟩ | ⟨f1, f2, _⟩
      · subst e; simp at l2; omega
      · have j1 : j < xs.length := by omega
        have j2 : j < ys.length := by omega
        obtain ⟨u1, e1, q1⟩ := r1.get (i := j) (x := xs[j]) (by simp [j1])
        obtain ⟨u2, e2, q2⟩ := r2.get (i := j) (x := ys[j]) (by simp [j2])
        have g1 : its.toArray[j] = u1 := by simp; rw [List.getElem?_eq_getElem h1'] at e1; exact Option.some.inj e1
        have g2 : its2.toArray[j] = u2 := by simp; rw [List.getElem?_eq_getElem h2'] at e2; exact Option.some.inj e2
        rw [g1, g2]
        have d1 : xs.getD j .non = xs[j] := by simp [j1]
        have d2 : ys.getD j .non = ys[j] := by simp [j2]
        rw [d1, d2]
        exact eqAt_V q1 q2 (List.all_eq_true.mp f1 _ (List.getElem_mem j1)) (List.all_eq_true.mp f2 _ (List.getElem_mem j2))
    have ek : (List.range its.toArray.size).all (fun j => eqV (xs.getD j .non) (ys.getD j .non)) = k := by
      have : its.toArray.size = xs.length := by simp [l1]
      rw [this, eqVs_all hl]
      rcases hk with ⟨e, e'⟩ | ⟨_, _, e'⟩
      · subst e
        have : xs = [] := List.length_eq_zero_iff.mp (by simpa using hl)
        subst this; rw [e']; rfl
      · exact e'.symm
    refine ⟨?_, ?_⟩
    · rw [← ek]; exact SeqAt.RcAt.lists p1.isList p2.isList hsz hu he
    · rw [← ek]; exact SeqAt.RcNeAt.lists p1.isList p2.isList hsz hu he
  · have hsz : (its.toArray.size != its2.toArray.size) = true := by
      rw [bne_iff_ne]; simp; omega
    have ek : k = false := by
      rcases hk with ⟨e, e'⟩ | ⟨_, _, e'⟩
      · subst e
        cases xs with
        | nil => exact absurd rfl hl
        | cons x xs => exact e'
      · rw [e', eqVs_len hl]
    subst ek
    exact ⟨SeqAt.RcAt.lists_lengths p1.isList p2.isList hsz hu, SeqAt.RcNeAt.lists_lengths p1.isList p2.isList hsz hu⟩
theorem op_eqL (hu : X.A.units < cLine) : OpR X (compareOp .Eq) (fun x y H Q => (∃ k, LCmp X.K H x y k ∧ Q (.bl k) H) ∨ (x = .non ∧ (∃ b ys, y = .ref b ∧ SqL X.K H b ys) ∧ Q (.bl false) H)) := by
  intro pins s σ H x y v u Q I rx ry h
  rcases h with ⟨k, c, q⟩ | ⟨rfl, ⟨b, ys, rfl, hy⟩, q⟩
  · exact (rc_lists hu I rx ry c).1 _ _ _ _ ⟨.bl k, H, I, rfl, q⟩
  · cases (show v = Value.none from rx)
    cases (show u = Value.ref b from ry)
    obtain ⟨its, r, p, z⟩ := I.list hy
    exact SeqAt.RcAt.none_list p.isList hu _ _ _ _ ⟨.bl false, H, I, rfl, q⟩
theorem op_neL (hu : X.A.units < cLine) : OpR X (compareOp .NotEq) (fun x y H Q => ∃ k, LCmp X.K H x y k ∧ Q (.bl (!k)) H) := by
  intro pins s σ H x y v u Q I rx ry h
  obtain ⟨k, c, q⟩ := h
  exact (rc_lists hu I rx ry c).2 _ _ _ _ ⟨.bl (!k), H, I, rfl, q⟩
section
open MeetsSeq MeetsSeq2 AutoSeq1
theorem extend_tuple (l : Addr) (items : Array Value) (n : Nat) (b : Addr) (items2 : Array Value) (n2 : Nat) (dd : Option Addr) (sl : Array (Option Value)) (hs0 : ¬(!items.isEmpty && Builtin.List.listTooLong (items.size + items2.size)) = true) (hs1 : items.size ≤ sizeLine) (hs2 : items.size + items2.size ≤ sizeLine + 1) :
    Meets (Builtin.«list.extend» ⟨[.ref l, .ref b], []⟩) (fun _ R s => s.heap.get? l = some { cls := .type "list", dict := none, data := .seq items n, slots := #[] } ∧ s.heap.get? b = some { cls := .type "tuple", dict := dd, data := .seq items2 n2, slots := sl } ∧ R (.ok (.ret Value.none)) { s with heap := s.heap.update l (Obj.mapSeq fun x => x ++ items2), toks := s.toks }) :=
  .of_wp fun prog w A R s h => by
    obtain ⟨hp, g, d, tk, os⟩ := s; obtain ⟨hl, hb, h⟩ := h; have f1 := PySem.AutoSeq1.idx_int; have f2 := PySem.AutoSeq1.sub_tuple_tuple; have f3 := PySem.AutoSeq1.sub_list_list; have f4 := PySem.AutoSeq1.sub_tuple_list; have f5 := PySem.AutoSeq1.sub_list_tuple;
    have hz' : (items ++ items2).size ≤ sizeLine + 1 := by rw [Array.size_append]; exact hs2
    wp_walk using (wpAny_updateSeq hl rfl (hz := hs1) (_hz' := hz')), PySem.AutoSeq1.wpAny_loadPart' hl, PySem.AutoSeq1.wpAny_loadPart' hb; exact ⟨_, rfl, h⟩
end
def rExtendLT : V → List V → Hp → VK → Prop := fun x vs H Q => ∃ l b xs zs, x = .ref l ∧ vs = [.ref b] ∧ H l = some (.lst xs) ∧ (H b = some (.lst zs) ∨ H b = some (.tup zs)) ∧ xs.length + zs.length ≤ sizeLine ∧ Q .non (upd H l (.lst (xs ++ zs)))
theorem mt_extendLT : MtM X "list.extend" rExtendLT := by
  intro pins s σ H x vs v us Q I rx rv h
  obtain ⟨l, b, xs, zs, rfl, rfl, hH, hB, hz, q⟩ := h
  rcases hB with hB | hB
  · exact mt_extend pins s σ H _ _ v us Q I rx rv ⟨l, b, xs, zs, rfl, rfl, hH, hB, hz, q⟩
  · cases rx
    obtain ⟨u, rfl, ru⟩ := rv.one
    cases ru
    obtain ⟨z, its, n, r, hl, e⟩ := I.lstM hH
    obtain ⟨z2, its2, r2, o, e2, c2, n2, d2⟩ := (show ObjOk X.prog X.w H s.heap b (.tup zs) from I.hok b _ hB)
    have hl2 := r2.length
    have hsz : its.toArray.size + its2.toArray.size ≤ sizeLine := by rw [List.size_toArray, List.size_toArray]; omega
    have hlong : ¬ (!its.toArray.isEmpty && Builtin.List.listTooLong (its.toArray.size + its2.toArray.size)) = true := by
      rw [notLongL hsz, Bool.and_false]
      exact Bool.false_ne_true
    refine call_meets F.slot_list_extend ⟨_, e, rfl⟩ F.entry_list_extend (F.args_list_extend_2 _ _)
      (extend_tuple l its.toArray n b its2.toArray n2 o.dict o.slots hlong (by rw [List.size_toArray]; omega) (by omega)) ⟨e, ?_, ?_⟩
    · obtain ⟨c, dd, dt, sl⟩ := o
      cases (show c = _ from c2)
      cases (show dt = _ from d2)
      exact e2
    · refine ⟨.non, _, I.lset (its' := its ++ its2) hH e (by simp) (r.append r2) ?_, rfl, q⟩
      rw [List.length_append]
      omega
structure Cal (P : Program) (w : World) (K : PySem.W.Frag) (mg : Str → Option Value) (base : Heap) (k : Nat) (x : Str) (ps : List Str) (sp : Sp) : Prop where
  ex : ∃ f fd, FnOk P w K mg base CX0 k f fd ps sp ∧ mg x = some (.ref f) ∧ PySem.W.keepIn K (.ref f) = true ∧ Binds K fd ps []
theorem pe_def {k m : Nat} {x : Str} {ps : List Str} {sp : Sp} {p pos : Pos} {e : Expr} {es : List Expr} {t : TA} (C : Cal X.prog X.w X.K X.mg X.base k x ps sp) (hr : Room m X.A) (hk : k ≤ m) (ha : PA X (e :: es) t) (hg : Gl X x := by rfl)
    (hdb : (x == ("__debug__" : Str)) = false := by decide) (he : starEach (e :: es) X.env = (false, eval e X.env) :: starEach es X.env := by rfl) (hpl : (backTo pos (starEach es X.env)).any (·.1) = false := by rfl) :
    PE X (.Call (.Name x p) (e :: es) [] pos) (tCall sp [] E0 t) := by
  obtain ⟨f, fd, F, hm, hkp, hb⟩ := C.ex
  exact pe_call F (hr.mono hk) hg hm hkp hb .nil pass0 ha hdb he hpl
end
structure Def (K : PySem.W.Frag) (mg : Str → Option Value) (x : Str) (st : Stmt) (ps : List Str) : Prop where
  ex : ∃ f fd, Fun K x x st f fd ∧ mg x = some (.ref f) ∧ Binds K fd ps []
theorem Def.cal {P : Program} {w : World} {K : PySem.W.Frag} {mg : Str → Option Value} {base : Heap} {x : Str} {st : Stmt} {N ps : List Str} {k : Nat} {sp : Sp} (D : Def K mg x st ps) (S : FnScope N ps (defScope st)) (len : ∀ vs H Q E, sp vs H Q E → vs.length = ps.length)
    (hbody : ∀ (f : Addr) (cdv : Value) (A : Around) (outer : List Env) (s : Shared) (H : Hp) (vs : List V) (Q : VK) (E : XK), Room k (A.deeper (envOfC x (defScope st) s.heap.objs.size f cdv)) → sp vs H Q E →
      ∃ t, PSs (cxOf CX0 P w K mg base N x (defScope st) f cdv A outer s H E).nox (defBody st) t ∧ t { nx := fun _ H' => Q .non H', rt := Q } (start N vs) H) : Cal P w K mg base (k + 1) x ps sp := by
  obtain ⟨f, fd, F, hm, hb⟩ := D.ex
  exact ⟨f, fd, F.ok S len (hbody f), hm, F.kp, hb⟩
theorem hu0 {A : Around} {k : Nat} (hr : Room k A) : A.units < cLine := hr.units0
structure Blt (mg : Str → Option Value) : Prop where
  len_ : mg "len" = none
  abs_ : mg "abs" = none
  isinstance_ : mg "isinstance" = none
  int_ : mg "int" = none
  bool_ : mg "bool" = none
  list_ : mg "list" = none
  tuple_ : mg "tuple" = none
  str_ : mg "str" = none
  range_ : mg "range" = none
  max_ : mg "max" = none
  min_ : mg "min" = none
  sorted_ : mg "sorted" = none
  set_ : mg "set" = none
  enumerate_ : mg "enumerate" = none
  reversed_ : mg "reversed" = none
  any_ : mg "any" = none
end L2
namespace L2
open PySem PySem.Spec PyProof.Rows
theorem def_mk {K : PySem.W.Frag} {h : Heap} {mg : Str → Option Value} {x : Str} {st : Stmt} {ps : List Str} {f : Addr} {oc : Value} {od an : Option Addr} {osl : Array (Option Value)} {kV doc pm cdv ct : Value} (X : K.In h) (G : h.Ns mainGlobals mg)
    (a : PySem.W.nsIn K mainGlobals x = some (some (.ref f))) (l : K.lookup f = some ⟨oc, od, .func (PySem.W.fnOf x x (defArgs st) (defBody st) (defScope st) .none kV doc pm an cdv ct), osl⟩) (c : PySem.W.codeIn K cdv x = true) (k : PySem.W.keepIn K (.ref f) = true)
    (b : ∀ (kV doc pm : Value) (an : Option Addr) (cdv ct : Value) (us : List Value), us.length = ps.length → bindArgs (PySem.W.fnOf x x (defArgs st) (defBody st) (defScope st) .none kV doc pm an cdv ct) ⟨us, []⟩ = pure (ps.zip us)) : Def K mg x st ps :=
  ⟨f, _, fun_mk l c k, PySem.W.mg_of X G a, (fun_mk l c k).binds b⟩
end L2
namespace L2
open PySem PySem.Spec PyProof.Rows
theorem Same.upd {H H' : Hp} {l : Addr} {o : HO} (e : Same H H') (hl : H l = none) : Same H (L2.upd H' l o) := fun b u h => by
  rw [upd_ne (ne_of_none h hl)]; exact e b u h
theorem snoc_cases {α : Type} : ∀ l : List α, l = [] ∨ ∃ r x, l = r ++ [x]
  | [] => .inl rfl
  | a :: l => by
    rcases snoc_cases l with rfl | ⟨r, x, rfl⟩
    · exact .inr ⟨[], a, rfl⟩
    · exact .inr ⟨a :: r, x, rfl⟩
theorem len1 {v : V} : [v].length ≤ sizeLine := by show 1 ≤ sizeLine; decide
theorem len2 {v u : V} : [v, u].length ≤ sizeLine := by show 2 ≤ sizeLine; decide
theorem small6 {n : Nat} (h : n ≤ 16000000) : n < sizeLine := Nat.lt_of_le_of_lt h (by decide)
theorem small6' {n : Nat} (h : n ≤ 16000000) : n ≤ sizeLine := Nat.le_of_lt (small6 h)
theorem getV {α : Type} {f : α → V} {ns : List α} {i : Nat} {y : V} (h : (ns.map f)[i]? = some y) : ∃ n, ns[i]? = some n ∧ y = f n := by
  rw [List.getElem?_map] at h
  cases e : ns[i]? with
  | none => rw [e] at h; cases h
  | some n => rw [e] at h; exact ⟨n, rfl, (Option.some.inj h).symm⟩
inductive D where
  | non | bl (b : Bool) | int (i : Int) | str (x : Str) | lst (ds : List D) | tup (ds : List D)
mutual
def At (H : Hp) : D → V → Prop
  | .non, v => v = .non
  | .bl b, v => v = .bl b
  | .int i, v => v = .int i
  | .str x, v => v = .str x
  | .lst ds, v => ∃ a vs, v = .ref a ∧ H a = some (.lst vs) ∧ AtL H ds vs
  | .tup ds, v => ∃ a vs, v = .ref a ∧ H a = some (.tup vs) ∧ AtL H ds vs
def AtL (H : Hp) : List D → List V → Prop
  | [], vs => vs = []
  | d :: ds, vs => ∃ v r, vs = v :: r ∧ At H d v ∧ AtL H ds r
end
mutual
theorem At.mono {H H' : Hp} (e : Same H H') : ∀ {d : D} {v : V}, At H d v → At H' d v
  | .non, _, h => by unfold At at h ⊢; exact h
  | .bl _, _, h => by unfold At at h ⊢; exact h
  | .int _, _, h => by unfold At at h ⊢; exact h
  | .str _, _, h => by unfold At at h ⊢; exact h
  | .lst ds, _, h => by
    unfold At at h ⊢
    obtain ⟨a, vs, h1, h2, h3⟩ := h
    exact ⟨a, vs, h1, e _ _ h2, AtL.mono e h3⟩
  | .tup ds, _, h => by
    unfold At at h ⊢
    obtain ⟨a, vs, h1, h2, h3⟩ := h
    exact ⟨a, vs, h1, e _ _ h2, AtL.mono e h3⟩
theorem AtL.mono {H H' : Hp} (e : Same H H') : ∀ {ds : List D} {vs : List V}, AtL H ds vs → AtL H' ds vs
  | [], _, h => by unfold AtL at h ⊢; exact h
  | d :: ds, _, h => by
    unfold AtL at h ⊢
    obtain ⟨v, r, h1, h2, h3⟩ := h
    exact ⟨v, r, h1, At.mono e h2, AtL.mono e h3⟩
end
theorem AtL.nil {H : Hp} : AtL H [] [] := by unfold AtL; rfl
theorem AtL.cons {H : Hp} {d : D} {ds : List D} {v : V} {vs : List V} (h : At H d v) (hs : AtL H ds vs) : AtL H (d :: ds) (v :: vs) := by
  unfold AtL; exact ⟨v, vs, rfl, h, hs⟩
theorem AtL.append {H : Hp} : ∀ {ds es : List D} {vs us : List V}, AtL H ds vs → AtL H es us → AtL H (ds ++ es) (vs ++ us)
  | [], _, _, _, h, h' => by unfold AtL at h; subst h; exact h'
  | d :: ds, _, _, _, h, h' => by
    unfold AtL at h
    obtain ⟨v, r, rfl, h1, h2⟩ := h
    exact AtL.cons h1 (AtL.append h2 h')
theorem AtL.length {H : Hp} : ∀ {ds : List D} {vs : List V}, AtL H ds vs → ds.length = vs.length
  | [], _, h => by unfold AtL at h; subst h; rfl
  | d :: ds, _, h => by
    unfold AtL at h
    obtain ⟨v, r, rfl, h1, h2⟩ := h
    simp [AtL.length h2]
theorem AtL.last {H : Hp} : ∀ {ds : List D} {vs : List V} {d : D}, AtL H (ds ++ [d]) vs → ∃ r v, vs = r ++ [v] ∧ AtL H ds r ∧ At H d v
  | [], vs, d, h => by
    rw [List.nil_append] at h
    unfold AtL at h
    obtain ⟨v, r, rfl, h1, h2⟩ := h
    unfold AtL at h2; subst h2
    exact ⟨[], v, rfl, AtL.nil, h1⟩
  | e :: ds, vs, d, h => by
    rw [List.cons_append] at h
    unfold AtL at h
    obtain ⟨v, r, rfl, h1, h2⟩ := h
    obtain ⟨r', v', rfl, h3, h4⟩ := AtL.last h2
    exact ⟨v :: r', v', rfl, AtL.cons h1 h3, h4⟩
def dInts (ns : List Int) : List D := ns.map .int
theorem AtL.ofInts {H : Hp} (ns : List Int) : AtL H (L2.dInts ns) (ns.map V.int) := by
  induction ns with
  | nil => exact AtL.nil
  | cons n r ih => exact AtL.cons (by unfold At; rfl) ih
theorem At.ofInts {H : Hp} {a : Addr} {ns : List Int} (h : H a = some (.lst (ns.map V.int))) : At H (.lst (L2.dInts ns)) (.ref a) := by
  unfold At; exact ⟨a, _, rfl, h, AtL.ofInts ns⟩
mutual
def D.size : D → Nat
  | .lst ds => 1 + sizes ds
  | .tup ds => 1 + sizes ds
  | .non => 1
  | .bl _ => 1
  | .int _ => 1
  | .str _ => 1
def sizes : List D → Nat
  | [] => 0
  | d :: ds => d.size + sizes ds
end
mutual
def D.plain : D → Bool
  | .str _ => false
  | .lst ds => plains ds
  | .tup ds => plains ds
  | .non => true
  | .bl _ => true
  | .int _ => true
def plains : List D → Bool
  | [] => true
  | d :: ds => d.plain && plains ds
end
theorem sizes_append : ∀ (ds es : List D), sizes (ds ++ es) = sizes ds + sizes es
  | [], es => by simp [sizes]
  | d :: ds, es => by rw [List.cons_append, sizes, sizes, sizes_append ds es]; omega
theorem plains_append : ∀ (ds es : List D), plains (ds ++ es) = (plains ds && plains es)
  | [], es => by simp [plains]
  | d :: ds, es => by rw [List.cons_append, plains, plains, plains_append ds es, Bool.and_assoc]
theorem length_sizes : ∀ (ds : List D), ds.length ≤ sizes ds
  | [] => Nat.zero_le _
  | d :: ds => by
    have h := length_sizes ds
    have h1 : 1 ≤ d.size := by cases d <;> simp [D.size] <;> omega
    rw [List.length_cons, sizes]; omega
theorem sizes_ints (ns : List Int) : sizes (dInts ns) = ns.length := by
  induction ns with
  | nil => rfl
  | cons n r ih => show (D.int n).size + sizes (dInts r) = _; rw [ih, D.size, List.length_cons]; omega
theorem plains_ints (ns : List Int) : plains (dInts ns) = true := by
  induction ns with
  | nil => rfl
  | cons n r ih => show ((D.int n).plain && plains (dInts r)) = _; rw [ih]; rfl
end L2
namespace L2
open PySem PySem.Spec PyProof.Rows
theorem vals_of_get : ∀ {xs : List V} {us : List Value}, xs.length = us.length → (∀ (i : Nat) x u, xs[i]? = some x → us[i]? = some u → RelV x u) → Vals xs us
  | [], [], _, _ => .nil
  | x :: xs, u :: us, hl, h => .cons (h 0 x u rfl rfl) (vals_of_get (by simpa using hl) fun i a b e1 e2 => h (i + 1) a b (by simpa using e1) (by simpa using e2))
  | [], _ :: _, hl, _ => by simp at hl
  | _ :: _, [], hl, _ => by simp at hl
section
variable {X : Cx}
end
end L2
namespace L2
open PySem PySem.Spec PyProof.Rows
theorem bt_reversed : bootBuiltins "reversed" = some (.type "reversed") := by decide +kernel
theorem rev_nolen : typeLookup (.type "list_reverseiterator") (Str.ofString "__len__") = pure none := by rw [typeLookup_type, builtinLookup_eq_fast]; kernel_rfl
theorem rev_hint : typeLookup (.type "list_reverseiterator") (Str.ofString "__length_hint__") = pure (some (.builtin "list_reverseiterator.__length_hint__")) := by rw [typeLookup_type, builtinLookup_eq_fast]; kernel_rfl
section
variable {prog : Program} {w : World} {A : Around} {E : Value → Shared → Prop} {s : Shared}
theorem hint_rev {it : Addr} {Q : Bool → Shared → Prop} (hT : s.TypeIs (.ref it) "list_reverseiterator") (h : Q false s) : wpAny (model prog w) A (Builtin.List.listLengthHint (.ref it)) Q E s := by
  unfold Builtin.List.listLengthHint
  refine wpAny_bind (wpAny_specialOf hT rev_nolen ?_)
  show wpAny _ A (specialOf (Value.ref it) (Str.ofString "__length_hint__") >>= _) _ _ _
  refine wpAny_bind (wpAny_specialOf hT rev_hint ?_)
  generalize hid : ("list_reverseiterator.__length_hint__" : String) = id0
  wp_delta
  rw [show splitId id0 = some ("list_reverseiterator", "__length_hint__") from by subst hid; decide +kernel]
  subst hid
  refine wpAny_bind (wpAny_isInstance (b := true) hT (by rw [isSubtype_type]; kernel_rfl) ?_)
  exact wpAny_pure h
theorem list_of_rev {it l : Addr} {items : Array Value} {Q : Value → Shared → Prop} (hh : A.handled = none) (hne : l ≠ it) (hit : s.heap.IsRevIter it l ((items.size : Int) - 1)) (hl : s.heap.IsList l items) (hn : items.size ≤ sizeLine)
    (hQ : ∀ h' tk acc' c', (∀ b o, b ≠ it → s.heap.get? b = some o → h'.get? b = some o) → h'.get? s.heap.objs.size = some { cls := .type "list", dict := none, data := .seq acc' c', slots := #[] } → ItemsOf (fun i v => items[items.size - 1 - i]? = some v) acc' items.size → Q (.ref s.heap.objs.size) { s with heap := h', toks := tk }) :
    wpAny (model prog w) A (call (.type "list") [.ref it]) Q E s := by
  have hitl : it < s.heap.objs.size := by obtain ⟨o, e, _⟩ := hit; exact Heap.lt_size e
  have hll : l < s.heap.objs.size := by obtain ⟨o, e, _⟩ := hl; exact Heap.lt_size e
  refine callType_codes (Q₁ := fun obj s₁ => obj = .ref s.heap.objs.size ∧ s₁ = { s with heap := s.heap.push { cls := .type "list", data := .seq #[] } }) PySem.F.called_list (PySem.F.typeCall_list_1 _) PySem.F.entry_list_init
    (code_list_new _ ⟨rfl, rfl⟩) fun obj s₁ h₁ => ?_
  obtain ⟨rfl, rfl⟩ := h₁
  generalize hSz : s.heap.objs.size = S at *
  have hS : (s.heap.push { cls := .type "list", data := .seq #[] }).get? S = some { cls := .type "list", data := .seq #[] } := by rw [← hSz]; exact Heap.get?_push_size _ rfl
  have up : ∀ b o, s.heap.get? b = some o → (s.heap.push { cls := .type "list", data := .seq #[] }).get? b = some o := fun b o e => Heap.get?_push_of_some _ e
  have hSi : S ≠ it := ne_nat (.inr hitl)
  have hSl : S ≠ l := ne_nat (.inr hll)
  have W := Walks.listRev (prog := prog) (w := w) (A := A.in1.in1) hh it l hne items
  refine ⟨⟨_, hS, rfl⟩, PySem.F.args_list_init_2 _ _, ?_⟩
  show wpAny _ _ (do let old ← Builtin.List.listItems (.ref S); Builtin.List.listUpdate (.ref S) (fun _ => #[]); letGo old.toList.reverse; Builtin.List.listExtendWith (.ref S) (.ref it) .none) _ _ _
  refine wpAny_bind ?_
  unfold Builtin.List.listItems
  refine wpAny_bind (wpAny_seqItems hS rfl (wpAny_pure ?_))
  show wpAny _ _ (updateSeq S (fun _ => #[]) >>= fun _ => letGo (#[] : Array Value).toList.reverse >>= fun _ => Builtin.List.listExtendWith (.ref S) (.ref it) .none) _ _ _
  refine wpAny_bind (wpAny_updateSeq hS rfl ?_)
  have hS₂ := Heap.get?_update_self (Obj.mapSeq (fun _ => (#[] : Array Value))) hS rfl
  have oth : ∀ b o, b ≠ S → s.heap.get? b = some o → ((s.heap.push { cls := .type "list", data := .seq #[] }).update S (Obj.mapSeq (fun _ => (#[] : Array Value)))).get? b = some o :=
    fun b o hb e => (Heap.get?_update_other _ _ (Ne.symm hb)).trans (up b o e)
  have hit2 : ((s.heap.push { cls := .type "list", data := .seq #[] }).update S (Obj.mapSeq (fun _ => (#[] : Array Value)))).IsRevIter it l ((items.size : Int) - 1) := by
    obtain ⟨o, e, c, d⟩ := hit; exact ⟨o, oth _ _ hSi.symm e, c, d⟩
  have hl2 : ((s.heap.push { cls := .type "list", data := .seq #[] }).update S (Obj.mapSeq (fun _ => (#[] : Array Value)))).IsList l items := by
    obtain ⟨o, e, c, d⟩ := hl; exact ⟨o, oth _ _ hSl.symm e, c, d⟩
  refine wpAny_bind (wpAny_letGo ?_)
  unfold Builtin.List.listExtendWith
  refine wpAny_bind (wpAny_typeOf (T := "list_reverseiterator") hit2.typeIs ?_)
  have h1 : Builtin.List.listSameRef (.ref S) (.ref it) = false := by simp [Builtin.List.listSameRef, hSi]
  have h2 : (Value.type "list_reverseiterator" == Value.type "list") = false := by decide
  have h3 : (Value.type "list_reverseiterator" == Value.type "tuple") = false := by decide
  simp only [h1, h2, h3, Bool.or_false, Bool.false_eq_true, if_false]
  refine wpAny_bind (wpAny_pyIter_revIter hit2 ?_)
  refine wpAny_bind (wpAny_holding (hint_rev hit2.typeIs ?_))
  refine wpAny_ite_split (fun hab => absurd hab (by decide)) (fun _ => ?_)
  have hSf : S ∉ [it, l] := by simp only [List.mem_cons, List.not_mem_nil, or_false, not_or]; exact ⟨hSi, hSl⟩
  refine wpAny_pure ⟨plainId_quiet PySem.F.plain_extend_loop _, codeAny_extend_loopS W.toS hn S hSf .none items.size 0 _ #[] _ rfl (Nat.zero_le _) ⟨Nat.zero_le _, by simpa using hit2, hl2⟩ hS₂ (ItemsOf.nil _) fun s' acc' c' hm hS' hacc => ?_⟩
  refine ⟨rfl, ?_⟩
  rw [Moved.eq_with hm]
  refine hQ s'.heap s'.toks acc' c' (fun b o hb e => ?_) hS' hacc
  have hbS : b ≠ S := ne_nat (.inl (by rw [← hSz]; exact Heap.lt_size e))
  exact hm.heap b o (by simp only [List.mem_cons, List.not_mem_nil, or_false, not_or]; exact ⟨hbS, hb⟩) (oth b o hbS e)
end
section
variable {X : Cx} {e : Expr} {te : TE} {p1 p2 pos pos2 : Pos}
def tRev (K : PySem.W.Frag) (te : TE) : TE := fun σ H Q => te σ H fun x H1 => ∃ l ys, x = .ref l ∧ SqL K H1 l ys ∧ ∀ p, H1 p = none → Q (.ref p) (upd H1 p (.lst ys.reverse))
theorem tRev_args {K : PySem.W.Frag} {te : TE} {σ : St} {H : Hp} {Q : VK} (h : tRev K te σ H Q) : tCons te tNil σ H (fun vs H1 => ∃ l ys, vs = [V.ref l] ∧ SqL K H1 l ys ∧ ∀ p, H1 p = none → Q (.ref p) (upd H1 p (.lst ys.reverse))) := by
  unfold tRev at h
  unfold tCons tNil
  have e : (fun (x : V) (H1 : Hp) => ∃ l ys, [x] = [V.ref l] ∧ SqL K H1 l ys ∧ ∀ p, H1 p = none → Q (.ref p) (upd H1 p (.lst ys.reverse))) = (fun (x : V) (H1 : Hp) => ∃ l ys, x = V.ref l ∧ SqL K H1 l ys ∧ ∀ p, H1 p = none → Q (.ref p) (upd H1 p (.lst ys.reverse))) := by
    funext x H1; simp
  rw [e]; exact h
theorem pe_listRev (hc : X.calm = true) (hm1 : X.mg "list" = none) (hm2 : X.mg "reversed" = none) (he : PE X e te) (hg1 : Gl X "list" := by rfl) (hg2 : Gl X "reversed" := by rfl)
    (hs : starEach [e] X.env = [(false, eval e X.env)] := by rfl) (hs2 : starEach [Expr.Call (.Name "reversed" p2) [e] [] pos2] X.env = [(false, eval (.Call (.Name "reversed" p2) [e] [] pos2) X.env)] := by rfl) :
    PE X (.Call (.Name "list" p1) [.Call (.Name "reversed" p2) [e] [] pos2] [] pos) (tRev X.K te) := by
  intro pins s σ H Q I h
  refine wpAny_Call_Name_kw (ld_blt I hg1 hm1 bt_list ?_)
  refine PyProof.Rows.callWith_type1 ?_ hs2 rfl
  rw [hs2]
  show wpAny _ _ (spliced ((false, eval (.Call (.Name "reversed" p2) [e] [] pos2) X.env) :: backTo pos [])) _ _ s
  refine Calls.spliced_cons (wpAny_Call_Name_kw (ld_blt I hg2 hm2 bt_reversed (PyProof.Rows.callWith_type1 ?_ hs rfl)))
  refine thn (pa_cons he pa_nil hs pos2 pins s σ H (fun vs H1 => ∃ l ys, vs = [.ref l] ∧ SqL X.K H1 l ys ∧ ∀ p, H1 p = none → Q (.ref p) (upd H1 p (.lst ys.reverse))) I (tRev_args h)) fun us s1 ⟨vs, H1, I1, r1, l, ys, hv, hl, q⟩ => ?_
  subst hv
  obtain ⟨u, rfl, ru⟩ := vals1 r1
  cases (show u = Value.ref l from ru)
  obtain ⟨its, rv, pl, hz⟩ := I1.list hl
  have hlen := rv.length
  refine call_reversed_list pl.isList ?_
  show wpAny _ _ (spliced (backTo pos [])) _ _ _
  refine Calls.spliced_nil ?_
  have hlt : l < s1.heap.objs.size := by obtain ⟨o, e, _⟩ := pl.isList; exact Heap.lt_size e
  refine list_of_rev (it := s1.heap.objs.size) (l := l) (items := its.toArray) (I1.ok.hd hc) (ne_nat (.inl hlt)) ⟨_, Heap.get?_push_size _ rfl, rfl, rfl⟩ (pl.isList.push _) (by simp; omega) fun h' tk acc' c' hk hD hacc => ?_
  have up : ∀ b o, s1.heap.get? b = some o → h'.get? b = some o := fun b o e => hk b o (ne_nat (.inl (Heap.lt_size e))) (Heap.get?_push_of_some _ e)
  have hsz : (s1.heap.push (revObj l ((its.toArray.size : Int) - 1))).objs.size = s1.heap.objs.size + 1 := Heap.size_push ..
  have hge : s1.heap.objs.size ≤ (s1.heap.push (revObj l ((its.toArray.size : Int) - 1))).objs.size := by rw [hsz]; exact Nat.le_succ _
  have fr := I1.hok.fresh hge
  refine ⟨.ref _, _, I1.laid (o := .lst ys.reverse) (t' := tk) up hge ⟨by simpa using hz, acc'.toList, c', ?_, by simpa using hD⟩, rfl, q _ fr⟩
  have hs' := hacc.1
  have hs2 : its.toArray.size = its.length := by simp
  refine vals_of_get (by simp; omega) fun i x u e1 e2 => ?_
  have e3 := hacc.2 i u (by simpa using e2)
  have hi : i < ys.length := by
    have := (List.getElem?_eq_some_iff.mp e1).1
    simpa using this
  rw [List.getElem?_reverse hi] at e1
  obtain ⟨u', e4, r4⟩ := rv.get e1
  have e5 : its[its.toArray.size - 1 - i]? = some u := by simpa using e3
  rw [hs2, ← hlen] at e5
  rw [e5] at e4
  cases e4
  exact r4
end
end L2
namespace L2
open PySem PySem.Spec PyProof.Rows
section
variable {X : Cx} {K : PySem.W.Frag}
end
end L2
namespace L2
open PySem PySem.Spec PyProof.Rows
end L2
namespace L2
open PySem PySem.Spec PyProof.Rows
theorem rd_seq {t u : TS} {D : Ends} {σ : St} {H : Hp} (h : t { D with nx := u D } σ H) : tSeq t u D σ H := h
end L2
namespace L2
open PySem PySem.Spec PyProof.Rows
section
variable {X : Cx}
variable {o e f : Expr} {td ty tx : TE} {apos cpos : Pos}
end
section
variable {X : Cx}
end
section
variable {X : Cx} {elts : List Expr} {k1} {tpos : Pos}
end
end L2
namespace L2
open PySem PySem.Spec PyProof.Rows
section
variable {P : Program} {w : World} {H H' : Hp} {h h' B : Heap} {fs : List Addr}
structure UnB (fs : List Addr) (H H' : Hp) (h B : Heap) : Prop where
  keep : ∀ b o, h.get? b = some o → H b = none → b ∉ fs → B.get? b = some o
  free : ∀ b o, h.get? b = some o → H b = none → H' b = none
  there : ∀ b o, h.get? b = some o → b ∉ fs → ∃ o', B.get? b = some o'
  tups : ∀ b xs, H b = some (.tup xs) → H' b = some (.tup xs)
  frzs : ∀ b o u, H b = some (.frz o u) → H' b = some (.frz o u)
  tbls : ∀ b ps, H b = some (.tbl ps) → ∃ more, H' b = some (.tbl (ps ++ more))
end
def Fly (P : Program) (w : World) : CXT := fun outer H s E e s' => ∃ (a C t : Addr) (H' : Hp) (B : Heap), e = .ref a ∧ s'.os = s.os ∧ AllBare s'.gens ∧ UnB (frs outer) H H' s.heap B ∧ HOk P w H' B ∧
  Heap.FlyingW B outer a (.ref C) (.ref t) s'.heap ∧ (∀ b o, b ∈ frs outer → s.heap.get? b = some o → ∃ sl, s'.heap.get? b = some { o with slots := sl }) ∧ E (.ref C) none H'
def Catches (base : Heap) (C D : Addr) : Prop := ∀ (M : Model) (A : Around) (E : Value → Shared → Prop) (s : Shared) (e : Addr) (oe : Obj) (Q : Bool → Shared → Prop), (∀ b o, base.get? b = some o → s.heap.get? b = some o) → s.heap.get? e = some oe → oe.cls = .ref C → Q true s →
  wpAny M A (excMatches (.ref e) (.ref D)) Q E s
structure CalX (P : Program) (w : World) (K : PySem.W.Frag) (mg : Str → Option Value) (base : Heap) (k : Nat) (x : Str) (ps : List Str) (sp : Sp) : Prop where
  ex : ∃ f fd, FnOk P w K mg base (Fly P w) k f fd ps sp ∧ mg x = some (.ref f) ∧ PySem.W.keepIn K (.ref f) = true ∧ Binds K fd ps []
end L2
namespace L2
open PySem PySem.Spec PyProof.Rows
structure ExcKit (K : PySem.W.Frag) (C : Addr) : Prop where
  ga : PySem.W.findIn K (.ref C) "__getattribute__" = some (some (.builtin "BaseException.__getattribute__"))
  cl : PySem.W.findIn K (.ref C) "__class__" = some (some (.builtin "object.__class__"))
  sb : PySem.W.subIn K (.ref C) (.type "BaseException") = some true
  so : PySem.W.subIn K (.ref C) (.type "object") = some true
  ic : (PySem.W.clsIn K C).isSome = true
  na : PySem.W.findIn K (.ref C) "__getattr__" = some none
section
variable {prog : Program} {w : World} {A : Around} {E : Value → Shared → Prop} {h : Heap} {g : Array GenState} {d : Drawn} {t : Nat} {os : OsState} {a C : Addr} {o : Obj} {K : PySem.W.Frag} {bmB : List Value}
end
section
variable {X : Cx}
end
end L2
namespace L2
open PySem PySem.Spec PyProof.Rows
theorem ObjOk.there {P : Program} {w : World} {H : Hp} {h : Heap} {a : Addr} {o : HO} (x : ObjOk P w H h a o) : ∃ u, h.get? a = some u := by
  cases o with
  | lst xs => obtain ⟨_, _, _, _, e⟩ := x; exact ⟨_, e⟩
  | tup xs => obtain ⟨_, _, _, ob, e, _⟩ := x; exact ⟨_, e⟩
  | dK kvs => obtain ⟨_, _, _, _, o, _, _, e, _⟩ := x; exact ⟨_, e⟩
  | dT kvs => obtain ⟨_, _, _, _, o, _, _, e, _⟩ := x; exact ⟨_, e⟩
  | set S n => obtain ⟨o, _, _, _, e, _⟩ := x; exact ⟨_, e⟩
  | ins C dx fs => obtain ⟨_, _, _, e, _⟩ := x; exact ⟨_, e⟩
  | own y => obtain ⟨_, e⟩ := x; exact ⟨_, e⟩
  | xd fs => obtain ⟨_, ⟨_, _, _, e, _⟩, _⟩ := x; exact ⟨_, e⟩
  | rng lo hi => obtain ⟨_, _, _, e⟩ := x; exact ⟨_, e⟩
  | frz ob u => obtain ⟨e, _⟩ := x; exact ⟨_, e⟩
  | tbl ps => exact ⟨_, (show h.get? a = some _ from x)⟩
  | met f y => exact ⟨_, (show h.get? a = some _ from x)⟩
  | ext φ => obtain ⟨_, ⟨_, e⟩, _⟩ := x; exact ⟨_, e⟩
end L2
namespace L2
open PySem PySem.Spec PyProof.Rows
section
variable {X : Cx}
end
end L2
namespace L2
open PySem PySem.Spec PyProof.Rows
section
variable {X : Cx} {tg : Expr}
end
end L2
namespace L2
open PySem PySem.Spec PyProof.Rows
abbrev bmVE : List Value := [.type "ValueError", .type "Exception", .type "BaseException", .type "object"]
structure ExcTop (x : Str) (K : PySem.W.Frag) (mg : Str → Option Value) (base : Heap) (C CL : Addr) : Prop where
  own : OwnCls x C bmVE "ValueError.__new__" mg base
  le : mg "LampError" = some (.ref CL)
  catL : Catches base C CL
  kit : ExcKit K C
  ve : mg "ValueError" = none
  k3 : PySem.W.kitOne K (.ref C) (.type "ValueError") = some true
end L2
namespace L2
open PySem PySem.Spec PyProof.Rows
section
variable {X : Cx} {K : PySem.W.Frag}
end
end L2
namespace L2
open PySem PySem.Spec PyProof.Rows
structure MCal (P : Program) (w : World) (K : PySem.W.Frag) (mg : Str → Option Value) (base : Heap) (k : Nat) (C : Addr) (m : Str) (ps : List Str) (sp : Sp) : Prop where
  ex : ∃ f fd, FnOk P w K mg base CX0 k f fd ps sp ∧ Meth K C m f ∧ Binds K fd ps []
structure MDef (K : PySem.W.Frag) (C : Addr) (m qual : Str) (st : Stmt) (ps : List Str) : Prop where
  ex : ∃ f fd, Fun K m qual st f fd ∧ Meth K C m f ∧ Binds K fd ps []
structure Made (P : Program) (w : World) (K : PySem.W.Frag) (mg : Str → Option Value) (base : Heap) (k : Nat) (x : Str) (C : Addr) (ps : List Str) (sp : Sp) : Prop where
  ex : ∃ f fd, FnOk P w K mg base CX0 k f fd ps sp ∧ Mk K C f ∧ Binds K fd ps [] ∧ mg x = some (.ref C)
section
variable {X : Cx} {k n : Nat} {C : Addr} {m x : Str} {ps : List Str} {sp : Sp} {p pos apos : Pos} {e o : Expr} {es : List Expr} {ta : TE} {t : TA}
end
end L2
namespace L2
open PySem PySem.Spec PyProof.Rows
section
variable {prog : Program} {w : World} {A : Around} {R : Result → Shared → Prop} {I : Addr} {fp wr : List Addr} {n : Nat} {P : Nat → Value → Prop} {St : Nat → Heap → Prop}
end
section
variable {prog : Program} {w : World} {A : Around} {E : Value → Shared → Prop} {s : Shared}
end
section
variable {X : Cx} {e v : Expr} {te tv : TE} {p pos kp : Pos}
end
section
variable {X : Cx} {a : Expr} {ta : TE} {pos : Pos}
end
end L2
namespace L2
open PySem PySem.Spec PyProof.Rows
section
variable {X : Cx}
theorem PS.nox {st : Stmt} {t : TS} (h : PS X.nox st t) : PS X st t := fun pins s σ H D I hw =>
  wpAny_mono (h pins s σ H D (I.wish _) hw) (fun _ _ q => q.unwish) fun _ _ z => False.elim z
end
end L2
namespace L2
open PySem PySem.Spec PyProof.Rows
theorem rd_k {t u : TS} {D : Ends} {σ : St} {H : Hp} (h : ∀ N : St → Hp → Prop, (∀ σ' H', u D σ' H' → N σ' H') → t { D with nx := N } σ H) : tSeq t u D σ H := h (u D) fun _ _ q => q
theorem for_listK {K : PySem.W.Frag} {a : Addr} {xs : List V} {g : TG} {tb : TS} {D : Ends} {σ : St} {H : Hp} {R : VK} (Pv : Nat → St → Hp → Prop) (h0 : Pv 0 σ H) (hl : ∀ i σ H, i ≤ xs.length → Pv i σ H → SqL K H a xs)
    (hs : ∀ i x σ H (N B : St → Hp → Prop), xs[i]? = some x → Pv i σ H → (∀ σ' H', Pv (i + 1) σ' H' → N σ' H') → g x σ H fun σ2 H2 => tb { nx := N, rt := R, bk := B, ct := N } σ2 H2) (hd : ∀ σ H, Pv xs.length σ H → D.nx σ H) (hR : D.rt = R := by rfl) :
    ∃ W : Nat → Nat → St → Hp → Prop, (∃ m, W 0 m σ H) ∧ ∀ i m σ H, W i m σ H →
      ((Itl K a).stop i H ∧ D.nx σ H) ∨ ((Itl K a).go i H ∧ ∃ N : St → Hp → Prop, (∀ σ' H', N σ' H' → ∃ m', m' < m ∧ W (i + 1) m' σ' H') ∧ ∀ x H', (Itl K a).yld i H x H' → g x σ H' fun σ2 H2 => tb { D with nx := N, ct := N, bk := D.nx } σ2 H2) := by
  subst hR
  exact for_list Pv h0 hl (fun i x σ H hx hp => hs i x σ H _ _ hx hp fun _ _ h => h) hd
theorem while_K {c : TT} {tb : TS} {D : Ends} {σ : St} {H : Hp} {R : VK} (W : Nat → St → Hp → Prop) (h0 : ∃ m, W m σ H)
    (hs : ∀ m σ H, W m σ H → ∀ Y X : St → Hp → Prop, (∀ σ' H', (∃ m', m' < m ∧ W m' σ' H') → Y σ' H') → (∀ σ' H', D.nx σ' H' → X σ' H') →
      c σ H fun b H1 => if b = true then ∃ N : St → Hp → Prop, (∀ σ' H', N σ' H' → Y σ' H') ∧ tb { nx := N, rt := R, bk := X, ct := N } σ H1 else X σ H1) (hR : D.rt = R := by rfl) : tWhile c tb D σ H := by
  subst hR
  exact ⟨W, h0, fun m σ H w => hs m σ H w _ _ (fun _ _ h => h) fun _ _ h => h⟩
end L2
namespace L2
open PySem PySem.Spec PyProof.Rows
theorem owner_rvt : Manifest.owners.lookup (String.ofList ['d', 'e', 's', 'r', 'e', 'v', 'e', 'r'].reverse) = some Manifest.sig_reversed := by kernel_rfl
theorem slot_rvt_next : Slot "reversed" "__next__" "reversed.__next__" :=
  .of (owner := "reversed") (n := "__next__") (by rw [typeLookup_type, builtinLookup_eq_fast]; kernel_rfl) (by decide +kernel) (by decide +kernel) (by decide +kernel)
    (by first | exact .inl (by decide +kernel) | exact .inr (by decide +kernel)) (by rw [isSubtype_type]; kernel_rfl)
theorem entry_rvt_next : entryFor table "reversed.__next__" = some Builtin.«reversed.__next__» := entryFor_of_tree (by kernel_rfl)
theorem args_rvt_next (a : Value) : argsOk "reversed.__next__" ⟨[a], []⟩ := by
  unfold argsOk; rw [signature?_of (id := "reversed.__next__") (n := ['_', '_', 't', 'x', 'e', 'n', '_', '_']) (o := ['d', 'e', 's', 'r', 'e', 'v', 'e', 'r']) (by kernel_rfl) owner_rvt]; kernel_rfl
theorem slot_rvt_iter : Slot "reversed" "__iter__" "reversed.__iter__" :=
  .of (owner := "reversed") (n := "__iter__") (by rw [typeLookup_type, builtinLookup_eq_fast]; kernel_rfl) (by decide +kernel) (by decide +kernel) (by decide +kernel)
    (by first | exact .inl (by decide +kernel) | exact .inr (by decide +kernel)) (by rw [isSubtype_type]; kernel_rfl)
theorem args_rvt_iter (a : Value) : argsOk "reversed.__iter__" ⟨[a], []⟩ := by
  unfold argsOk; rw [signature?_of (id := "reversed.__iter__") (n := ['_', '_', 'r', 'e', 't', 'i', '_', '_']) (o := ['d', 'e', 's', 'r', 'e', 'v', 'e', 'r']) (by kernel_rfl) owner_rvt]; kernel_rfl
theorem entry_rvt_iter : entryFor table "reversed.__iter__" = some Builtin.«dict_keyiterator.__iter__» :=
  entryFor_alias (id' := "dict_keyiterator.__iter__") (by kernel_rfl) (by first | rfl | decide +kernel | (unfold String.splitOn; simp +decide [String.splitOnAux])) (by decide +kernel) (by kernel_rfl)
theorem slot_rvt_init : Slot "reversed" "__init__" "object.__init__" :=
  .of (owner := "object") (n := "__init__") (by rw [typeLookup_type, builtinLookup_eq_fast]; kernel_rfl) (by decide +kernel) (by decide +kernel) (by decide +kernel)
    (by first | exact .inl (by decide +kernel) | exact .inr (by decide +kernel)) (by rw [isSubtype_type]; kernel_rfl)
theorem called_rvt : TypeCalled "reversed" "reversed.__new__" "object.__init__" :=
  ⟨by decide +kernel, PySem.F.create_reversed, ⟨_, _, PySem.F.mro_reversed⟩, PySem.F.made_reversed, by decide +kernel, PySem.F.sub_reversed_self, slot_rvt_init⟩
theorem tup_norev : typeLookup (.type "tuple") (Str.ofString "__reversed__") = pure none := by rw [typeLookup_type, builtinLookup_eq_fast]; kernel_rfl
theorem tup_nodict : isSubtype (.type "tuple") (.type "dict") = pure false := by rw [isSubtype_type]; kernel_rfl
def rvtObj (t : Addr) (i : Int) : Obj := { cls := .type "reversed", data := .fields #[.ref t, rawInt i] }
def IsRvt (h : Heap) (a t : Addr) (i : Int) : Prop := ∃ o, h.get? a = some o ∧ o.cls = .type "reversed" ∧ o.data = .fields #[.ref t, rawInt i]
theorem IsRvt.typeIs {s : Shared} {a t : Addr} {i : Int} (x : IsRvt s.heap a t i) : s.TypeIs (.ref a) "reversed" := let ⟨o, ho, hc, _⟩ := x; ⟨o, ho, hc⟩
theorem IsRvt.at {h h' : Heap} {a t : Addr} {i : Int} (x : IsRvt h a t i) (e : ∀ o, h.get? a = some o → h'.get? a = some o) : IsRvt h' a t i := let ⟨o, ho, r⟩ := x; ⟨o, e _ ho, r⟩
section
variable {prog : Program} {w : World} {A : Around} {E : Value → Shared → Prop} {s : Shared}
theorem code_rvt_new {t : Addr} {items : Array Value} {Q₁ : Value → Shared → Prop} (ht : IsTup s.heap t items) (hfit : (items.size : Int) < 2 ^ 63)
    (h : Q₁ (.ref s.heap.objs.size) { s with heap := s.heap.push (rvtObj t ((items.size : Int) - 1)), toks := s.toks + 1 + 1 }) :
    codeAny (model prog w) A (.call (.builtin "reversed.__new__") ⟨[.type "reversed", .ref t], []⟩) (wants Q₁ E) s := by
  refine codeAny_of_tree ?_
  show wpAny _ A.in1 (do checkBuiltinCall "reversed.__new__" ⟨[.type "reversed", .ref t], []⟩; again (.builtin "reversed.__new__" ⟨[.type "reversed", .ref t], []⟩)) _ _ s
  refine wpAny_bind (wpAny_of_eq (PySem.F.newCall_reversed_1 _) (wpAny_pure ⟨plainId_quiet PySem.F.plain_reversed_new _, codeAny_builtin PySem.F.entry_reversed_new ?_⟩))
  rw [Around.under_plainId PySem.F.plain_reversed_new _]
  unfold Builtin.«reversed.__new__»
  refine wpAny_bind (wpAny_of_eq (newClass_reversed _) ?_)
  try dsimp only
  refine wpAny_bind (wpAny_of_eq (a := ()) (by first | rfl | kernel_rfl) ?_)
  refine wpAny_bind (wpAny_of_eq (a := ()) (by first | rfl | kernel_rfl) ?_)
  try dsimp only
  refine wpAny_bind (wpAny_specialOf ht.typeIs tup_norev ?_)
  try dsimp only
  refine wpAny_bind ?_
  wp_delta
  refine wpAny_bind (wpAny_isInstance (b := false) ht.typeIs tup_nodict ?_)
  try dsimp only
  first | rw [if_neg Bool.false_ne_true] | skip
  refine wpAny_bind (wpAny_specialOf ht.typeIs slot_tuple_getitem.lookup ?_)
  try dsimp only
  rw [if_pos (by decide +kernel)]
  refine wpAny_pure ?_
  rw [if_neg (by decide)]
  refine wpAny_bind (len_tuple ht hfit ?_)
  refine wpAny_bind (wpAny_of_eq (a := some (items.size : Int)) (by first | rfl | kernel_rfl) ?_)
  try dsimp only
  refine wpAny_bind ?_
  unfold Builtin.SmallTypes.newRecord
  refine wpAny_newObj_type ?_ (by size_fits)
  exact wpAny_pure h
theorem oi_rvt (obj a : Value) : argsOk "object.__init__" ⟨[obj, a], []⟩ := by unfold argsOk; kernel_rfl
theorem call_rvt {t : Addr} {items : Array Value} {Q : Value → Shared → Prop} (ht : IsTup s.heap t items) (hfit : (items.size : Int) < 2 ^ 63)
    (h : Q (.ref s.heap.objs.size) { s with heap := s.heap.push (rvtObj t ((items.size : Int) - 1)), toks := s.toks + 1 + 1 }) : wpAny (model prog w) A (call (.type "reversed") [.ref t]) Q E s := by
  refine callType_codes (Q₁ := fun obj s₁ => obj = .ref s.heap.objs.size ∧ s₁ = { s with heap := s.heap.push (rvtObj t ((items.size : Int) - 1)), toks := s.toks + 1 + 1 }) called_rvt (PySem.F.typeCall_reversed_1 _) PySem.F.entry_object_init (code_rvt_new ht hfit ⟨rfl, rfl⟩) ?_
  rintro obj s₁ ⟨rfl, rfl⟩
  have hT : Shared.TypeIs { s with heap := s.heap.push (rvtObj t ((items.size : Int) - 1)), toks := s.toks + 1 + 1 } (.ref s.heap.objs.size) "reversed" := ⟨_, Heap.get?_push_size _ rfl, rfl⟩
  refine ⟨hT, oi_rvt _ _, ?_⟩
  have hl := called_rvt.init.lookup
  have hm := called_rvt.made
  have hne : (some "reversed.__new__" != some "object.__new__") = true := by decide
  repeat any_goals first | assumption | wp_step
  exact ⟨rfl, h⟩
theorem next_rvt_item {it t : Addr} {i : Nat} {items : Array Value} {x : Value} {Q : Option Value → Shared → Prop} (hit : IsRvt s.heap it t (i : Int)) (ht : IsTup s.heap t items) (hfit : (items.size : Int) < 2 ^ 63) (hx : items[i]? = some x)
    (hQ : ∀ h', IsRvt h' it t ((i : Int) - 1) → Heap.SameBut it s.heap h' → Q (some x) { s with heap := h', toks := s.toks + 1 }) : wpAny (model prog w) A (pyNext (.ref it)) Q E s := by
  obtain ⟨o, ho, hc, hd⟩ := id hit
  have hi : i < items.size := by
    obtain ⟨z, _⟩ := Array.getElem?_eq_some_iff.mp hx
    exact z
  unfold pyNext
  refine wpAny_bind (wpAny_attempt (wpAny_callSpecial?_slot (name := Str.ofString "__next__") hit.typeIs slot_rvt_next
    (wpAny_call_entry slot_rvt_next hit.typeIs entry_rvt_next ?_ (args_rvt_next _))))
  unfold Builtin.«reversed.__next__»
  refine wpAny_bind (wpAny_of_eq (a := (Value.ref it, [])) rfl ?_)
  try dsimp only
  refine wpAny_bind (wpAny_field ho hd (x := .ref t) rfl ?_)
  try dsimp only
  refine wpAny_bind (wpAny_field ho hd (x := rawInt (i : Int)) rfl ?_)
  show wpAny _ _ (if (i : Int) < 0 then _ else _) _ _ s
  rw [if_neg (by omega)]
  refine wpAny_bind (wpAny_specialOf ht.typeIs slot_tuple_getitem.lookup ?_)
  try dsimp only
  rw [if_neg (by decide)]
  refine wpAny_bind (wpAny_mkInt ?_)
  have e1 : seqIndex? (i : Int) items.size = some i := by unfold seqIndex?; simp; omega
  refine wpAny_bind (wpAny_attempt (getItem_tuple (s := { s with toks := s.toks + 1 }) ht (by omega) (by omega) e1 hx ?_))
  try dsimp only
  refine wpAny_bind (wpAny_field (s := { s with toks := s.toks + 1 }) ho hd (x := rawInt (i : Int)) rfl ?_)
  show wpAny _ _ (setField (.ref it) 1 (rawInt ((i : Int) - 1)) >>= _) _ _ _
  refine wpAny_bind (wpAny_setField (s := { s with toks := s.toks + 1 }) ho hd (by simp) ?_)
  refine wpAny_pure ⟨x, rfl, wpAny_pure (hQ _ ?_ (Heap.SameBut.update ..))⟩
  exact ⟨_, Heap.get?_update_self _ ho (Obj.isFreed_of_fields (Obj.data_mapFields hd _)), (Obj.cls_mapFields ..).trans hc, by
    rw [Obj.data_mapFields hd]; simp⟩
theorem next_rvt_end {it t : Addr} {Q : Option Value → Shared → Prop} (hh : A.handled = none) (hit : IsRvt s.heap it t (-1))
    (hQ : ∀ h', Heap.ExtBut it s.heap h' → Q none { s with heap := h' }) : wpAny (model prog w) A (pyNext (.ref it)) Q E s := by
  obtain ⟨o, ho, hc, hd⟩ := id hit
  unfold pyNext
  refine wpAny_bind (wpAny_attempt (wpAny_callSpecial?_slot (name := Str.ofString "__next__") hit.typeIs slot_rvt_next
    (wpAny_call_entry slot_rvt_next hit.typeIs entry_rvt_next ?_ (args_rvt_next _))))
  unfold Builtin.«reversed.__next__»
  refine wpAny_bind (wpAny_of_eq (a := (Value.ref it, [])) rfl ?_)
  try dsimp only
  refine wpAny_bind (wpAny_field ho hd (x := .ref t) rfl ?_)
  try dsimp only
  refine wpAny_bind (wpAny_field ho hd (x := rawInt (-1)) rfl ?_)
  show wpAny _ _ (if (-1 : Int) < 0 then _ else _) _ _ s
  rw [if_pos (by decide)]
  refine wpAny_bind (wpAny_rule ?_)
  refine wpAny_bind ?_
  wp_delta
  refine wpAny_bind (wpAny_setField ho hd (by simp) ?_)
  have ho2 := Heap.get?_update_self (Obj.mapFields fun a => a.setIfInBounds 1 (rawInt (-1))) ho (Obj.isFreed_of_fields (Obj.data_mapFields hd _))
  refine wpAny_setField (s := { s with heap := _ }) ho2 (Obj.data_mapFields hd _) (by simp) ?_
  refine wpAny_bind ?_
  first
  | show wpAny _ _ (newExc (.type "StopIteration") [] >>= _) _ _ _
  | (refine wpAny_bind ?_; show wpAny _ _ (newExc (.type "StopIteration") [] >>= _) _ _ _)
  refine wpAny_bind ?_
  simp only [newExc, newTuple]
  refine wpAny_bind (wpAny_newObj_type ?_ (by size_fits))
  refine wpAny_bind (m := firstArgMember _ _) (wpAny_of_eq (a := Value.none) (by first | rfl | (simp only [firstArgMember]; rfl)) ?_)
  refine wpAny_newObj_type ?_ (by size_fits)
  simp only [raiseNew]
  refine wpAny_bind (wpAny_handled ?_)
  first | rw [show A.in1.handled = none from hh] | rw [hh]
  refine wpAny_bind (wpAny_pure (wpAny_throw ?_))
  refine wpAny_bind (wpAny_isInstance (T := "StopIteration") (b := true) ⟨_, Heap.get?_push_size _ rfl, rfl⟩ isSubtype_stop ?_)
  exact wpAny_pure (hQ _ fun b o hb e => Heap.get?_push_of_some _ (Heap.get?_push_of_some _ ((Heap.get?_update_other _ _ (Ne.symm hb)).trans ((Heap.get?_update_other _ _ (Ne.symm hb)).trans e))))
theorem iter_rvt {it t : Addr} {i : Int} {Q : Value → Shared → Prop} (hit : IsRvt s.heap it t i) (h : Q (.ref it) s) : wpAny (model prog w) A (pyIter (.ref it)) Q E s := by
  refine wpAny_pyIter_slot hit.typeIs slot_rvt_iter (wpAny_call_entry slot_rvt_iter hit.typeIs entry_rvt_iter ?_ (args_rvt_iter _))
  show wpAny _ _ (ret (.ref it)) _ _ s
  exact wpAny_pure ⟨_, rfl, "reversed", _, hit.typeIs, slot_rvt_next.lookup, h⟩
end
def Ivt (K : PySem.W.Frag) (a : Addr) (xs : List V) : It := ⟨fun i H => SqT K H a xs ∧ i < xs.length, fun i H x H' => H' = H ∧ xs.reverse[i]? = some x, fun i H => SqT K H a xs ∧ i = xs.length⟩
theorem turn_rvt {P : Program} {w : World} {K : PySem.W.Frag} {tg : Expr} (a it : Addr) (n : Nat) (xs0 : List V) (hn : xs0.length = n) : Turn P w K tg (Ivt K a xs0) [it] it (fun i h => IsRvt h it a ((n : Int) - 1 - i)) where
  mem := by simp
  obj := fun i h st b hb => by
    have e : b = it := by simpa using hb
    subst e
    obtain ⟨o, e, c, d⟩ := st
    exact ⟨o, e, fun v z => by rw [d] at z; cases z⟩
  keep := fun i h h' st k => st.at fun o e => k it (by simp) o e
  item := by
    intro X hP hw hK hc i pins s σ H E I hf st hg
    subst hP hw hK
    obtain ⟨hq, hi⟩ := hg
    obtain ⟨its, rv, p, hz⟩ := I.tuple hq
    have hl := rv.length
    have hs9 : sizeLine < 2 ^ 63 := by decide
    have hi : i < n := by omega
    have hx : xs0[n - 1 - i]? = some (xs0[n - 1 - i]'(by omega)) := List.getElem?_eq_getElem (by omega)
    obtain ⟨u, hu, ru⟩ := rv.get hx
    obtain ⟨f0, f1, f2, f3, f4, f5⟩ := hf it (by simp)
    have e1 : (n : Int) - 1 - (i : Int) = ((n - 1 - i : Nat) : Int) := by omega
    rw [e1] at st
    refine next_rvt_item st p (by simp; omega) (x := u) (by simpa using hu) fun h' st' sb => ?_
    have I1 : Inv X pins σ H { s with heap := h', toks := s.toks + 1 } := I.turned (t' := s.toks + 1) (fun b o hb e => (sb.2 b hb).trans e) f0 f1 f3 f4 f5
    obtain ⟨o, e, c, d⟩ := id st'
    have e2 : ((n - 1 - i : Nat) : Int) - 1 = (n : Int) - 1 - ((i + 1 : Nat) : Int) := by omega
    refine ⟨u, rfl, go_of (s := { s with heap := h', toks := s.toks + 1 }) e c d (by decide) ⟨_, H, I1, ru, ⟨rfl, ?_⟩, by rw [← e2]; exact st', fun b hb => (hf b hb).1⟩⟩
    have e3 : xs0.length - 1 - i = n - 1 - i := by omega
    rw [List.getElem?_reverse (by omega), e3]; exact hx
  done := by
    intro X hP hw hK hc i pins s σ H E I hf st hg
    subst hP hw hK
    obtain ⟨hq, hi⟩ := hg
    obtain ⟨f0, f1, f2, f3, f4, f5⟩ := hf it (by simp)
    have e1 : (n : Int) - 1 - (i : Int) = -1 := by omega
    rw [e1] at st
    exact next_rvt_end (I.ok.hd hc) st fun h' eb => ⟨rfl, I.turned (t' := s.toks) (fun b o hb e => eb b o hb e) f0 f1 f3 f4 f5⟩
  self := fun _ _ _ _ _ st h => iter_rvt st h
section
variable {X : Cx} {tg : Expr}
def iRvt (K : PySem.W.Frag) (ta : TA) : TI := fun σ H R => ta σ H fun vs H1 => ∃ a xs, vs = [V.ref a] ∧ SqT K H1 a xs ∧ R (Ivt K a xs) H1
theorem pi_rvt {a : Expr} {ta : TA} {p pos : Pos} (hm : X.mg "reversed" = none) (ha : PA X [a] ta) (hg : Gl X "reversed" := by rfl) (hs : starEach [a] X.env = [(false, eval a X.env)] := by rfl) : PI X tg (.Call (.Name "reversed" p) [a] [] pos) (iRvt X.K ta) := by
  intro pins s σ H R I h
  refine Call_ (ld_blt I hg hm bt_reversed (PyProof.Rows.callWith_type1 (thn (ha pos pins s σ H _ I h) fun us s1 ⟨vs, H1, I1, r1, q1⟩ => ?_) hs rfl))
  obtain ⟨b, xs, e, hq, q⟩ := q1
  subst e
  cases r1 with
  | cons r rr =>
    cases rr
    cases r
    obtain ⟨its, rv, p, hz⟩ := I1.tuple hq
    have hs9 : sizeLine < 2 ^ 63 := by decide
    have hl := rv.length
    have hst : IsRvt (s1.heap.push (rvtObj b ((its.toArray.size : Int) - 1))) s1.heap.objs.size b ((xs.length : Int) - 1 - (0 : Nat)) := ⟨_, Heap.get?_push_size _ rfl, rfl, by simp [rvtObj, hl]⟩
    refine call_rvt p (by simp; omega) (iter_rvt (s := { s1 with heap := _, toks := _ }) hst ?_)
    refine ⟨s1.heap.objs.size, [s1.heap.objs.size], _, _, H1, rfl, I1.kept (t' := s1.toks + 1 + 1) fun b o e => Heap.get?_push_of_some _ e, turn_rvt b _ xs.length xs rfl, hst, fun b hb => ?_, q⟩
    have e : b = s1.heap.objs.size := by simpa using hb
    subst e
    exact I1.fpOk (Nat.le_refl _) (I1.hok.fresh (Nat.le_refl _))
end
theorem for_rvt {K : PySem.W.Frag} {a : Addr} {xs : List V} {g : TG} {tb : TS} {D : Ends} {σ : St} {H : Hp} (Pv : Nat → St → Hp → Prop) (h0 : Pv 0 σ H) (hl : ∀ i σ H, i ≤ xs.length → Pv i σ H → SqT K H a xs)
    (hs : ∀ i x σ H, xs.reverse[i]? = some x → Pv i σ H → g x σ H fun σ2 H2 => tb { D with nx := Pv (i + 1), ct := Pv (i + 1), bk := D.nx } σ2 H2) (hd : ∀ σ H, Pv xs.length σ H → D.nx σ H) :
    ∃ W : Nat → Nat → St → Hp → Prop, (∃ m, W 0 m σ H) ∧ ∀ i m σ H, W i m σ H →
      ((Ivt K a xs).stop i H ∧ D.nx σ H) ∨ ((Ivt K a xs).go i H ∧ ∃ N : St → Hp → Prop, (∀ σ' H', N σ' H' → ∃ m', m' < m ∧ W (i + 1) m' σ' H') ∧ ∀ x H', (Ivt K a xs).yld i H x H' → g x σ H' fun σ2 H2 => tb { D with nx := N, ct := N, bk := D.nx } σ2 H2) := by
  refine ⟨fun i m σ H => m = xs.length - i ∧ i ≤ xs.length ∧ Pv i σ H, ⟨xs.length, by simp, Nat.zero_le _, h0⟩, ?_⟩
  rintro i m σ H ⟨rfl, hi, p⟩
  have q := hl i σ H hi p
  by_cases hlt : i < xs.length
  · refine .inr ⟨⟨q, hlt⟩, Pv (i + 1), fun σ' H' p' => ⟨xs.length - (i + 1), by omega, rfl, hlt, p'⟩, fun x H' y => ?_⟩
    obtain ⟨e, y⟩ := y
    subst e
    exact hs i x σ _ y p
  · have e : i = xs.length := by omega
    subst e
    exact .inl ⟨⟨q, rfl⟩, hd σ H p⟩
end L2
namespace My
open PySem L2 PySem.Spec PyProof.Rows
def top (i : Nat) : Stmt := PySem.Challenge.pw_lampwish_k13_whole_sheet.main.body.getD i (.Pass ⟨0, 0, 0, 0⟩)
abbrev s_true_in : Stmt := top 1
abbrev p_true_in : List Str := ["statement", "setting"]
abbrev n_true_in : List Str := ["statement", "setting", "values", "part"]
theorem sc_true_in : FnScope n_true_in p_true_in (defScope s_true_in) := ⟨rfl, rfl, rfl, by decide +kernel, rfl, by decide +kernel, by decide +kernel⟩
abbrev s_value_of : Stmt := top 2
abbrev p_value_of : List Str := ["part", "values", "setting"]
abbrev n_value_of : List Str := ["part", "values", "setting", "last", "first"]
theorem sc_value_of : FnScope n_value_of p_value_of (defScope s_value_of) := ⟨rfl, rfl, rfl, by decide +kernel, rfl, by decide +kernel, by decide +kernel⟩
abbrev s_sheet_of : Stmt := top 3
abbrev p_sheet_of : List Str := ["count", "statement"]
abbrev n_sheet_of : List Str := ["count", "statement", "lamps", "wishes", "letters", "part", "two", "one"]
theorem sc_sheet_of : FnScope n_sheet_of p_sheet_of (defScope s_sheet_of) := ⟨rfl, rfl, rfl, by decide +kernel, rfl, by decide +kernel, by decide +kernel⟩
abbrev s_wishes_of : Stmt := top 4
abbrev p_wishes_of : List Str := ["word", "own", "one", "two"]
abbrev n_wishes_of : List Str := ["word", "own", "one", "two"]
theorem sc_wishes_of : FnScope n_wishes_of p_wishes_of (defScope s_wishes_of) := ⟨rfl, rfl, rfl, by decide +kernel, rfl, by decide +kernel, by decide +kernel⟩
abbrev s_inner_first : Stmt := top 5
abbrev p_inner_first : List Str := ["statement"]
abbrev n_inner_first : List Str := ["statement", "outer_first", "waiting", "part"]
theorem sc_inner_first : FnScope n_inner_first p_inner_first (defScope s_inner_first) := ⟨rfl, rfl, rfl, by decide +kernel, rfl, by decide +kernel, by decide +kernel⟩
abbrev s_l_draw : Stmt := top 7
abbrev p_l_draw : List Str := ["_law_number", "_law_prime", "_law_many"]
abbrev n_l_draw : List Str := ["_law_number", "_law_prime", "_law_many"]
theorem sc_l_draw : FnScope n_l_draw p_l_draw (defScope s_l_draw) := ⟨rfl, rfl, rfl, by decide +kernel, rfl, by decide +kernel, by decide +kernel⟩
abbrev s_l_whole : Stmt := top 8
abbrev p_l_whole : List Str := ["_law_found"]
abbrev n_l_whole : List Str := ["_law_found"]
theorem sc_l_whole : FnScope n_l_whole p_l_whole (defScope s_l_whole) := ⟨rfl, rfl, rfl, by decide +kernel, rfl, by decide +kernel, by decide +kernel⟩
abbrev s_l_at : Stmt := top 9
abbrev p_l_at : List Str := ["_law_script", "_law_k"]
abbrev n_l_at : List Str := ["_law_script", "_law_k"]
theorem sc_l_at : FnScope n_l_at p_l_at (defScope s_l_at) := ⟨rfl, rfl, rfl, by decide +kernel, rfl, by decide +kernel, by decide +kernel⟩
abbrev s_l_setting_of : Stmt := top 10
abbrev p_l_setting_of : List Str := ["_law_cell", "_law_count"]
abbrev n_l_setting_of : List Str := ["_law_cell", "_law_count", "_law_setting", "_law_k"]
theorem sc_l_setting_of : FnScope n_l_setting_of p_l_setting_of (defScope s_l_setting_of) := ⟨rfl, rfl, rfl, by decide +kernel, rfl, by decide +kernel, by decide +kernel⟩
abbrev s_l_meets : Stmt := top 11
abbrev p_l_meets : List Str := ["_law_wish", "_law_setting"]
abbrev n_l_meets : List Str := ["_law_wish", "_law_setting", "_law_letter"]
theorem sc_l_meets : FnScope n_l_meets p_l_meets (defScope s_l_meets) := ⟨rfl, rfl, rfl, by decide +kernel, rfl, by decide +kernel, by decide +kernel⟩
abbrev s_l_all_met : Stmt := top 12
abbrev p_l_all_met : List Str := ["_law_wishes", "_law_setting"]
abbrev n_l_all_met : List Str := ["_law_wishes", "_law_setting", "_law_wish"]
theorem sc_l_all_met : FnScope n_l_all_met p_l_all_met (defScope s_l_all_met) := ⟨rfl, rfl, rfl, by decide +kernel, rfl, by decide +kernel, by decide +kernel⟩
abbrev s_l_alike : Stmt := top 13
abbrev p_l_alike : List Str := ["_law_found", "_law_due"]
abbrev n_l_alike : List Str := ["_law_found", "_law_due", "_law_left", "_law_right", "_law_one", "_law_two"]
theorem sc_l_alike : FnScope n_l_alike p_l_alike (defScope s_l_alike) := ⟨rfl, rfl, rfl, by decide +kernel, rfl, by decide +kernel, by decide +kernel⟩
abbrev s_l_pair : Stmt := top 14
abbrev p_l_pair : List Str := ["_law_sort", "_law_one", "_law_two"]
abbrev n_l_pair : List Str := ["_law_sort", "_law_one", "_law_two", "_law_truth"]
theorem sc_l_pair : FnScope n_l_pair p_l_pair (defScope s_l_pair) := ⟨rfl, rfl, rfl, by decide +kernel, rfl, by decide +kernel, by decide +kernel⟩
abbrev s_l_stated : Stmt := top 15
abbrev p_l_stated : List Str := ["_law_cells", "_law_setting"]
abbrev n_l_stated : List Str := ["_law_cells", "_law_setting", "_law_rows", "_law_truths", "_law_cell", "_law_way", "_law_two", "_law_one", "_law_lamp"]
theorem sc_l_stated : FnScope n_l_stated p_l_stated (defScope s_l_stated) := ⟨rfl, rfl, rfl, by decide +kernel, rfl, by decide +kernel, by decide +kernel⟩
abbrev s_l_sheet : Stmt := top 16
abbrev p_l_sheet : List Str := ["_law_found", "_law_count"]
abbrev n_l_sheet : List Str := ["_law_found", "_law_count", "_law_wish", "_law_letter"]
theorem sc_l_sheet : FnScope n_l_sheet p_l_sheet (defScope s_l_sheet) := ⟨rfl, rfl, rfl, by decide +kernel, rfl, by decide +kernel, by decide +kernel⟩
abbrev s_l_sheet_due : Stmt := top 17
abbrev p_l_sheet_due : List Str := ["_law_statement", "_law_count"]
abbrev n_l_sheet_due : List Str := ["_law_statement", "_law_count", "_law_todo", "_law_letters", "_law_wishes", "_law_lamp", "_law_part", "_law_open_now", "_law_one", "_law_two"]
theorem sc_l_sheet_due : FnScope n_l_sheet_due p_l_sheet_due (defScope s_l_sheet_due) := ⟨rfl, rfl, rfl, by decide +kernel, rfl, by decide +kernel, by decide +kernel⟩
abbrev s_law : Stmt := top 18
abbrev p_law : List Str := ["_law_script"]
abbrev n_law : List Str := ["_law_script", "_law_count", "_law_setting", "_law_statement", "_law_truth", "_law_truths", "_law_told", "_law_found", "_law_lit", "_law_k", "_law_other"]
theorem sc_law : FnScope n_law p_law (defScope s_law) := ⟨rfl, rfl, rfl, by decide +kernel, rfl, by decide +kernel, by decide +kernel⟩
def onceF (acc : List Int) (n : Int) : List Int := if n ∈ acc then acc else acc ++ [n]
def once (ns : List Int) : List Int := ns.foldl onceF []
def openOf (ns ts : List Int) : List Int := (once ns).filter fun n => !decide (-n ∈ ts)
def keptBy (ns ts : List Int) : Bool := ns.any fun n => decide (n ∈ ts)
def cnt (w T : List Int) : Option Nat := if keptBy w T = true then none else some (openOf w T).length
def brokenAt (W : List (List Int)) (T : List Int) : Option Nat := W.findIdx? fun w => decide (cnt w T = some 0)
def oneAt (W : List (List Int)) (T : List Int) : Option Nat := W.findIdx? fun w => decide (cnt w T = some 1)
def nextOf (W : List (List Int)) (T : List Int) : Option (Int × Nat) :=
  match brokenAt W T with
  | some _ => none
  | none => match oneAt W T with
    | none => none
    | some i => some ((openOf (W.getD i []) T).headD 0, i)
inductive Run (W : List (List Int)) : List Int → List (Int × Nat) → Prop where
  | stop {T : List Int} (h : nextOf W T = none) : Run W T []
  | step {T : List Int} {x : Int} {i : Nat} {r : List (Int × Nat)} (h : nextOf W T = some (x, i)) (hr : Run W (T ++ [x]) r) : Run W T ((x, i) :: r)
abbrev Wr := Addr × List Int
def wrefs (ws : List Wr) : List V := ws.map fun p => V.ref p.1
def WsOk (H : Hp) (ws : List Wr) : Prop := ∀ p ∈ ws, H p.1 = some (.lst (p.2.map V.int))
def wl (ws : List Wr) : List (List Int) := ws.map fun p => p.2
def wsD (ws : List Wr) : List D := ws.map fun p => D.lst (dInts p.2)
theorem WsOk.mono {H H' : Hp} {ws : List Wr} (h : WsOk H ws) (e : Same H H') : WsOk H' ws := fun q hq => e _ _ (h q hq)
theorem wrefs_len (ws : List Wr) : (wrefs ws).length = ws.length := by simp [wrefs]
theorem wl_len (ws : List Wr) : (wl ws).length = ws.length := by simp [wl]
theorem wss_at {H : Hp} : ∀ {ws : List Wr}, WsOk H ws → AtL H (wsD ws) (wrefs ws)
  | [], _ => AtL.nil
  | q :: ws, h => AtL.cons (At.ofInts (h q List.mem_cons_self)) (wss_at fun x hx => h x (List.mem_cons_of_mem _ hx))
theorem ws_at {H : Hp} {ws : List Wr} {a : Addr} (h : WsOk H ws) (ha : H a = some (.lst (wrefs ws))) : At H (.lst (wsD ws)) (.ref a) := by
  unfold At
  exact ⟨a, _, rfl, ha, wss_at h⟩
theorem wr_get {ws : List Wr} {i : Nat} {y : V} (h : (wrefs ws)[i]? = some y) : ∃ q, ws[i]? = some q ∧ y = .ref q.1 := by
  obtain ⟨q, h1, h2⟩ := getV (f := fun p : Wr => V.ref p.1) h
  exact ⟨q, h1, h2⟩
def total (W : List (List Int)) : Nat := (W.map List.length).sum
def spWhole : Sp := fun vs H Q _ => ∃ (v : V) (t : Ty), vs = [v] ∧ TyIs H v t ∧ Q (.bl (decide (t = .int))) H
section
variable {P : Program} {w : World} {K : PySem.W.Frag} {mg : Str → Option Value} {base : Heap}
theorem ok_l_whole (B : Blt mg) (Df : Def K mg "_law_whole" s_l_whole p_l_whole) : Cal P w K mg base 1 "_law_whole" p_l_whole spWhole := by
  refine Df.cal sc_l_whole (fun vs H Q E h => ?_) (fun f cdv A outer s H vs Q E hr h => ?_)
  · obtain ⟨v, t, rfl, _⟩ := h; rfl
  · obtain ⟨v, t, rfl, ty, q⟩ := h
    refine ⟨_, (pss_one (ps_ret (pe_and (pe_callB call_isi (by rfl) B.isinstance_ bt_isinstance (pa_cons (pv 0) (pa_cons (pe_ty B.int_ bt_int) pa_nil))) (pe_one (pe_not (pe_callB call_isi (by rfl) B.isinstance_ bt_isinstance (pa_cons (pv 0) (pa_cons (pe_ty B.bool_ bt_bool) pa_nil)))))))), ?_⟩
    refine ⟨_, rfl, v, t, .int, rfl, ty, _, rfl, ?_⟩
    cases t with
    | int => exact iteT ⟨_, rfl, v, .int, .bl, rfl, ty, _, rfl, q⟩
    | bl => exact iteT ⟨_, rfl, v, .bl, .bl, rfl, ty, _, rfl, q⟩
    | non => exact iteF q
    | str => exact iteF q
    | lst => exact iteF q
    | tup => exact iteF q
end
def spAt (K : PySem.W.Frag) : Sp := fun vs H Q _ => ∃ (a : Addr) (ns : List Int) (k : Nat), vs = [.ref a, .int k] ∧ SqL K H a (ns.map V.int) ∧ Q (.int (ns.getD k 0)) H
section
variable {P : Program} {w : World} {K : PySem.W.Frag} {mg : Str → Option Value} {base : Heap}
theorem ok_l_at (B : Blt mg) (Df : Def K mg "_law_at" s_l_at p_l_at) : Cal P w K mg base 1 "_law_at" p_l_at (spAt K) := by
  refine Df.cal sc_l_at (fun vs H Q E h => ?_) (fun f cdv A outer s H vs Q E hr h => ?_)
  · obtain ⟨a, ns, k, rfl, _⟩ := h; rfl
  · obtain ⟨a, ns, k, rfl, ha, q⟩ := h
    refine ⟨_, (pss_cons (ps_if (pt_cmpR op_lt (pv 1) (pe_callB call_len_seq (by rfl) B.len_ PySem.boot_len (pa_cons (pv 0) pa_nil)) (nomark _))
 (pss_one (ps_ret (pe_ix ix_list (pv 0) (pv 1) (fun _ _ => rfl))))
 pss_nil)
 (pss_one (ps_ret pe_int))), ?_⟩
    refine ⟨_, rfl, _, rfl, a, _, rfl, .inl ha, _, _, rfl, rfl, _, rfl, ite2 (fun c => ?_) (fun c => ?_)⟩
    · have c' : k < ns.length := by
        have := of_decide_eq_true c
        simp at this; omega
      refine ⟨_, rfl, _, rfl, a, _, _, .int (ns.getD k 0), rfl, rfl, ha, atI_nat (by simp [c']), q⟩
    · have c' : ¬ k < ns.length := by
        intro z
        apply c
        apply decide_eq_true
        simp; omega
      have : ns.getD k 0 = 0 := by simp [List.getD, Nat.not_lt.mp c']
      rw [this] at q
      exact q
end
def spAlike : Sp := fun vs H Q _ => ∃ (v1 v2 : V) (d : D), vs = [v1, v2] ∧ At H d v1 ∧ At H d v2 ∧ d.plain = true ∧ d.size ≤ 1000000 ∧ ∀ H', Same H H' → Q (.bl true) H'
section
variable {P : Program} {w : World} {K : PySem.W.Frag} {mg : Str → Option Value} {base : Heap}
theorem ok_l_alike (B : Blt mg) (c_l_whole : Cal P w K mg base 1 "_law_whole" p_l_whole spWhole) (Df : Def K mg "_law_alike" s_l_alike p_l_alike) : Cal P w K mg base 2 "_law_alike" p_l_alike spAlike := by
  refine Df.cal sc_l_alike (fun vs H Q E h => ?_) (fun f cdv A outer s H vs Q E hr h => ?_)
  · obtain ⟨v1, v2, d, rfl, _⟩ := h; rfl
  · obtain ⟨v1, v2, d, rfl, a1, a2, hpl, hz, q⟩ := h
    refine ⟨_, (pss_cons (ps_set (i := 2) sc_l_alike.nd rfl (Or.inl rfl) (pe_lst (pa_cons (pv 0) pa_nil)))
 (pss_cons (ps_set (i := 3) sc_l_alike.nd rfl (Or.inl rfl) (pe_lst (pa_cons (pv 1) pa_nil)))
 (pss_cons (ps_while PassesOwn.never (pt_cmpR (op_neL (hu0 hr)) (pv 3) (pe_lst pa_nil) (nomark _))
 (pss_cons (ps_set (i := 4) sc_l_alike.nd rfl (Or.inl rfl) (pe_bm0 PySem.F.plainAttrs_list PySem.F.slot_list_pop PySem.F.type_list_pop mt_pop (pv 2)))
 (pss_cons (ps_set (i := 5) sc_l_alike.nd rfl (Or.inl rfl) (pe_bm0 PySem.F.plainAttrs_list PySem.F.slot_list_pop PySem.F.type_list_pop mt_pop (pv 3)))
 (pss_one (ps_if (pt_val (pe_callB call_isiT (by rfl) B.isinstance_ bt_isinstance (pa_cons (pv 5) (pa_cons (pe_tup (pa_cons (pe_ty B.list_ bt_list) (pa_cons (pe_ty B.tuple_ bt_tuple) pa_nil))) pa_nil))))
 (pss_cons (ps_if (pt_cmpR op_ne (pe_callB call_isi (by rfl) B.isinstance_ bt_isinstance (pa_cons (pv 4) (pa_cons (pe_ty B.list_ bt_list) pa_nil))) (pe_callB call_isi (by rfl) B.isinstance_ bt_isinstance (pa_cons (pv 5) (pa_cons (pe_ty B.list_ bt_list) pa_nil))) (nomark _))
 (pss_one (ps_ret pe_bl))
 pss_nil)
 (pss_cons (ps_if (PW.pt (pw_or (pt_cmpR op_ne (pe_callB call_isi (by rfl) B.isinstance_ bt_isinstance (pa_cons (pv 4) (pa_cons (pe_ty B.tuple_ bt_tuple) pa_nil))) (pe_callB call_isi (by rfl) B.isinstance_ bt_isinstance (pa_cons (pv 5) (pa_cons (pe_ty B.tuple_ bt_tuple) pa_nil))) (nomark _)) (pw_or1 (pt_cmpR op_ne (pe_callB call_len_seq (by rfl) B.len_ PySem.boot_len (pa_cons (pv 4) pa_nil)) (pe_callB call_len_seq (by rfl) B.len_ PySem.boot_len (pa_cons (pv 5) pa_nil)) (nomark _)))))
 (pss_one (ps_ret pe_bl))
 pss_nil)
 (pss_cons (ps_expr (pe_bm PySem.F.plainAttrs_list PySem.F.slot_list_extend PySem.F.type_list_extend mt_extendLT (pv 2) (pa_cons (pv 4) pa_nil)))
 (pss_one (ps_expr (pe_bm PySem.F.plainAttrs_list PySem.F.slot_list_extend PySem.F.type_list_extend mt_extendLT (pv 3) (pa_cons (pv 5) pa_nil)))))))
 (pss_one (ps_if (pt_cmpR op_isN (pv 5) pe_non (nomark _))
 (pss_one (ps_if (pt_cmpR op_notN (pv 4) pe_non (nomark _))
 (pss_one (ps_ret pe_bl))
 pss_nil))
 (pss_one (ps_if (pt_val (pe_callB call_isi (by rfl) B.isinstance_ bt_isinstance (pa_cons (pv 5) (pa_cons (pe_ty B.bool_ bt_bool) pa_nil))))
 (pss_one (ps_if (PW.pt (pw_or (pt_not (pt_val (pe_callB call_isi (by rfl) B.isinstance_ bt_isinstance (pa_cons (pv 4) (pa_cons (pe_ty B.bool_ bt_bool) pa_nil))))) (pw_or1 (pt_cmpR op_ne (pv 4) (pv 5) (nomark _)))))
 (pss_one (ps_ret pe_bl))
 pss_nil))
 (pss_one (ps_if (PW.pt (pw_or (pt_not (pt_val (pe_def c_l_whole hr (by decide) (pa_cons (pv 4) pa_nil)))) (pw_or1 (pt_cmpR op_ne (pv 4) (pv 5) (nomark _)))))
 (pss_one (ps_ret pe_bl))
 pss_nil)))))))))))
 (pss_one (ps_ret pe_bl))))), ?_⟩
    refine ⟨_, rfl, len1, fun l hl => ?_⟩
    refine ⟨_, rfl, len1, fun r hr0 => ?_⟩
    have nlr : l ≠ r := ne_of_none upd_same hr0
    have hr1 : H r = none := by rw [upd_ne nlr.symm] at hr0; exact hr0
    refine rd_seq (while_K (fun m σ H2 => ∃ ds Ls Rs o1 o2, σ = [some v1, some v2, some (.ref l), some (.ref r), o1, o2] ∧ Same H H2 ∧ H2 l = some (.lst Ls) ∧ H2 r = some (.lst Rs) ∧ AtL H ds Ls ∧ AtL H ds Rs ∧ plains ds = true ∧ sizes ds ≤ 1000000 ∧ m = sizes ds)
      ⟨_, [d], [v1], [v2], none, none, rfl, ((Same.refl H).upd hl).upd hr1, by rw [upd_ne nlr, upd_same], upd_same, AtL.cons a1 AtL.nil, AtL.cons a2 AtL.nil, by simp [plains, hpl], by simpa [sizes] using hz, rfl⟩ ?_)
    rintro m σ H2 ⟨ds, Ls, Rs, o1, o2, rfl, sm, hL, hR, aL, aR, hp, hsz, rfl⟩ Y X hY hX
    refine ⟨_, rfl, by decide, fun p hp0 => ?_⟩
    have npr : r ≠ p := ne_of_none hR hp0
    have npl : l ≠ p := ne_of_none hL hp0
    refine ⟨Rs.isEmpty, ⟨r, p, Rs, [], rfl, rfl, SqL.of (by rw [upd_ne npr]; exact hR), SqL.of upd_same, .inl ⟨rfl, rfl⟩⟩, _, rfl, ?_⟩
    rcases snoc_cases ds with rfl | ⟨ds', d', rfl⟩
    · have : Rs = [] := by unfold AtL at aR; exact aR
      subst this
      refine iteF (hX _ _ ?_)
      exact q _ (sm.upd (sm.free hp0))
    · obtain ⟨Ls', x1, rfl, aL', ax1⟩ := aL.last
      obtain ⟨Rs', x2, rfl, aR', ax2⟩ := aR.last
      have ene : (Rs' ++ [x2]).isEmpty = false := by simp
      rw [ene]
      refine iteT ⟨Y, fun _ _ h => h, ?_⟩
      have hL3 : upd H2 p (.lst []) l = some (.lst (Ls' ++ [x1])) := by rw [upd_ne npl]; exact hL
      refine rd_k fun N1 k1 => ?_
      refine ⟨_, rfl, .inl ⟨rfl, _, SqL.of hL3⟩, l, _, x1, rfl, rfl, hL3, by simp, k1 _ _ ?_⟩
      have hR4 : upd (upd H2 p (.lst [])) l (.lst (Ls' ++ [x1]).dropLast) r = some (.lst (Rs' ++ [x2])) := by rw [upd_ne nlr.symm, upd_ne npr]; exact hR
      refine rd_k fun N2 k2 => ?_
      refine ⟨_, rfl, .inl ⟨rfl, _, SqL.of hR4⟩, r, _, x2, rfl, rfl, hR4, by simp, k2 _ _ ?_⟩
      have sm5 : Same H (upd (upd (upd H2 p (.lst [])) l (.lst (Ls' ++ [x1]).dropLast)) r (.lst (Rs' ++ [x2]).dropLast)) := ((sm.upd (sm.free hp0)).upd hl).upd hr1
      have hL5 : (upd (upd (upd H2 p (.lst [])) l (.lst (Ls' ++ [x1]).dropLast)) r (.lst (Rs' ++ [x2]).dropLast)) l = some (.lst Ls') := by rw [upd_ne nlr, upd_same]; simp
      have hR5 : (upd (upd (upd H2 p (.lst [])) l (.lst (Ls' ++ [x1]).dropLast)) r (.lst (Rs' ++ [x2]).dropLast)) r = some (.lst Rs') := by rw [upd_same]; simp
      generalize (upd (upd (upd H2 p (.lst [])) l (.lst (Ls' ++ [x1]).dropLast)) r (.lst (Rs' ++ [x2]).dropLast)) = H5 at sm5 hL5 hR5
      have e1 : plains ds' = true ∧ d'.plain = true := by
        rw [plains_append] at hp
        simpa [plains] using hp
      have e2 : sizes (ds' ++ [d']) = sizes ds' + d'.size := by rw [sizes_append]; simp [sizes]
      refine ⟨_, rfl, by decide, fun pt hpt => ?_⟩
      have npt : r ≠ pt := ne_of_none hR5 hpt
      have nlt : l ≠ pt := ne_of_none hL5 hpt
      have sm6 : Same H (upd H5 pt (.tup [.ty "list", .ty "tuple"])) := sm5.upd (sm5.free hpt)
      have hL6 : upd H5 pt (.tup [.ty "list", .ty "tuple"]) l = some (.lst Ls') := by rw [upd_ne nlt]; exact hL5
      have hR6 : upd H5 pt (.tup [.ty "list", .ty "tuple"]) r = some (.lst Rs') := by rw [upd_ne npt]; exact hR5
      have hP6 : upd H5 pt (.tup [.ty "list", .ty "tuple"]) pt = some (.tup [.ty "list", .ty "tuple"]) := upd_same
      generalize upd H5 pt (.tup [.ty "list", .ty "tuple"]) = H6 at sm6 hL6 hR6 hP6
      have fin : ∀ o1 o2, ∃ m', m' < sizes (ds' ++ [d']) ∧ ∃ ds Ls Rs o1' o2', [some v1, some v2, some (V.ref l), some (V.ref r), o1, o2] = [some v1, some v2, some (.ref l), some (.ref r), o1', o2'] ∧ Same H H6 ∧ H6 l = some (.lst Ls) ∧ H6 r = some (.lst Rs) ∧ AtL H ds Ls ∧ AtL H ds Rs ∧ plains ds = true ∧ sizes ds ≤ 1000000 ∧ m' = sizes ds :=
        fun o1 o2 => ⟨sizes ds', by have : 1 ≤ d'.size := (by cases d' <;> simp [D.size] <;> omega); omega, ds', Ls', Rs', o1, o2, rfl, sm6, hL6, hR6, aL', aR', e1.1, by omega, rfl⟩
      have isi : ∀ {t : Ty} {R : Prop}, TyIs H6 x2 t → (∀ k : Bool, k = ([Ty.lst, Ty.tup].any (Ty.isa t)) → R) → R := fun _ h => h _ rfl
      cases d' with
      | str x => exact absurd e1.2 (by simp [D.plain])
      | non =>
        unfold At at ax1 ax2; subst ax1 ax2
        refine ⟨_, pt, .non, [.lst, .tup], rfl, hP6, trivial, _, rfl, iteF ?_⟩
        refine ⟨_, rfl, rfl, _, rfl, iteT ?_⟩
        refine ⟨_, rfl, rfl, _, rfl, iteF ?_⟩
        exact hY _ _ (fin _ _)
      | bl b =>
        unfold At at ax1 ax2; subst ax1 ax2
        refine ⟨_, pt, .bl, [.lst, .tup], rfl, hP6, trivial, _, rfl, iteF ?_⟩
        refine ⟨_, rfl, rfl, _, rfl, iteF ?_⟩
        refine ⟨_, rfl, _, .bl, .bl, rfl, trivial, _, rfl, iteT ?_⟩
        refine ⟨_, rfl, _, .bl, .bl, rfl, trivial, _, rfl, iteF ?_⟩
        refine ⟨_, rfl, _, rfl, rfl, _, rfl, iteNS rfl ?_⟩
        exact hY _ _ (fin _ _)
      | int b =>
        unfold At at ax1 ax2; subst ax1 ax2
        refine ⟨_, pt, .int, [.lst, .tup], rfl, hP6, trivial, _, rfl, iteF ?_⟩
        refine ⟨_, rfl, rfl, _, rfl, iteF ?_⟩
        refine ⟨_, rfl, _, .int, .bl, rfl, trivial, _, rfl, iteF ?_⟩
        refine ⟨_, rfl, _, .int, rfl, trivial, _, rfl, iteF ?_⟩
        refine ⟨_, rfl, _, rfl, rfl, _, rfl, iteNS rfl ?_⟩
        exact hY _ _ (fin _ _)
      | lst es =>
        have ax1' := ax1.mono sm6
        have ax2' := ax2.mono sm6
        unfold At at ax1 ax2 ax1' ax2'
        obtain ⟨p1, w1, rfl, g1, k1⟩ := ax1
        obtain ⟨p2, w2, rfl, g2, k2⟩ := ax2
        have g1' := sm6 _ _ g1
        have g2' := sm6 _ _ g2
        have T1 : TyIs H6 (.ref p1) .lst := ⟨_, .inl g1'⟩
        have T2 : TyIs H6 (.ref p2) .lst := ⟨_, .inl g2'⟩
        have lw : w1.length = w2.length := by rw [← k1.length, ← k2.length]
        have el : es.length ≤ sizes es := length_sizes es
        have e3 : sizes (ds' ++ [D.lst es]) = sizes ds' + (1 + sizes es) := e2
        have eL := aL'.length
        have eR := aR'.length
        have lL := length_sizes ds'
        have np2 : p2 ≠ l := ne_of_none g2 hl
        refine ⟨_, pt, .lst, [.lst, .tup], rfl, hP6, T2, _, rfl, iteT ?_⟩
        refine ⟨_, rfl, _, .lst, .lst, rfl, T1, _, rfl, _, .lst, .lst, rfl, T2, rfl, _, rfl, iteNS rfl ?_⟩
        refine ⟨_, rfl, _, .lst, .tup, rfl, T1, _, rfl, _, .lst, .tup, rfl, T2, rfl, _, rfl, iteNS rfl ?_⟩
        refine ⟨_, rfl, p1, _, rfl, .inl (SqL.of g1'), _, rfl, p2, _, rfl, .inl (SqL.of g2'), rfl, _, rfl, iteNS (by rw [lw]) ?_⟩
        refine ⟨_, rfl, .inl ⟨rfl, _, SqL.of hL6⟩, _, rfl, l, p1, _, _, rfl, rfl, hL6, .inl g1', small6' (by have := k1.length; omega), ?_⟩
        have hR7 : upd H6 l (.lst (Ls' ++ w1)) r = some (.lst Rs') := by rw [upd_ne nlr.symm]; exact hR6
        refine ⟨_, rfl, .inl ⟨rfl, _, SqL.of hR7⟩, _, rfl, r, p2, _, _, rfl, rfl, hR7, .inl (by rw [upd_ne np2]; exact g2'), small6' (by have := k2.length; omega), ?_⟩
        exact hY _ _ ⟨sizes (ds' ++ es), by rw [sizes_append, e3]; omega, ds' ++ es, Ls' ++ w1, Rs' ++ w2, _, _, rfl, (sm6.upd hl).upd hr1, by rw [upd_ne nlr, upd_same], upd_same, aL'.append k1, aR'.append k2, by rw [plains_append]; simpa [D.plain] using e1, by rw [sizes_append]; omega, rfl⟩
      | tup es =>
        unfold At at ax1 ax2
        obtain ⟨p1, w1, rfl, g1, k1⟩ := ax1
        obtain ⟨p2, w2, rfl, g2, k2⟩ := ax2
        have g1' := sm6 _ _ g1
        have g2' := sm6 _ _ g2
        have T1 : TyIs H6 (.ref p1) .tup := ⟨_, g1'⟩
        have T2 : TyIs H6 (.ref p2) .tup := ⟨_, g2'⟩
        have lw : w1.length = w2.length := by rw [← k1.length, ← k2.length]
        have el : es.length ≤ sizes es := length_sizes es
        have e3 : sizes (ds' ++ [D.tup es]) = sizes ds' + (1 + sizes es) := e2
        have eL := aL'.length
        have eR := aR'.length
        have lL := length_sizes ds'
        have np2 : p2 ≠ l := ne_of_none g2 hl
        refine ⟨_, pt, .tup, [.lst, .tup], rfl, hP6, T2, _, rfl, iteT ?_⟩
        refine ⟨_, rfl, _, .tup, .lst, rfl, T1, _, rfl, _, .tup, .lst, rfl, T2, rfl, _, rfl, iteNS rfl ?_⟩
        refine ⟨_, rfl, _, .tup, .tup, rfl, T1, _, rfl, _, .tup, .tup, rfl, T2, rfl, _, rfl, iteNS rfl ?_⟩
        refine ⟨_, rfl, p1, _, rfl, .inr (SqT.of g1'), _, rfl, p2, _, rfl, .inr (SqT.of g2'), rfl, _, rfl, iteNS (by rw [lw]) ?_⟩
        refine ⟨_, rfl, .inl ⟨rfl, _, SqL.of hL6⟩, _, rfl, l, p1, _, _, rfl, rfl, hL6, .inr g1', small6' (by have := k1.length; omega), ?_⟩
        have hR7 : upd H6 l (.lst (Ls' ++ w1)) r = some (.lst Rs') := by rw [upd_ne nlr.symm]; exact hR6
        refine ⟨_, rfl, .inl ⟨rfl, _, SqL.of hR7⟩, _, rfl, r, p2, _, _, rfl, rfl, hR7, .inr (by rw [upd_ne np2]; exact g2'), small6' (by have := k2.length; omega), ?_⟩
        exact hY _ _ ⟨sizes (ds' ++ es), by rw [sizes_append, e3]; omega, ds' ++ es, Ls' ++ w1, Rs' ++ w2, _, _, rfl, (sm6.upd hl).upd hr1, by rw [upd_ne nlr, upd_same], upd_same, aL'.append k1, aR'.append k2, by rw [plains_append]; simpa [D.plain] using e1, by rw [sizes_append]; omega, rfl⟩
end
def spLaw (K : PySem.W.Frag) : Sp := fun vs H Q _ => ∃ (a : Addr) (ns : List Int), vs = [.ref a] ∧ SqL K H a (ns.map V.int) ∧ ns.length ≤ 63 ∧ ∀ H', Q (.bl true) H'
def draw (n p m : Int) : Int := n * 48271 % p % m
def spDraw : Sp := fun vs H Q _ => ∃ n p m : Int, vs = [.int n, .int p, .int m] ∧ 0 < p ∧ 0 < m ∧ Q (.int (draw n p m)) H
section
variable {P : Program} {w : World} {K : PySem.W.Frag} {mg : Str → Option Value} {base : Heap}
theorem ok_l_draw (Df : Def K mg "_law_draw" s_l_draw p_l_draw) : Cal P w K mg base 1 "_law_draw" p_l_draw spDraw := by
  refine Df.cal sc_l_draw (fun vs H Q E h => ?_) (fun f cdv A outer s H vs Q E hr h => ?_)
  · obtain ⟨n, p, m, rfl, _⟩ := h; rfl
  · obtain ⟨n, p, m, rfl, hp, hm, q⟩ := h
    refine ⟨_, (pss_one (ps_ret (pe_op op_mod (pe_op op_mod (pe_op op_mul (pv 0) pe_int) (pv 1)) (pv 2)))), ?_⟩
    exact ⟨_, rfl, _, _, rfl, rfl, .inr ⟨by decide, by decide⟩, _, rfl, _, _, rfl, rfl, hp, _, rfl, _, _, rfl, rfl, hm, q⟩
end
def setting (c : Int) (n : Nat) : List Bool := (List.range n).map fun (k : Nat) => decide (draw (c + 7919 * (k : Int)) 1009 2 = 1)
theorem setting_succ (c : Int) (n : Nat) : setting c (n + 1) = setting c n ++ [decide (draw (c + 7919 * (n : Int)) 1009 2 = 1)] := by
  simp [setting, List.range_succ]
theorem setting_len (c : Int) (n : Nat) : (setting c n).length = n := by simp [setting]
def spSetting : Sp := fun vs H Q _ => ∃ (c : Int) (n : Nat), vs = [.int c, .int n] ∧ n ≤ 100000 ∧ ∀ l H', H l = none → Same H H' → H' l = some (.lst ((setting c n).map V.bl)) → Q (.ref l) H'
section
variable {P : Program} {w : World} {K : PySem.W.Frag} {mg : Str → Option Value} {base : Heap}
theorem ok_l_setting_of (B : Blt mg) (c_l_draw : Cal P w K mg base 1 "_law_draw" p_l_draw spDraw) (Df : Def K mg "_law_setting_of" s_l_setting_of p_l_setting_of) : Cal P w K mg base 2 "_law_setting_of" p_l_setting_of spSetting := by
  refine Df.cal sc_l_setting_of (fun vs H Q E h => ?_) (fun f cdv A outer s H vs Q E hr h => ?_)
  · obtain ⟨c, n, rfl, _⟩ := h; rfl
  · obtain ⟨c, n, rfl, hn, q⟩ := h
    refine ⟨_, (pss_cons (ps_set (i := 2) sc_l_setting_of.nd rfl (Or.inl rfl) (pe_lst pa_nil))
 (pss_cons (ps_for PassesOwn.never rfl (pi_range1 (by rfl) B.range_ (pa_cons (pv 1) pa_nil)) (pg_name (i := 3) sc_l_setting_of.nd rfl (Or.inl rfl))
 (pss_one (ps_expr (pe_bm PySem.F.plainAttrs_list PySem.F.slot_list_append PySem.F.type_list_append mt_append (pv 2) (pa_cons (pe_cmpR op_eq (pe_def c_l_draw hr (by decide) (pa_cons (pe_op op_add (pv 0) (pe_op op_mul pe_int (pv 3))) (pa_cons pe_int (pa_cons pe_int pa_nil)))) pe_int (nomark _)) pa_nil)))))
 (pss_one (ps_ret (pv 2))))), ?_⟩
    refine ⟨by decide, fun l hl => ?_⟩
    refine ⟨_, rfl, (n : Int), rfl, by omega, by omega, ?_⟩
    have e1 : ((n : Int)).toNat = n := by omega
    rw [e1]
    refine for_range (fun i σ H2 => ∃ v, σ = [some (.int c), some (.int n), some (.ref l), v] ∧ Same H H2 ∧ H2 l = some (.lst ((setting c i).map V.bl)))
      ⟨none, rfl, fun b o e => by rw [upd_ne (ne_of_none e hl)]; exact e, upd_same⟩ ?_ ?_
    · rintro i σ H2 hi ⟨v, rfl, sm, h2⟩
      refine ⟨_, rfl, .inl ⟨rfl, _, SqL.of h2⟩, _, rfl, _, rfl, _, _, rfl, rfl, .inl ⟨by decide, by decide⟩, _, _, rfl, rfl, _, _, _, rfl, by decide, by decide, rfl, l, _, _, rfl, rfl, h2, ?_, ?_⟩
      · rw [List.length_map, setting_len]; exact small6 (by omega)
      · refine ⟨_, rfl, sm.upd hl, ?_⟩
        rw [upd_same, setting_succ, List.map_append]
        simp
    · rintro σ H2 ⟨v, rfl, sm, h2⟩
      exact ⟨_, rfl, q l H2 hl sm h2⟩
end
def so (bs : List Bool) (n : Int) : Bool := bs.getD (n.natAbs - 1) false == decide (0 < n)
theorem atI_abs {bs : List Bool} {n : Int} (h0 : n ≠ 0) (h1 : n.natAbs ≤ bs.length) : atI (bs.map V.bl) ((if n < 0 then -n else n) - 1) = some (.bl (bs.getD (n.natAbs - 1) false)) := by
  have e : (if n < 0 then -n else n) - 1 = ((n.natAbs - 1 : Nat) : Int) := by split <;> omega
  rw [e]
  refine atI_nat ?_
  have : n.natAbs - 1 < bs.length := by omega
  simp [this]
def spMet : Sp := fun vs H Q _ => ∃ (a b : Addr) (ns : List Int) (bs : List Bool), vs = [.ref a, .ref b] ∧ H a = some (.lst (ns.map V.int)) ∧ H b = some (.lst (bs.map V.bl)) ∧ (∀ n ∈ ns, n ≠ 0 ∧ n.natAbs ≤ bs.length) ∧ Q (.bl (ns.any (so bs))) H
section
variable {P : Program} {w : World} {K : PySem.W.Frag} {mg : Str → Option Value} {base : Heap}
theorem ok_l_meets (B : Blt mg) (Df : Def K mg "_law_meets" s_l_meets p_l_meets) : Cal P w K mg base 1 "_law_meets" p_l_meets spMet := by
  refine Df.cal sc_l_meets (fun vs H Q E h => ?_) (fun f cdv A outer s H vs Q E hr h => ?_)
  · obtain ⟨a, b, ns, bs, rfl, _⟩ := h; rfl
  · obtain ⟨a, b, ns, bs, rfl, ha, hb, hn, q⟩ := h
    refine ⟨_, (pss_cons (ps_for PassesOwn.never rfl (pi_list (pv 0)) (pg_name (i := 2) sc_l_meets.nd rfl (Or.inl rfl))
 (pss_one (ps_if (pt_cmpR op_eq (pe_ix ix_list (pv 1) (pe_op op_sub (pe_callB call_abs (by rfl) B.abs_ bt_abs (pa_cons (pv 2) pa_nil)) pe_int) (fun _ _ => rfl)) (pe_cmpR op_gt (pv 2) pe_int (nomark _)) (nomark _))
 (pss_one (ps_ret pe_bl))
 pss_nil)))
 (pss_one (ps_ret pe_bl))), ?_⟩
    refine ⟨_, rfl, a, rfl, ⟨_, SqL.of ha⟩, for_list (K := K) (a := a) (xs := ns.map V.int) (fun i σ H2 => ∃ v, σ = [some (.ref a), some (.ref b), v] ∧ H2 = H ∧ ∀ n ∈ ns.take i, so bs n = false)
      ⟨none, rfl, rfl, by simp⟩ (fun i σ H2 _ ⟨_, _, e, _⟩ => by rw [e]; exact SqL.of ha) ?_ ?_⟩
    · rintro i y σ H2 hi ⟨v, rfl, rfl, hno⟩
      obtain ⟨n, hni, rfl⟩ := getV hi
      obtain ⟨h0, h1⟩ := hn n (List.mem_of_getElem? hni)
      refine ⟨_, rfl, _, rfl, n, rfl, _, _, rfl, rfl, b, _, _, _, rfl, rfl, SqL.of hb, atI_abs h0 h1, _, rfl, _, _, rfl, rfl, rfl, _, rfl, ?_⟩
      refine ite2 (fun c => ?_) (fun c => ?_)
      · have c' : so bs n = true := by
          have := of_decide_eq_true c
          unfold so
          injection this with e
          rw [e]; simp
        have : ns.any (so bs) = true := List.any_eq_true.mpr ⟨n, List.mem_of_getElem? hni, c'⟩
        rw [this] at q
        exact q
      · have c' : so bs n = false := by
          unfold so
          rw [Bool.eq_false_iff]
          intro z
          apply c
          apply decide_eq_true
          rw [eq_of_beq z]
        refine ⟨_, rfl, rfl, fun m hm => ?_⟩
        rw [List.take_add_one, hni] at hm
        rcases List.mem_append.mp hm with z | z
        · exact hno m z
        · have : m = n := by simpa using z
          rw [this]; exact c'
    · rintro σ H2 ⟨v, rfl, rfl, hno⟩
      have : ns.any (so bs) = false := by
        rw [List.any_eq_false]
        intro n hm
        have := hno n (by simpa using hm)
        simp [this]
      rw [this] at q
      exact q
end
def spAllMet (K : PySem.W.Frag) : Sp := fun vs H Q _ => ∃ (a b : Addr) (ws : List Wr) (bs : List Bool), vs = [.ref a, .ref b] ∧ SqL K H a (wrefs ws) ∧ WsOk H ws ∧ H b = some (.lst (bs.map V.bl)) ∧ (∀ v ∈ wl ws, ∀ n ∈ v, n ≠ 0 ∧ n.natAbs ≤ bs.length) ∧ Q (.bl ((wl ws).all fun v => v.any (so bs))) H
section
variable {P : Program} {w : World} {K : PySem.W.Frag} {mg : Str → Option Value} {base : Heap}
theorem ok_l_all_met (c_l_meets : Cal P w K mg base 1 "_law_meets" p_l_meets spMet) (Df : Def K mg "_law_all_met" s_l_all_met p_l_all_met) : Cal P w K mg base 2 "_law_all_met" p_l_all_met (spAllMet K) := by
  refine Df.cal sc_l_all_met (fun vs H Q E h => ?_) (fun f cdv A outer s H vs Q E hr h => ?_)
  · obtain ⟨a, b, ws, bs, rfl, _⟩ := h; rfl
  · obtain ⟨a, b, ws, bs, rfl, hS, hW, hb, hl, q⟩ := h
    refine ⟨_, (pss_cons (ps_for PassesOwn.never rfl (pi_list (pv 0)) (pg_name (i := 2) sc_l_all_met.nd rfl (Or.inl rfl))
 (pss_one (ps_if (pt_not (pt_val (pe_def c_l_meets hr (by decide) (pa_cons (pv 2) (pa_cons (pv 1) pa_nil)))))
 (pss_one (ps_ret pe_bl))
 pss_nil)))
 (pss_one (ps_ret pe_bl))), ?_⟩
    refine ⟨_, rfl, a, rfl, ⟨_, hS⟩, for_list (K := K) (a := a) (xs := wrefs ws) (fun i σ H2 => ∃ v, σ = [some (.ref a), some (.ref b), v] ∧ H2 = H ∧ ∀ u ∈ (wl ws).take i, u.any (so bs) = true)
      ⟨none, rfl, rfl, by simp⟩ (fun i σ H2 _ ⟨_, _, e, _⟩ => by rw [e]; exact hS) ?_ ?_⟩
    · rintro i y σ H2 hi ⟨v, rfl, rfl, hall⟩
      obtain ⟨wr, hwi, rfl⟩ := wr_get hi
      have hmem := List.mem_of_getElem? hwi
      have hwl : (wl ws)[i]? = some wr.2 := by unfold wl; rw [List.getElem?_map, hwi]; rfl
      refine ⟨_, rfl, _, rfl, wr.1, b, wr.2, bs, rfl, hW wr hmem, hb, hl wr.2 (List.mem_of_getElem? hwl), _, rfl, ?_⟩
      cases e : wr.2.any (so bs) with
      | true =>
        refine iteF ⟨_, rfl, rfl, fun u hu => ?_⟩
        rw [List.take_add_one, hwl] at hu
        rcases List.mem_append.mp hu with z | z
        · exact hall u z
        · have : u = wr.2 := by simpa using z
          rw [this]; exact e
      | false =>
        refine iteT ?_
        have : ((wl ws).all fun v => v.any (so bs)) = false := by
          rw [List.all_eq_false]
          exact ⟨wr.2, List.mem_of_getElem? hwl, by rw [e]; simp⟩
        rw [this] at q; exact q
    · rintro σ H2 ⟨v, rfl, rfl, hall⟩
      have : ((wl ws).all fun v => v.any (so bs)) = true := by
        rw [List.all_eq_true]
        intro u hu
        exact hall u (by rw [wrefs_len, ← wl_len, List.take_length]; exact hu)
      rw [this] at q; exact q
end
theorem cut_ints (ns : List Int) (lo hi : Option Int) : ∃ cs : List Int, cutV (ns.map V.int) lo hi = cs.map V.int ∧ cs.length ≤ ns.length ∧ ∀ n ∈ cs, n ∈ ns := by
  refine ⟨(ns.drop (HT.sIx (ns.map V.int).length 0 lo)).take (HT.sIx (ns.map V.int).length (ns.map V.int).length hi - HT.sIx (ns.map V.int).length 0 lo), ?_, ?_, fun n hn => ?_⟩
  · unfold cutV; rw [List.map_take, List.map_drop]
  · rw [List.length_take, List.length_drop]; omega
  · exact List.mem_of_mem_drop (List.mem_of_mem_take hn)
theorem cut_pre (xs : List V) (n : Nat) : cutV xs none (some (n : Int)) = xs.take n := by
  unfold cutV
  rw [HT.sIx_none, HT.sIx_nat, List.drop_zero, Nat.sub_zero, List.take_eq_take_iff]
  omega
theorem cut_suf (xs : List V) (n : Nat) : cutV xs (some (n : Int)) none = xs.drop n := by
  unfold cutV
  rw [HT.sIx_none, HT.sIx_nat]
  by_cases h : n ≤ xs.length
  · rw [Nat.min_eq_left h]
    exact List.take_of_length_le (by simp)
  · have e : min n xs.length = xs.length := Nat.min_eq_right (by omega)
    rw [e, List.drop_length, List.drop_eq_nil_of_le (by omega)]; simp
theorem wsD_wl (ws : List Wr) : wsD ws = (wl ws).map fun v => D.lst (dInts v) := by unfold wsD wl; rw [List.map_map]; rfl
theorem sizes_wsD : ∀ ws : List Wr, sizes (wsD ws) = total (wl ws) + ws.length
  | [] => rfl
  | p :: ws => by
    show (D.lst (dInts p.2)).size + sizes (wsD ws) = _
    rw [sizes_wsD ws, D.size, sizes_ints]
    simp only [wl, total, List.map_cons, List.sum_cons, List.length_cons]; omega
theorem plains_wsD : ∀ ws : List Wr, plains (wsD ws) = true
  | [] => rfl
  | p :: ws => by
    show ((D.lst (dInts p.2)).plain && plains (wsD ws)) = true
    rw [plains_wsD ws, D.plain, plains_ints]; rfl
inductive Wd where
  | and
  | or
  | same
inductive Stt where
  | lamp (k : Nat)
  | non (s : Stt)
  | two (w : Wd) (s t : Stt)
def opW : Wd → Bool → Bool → Bool
  | .and, a, b => a && b
  | .or, a, b => a || b
  | .same, a, b => a == b
def valS (b : List Bool) : Stt → Bool
  | .lamp k => b.getD (k - 1) false
  | .non s => !valS b s
  | .two w s t => opW w (valS b s) (valS b t)
def okS (n : Nat) : Stt → Prop
  | .lamp k => 1 ≤ k ∧ k ≤ n
  | .non s => okS n s
  | .two _ s t => okS n s ∧ okS n t
def post : Stt → List Stt
  | .lamp k => [.lamp k]
  | .non s => post s ++ [.non s]
  | .two w s t => post s ++ post t ++ [.two w s t]
theorem post_pos : ∀ s : Stt, 0 < (post s).length
  | .lamp _ => by simp [post]
  | .non s => by simp [post]
  | .two _ s t => by simp [post]; omega
def posts (l : List Stt) : List Stt := l.flatMap post
theorem posts_snoc (l : List Stt) (s : Stt) : posts (l ++ [s]) = posts l ++ post s := by simp [posts]
def stepV (b : List Bool) : Stt → List Bool → Option (Bool × List Bool)
  | .lamp k, st => some (b.getD (k - 1) false, st)
  | .non _, x :: st => some (!x, st)
  | .two w _ _, y :: x :: st => some (opW w x y, st)
  | _, _ => none
def runV (b : List Bool) : List Stt → List Bool → Option (List Bool)
  | [], st => some st
  | p :: ps, st => match stepV b p st with
    | some (v, st') => runV b ps (v :: st')
    | none => none
theorem runV_post (b : List Bool) : ∀ (s : Stt) (R : List Stt) (st : List Bool), runV b (post s ++ R) st = runV b R (valS b s :: st)
  | .lamp k, R, st => rfl
  | .non s, R, st => by
    have e : post (.non s) ++ R = post s ++ (.non s :: R) := by simp [post]
    rw [e, runV_post b s]; rfl
  | .two w s t, R, st => by
    have e : post (.two w s t) ++ R = post s ++ (post t ++ (.two w s t :: R)) := by simp [post]
    rw [e, runV_post b s, runV_post b t]; rfl
theorem runV_app (b : List Bool) : ∀ (ps R : List Stt) (st : List Bool), runV b (ps ++ R) st = (runV b ps st).bind fun st' => runV b R st'
  | [], R, st => rfl
  | p :: ps, R, st => by
    show (match stepV b p st with
      | some (v, st') => runV b (ps ++ R) (v :: st')
      | none => none) = Option.bind (match stepV b p st with
      | some (v, st') => runV b ps (v :: st')
      | none => none) _
    cases stepV b p st with
    | none => rfl
    | some q => exact runV_app b ps R _
def wishW : Wd → Int → Int → Int → List (List Int)
  | .and, p, a, b => [[-p, a], [-p, b], [p, -a, -b]]
  | .or, p, a, b => [[p, -a], [p, -b], [-p, a, b]]
  | .same, p, a, b => [[-p, -a, b], [-p, a, -b], [p, a, b], [p, -a, -b]]
structure Sh where
  st : List Int
  W : List (List Int)
  p : Nat
def stepL : Stt → Sh → Option Sh
  | .lamp k, x => some ⟨(k : Int) :: x.st, x.W, x.p⟩
  | .non _, ⟨l :: st, W, p⟩ => some ⟨-l :: st, W, p⟩
  | .two w _ _, ⟨b :: a :: st, W, p⟩ => some ⟨((p + 1 : Nat) : Int) :: st, W ++ wishW w ((p + 1 : Nat) : Int) a b, p + 1⟩
  | _, _ => none
def runL : List Stt → Sh → Option Sh
  | [], x => some x
  | q :: ps, x => (stepL q x).bind (runL ps)
def enc : Stt → Nat → Int × List (List Int) × Nat
  | .lamp k, p => ((k : Int), [], p)
  | .non s, p => (-(enc s p).1, (enc s p).2.1, (enc s p).2.2)
  | .two w s t, p => ((((enc t (enc s p).2.2).2.2 + 1 : Nat) : Int), (enc s p).2.1 ++ (enc t (enc s p).2.2).2.1 ++ wishW w (((enc t (enc s p).2.2).2.2 + 1 : Nat) : Int) (enc s p).1 (enc t (enc s p).2.2).1, (enc t (enc s p).2.2).2.2 + 1)
theorem runL_post : ∀ (s : Stt) (R : List Stt) (x : Sh), runL (post s ++ R) x = runL R ⟨(enc s x.p).1 :: x.st, x.W ++ (enc s x.p).2.1, (enc s x.p).2.2⟩
  | .lamp k, R, x => by
    show (some (⟨(k : Int) :: x.st, x.W, x.p⟩ : Sh)).bind (runL R) = _
    simp [enc]
  | .non s, R, x => by
    have e : post (.non s) ++ R = post s ++ (.non s :: R) := by simp [post]
    rw [e, runL_post s]
    rfl
  | .two w s t, R, x => by
    have e : post (.two w s t) ++ R = post s ++ (post t ++ (.two w s t :: R)) := by simp [post]
    rw [e, runL_post s, runL_post t]
    show (some (⟨_, _, _⟩ : Sh)).bind (runL R) = _
    simp only [Option.bind_some, enc, List.append_assoc]
theorem runL_app : ∀ (ps R : List Stt) (x : Sh), runL (ps ++ R) x = (runL ps x).bind (runL R)
  | [], R, x => rfl
  | q :: ps, R, x => by
    show (stepL q x).bind (runL (ps ++ R)) = ((stepL q x).bind (runL ps)).bind (runL R)
    cases stepL q x with
    | none => rfl
    | some y => exact runL_app ps R y
def Wd.str : Wd → Str
  | .and => "and"
  | .or => "or"
  | .same => "same"
def SAt (H : Hp) : Stt → Addr → Prop
  | .lamp k, a => H a = some (.tup [.str "lamp", .int k])
  | .non s, a => ∃ b, H a = some (.tup [.str "not", .ref b]) ∧ SAt H s b
  | .two w s t, a => ∃ b c, H a = some (.tup [.str w.str, .ref b, .ref c]) ∧ SAt H s b ∧ SAt H t c
theorem SAt.mono {H H' : Hp} (e : ∀ a xs, H a = some (.tup xs) → H' a = some (.tup xs)) : ∀ {s : Stt} {a : Addr}, SAt H s a → SAt H' s a
  | .lamp k, a, h => e _ _ h
  | .non s, a, ⟨b, h1, h2⟩ => ⟨b, e _ _ h1, SAt.mono e h2⟩
  | .two w s t, a, ⟨b, c, h1, h2, h3⟩ => ⟨b, c, e _ _ h1, SAt.mono e h2, SAt.mono e h3⟩
theorem SAt.same {H H' : Hp} {s : Stt} {a : Addr} (h : SAt H s a) (e : Same H H') : SAt H' s a := h.mono fun _ _ q => e _ _ q
abbrev Pt := Addr × Stt
def prefs (ps : List Pt) : List V := ps.map fun p => V.ref p.1
def PsOk (H : Hp) (ps : List Pt) : Prop := ∀ p ∈ ps, SAt H p.2 p.1
theorem PsOk.same {H H' : Hp} {ps : List Pt} (h : PsOk H ps) (e : Same H H') : PsOk H' ps := fun p hp => (h p hp).same e
theorem PsOk.tups {H H' : Hp} {ps : List Pt} (h : PsOk H ps) (e : ∀ a xs, H a = some (.tup xs) → H' a = some (.tup xs)) : PsOk H' ps := fun p hp => (h p hp).mono e
theorem posts_len : ∀ W : List Pt, W.length ≤ (posts (W.map (·.2))).length
  | [] => Nat.zero_le _
  | p :: W => by
    have h1 := posts_len W
    have h2 := post_pos p.2
    simp [posts] at h1 ⊢
    omega
theorem prefs_len (ps : List Pt) : (prefs ps).length = ps.length := by simp [prefs]
theorem SAt.tup {H : Hp} : ∀ {s : Stt} {a : Addr}, SAt H s a → ∃ w xs, H a = some (.tup (.str w :: xs))
  | .lamp k, a, h => ⟨_, _, h⟩
  | .non s, a, ⟨b, h1, _⟩ => ⟨_, _, h1⟩
  | .two w s t, a, ⟨b, c, h1, _, _⟩ => ⟨_, _, h1⟩
def spInner (K : PySem.W.Frag) : Sp := fun vs H Q _ => ∃ (a : Addr) (s : Stt), vs = [.ref a] ∧ SAt H s a ∧ (post s).length ≤ 100000 ∧ ∀ (l : Addr) (ps : List Pt) (H' : Hp), Same H H' → H l = none → H' l = some (.lst (prefs ps)) → PsOk H' ps → ps.map (·.2) = post s → Q (.ref l) H'
section
variable {P : Program} {w : World} {K : PySem.W.Frag} {mg : Str → Option Value} {base : Heap}
theorem ok_inner_first (B : Blt mg) (Df : Def K mg "inner_first" s_inner_first p_inner_first) : Cal P w K mg base 1 "inner_first" p_inner_first (spInner K) := by
  refine Df.cal sc_inner_first (fun vs H Q E h => ?_) (fun f cdv A outer s H vs Q E hr h => ?_)
  · obtain ⟨a, s, rfl, _⟩ := h; rfl
  · obtain ⟨a, s0, rfl, ha, hz, q⟩ := h
    refine ⟨_, (pss_cons (ps_set (i := 1) sc_inner_first.nd rfl (Or.inl rfl) (pe_lst pa_nil))
 (pss_cons (ps_set (i := 2) sc_inner_first.nd rfl (Or.inl rfl) (pe_lst (pa_cons (pv 0) pa_nil)))
 (pss_cons (ps_while PassesOwn.never (pt_truth (pv 2) (fun _ => rfl))
 (pss_cons (ps_set (i := 3) sc_inner_first.nd rfl (Or.inl rfl) (pe_bm0 PySem.F.plainAttrs_list PySem.F.slot_list_pop PySem.F.type_list_pop mt_pop (pv 2)))
 (pss_cons (ps_expr (pe_bm PySem.F.plainAttrs_list PySem.F.slot_list_append PySem.F.type_list_append mt_append (pv 1) (pa_cons (pv 3) pa_nil)))
 (pss_one (ps_if (pt_cmpR op_ne (pe_ix ix_tup (pv 3) pe_int (fun _ _ => rfl)) pe_str (nomark _))
 (pss_one (ps_expr (pe_bm PySem.F.plainAttrs_list PySem.F.slot_list_extend PySem.F.type_list_extend mt_extendLT (pv 2) (pa_cons (pe_slice sl_tup (pv 3) (po_some pe_int) po_none) pa_nil))))
 pss_nil)))))
 (pss_one (ps_ret (pe_listRev rfl B.list_ B.reversed_ (pv 1))))))), ?_⟩
    refine ⟨by decide, fun lo hlo => ?_⟩
    have s1 : Same H (upd H lo (.lst [])) := (Same.refl H).upd hlo
    have g1 : upd H lo (.lst []) lo = some (.lst (prefs [])) := upd_same
    generalize upd H lo (.lst []) = H1 at s1 g1
    refine ⟨_, rfl, len1, fun lw hlw => ?_⟩
    have s2 : Same H1 (upd H1 lw (.lst [V.ref a])) := (Same.refl H1).upd hlw
    have g2 : upd H1 lw (.lst [V.ref a]) lw = some (.lst (prefs [(a, s0)])) := upd_same
    have nlw : lo ≠ lw := ne_of_none g1 hlw
    generalize upd H1 lw (.lst [V.ref a]) = H2 at s2 g2
    have s02 := s1.trans s2
    have hlwH : H lw = none := s1.free hlw
    refine ⟨fun m σ Hx => ∃ (P W : List Pt) (v : Option V), m = (posts (W.map (·.2))).length ∧ σ = [some (.ref a), some (.ref lo), some (.ref lw), v] ∧ Same H Hx ∧ Hx lo = some (.lst (prefs P)) ∧ Hx lw = some (.lst (prefs W)) ∧ PsOk Hx P ∧ PsOk Hx W ∧ posts (W.map (·.2)) ++ (P.map (·.2)).reverse = post s0,
      ⟨_, [], [(a, s0)], none, rfl, rfl, s02, s2 _ _ g1, g2, (fun _ h => nomatch h), fun p hp => ?_, by simp [posts]⟩, ?_⟩
    · have : p = (a, s0) := by simpa using hp
      rw [this]; exact ha.same s02
    rintro m σ Hx ⟨Ps, W, v, rfl, rfl, sx, hxo, hxw, hOP, hOW, hpo⟩
    refine ⟨_, rfl, _, .inl ⟨_, SqL.of hxw, rfl⟩, ?_⟩
    have hlen : (posts (W.map (·.2))).length + Ps.length = (post s0).length := by rw [← hpo]; simp
    by_cases hW : W = []
    · subst hW
      refine iteF ?_
      refine ⟨_, rfl, lo, _, rfl, .inl (.inl hxo), fun l hl => ?_⟩
      have er : (prefs Ps).reverse = prefs Ps.reverse := by simp [prefs]
      rw [er]
      have s3 : Same Hx (upd Hx l (.lst (prefs Ps.reverse))) := (Same.refl Hx).upd hl
      refine q l Ps.reverse _ (sx.trans s3) (sx.free hl) upd_same (fun p hp => (hOP p (by simpa using hp)).same s3) ?_
      rw [List.map_reverse, ← hpo]; simp [posts]
    · obtain ⟨Wi, p, rfl⟩ : ∃ Wi p, W = Wi ++ [p] := ⟨_, _, (List.dropLast_concat_getLast hW).symm⟩
      have e1 : (!(prefs (Wi ++ [p])).isEmpty) = true := by simp [prefs]
      rw [e1]
      refine iteT ?_
      refine ⟨_, fun σ' H' h => h, ?_⟩
      have ew : prefs (Wi ++ [p]) = prefs Wi ++ [V.ref p.1] := by simp [prefs]
      rw [ew] at hxw
      refine ⟨_, rfl, .inl ⟨rfl, _, SqL.of hxw⟩, lw, _, .ref p.1, rfl, rfl, hxw, by simp, ?_⟩
      have edl : (prefs Wi ++ [V.ref p.1]).dropLast = prefs Wi := by simp
      dsimp only
      rw [edl]
      have tp : ∀ {b : Addr} {ys : List V} {Hy : Hp} {z : Addr} {o : HO}, Hy z = some (.lst ys) → ∀ a xs, Hy a = some (.tup xs) → upd Hy z o a = some (.tup xs) := fun {b ys Hy z o} hz a xs h => by rw [upd_ne (ne_of h hz (by intro q; cases q))]; exact h
      have s3 : Same H (upd Hx lw (.lst (prefs Wi))) := sx.upd hlwH
      have g3 : upd Hx lw (.lst (prefs Wi)) lw = some (.lst (prefs Wi)) := upd_same
      have h3o : upd Hx lw (.lst (prefs Wi)) lo = some (.lst (prefs Ps)) := by rw [upd_ne nlw]; exact hxo
      have hP3 : PsOk (upd Hx lw (.lst (prefs Wi))) Ps := hOP.tups (tp (b := lw) hxw)
      have hW3 : PsOk (upd Hx lw (.lst (prefs Wi))) (Wi ++ [p]) := hOW.tups (tp (b := lw) hxw)
      generalize upd Hx lw (.lst (prefs Wi)) = H3 at s3 g3 h3o hP3 hW3
      have hp3 : SAt H3 p.2 p.1 := hW3 p (by simp)
      refine ⟨_, rfl, .inl ⟨rfl, _, SqL.of h3o⟩, _, rfl, lo, _, _, rfl, rfl, h3o, small6 (by rw [prefs_len]; omega), ?_⟩
      have ep : prefs Ps ++ [V.ref p.1] = prefs (Ps ++ [p]) := by simp [prefs]
      dsimp only
      rw [ep]
      have s4 : Same H (upd H3 lo (.lst (prefs (Ps ++ [p])))) := s3.upd hlo
      have g4 : upd H3 lo (.lst (prefs (Ps ++ [p]))) lo = some (.lst (prefs (Ps ++ [p]))) := upd_same
      have h4w : upd H3 lo (.lst (prefs (Ps ++ [p]))) lw = some (.lst (prefs Wi)) := by rw [upd_ne nlw.symm]; exact g3
      have hP4 : PsOk (upd H3 lo (.lst (prefs (Ps ++ [p])))) (Ps ++ [p]) := fun r hr => by
        rcases List.mem_append.mp hr with z | z
        · exact (hP3 r z).mono (tp (b := lo) h3o)
        · have : r = p := by simpa using z
          rw [this]; exact hp3.mono (tp (b := lo) h3o)
      have hW4 : PsOk (upd H3 lo (.lst (prefs (Ps ++ [p])))) (Wi ++ [p]) := hW3.tups (tp (b := lo) h3o)
      generalize upd H3 lo (.lst (prefs (Ps ++ [p]))) = H4 at s4 g4 h4w hP4 hW4
      have hp4 : SAt H4 p.2 p.1 := hW4 p (by simp)
      have hWi : PsOk H4 Wi := fun r hr => hW4 r (List.mem_append_left _ hr)
      have emap : (Wi ++ [p]).map (·.2) = Wi.map (·.2) ++ [p.2] := by simp
      rw [emap, posts_snoc] at hpo hlen
      have erev : ((Ps ++ [p]).map (·.2)).reverse = p.2 :: (Ps.map (·.2)).reverse := by simp
      obtain ⟨pa, ps⟩ := p
      cases ps with
      | lamp k =>
        have hk : H4 pa = some (.tup [.str "lamp", .int k]) := hp4
        refine ⟨_, rfl, pa, _, _, _, rfl, rfl, SqT.of hk, rfl, rfl, _, rfl, iteF ?_⟩
        refine ⟨_, ?_, Ps ++ [(pa, .lamp k)], Wi, _, rfl, rfl, s4, g4, h4w, hP4, hWi, ?_⟩
        · rw [emap, posts_snoc]; simp [post]
        · rw [erev, ← hpo]; simp [post]
      | non s1 =>
        obtain ⟨b, hb, hs1⟩ := hp4
        refine ⟨_, rfl, pa, _, _, _, rfl, rfl, SqT.of hb, rfl, rfl, _, rfl, iteT ?_⟩
        refine ⟨_, rfl, .inl ⟨rfl, _, SqL.of h4w⟩, _, rfl, _, rfl, pa, _, rfl, SqT.of hb, ?_, fun p5 hp5 => ?_⟩
        · show ¬ (HT.sIx 2 0 (some 1) = 0 ∧ HT.sIx 2 2 none = 2)
          decide
        have ec : cutV [V.str "not", .ref b] (some 1) none = [.ref b] := rfl
        rw [ec]
        have s5 : Same H4 (upd H4 p5 (.tup [.ref b])) := (Same.refl H4).upd hp5
        have g5 : upd H4 p5 (.tup [.ref b]) p5 = some (.tup [.ref b]) := upd_same
        generalize upd H4 p5 (.tup [.ref b]) = H5 at s5 g5
        refine ⟨lw, p5, _, _, rfl, rfl, s5 _ _ h4w, .inr g5, small6' (by rw [prefs_len]; simp at hlen ⊢; have := post_pos s1; have h6 := posts_len Wi; omega), ?_⟩
        have ew5 : prefs Wi ++ [V.ref b] = prefs (Wi ++ [(b, s1)]) := by simp [prefs]
        dsimp only
        rw [ew5]
        have h5w := s5 _ _ h4w
        have k5 : ∀ a xs, H5 a = some (.tup xs) → upd H5 lw (.lst (prefs (Wi ++ [(b, s1)]))) a = some (.tup xs) := tp (b := lw) h5w
        have emap2 : (Wi ++ [(b, s1)]).map (·.2) = Wi.map (·.2) ++ [s1] := by simp
        refine ⟨_, ?_, Ps ++ [(pa, .non s1)], Wi ++ [(b, s1)], _, rfl, rfl, (s4.trans s5).upd hlwH, by rw [upd_ne nlw]; exact s5 _ _ g4, upd_same, (hP4.same s5).tups k5, fun r hr => ?_, ?_⟩
        · rw [emap, posts_snoc, emap2, posts_snoc]; simp [post]
        · rcases List.mem_append.mp hr with z | z
          · exact ((hWi r z).same s5).mono k5
          · have : r = (b, s1) := by simpa using z
            rw [this]; exact (hs1.same s5).mono k5
        · rw [erev, emap2, posts_snoc, ← hpo]; simp [post]
      | two wd s1 s2 =>
        obtain ⟨b, c, hb, hs1, hs2⟩ := hp4
        have hne : decide (¬ V.str wd.str = V.str "lamp") = true := by cases wd <;> rfl
        refine ⟨_, rfl, pa, _, _, _, rfl, rfl, SqT.of hb, rfl, rfl, _, rfl, ?_⟩
        refine ite2 (fun _ => ?_) (fun z => by cases wd <;> exact absurd rfl z)
        refine ⟨_, rfl, .inl ⟨rfl, _, SqL.of h4w⟩, _, rfl, _, rfl, pa, _, rfl, SqT.of hb, ?_, fun p5 hp5 => ?_⟩
        · show ¬ (HT.sIx 3 0 (some 1) = 0 ∧ HT.sIx 3 3 none = 3)
          decide
        have ec : cutV [V.str wd.str, .ref b, .ref c] (some 1) none = [.ref b, .ref c] := rfl
        rw [ec]
        have s5 : Same H4 (upd H4 p5 (.tup [.ref b, .ref c])) := (Same.refl H4).upd hp5
        have g5 : upd H4 p5 (.tup [.ref b, .ref c]) p5 = some (.tup [.ref b, .ref c]) := upd_same
        generalize upd H4 p5 (.tup [.ref b, .ref c]) = H5 at s5 g5
        refine ⟨lw, p5, _, _, rfl, rfl, s5 _ _ h4w, .inr g5, small6' (by rw [prefs_len]; simp at hlen ⊢; have := post_pos s1; have := post_pos s2; have h6 := posts_len Wi; omega), ?_⟩
        have ew5 : prefs Wi ++ [V.ref b, V.ref c] = prefs (Wi ++ [(b, s1), (c, s2)]) := by simp [prefs]
        dsimp only
        rw [ew5]
        have h5w := s5 _ _ h4w
        have k5 : ∀ a xs, H5 a = some (.tup xs) → upd H5 lw (.lst (prefs (Wi ++ [(b, s1), (c, s2)]))) a = some (.tup xs) := tp (b := lw) h5w
        have emap2 : posts ((Wi ++ [(b, s1), (c, s2)]).map (·.2)) = posts (Wi.map (·.2)) ++ post s1 ++ post s2 := by simp [posts]
        refine ⟨_, ?_, Ps ++ [(pa, .two wd s1 s2)], Wi ++ [(b, s1), (c, s2)], _, rfl, rfl, (s4.trans s5).upd hlwH, by rw [upd_ne nlw]; exact s5 _ _ g4, upd_same, (hP4.same s5).tups k5, fun r hr => ?_, ?_⟩
        · rw [emap, posts_snoc, emap2]; simp [post]
        · rcases List.mem_append.mp hr with z | z
          · exact ((hWi r z).same s5).mono k5
          · have : r = (b, s1) ∨ r = (c, s2) := by simpa using z
            rcases this with e | e
            · rw [e]; exact (hs1.same s5).mono k5
            · rw [e]; exact (hs2.same s5).mono k5
        · rw [erev, emap2, ← hpo]; simp [post]
end
theorem stepV_len {bs : List Bool} : ∀ {p : Stt} {st st' : List Bool} {v : Bool}, stepV bs p st = some (v, st') → st'.length ≤ st.length
  | .lamp k, st, st', v, h => by
    have e : st = st' := congrArg Prod.snd (Option.some.inj h)
    rw [e]; exact Nat.le_refl _
  | .non _, x :: st, st', v, h => by
    have e : st = st' := congrArg Prod.snd (Option.some.inj h)
    rw [← e]; simp
  | .two _ _ _, y :: x :: st, st', v, h => by
    have e : st = st' := congrArg Prod.snd (Option.some.inj h)
    rw [← e]; simp; omega
  | .non _, [], _, _, h => by cases h
  | .two _ _ _, [], _, _, h => by cases h
  | .two _ _ _, [_], _, _, h => by cases h
def spValueOf (K : PySem.W.Frag) : Sp := fun vs H Q _ => ∃ (p lv b : Addr) (t : Stt) (bs st st' : List Bool) (v : Bool), vs = [.ref p, .ref lv, .ref b] ∧ SAt H t p ∧ H lv = some (.lst (st.reverse.map V.bl)) ∧ SqL K H b (bs.map V.bl) ∧ okS bs.length t ∧ stepV bs t st = some (v, st') ∧
  ∀ H', (∀ z o, z ≠ lv → H z = some o → H' z = some o) → H' lv = some (.lst (st'.reverse.map V.bl)) → Q (.bl v) H'
def spTrueIn (K : PySem.W.Frag) : Sp := fun vs H Q _ => ∃ (a b : Addr) (s : Stt) (bs : List Bool), vs = [.ref a, .ref b] ∧ SAt H s a ∧ H b = some (.lst (bs.map V.bl)) ∧ okS bs.length s ∧ (post s).length ≤ 100000 ∧ ∀ H', Same H H' → Q (.bl (valS bs s)) H'
theorem okS_post {n : Nat} : ∀ {s : Stt}, okS n s → ∀ p ∈ post s, okS n p
  | .lamp k, h, p, hp => by
    have : p = .lamp k := by simpa [post] using hp
    rw [this]; exact h
  | .non s, h, p, hp => by
    rcases List.mem_append.mp hp with z | z
    · exact okS_post (s := s) h p z
    · have : p = .non s := by simpa using z
      rw [this]; exact h
  | .two w s t, h, p, hp => by
    rcases List.mem_append.mp hp with z | z
    · rcases List.mem_append.mp z with y | y
      · exact okS_post (s := s) h.1 p y
      · exact okS_post (s := t) h.2 p y
    · have : p = .two w s t := by simpa using z
      rw [this]; exact h
section
variable {P : Program} {w : World} {K : PySem.W.Frag} {mg : Str → Option Value} {base : Heap}
theorem ok_value_of (Df : Def K mg "value_of" s_value_of p_value_of) : Cal P w K mg base 1 "value_of" p_value_of (spValueOf K) := by
  refine Df.cal sc_value_of (fun vs H Q E h => ?_) (fun f cdv A outer s H vs Q E hr h => ?_)
  · obtain ⟨p, lv, b, t, bs, st, st', v, rfl, _⟩ := h; rfl
  · obtain ⟨p, lv, b, t, bs, st, st', v, rfl, ht, hv, hb, hok, hst, q⟩ := h
    refine ⟨_, (pss_cons (ps_if (pt_cmpR op_eq (pe_ix ix_tup (pv 0) pe_int (fun _ _ => rfl)) pe_str (nomark _))
 (pss_one (ps_ret (pe_ix ix_list (pv 2) (pe_op op_sub (pe_ix ix_tup (pv 0) pe_int (fun _ _ => rfl)) pe_int) (fun _ _ => rfl))))
 pss_nil)
 (pss_cons (ps_set (i := 3) sc_value_of.nd rfl (Or.inl rfl) (pe_bm0 PySem.F.plainAttrs_list PySem.F.slot_list_pop PySem.F.type_list_pop mt_pop (pv 1)))
 (pss_cons (ps_if (pt_cmpR op_eq (pe_ix ix_tup (pv 0) pe_int (fun _ _ => rfl)) pe_str (nomark _))
 (pss_one (ps_ret (pe_not (pv 3))))
 pss_nil)
 (pss_cons (ps_set (i := 4) sc_value_of.nd rfl (Or.inl rfl) (pe_bm0 PySem.F.plainAttrs_list PySem.F.slot_list_pop PySem.F.type_list_pop mt_pop (pv 1)))
 (pss_cons (ps_if (pt_cmpR op_eq (pe_ix ix_tup (pv 0) pe_int (fun _ _ => rfl)) pe_str (nomark _))
 (pss_one (ps_ret (pe_and (pv 4) (pe_one (pv 3)))))
 pss_nil)
 (pss_cons (ps_if (pt_cmpR op_eq (pe_ix ix_tup (pv 0) pe_int (fun _ _ => rfl)) pe_str (nomark _))
 (pss_one (ps_ret (pe_or (pv 4) (pe_one (pv 3)))))
 pss_nil)
 (pss_one (ps_ret (pe_cmpR op_eq (pv 4) (pv 3) (nomark _)))))))))), ?_⟩
    have tk : ∀ {Hy : Hp} {o : HO} {ys : List V}, Hy lv = some (.lst ys) → ∀ {a : Addr} {xs : List V}, Hy a = some (.tup xs) → upd Hy lv o a = some (.tup xs) := fun {Hy o ys} hl {a xs} h => by rw [upd_ne (ne_of h hl (by intro z; cases z))]; exact h
    cases t with
    | lamp k =>
      have hk : H p = some (.tup [.str "lamp", .int k]) := ht
      have e : bs.getD (k - 1) false = v ∧ st = st' := by
        have := Option.some.inj hst
        exact ⟨congrArg (·.1) this, congrArg (·.2) this⟩
      refine ⟨_, rfl, p, _, _, _, rfl, rfl, SqT.of hk, rfl, rfl, _, rfl, iteT ?_⟩
      have hat : atI (bs.map V.bl) ((k : Int) - 1) = some (.bl v) := by
        have e1 : (k : Int) - 1 = ((k - 1 : Nat) : Int) := by have := hok.1; omega
        rw [e1]
        refine atI_nat ?_
        have h2 : k - 1 < bs.length := by have := hok.1; have := hok.2; omega
        rw [← e.1]; simp [h2]
      refine ⟨_, rfl, _, rfl, p, _, _, _, rfl, rfl, SqT.of hk, rfl, _, _, rfl, rfl, b, _, _, _, rfl, rfl, hb, hat, ?_⟩
      exact q H (fun _ _ _ h => h) (by rw [← e.2]; exact hv)
    | non s1 =>
      obtain ⟨c, hc, _⟩ := ht
      cases st with
      | nil => cases hst
      | cons x st =>
        have e : (!x) = v ∧ st = st' := by
          have := Option.some.inj hst
          exact ⟨congrArg (·.1) this, congrArg (·.2) this⟩
        refine ⟨_, rfl, p, _, _, _, rfl, rfl, SqT.of hc, rfl, rfl, _, rfl, iteF ?_⟩
        have ev : ((x :: st).reverse.map V.bl) = st.reverse.map V.bl ++ [V.bl x] := by simp
        rw [ev] at hv
        refine ⟨_, rfl, .inl ⟨rfl, _, SqL.of hv⟩, lv, _, .bl x, rfl, rfl, hv, by simp, ?_⟩
        have ed : (st.reverse.map V.bl ++ [V.bl x]).dropLast = st.reverse.map V.bl := by simp
        dsimp only
        rw [ed]
        have hc1 := tk (o := .lst (st.reverse.map V.bl)) hv hc
        refine ⟨_, rfl, p, _, _, _, rfl, rfl, SqT.of hc1, rfl, rfl, _, rfl, iteT ?_⟩
        refine ⟨_, rfl, _, rfl, ?_⟩
        rw [e.1]
        exact q _ (fun z o n h => by rw [upd_ne n]; exact h) (by rw [upd_same, e.2])
    | two wd s1 s2 =>
      obtain ⟨c, d, hc, _, _⟩ := ht
      cases st with
      | nil => cases hst
      | cons y st =>
        cases st with
        | nil => cases hst
        | cons x st =>
          have e : opW wd x y = v ∧ st = st' := by
            have := Option.some.inj hst
            exact ⟨congrArg (·.1) this, congrArg (·.2) this⟩
          have nl : ¬ V.str wd.str = V.str "lamp" := by cases wd <;> (intro z; revert z; decide +kernel)
          have nn : ¬ V.str wd.str = V.str "not" := by cases wd <;> (intro z; revert z; decide +kernel)
          refine ⟨_, rfl, p, _, _, _, rfl, rfl, SqT.of hc, rfl, rfl, _, rfl, ite2 (fun z => absurd (of_decide_eq_true z) nl) (fun _ => ?_)⟩
          have ev : ((y :: x :: st).reverse.map V.bl) = (x :: st).reverse.map V.bl ++ [V.bl y] := by simp
          rw [ev] at hv
          refine ⟨_, rfl, .inl ⟨rfl, _, SqL.of hv⟩, lv, _, .bl y, rfl, rfl, hv, by simp, ?_⟩
          have ed : ((x :: st).reverse.map V.bl ++ [V.bl y]).dropLast = st.reverse.map V.bl ++ [V.bl x] := by simp
          dsimp only
          rw [ed]
          have hc1 := tk (o := .lst (st.reverse.map V.bl ++ [V.bl x])) hv hc
          have hv1 : upd H lv (.lst (st.reverse.map V.bl ++ [V.bl x])) lv = some (.lst (st.reverse.map V.bl ++ [V.bl x])) := upd_same
          have k1 : ∀ z o, z ≠ lv → H z = some o → upd H lv (.lst (st.reverse.map V.bl ++ [V.bl x])) z = some o := fun z o n h => by rw [upd_ne n]; exact h
          generalize upd H lv (.lst (st.reverse.map V.bl ++ [V.bl x])) = H1 at hc1 hv1 k1
          refine ⟨_, rfl, p, _, _, _, rfl, rfl, SqT.of hc1, rfl, rfl, _, rfl, ite2 (fun z => absurd (of_decide_eq_true z) nn) (fun _ => ?_)⟩
          refine ⟨_, rfl, .inl ⟨rfl, _, SqL.of hv1⟩, lv, _, .bl x, rfl, rfl, hv1, by simp, ?_⟩
          have ed2 : (st.reverse.map V.bl ++ [V.bl x]).dropLast = st.reverse.map V.bl := by simp
          dsimp only
          rw [ed2]
          have hc2 := tk (o := .lst (st.reverse.map V.bl)) hv1 hc1
          have fin : Q (.bl v) (upd H1 lv (.lst (st.reverse.map V.bl))) := q _ (fun z o n h => by rw [upd_ne n]; exact k1 z o n h) (by rw [upd_same, e.2])
          cases wd with
          | and =>
            refine ⟨_, rfl, p, _, _, _, rfl, rfl, SqT.of hc2, rfl, rfl, _, rfl, iteT ?_⟩
            refine ⟨_, rfl, _, rfl, ?_⟩
            cases x with
            | true =>
              refine iteT ⟨_, rfl, ?_⟩
              have : v = y := by rw [← e.1]; rfl
              rw [← this]; exact fin
            | false =>
              refine iteF ?_
              have : v = false := by rw [← e.1]; rfl
              rw [← this]; exact fin
          | or =>
            refine ⟨_, rfl, p, _, _, _, rfl, rfl, SqT.of hc2, rfl, rfl, _, rfl, iteF ?_⟩
            refine ⟨_, rfl, p, _, _, _, rfl, rfl, SqT.of hc2, rfl, rfl, _, rfl, iteT ?_⟩
            refine ⟨_, rfl, _, rfl, ?_⟩
            cases x with
            | true =>
              refine iteT ?_
              have : v = true := by rw [← e.1]; rfl
              rw [← this]; exact fin
            | false =>
              refine iteF ⟨_, rfl, ?_⟩
              have : v = y := by rw [← e.1]; rfl
              rw [← this]; exact fin
          | same =>
            refine ⟨_, rfl, p, _, _, _, rfl, rfl, SqT.of hc2, rfl, rfl, _, rfl, iteF ?_⟩
            refine ⟨_, rfl, p, _, _, _, rfl, rfl, SqT.of hc2, rfl, rfl, _, rfl, iteF ?_⟩
            refine ⟨_, rfl, _, rfl, rfl, ?_⟩
            have : decide (V.bl x = V.bl y) = v := by rw [← e.1]; cases x <;> cases y <;> rfl
            rw [this]; exact fin
theorem ok_true_in (B : Blt mg) (c_inner_first : Cal P w K mg base 1 "inner_first" p_inner_first (spInner K)) (c_value_of : Cal P w K mg base 1 "value_of" p_value_of (spValueOf K)) (Df : Def K mg "true_in" s_true_in p_true_in) : Cal P w K mg base 2 "true_in" p_true_in (spTrueIn K) := by
  refine Df.cal sc_true_in (fun vs H Q E h => ?_) (fun f cdv A outer s H vs Q E hr h => ?_)
  · obtain ⟨a, b, s, bs, rfl, _⟩ := h; rfl
  · obtain ⟨a, b, s0, bs, rfl, ha, hb, hok, hz, q⟩ := h
    refine ⟨_, (pss_cons (ps_set (i := 2) sc_true_in.nd rfl (Or.inl rfl) (pe_lst pa_nil))
 (pss_cons (ps_for PassesOwn.never rfl (pi_list (pe_def c_inner_first hr (by decide) (pa_cons (pv 0) pa_nil))) (pg_name (i := 3) sc_true_in.nd rfl (Or.inl rfl))
 (pss_one (ps_expr (pe_bm PySem.F.plainAttrs_list PySem.F.slot_list_append PySem.F.type_list_append mt_append (pv 2) (pa_cons (pe_def c_value_of hr (by decide) (pa_cons (pv 3) (pa_cons (pv 2) (pa_cons (pv 1) pa_nil)))) pa_nil)))))
 (pss_one (ps_ret (pe_ix ix_list (pv 2) pe_int (fun _ _ => rfl)))))), ?_⟩
    refine ⟨by decide, fun lv hlv => ?_⟩
    have s1 : Same H (upd H lv (.lst [])) := (Same.refl H).upd hlv
    have g1 : upd H lv (.lst []) lv = some (.lst (([] : List Bool).reverse.map V.bl)) := upd_same
    generalize upd H lv (.lst []) = H1 at s1 g1
    refine ⟨_, rfl, a, s0, rfl, ha.same s1, hz, fun l ps H2 s2 hl h2 hO2 hps => ⟨l, rfl, ⟨_, SqL.of h2⟩, ?_⟩⟩
    have s02 := s1.trans s2
    have nlv : l ≠ lv := fun e => by rw [e, g1] at hl; cases hl
    have nb : b ≠ lv := ne_of_none hb hlv
    have hrun := runV_post bs s0 [] []
    rw [List.append_nil] at hrun
    refine for_listK (K := K) (a := l) (xs := prefs ps) (fun i σ Hx => ∃ (st : List Bool) (v : Option V), σ = [some (.ref a), some (.ref b), some (.ref lv), v] ∧ Same H Hx ∧ Hx l = some (.lst (prefs ps)) ∧ PsOk Hx ps ∧ Hx lv = some (.lst (st.reverse.map V.bl)) ∧ runV bs ((post s0).take i) [] = some st ∧ st.length ≤ i)
      ⟨[], none, rfl, s02, h2, hO2, s2 _ _ g1, rfl, Nat.le_refl _⟩ (fun i σ Hx _ ⟨_, _, _, _, e, _⟩ => SqL.of e) ?_ ?_
    · rintro i y σ Hx N B' hi ⟨st, v, rfl, sx, hxl, hOx, hxv, hr1, hlen⟩ hN
      obtain ⟨p, hpi, rfl⟩ := getV (f := fun p : Pt => V.ref p.1) hi
      have hpm := List.mem_of_getElem? hpi
      have hpo : (post s0)[i]? = some p.2 := by rw [← hps, List.getElem?_map, hpi]; rfl
      have hil : i < (post s0).length := (List.getElem?_eq_some_iff.mp hpo).1
      have etk : (post s0).take (i + 1) = (post s0).take i ++ [p.2] := by rw [List.take_add_one, hpo]; rfl
      have hall : runV bs (post s0) [] = some [valS bs s0] := hrun
      have hsplit : post s0 = (post s0).take i ++ (p.2 :: (post s0).drop (i + 1)) := by
        have h1 := List.take_append_drop (i + 1) (post s0)
        rw [etk, List.append_assoc] at h1
        exact h1.symm
      rw [hsplit, runV_app, hr1] at hall
      have hstep : ∃ v st', stepV bs p.2 st = some (v, st') := by
        have h2 : (match stepV bs p.2 st with
          | some (v, st') => runV bs ((post s0).drop (i + 1)) (v :: st')
          | none => none) = some [valS bs s0] := hall
        cases h3 : stepV bs p.2 st with
        | none => rw [h3] at h2; cases h2
        | some q' => exact ⟨q'.1, q'.2, rfl⟩
      obtain ⟨v', st', hst⟩ := hstep
      have hst'l : st'.length ≤ st.length := by
        exact stepV_len hst
      refine ⟨_, rfl, .inl ⟨rfl, _, SqL.of hxv⟩, _, rfl, _, rfl, _, rfl, p.1, lv, b, p.2, bs, st, st', v', rfl, hOx p hpm, hxv, SqL.of (sx _ _ hb), okS_post hok p.2 (List.mem_of_getElem? hpo), hst, fun H3 k3 h3v => ?_⟩
      have hxv' : ∃ o, Hx lv = some o := ⟨_, hxv⟩
      have s3 : Same H H3 := fun z o h => k3 z o (ne_of_none h hlv) (sx _ _ h)
      have hl3 := k3 l _ nlv hxl
      have hO3 : PsOk H3 ps := hOx.tups fun a xs h => k3 a _ (ne_of h hxv (by intro z; cases z)) h
      refine ⟨lv, _, _, rfl, rfl, h3v, small6 (by simp; omega), ?_⟩
      refine hN _ _ ⟨v' :: st', _, rfl, s3.upd hlv, by rw [upd_ne nlv]; exact hl3, hO3.tups fun a xs h => by rw [upd_ne (ne_of h h3v (by intro z; cases z))]; exact h, by rw [upd_same]; simp, ?_, by simp; omega⟩
      rw [etk, runV_app, hr1]
      show (match stepV bs p.2 st with
        | some (v, st') => runV bs [] (v :: st')
        | none => none) = _
      rw [hst]; rfl
    · rintro σ Hx ⟨st, v, rfl, sx, hxl, hOx, hxv, hr1, _⟩
      have e1 : (post s0).take (prefs ps).length = post s0 := by
        have : (prefs ps).length = (post s0).length := by rw [← hps]; simp [prefs]
        rw [this, List.take_length]
      rw [e1, hrun] at hr1
      have e2 : st = [valS bs s0] := (Option.some.inj hr1).symm
      rw [e2] at hxv
      exact ⟨_, rfl, lv, _, _, _, rfl, rfl, SqL.of hxv, rfl, q _ sx⟩
end
theorem WsOk.new {H : Hp} {ws : List Wr} {p : Addr} {v : List Int} {xs : List V} (e : xs = v.map V.int) (hO : WsOk H ws) (hp : H p = none) : WsOk (upd H p (.lst xs)) (ws ++ [(p, v)]) := fun r hr => by
  rcases List.mem_append.mp hr with z | z
  · rw [upd_ne (ne_of_none (hO r z) hp)]; exact hO r z
  · have : r = (p, v) := by simpa using z
    rw [this, upd_same, e]
def spWishesOf : Sp := fun vs H Q _ => ∃ (wd : Wd) (own one two : Int), vs = [.str wd.str, .int own, .int one, .int two] ∧ ∀ (l : Addr) (ws : List Wr) (H' : Hp), Same H H' → H l = none → H' l = some (.lst (wrefs ws)) → WsOk H' ws → (∀ r ∈ ws, H r.1 = none) → wl ws = wishW wd own one two → Q (.ref l) H'
structure Laid (H H' : Hp) (ws : List Wr) : Prop where
  sm : Same H H'
  ok : WsOk H' ws
  nw : ∀ r ∈ ws, H r.1 = none
theorem Laid.new {H H' : Hp} {ws : List Wr} (h : Laid H H' ws) {p : Addr} {v : List Int} {xs : List V} (e : xs = v.map V.int) (hp : H' p = none) : Laid H (upd H' p (.lst xs)) (ws ++ [(p, v)]) :=
  ⟨h.sm.trans ((Same.refl H').upd hp), h.ok.new e hp, fun r hr => by
    rcases List.mem_append.mp hr with z | z
    · exact h.nw r z
    · have : r = (p, v) := by simpa using z
      rw [this]; exact h.sm.free hp⟩
theorem Laid.zero (H : Hp) : Laid H H [] := ⟨Same.refl H, (fun _ h => nomatch h), (fun _ h => nomatch h)⟩
theorem len3 : (3 : Nat) ≤ sizeLine := by decide
theorem len4 : (4 : Nat) ≤ sizeLine := by decide
section
variable {P : Program} {w : World} {K : PySem.W.Frag} {mg : Str → Option Value} {base : Heap}
theorem ok_wishes_of (Df : Def K mg "wishes_of" s_wishes_of p_wishes_of) : Cal P w K mg base 1 "wishes_of" p_wishes_of spWishesOf := by
  refine Df.cal sc_wishes_of (fun vs H Q E h => ?_) (fun f cdv A outer s H vs Q E hr h => ?_)
  · obtain ⟨wd, own, one, two, rfl, _⟩ := h; rfl
  · obtain ⟨wd, own, one, two, rfl, q⟩ := h
    refine ⟨_, (pss_cons (ps_if (pt_cmpR op_eq (pv 0) pe_str (nomark _))
 (pss_one (ps_ret (pe_lst (pa_cons (pe_lst (pa_cons (pe_un un_neg (pv 1)) (pa_cons (pv 2) pa_nil))) (pa_cons (pe_lst (pa_cons (pe_un un_neg (pv 1)) (pa_cons (pv 3) pa_nil))) (pa_cons (pe_lst (pa_cons (pv 1) (pa_cons (pe_un un_neg (pv 2)) (pa_cons (pe_un un_neg (pv 3)) pa_nil)))) pa_nil))))))
 pss_nil)
 (pss_cons (ps_if (pt_cmpR op_eq (pv 0) pe_str (nomark _))
 (pss_one (ps_ret (pe_lst (pa_cons (pe_lst (pa_cons (pv 1) (pa_cons (pe_un un_neg (pv 2)) pa_nil))) (pa_cons (pe_lst (pa_cons (pv 1) (pa_cons (pe_un un_neg (pv 3)) pa_nil))) (pa_cons (pe_lst (pa_cons (pe_un un_neg (pv 1)) (pa_cons (pv 2) (pa_cons (pv 3) pa_nil)))) pa_nil))))))
 pss_nil)
 (pss_one (ps_ret (pe_lst (pa_cons (pe_lst (pa_cons (pe_un un_neg (pv 1)) (pa_cons (pe_un un_neg (pv 2)) (pa_cons (pv 3) pa_nil)))) (pa_cons (pe_lst (pa_cons (pe_un un_neg (pv 1)) (pa_cons (pv 2) (pa_cons (pe_un un_neg (pv 3)) pa_nil)))) (pa_cons (pe_lst (pa_cons (pv 1) (pa_cons (pv 2) (pa_cons (pv 3) pa_nil)))) (pa_cons (pe_lst (pa_cons (pv 1) (pa_cons (pe_un un_neg (pv 2)) (pa_cons (pe_un un_neg (pv 3)) pa_nil)))) pa_nil))))))))), ?_⟩
    have fin : ∀ {Hx : Hp} {ws : List Wr} {l : Addr} {xs : List V}, Laid H Hx ws → Hx l = none → xs = wrefs ws → wl ws = wishW wd own one two → Q (.ref l) (upd Hx l (.lst xs)) := fun {Hx ws l xs} h hl e ew => by
      have s1 : Same Hx (upd Hx l (.lst xs)) := (Same.refl Hx).upd hl
      exact q l ws _ (h.sm.trans s1) (h.sm.free hl) (by rw [upd_same, e]) (h.ok.mono s1) h.nw ew
    cases wd with
    | and =>
      refine ⟨_, rfl, rfl, _, rfl, iteT ?_⟩
      refine ⟨_, rfl, _, rfl, _, rfl, len2, fun p1 h1 => ?_⟩
      have L1 := (Laid.zero H).new (v := [-own, one]) rfl h1
      refine ⟨_, rfl, _, rfl, _, rfl, len2, fun p2 h2 => ?_⟩
      have L2 := L1.new (v := [-own, two]) rfl h2
      refine ⟨_, rfl, _, rfl, _, rfl, _, rfl, _, rfl, len3, fun p3 h3 => ?_⟩
      have L3 := L2.new (v := [own, -one, -two]) rfl h3
      exact ⟨len3, fun l hl => fin L3 hl rfl rfl⟩
    | or =>
      refine ⟨_, rfl, rfl, _, rfl, iteF ?_⟩
      refine ⟨_, rfl, rfl, _, rfl, iteT ?_⟩
      refine ⟨_, rfl, _, rfl, _, rfl, len2, fun p1 h1 => ?_⟩
      have L1 := (Laid.zero H).new (v := [own, -one]) rfl h1
      refine ⟨_, rfl, _, rfl, _, rfl, len2, fun p2 h2 => ?_⟩
      have L2 := L1.new (v := [own, -two]) rfl h2
      refine ⟨_, rfl, _, rfl, _, rfl, _, rfl, len3, fun p3 h3 => ?_⟩
      have L3 := L2.new (v := [-own, one, two]) rfl h3
      exact ⟨len3, fun l hl => fin L3 hl rfl rfl⟩
    | same =>
      refine ⟨_, rfl, rfl, _, rfl, iteF ?_⟩
      refine ⟨_, rfl, rfl, _, rfl, iteF ?_⟩
      refine ⟨_, rfl, _, rfl, _, rfl, _, rfl, _, rfl, len3, fun p1 h1 => ?_⟩
      have L1 := (Laid.zero H).new (v := [-own, -one, two]) rfl h1
      refine ⟨_, rfl, _, rfl, _, rfl, _, rfl, _, rfl, len3, fun p2 h2 => ?_⟩
      have L2 := L1.new (v := [-own, one, -two]) rfl h2
      refine ⟨_, rfl, _, rfl, _, rfl, len3, fun p3 h3 => ?_⟩
      have L3 := L2.new (v := [own, one, two]) rfl h3
      refine ⟨_, rfl, _, rfl, _, rfl, _, rfl, _, rfl, len3, fun p4 h4 => ?_⟩
      have L4 := L3.new (v := [own, -one, -two]) rfl h4
      exact ⟨len4, fun l hl => fin L4 hl rfl rfl⟩
structure ShI (c : Nat) (s0 : Stt) (i : Nat) (x : Sh) (ws : List Wr) (lw ll : Addr) (H Hx : Hp) : Prop where
  sm : Same H Hx
  hw : Hx lw = some (.lst (wrefs ws))
  hl : Hx ll = some (.lst (x.st.reverse.map V.int))
  ok : WsOk Hx ws
  nw : ∀ r ∈ ws, r.1 ≠ lw ∧ r.1 ≠ ll
  ew : wl ws = x.W
  run : runL ((post s0).take i) ⟨[], [], c⟩ = some x
  sl : x.st.length ≤ i
  wn : ws.length ≤ 4 * i
  pn : x.p ≤ c + i
theorem run_step {s0 : Stt} {c i : Nat} {x : Sh} {p : Stt} (hr : runL ((post s0).take i) ⟨[], [], c⟩ = some x) (hp : (post s0)[i]? = some p) : ∃ x', stepL p x = some x' ∧ runL ((post s0).take (i + 1)) ⟨[], [], c⟩ = some x' := by
  have etk : (post s0).take (i + 1) = (post s0).take i ++ [p] := by rw [List.take_add_one, hp]; rfl
  have hsplit : post s0 = (post s0).take i ++ (p :: (post s0).drop (i + 1)) := by
    have h1 := List.take_append_drop (i + 1) (post s0)
    rw [etk, List.append_assoc] at h1
    exact h1.symm
  have hall := runL_post s0 [] ⟨[], [], c⟩
  rw [List.append_nil, hsplit, runL_app, hr] at hall
  cases h3 : stepL p x with
  | none =>
    have h2 : (stepL p x).bind (runL ((post s0).drop (i + 1))) = some _ := hall
    rw [h3] at h2; cases h2
  | some x' =>
    refine ⟨x', rfl, ?_⟩
    rw [etk, runL_app, hr]
    show (stepL p x).bind (runL []) = _
    rw [h3]; rfl
def spSheetOf (K : PySem.W.Frag) : Sp := fun vs H Q _ => ∃ (c : Nat) (a : Addr) (s : Stt), vs = [.int c, .ref a] ∧ SAt H s a ∧ (post s).length ≤ 10000 ∧ c ≤ 1000 ∧
  ∀ (t lw ll : Addr) (ws : List Wr) (H' : Hp), Same H H' → H t = none → H' t = some (.tup [.int (enc s c).2.2, .ref lw]) → H' lw = some (.lst (wrefs (ws ++ [(ll, [(enc s c).1])]))) → WsOk H' (ws ++ [(ll, [(enc s c).1])]) → wl ws = (enc s c).2.1 → (∀ r ∈ ws ++ [(ll, [(enc s c).1])], r.1 ≠ lw) → H lw = none → ws.length ≤ 4 * (post s).length → Q (.ref t) H'
theorem ok_sheet_of (B : Blt mg) (c_inner_first : Cal P w K mg base 1 "inner_first" p_inner_first (spInner K)) (c_wishes_of : Cal P w K mg base 1 "wishes_of" p_wishes_of spWishesOf) (Df : Def K mg "sheet_of" s_sheet_of p_sheet_of) : Cal P w K mg base 2 "sheet_of" p_sheet_of (spSheetOf K) := by
  refine Df.cal sc_sheet_of (fun vs H Q E h => ?_) (fun f cdv A outer s H vs Q E hr h => ?_)
  · obtain ⟨c, a, s, rfl, _⟩ := h; rfl
  · obtain ⟨c, a, s0, rfl, ha, hz, hc, q⟩ := h
    refine ⟨_, (pss_cons (ps_set (i := 2) sc_sheet_of.nd rfl (Or.inl rfl) (pv 0))
 (pss_cons (ps_set (i := 3) sc_sheet_of.nd rfl (Or.inl rfl) (pe_lst pa_nil))
 (pss_cons (ps_set (i := 4) sc_sheet_of.nd rfl (Or.inl rfl) (pe_lst pa_nil))
 (pss_cons (ps_for PassesOwn.never rfl (pi_list (pe_def c_inner_first hr (by decide) (pa_cons (pv 1) pa_nil))) (pg_name (i := 5) sc_sheet_of.nd rfl (Or.inl rfl))
 (pss_one (ps_if (pt_cmpR op_eq (pe_ix ix_tup (pv 5) pe_int (fun _ _ => rfl)) pe_str (nomark _))
 (pss_one (ps_expr (pe_bm PySem.F.plainAttrs_list PySem.F.slot_list_append PySem.F.type_list_append mt_append (pv 4) (pa_cons (pe_ix ix_tup (pv 5) pe_int (fun _ _ => rfl)) pa_nil))))
 (pss_one (ps_if (pt_cmpR op_eq (pe_ix ix_tup (pv 5) pe_int (fun _ _ => rfl)) pe_str (nomark _))
 (pss_one (ps_expr (pe_bm PySem.F.plainAttrs_list PySem.F.slot_list_append PySem.F.type_list_append mt_append (pv 4) (pa_cons (pe_un un_neg (pe_bm0 PySem.F.plainAttrs_list PySem.F.slot_list_pop PySem.F.type_list_pop mt_pop (pv 4))) pa_nil))))
 (pss_cons (ps_set (i := 6) sc_sheet_of.nd rfl (Or.inl rfl) (pe_bm0 PySem.F.plainAttrs_list PySem.F.slot_list_pop PySem.F.type_list_pop mt_pop (pv 4)))
 (pss_cons (ps_set (i := 7) sc_sheet_of.nd rfl (Or.inl rfl) (pe_bm0 PySem.F.plainAttrs_list PySem.F.slot_list_pop PySem.F.type_list_pop mt_pop (pv 4)))
 (pss_cons (ps_aug (i := 2) sc_sheet_of.nd rfl (Or.inl rfl) pe_int ip_add)
 (pss_cons (ps_expr (pe_bm PySem.F.plainAttrs_list PySem.F.slot_list_extend PySem.F.type_list_extend mt_extendLT (pv 3) (pa_cons (pe_def c_wishes_of hr (by decide) (pa_cons (pe_ix ix_tup (pv 5) pe_int (fun _ _ => rfl)) (pa_cons (pv 2) (pa_cons (pv 7) (pa_cons (pv 6) pa_nil))))) pa_nil)))
 (pss_one (ps_expr (pe_bm PySem.F.plainAttrs_list PySem.F.slot_list_append PySem.F.type_list_append mt_append (pv 4) (pa_cons (pv 2) pa_nil)))))))))))))
 (pss_cons (ps_expr (pe_bm PySem.F.plainAttrs_list PySem.F.slot_list_append PySem.F.type_list_append mt_append (pv 3) (pa_cons (pv 4) pa_nil)))
 (pss_one (ps_ret (pe_tup (pa_cons (pv 2) (pa_cons (pv 3) pa_nil)))))))))), ?_⟩
    refine ⟨_, rfl, by decide, fun lw hlw => ?_⟩
    have s1 : Same H (upd H lw (.lst [])) := (Same.refl H).upd hlw
    have g1 : upd H lw (.lst []) lw = some (.lst (wrefs [])) := upd_same
    generalize upd H lw (.lst []) = H1 at s1 g1
    refine ⟨by decide, fun ll hll => ?_⟩
    have s2 : Same H1 (upd H1 ll (.lst [])) := (Same.refl H1).upd hll
    have g2 : upd H1 ll (.lst []) ll = some (.lst (([] : List Int).reverse.map V.int)) := upd_same
    have nwl : lw ≠ ll := ne_of_none g1 hll
    generalize upd H1 ll (.lst []) = H2 at s2 g2
    have s02 := s1.trans s2
    have hllH : H ll = none := s1.free hll
    refine ⟨_, rfl, a, s0, rfl, ha.same s02, by omega, fun l ps H3 s3 hl h3 hO3 hps => ⟨l, rfl, ⟨_, SqL.of h3⟩, ?_⟩⟩
    have nlw : l ≠ lw := fun e => by rw [e, s2 _ _ g1] at hl; cases hl
    have nll : l ≠ ll := fun e => by rw [e, g2] at hl; cases hl
    have el : (prefs ps).length = (post s0).length := by rw [← hps]; simp [prefs]
    refine for_listK (K := K) (a := l) (xs := prefs ps) (fun i σ Hx => ∃ (x : Sh) (ws : List Wr) (v5 v6 v7 : Option V), σ = [some (.int c), some (.ref a), some (.int x.p), some (.ref lw), some (.ref ll), v5, v6, v7] ∧ Hx l = some (.lst (prefs ps)) ∧ PsOk Hx ps ∧ ShI c s0 i x ws lw ll H Hx)
      ⟨⟨[], [], c⟩, [], none, none, none, rfl, h3, hO3, s02.trans s3, s3 _ _ (s2 _ _ g1), s3 _ _ g2, (fun _ h => nomatch h), (fun _ h => nomatch h), rfl, rfl, Nat.le_refl _, Nat.zero_le _, Nat.le_refl _⟩ (fun i σ Hx _ ⟨_, _, _, _, _, _, e, _⟩ => SqL.of e) ?_ ?_
    · rintro i y σ Hx N B' hi ⟨x, ws, v5, v6, v7, rfl, hxl, hOx, hI⟩ hN
      obtain ⟨p, hpi, rfl⟩ := getV (f := fun p : Pt => V.ref p.1) hi
      have hpm := List.mem_of_getElem? hpi
      have hpo : (post s0)[i]? = some p.2 := by rw [← hps, List.getElem?_map, hpi]; rfl
      have hil : i < (post s0).length := (List.getElem?_eq_some_iff.mp hpo).1
      obtain ⟨x', hst, hrun⟩ := run_step hI.run hpo
      have hp := hOx p hpm
      obtain ⟨x_st, x_W, x_p⟩ := x
      have hsl : x_st.length ≤ i := hI.sl
      have hpn : x_p ≤ c + i := hI.pn
      have hxll : Hx ll = some (.lst (x_st.reverse.map V.int)) := hI.hl
      have tupL : ∀ {Hy : Hp} {o : HO} {z : Addr} {ys : List V}, Hy z = some (.lst ys) → ∀ a xs, Hy a = some (.tup xs) → upd Hy z o a = some (.tup xs) := fun {Hy o z ys} hl a xs h => by rw [upd_ne (ne_of h hl (by intro q; cases q))]; exact h
      have letters : ∀ {st' : List Int} {Hy : Hp}, (∀ z o, z ≠ ll → Hx z = some o → Hy z = some o) → Hy ll = some (.lst (st'.reverse.map V.int)) → x' = ⟨st', x_W, x_p⟩ → st'.length ≤ i + 1 → ∀ v5, N [some (.int c), some (.ref a), some (.int x_p), some (.ref lw), some (.ref ll), v5, v6, v7] Hy := fun {st' Hy} k1 k2 e hl' v5 => by
        subst e
        exact hN _ _ ⟨⟨st', x_W, x_p⟩, ws, v5, v6, v7, rfl, k1 _ _ nll hxl, hOx.tups fun a xs h => k1 _ _ (ne_of h hxll (by intro q; cases q)) h, fun b o h => k1 _ _ (ne_of_none h hllH) (hI.sm _ _ h), k1 _ _ nwl hI.hw, k2, fun r hr => k1 _ _ (hI.nw r hr).2 (hI.ok r hr), hI.nw, hI.ew, hrun, hl', by have := hI.wn; omega, by show x_p ≤ c + (i + 1); omega⟩
      obtain ⟨pa, pt⟩ := p
      cases pt with
      | lamp k =>
        have hk : Hx pa = some (.tup [.str "lamp", .int k]) := hp
        refine ⟨_, rfl, pa, _, _, _, rfl, rfl, SqT.of hk, rfl, rfl, _, rfl, iteT ?_⟩
        refine ⟨_, rfl, .inl ⟨rfl, _, SqL.of hxll⟩, _, rfl, pa, _, _, _, rfl, rfl, SqT.of hk, rfl, ll, _, _, rfl, rfl, hxll, small6 (by simp; omega), ?_⟩
        exact letters (st' := (k : Int) :: x_st) (fun z o n h => by rw [upd_ne n]; exact h) (by rw [upd_same]; simp) (Option.some.inj hst).symm (by simp; omega) _
      | non s1 =>
        obtain ⟨b, hb, _⟩ := hp
        cases x_st with
        | nil => cases hst
        | cons l0 st =>
          have er : ((l0 :: st).reverse.map V.int) = st.reverse.map V.int ++ [V.int l0] := by simp
          rw [er] at hxll
          refine ⟨_, rfl, pa, _, _, _, rfl, rfl, SqT.of hb, rfl, rfl, _, rfl, iteF ?_⟩
          refine ⟨_, rfl, pa, _, _, _, rfl, rfl, SqT.of hb, rfl, rfl, _, rfl, iteT ?_⟩
          refine ⟨_, rfl, .inl ⟨rfl, _, SqL.of hxll⟩, _, rfl, .inl ⟨rfl, _, SqL.of hxll⟩, ll, _, .int l0, rfl, rfl, hxll, by simp, _, rfl, ?_⟩
          have ed : (st.reverse.map V.int ++ [V.int l0]).dropLast = st.reverse.map V.int := by simp
          dsimp only
          rw [ed]
          refine ⟨ll, _, _, rfl, rfl, upd_same, small6 (by simp at hsl ⊢; omega), ?_⟩
          exact letters (st' := -l0 :: st) (fun z o n h => by rw [upd_ne n, upd_ne n]; exact h) (by rw [upd_same]; simp) (Option.some.inj hst).symm (by simp at hsl ⊢; omega) _
      | two wd s1 s2 =>
        obtain ⟨b, d, hb, _, _⟩ := hp
        have nl : ¬ V.str wd.str = V.str "lamp" := by cases wd <;> (intro z; revert z; decide +kernel)
        have nn : ¬ V.str wd.str = V.str "not" := by cases wd <;> (intro z; revert z; decide +kernel)
        cases x_st with
        | nil => cases hst
        | cons y0 st =>
          cases st with
          | nil => cases hst
          | cons x0 st =>
            have ex' : x' = ⟨((x_p + 1 : Nat) : Int) :: st, x_W ++ wishW wd ((x_p + 1 : Nat) : Int) x0 y0, x_p + 1⟩ := (Option.some.inj hst).symm
            have er : ((y0 :: x0 :: st).reverse.map V.int) = (x0 :: st).reverse.map V.int ++ [V.int y0] := by simp
            rw [er] at hxll
            refine ⟨_, rfl, pa, _, _, _, rfl, rfl, SqT.of hb, rfl, rfl, _, rfl, ite2 (fun z => absurd (of_decide_eq_true z) nl) (fun _ => ?_)⟩
            refine ⟨_, rfl, pa, _, _, _, rfl, rfl, SqT.of hb, rfl, rfl, _, rfl, ite2 (fun z => absurd (of_decide_eq_true z) nn) (fun _ => ?_)⟩
            refine ⟨_, rfl, .inl ⟨rfl, _, SqL.of hxll⟩, ll, _, .int y0, rfl, rfl, hxll, by simp, ?_⟩
            have ed : ((x0 :: st).reverse.map V.int ++ [V.int y0]).dropLast = st.reverse.map V.int ++ [V.int x0] := by simp
            dsimp only
            rw [ed]
            have k4 : ∀ z o, z ≠ ll → Hx z = some o → upd Hx ll (.lst (st.reverse.map V.int ++ [V.int x0])) z = some o := fun z o n h => by rw [upd_ne n]; exact h
            have g4 : upd Hx ll (.lst (st.reverse.map V.int ++ [V.int x0])) ll = some (.lst (st.reverse.map V.int ++ [V.int x0])) := upd_same
            generalize upd Hx ll (.lst (st.reverse.map V.int ++ [V.int x0])) = H4 at k4 g4
            refine ⟨_, rfl, .inl ⟨rfl, _, SqL.of g4⟩, ll, _, .int x0, rfl, rfl, g4, by simp, ?_⟩
            have ed2 : (st.reverse.map V.int ++ [V.int x0]).dropLast = st.reverse.map V.int := by simp
            dsimp only
            rw [ed2]
            have k5 : ∀ z o, z ≠ ll → Hx z = some o → upd H4 ll (.lst (st.reverse.map V.int)) z = some o := fun z o n h => by rw [upd_ne n]; exact k4 z o n h
            have g5 : upd H4 ll (.lst (st.reverse.map V.int)) ll = some (.lst (st.reverse.map V.int)) := upd_same
            generalize upd H4 ll (.lst (st.reverse.map V.int)) = H5 at k5 g5
            refine ⟨_, rfl, _, _, rfl, rfl, ?_⟩
            have elp : ((x_p : Int) + 1) = ((x_p + 1 : Nat) : Int) := by omega
            dsimp only
            rw [elp]
            have h5w := k5 _ _ nwl hI.hw
            have hb5 := k5 pa _ (ne_of hb hxll (by intro q; cases q)) hb
            refine ⟨_, rfl, .inl ⟨rfl, _, SqL.of h5w⟩, _, rfl, pa, _, _, _, rfl, rfl, SqT.of hb5, rfl, _, rfl, _, rfl, _, rfl, wd, ((x_p + 1 : Nat) : Int), x0, y0, rfl, fun l6 us H6 s6 hl6 h6 hO6 hn6 ewu => ?_⟩
            have h6w := s6 _ _ h5w
            have hul : us.length ≤ 4 := by
              have : us.length = (wishW wd ((x_p + 1 : Nat) : Int) x0 y0).length := by rw [← ewu, wl_len]
              rw [this]; cases wd <;> simp [wishW]
            have hwn := hI.wn
            refine ⟨lw, l6, _, _, rfl, rfl, h6w, .inl h6, small6' (by rw [wrefs_len, wrefs_len]; omega), ?_⟩
            have ewr : wrefs ws ++ wrefs us = wrefs (ws ++ us) := by simp [wrefs]
            dsimp only
            rw [ewr]
            have k7 : ∀ z o, z ≠ ll → z ≠ lw → Hx z = some o → upd H6 lw (.lst (wrefs (ws ++ us))) z = some o := fun z o n n2 h => by rw [upd_ne n2]; exact s6 _ _ (k5 z o n h)
            have g7 : upd H6 lw (.lst (wrefs (ws ++ us))) lw = some (.lst (wrefs (ws ++ us))) := upd_same
            have h7l : upd H6 lw (.lst (wrefs (ws ++ us))) ll = some (.lst (st.reverse.map V.int)) := by rw [upd_ne nwl.symm]; exact s6 _ _ g5
            have hO7 : WsOk (upd H6 lw (.lst (wrefs (ws ++ us)))) us := fun r hr => by
              have : r.1 ≠ lw := fun e => by have := hn6 r hr; rw [e, h5w] at this; cases this
              rw [upd_ne this]; exact hO6 r hr
            generalize upd H6 lw (.lst (wrefs (ws ++ us))) = H7 at k7 g7 h7l hO7
            refine ⟨_, rfl, .inl ⟨rfl, _, SqL.of h7l⟩, _, rfl, ll, _, _, rfl, rfl, h7l, small6 (by simp at hsl ⊢; omega), ?_⟩
            have el8 : st.reverse.map V.int ++ [V.int ((x_p + 1 : Nat) : Int)] = (((x_p + 1 : Nat) : Int) :: st).reverse.map V.int := by simp
            dsimp only
            rw [el8]
            subst ex'
            have nus : ∀ r ∈ us, r.1 ≠ lw ∧ r.1 ≠ ll := fun r hr => ⟨(fun e => by have := hn6 r hr; rw [e, h5w] at this; cases this), (fun e => by have := hn6 r hr; rw [e, g5] at this; cases this)⟩
            refine hN _ _ ⟨_, ws ++ us, _, _, _, rfl, by rw [upd_ne nll]; exact k7 _ _ nll nlw hxl, hOx.tups fun a xs h => ?_, fun b o h => ?_, by rw [upd_ne nwl]; exact g7, upd_same, fun r hr => ?_, fun r hr => ?_, ?_, hrun, by simp at hsl ⊢; omega, by simp; omega, by show x_p + 1 ≤ c + (i + 1); omega⟩
            · have n1 : a ≠ ll := ne_of h hxll (by intro q; cases q)
              rw [upd_ne n1]
              exact k7 _ _ n1 (ne_of h hI.hw (by intro q; cases q)) h
            · have n1 : b ≠ ll := ne_of_none h hllH
              rw [upd_ne n1]
              exact k7 _ _ n1 (ne_of_none h hlw) (hI.sm _ _ h)
            · rcases List.mem_append.mp hr with z | z
              · rw [upd_ne (hI.nw r z).2]; exact k7 _ _ (hI.nw r z).2 (hI.nw r z).1 (hI.ok r z)
              · rw [upd_ne (nus r z).2]; exact hO7 r z
            · rcases List.mem_append.mp hr with z | z
              · exact hI.nw r z
              · exact nus r z
            · have e1 : wl (ws ++ us) = wl ws ++ wl us := by simp [wl]
              rw [e1, hI.ew, ewu]
    · rintro σ Hx ⟨x, ws, v5, v6, v7, rfl, hxl, hOx, hI⟩
      have hrun := hI.run
      rw [el, List.take_length] at hrun
      have hall := runL_post s0 [] ⟨[], [], c⟩
      rw [List.append_nil, hrun] at hall
      have ex : x = ⟨[(enc s0 c).1], (enc s0 c).2.1, (enc s0 c).2.2⟩ := Option.some.inj hall
      subst ex
      have hwn := hI.wn
      rw [el] at hwn
      refine ⟨_, rfl, .inl ⟨rfl, _, SqL.of hI.hw⟩, _, rfl, lw, _, _, rfl, rfl, hI.hw, small6 (by rw [wrefs_len]; omega), ?_⟩
      have ewr : wrefs ws ++ [V.ref ll] = wrefs (ws ++ [(ll, [(enc s0 c).1])]) := by simp [wrefs]
      dsimp only
      rw [ewr]
      have hll2 : upd Hx lw (.lst (wrefs (ws ++ [(ll, [(enc s0 c).1])]))) ll = some (.lst ([(enc s0 c).1].map V.int)) := by rw [upd_ne nwl.symm]; exact hI.hl
      refine ⟨_, rfl, _, rfl, len2, fun t ht => ?_⟩
      have sA : Same H (upd Hx lw (.lst (wrefs (ws ++ [(ll, [(enc s0 c).1])])))) := hI.sm.upd hlw
      have gA : upd Hx lw (.lst (wrefs (ws ++ [(ll, [(enc s0 c).1])]))) lw = some (.lst (wrefs (ws ++ [(ll, [(enc s0 c).1])]))) := upd_same
      have hOA : WsOk (upd Hx lw (.lst (wrefs (ws ++ [(ll, [(enc s0 c).1])])))) (ws ++ [(ll, [(enc s0 c).1])]) := fun r hr => by
        rcases List.mem_append.mp hr with z | z
        · rw [upd_ne (hI.nw r z).1]; exact hI.ok r z
        · have : r = (ll, [(enc s0 c).1]) := by simpa using z
          rw [this]; exact hll2
      generalize upd Hx lw (.lst (wrefs (ws ++ [(ll, [(enc s0 c).1])]))) = HA at sA gA hOA ht
      have sB : Same HA (upd HA t (.tup [.int ((enc s0 c).2.2 : Nat), .ref lw])) := (Same.refl HA).upd ht
      refine q t lw ll ws _ (sA.trans sB) (sA.free ht) upd_same (sB _ _ gA) (hOA.mono sB) hI.ew (fun r hr => ?_) hlw hwn
      rcases List.mem_append.mp hr with z | z
      · exact (hI.nw r z).1
      · have : r = (ll, [(enc s0 c).1]) := by simpa using z
        rw [this]; exact nwl.symm
end
def spPair : Sp := fun vs H Q _ => ∃ (wd : Wd) (p q a b : Addr) (x y : Bool), vs = [.str wd.str, .ref p, .ref q] ∧ H p = some (.tup [.ref a, .bl x]) ∧ H q = some (.tup [.ref b, .bl y]) ∧ ∀ (r t : Addr) (H' : Hp), Same H H' → H r = none → H t = none → H' r = some (.tup [.ref t, .bl (opW wd x y)]) → H' t = some (.tup [.str wd.str, .ref a, .ref b]) → Q (.ref r) H'
section
variable {P : Program} {w : World} {K : PySem.W.Frag} {mg : Str → Option Value} {base : Heap}
theorem ok_l_pair (Df : Def K mg "_law_pair" s_l_pair p_l_pair) : Cal P w K mg base 1 "_law_pair" p_l_pair spPair := by
  refine Df.cal sc_l_pair (fun vs H Q E h => ?_) (fun f cdv A outer s H vs Q E hr h => ?_)
  · obtain ⟨wd, p, q, a, b, x, y, rfl, _⟩ := h; rfl
  · obtain ⟨wd, p, q, a, b, x, y, rfl, hp, hq, k⟩ := h
    obtain ⟨u3, hu3, key3⟩ : ∃ u, PSs (cxOf CX0 P w K mg base n_l_pair "_law_pair" (defScope s_l_pair) f cdv A outer s H E).nox ((defBody s_l_pair).drop 3) u ∧
        ∀ v, v = opW wd x y → u { nx := fun _ H' => Q .non H', rt := Q } [some (.str wd.str), some (.ref p), some (.ref q), some (.bl v)] H := by
      refine ⟨_, (pss_one (ps_ret (pe_tup (pa_cons (pe_tup (pa_cons (pv 0) (pa_cons (pe_ix ix_tup (pv 1) pe_int (fun _ _ => rfl)) (pa_cons (pe_ix ix_tup (pv 2) pe_int (fun _ _ => rfl)) pa_nil)))) (pa_cons (pv 3) pa_nil))))), fun v hv => ?_⟩
      refine ⟨_, rfl, _, rfl, p, _, _, _, rfl, rfl, SqT.of hp, rfl, _, rfl, q, _, _, _, rfl, rfl, SqT.of hq, rfl, (by show 3 ≤ sizeLine; decide), fun t ht => ?_⟩
      have s1 : Same H (upd H t (.tup [.str wd.str, .ref a, .ref b])) := (Same.refl H).upd ht
      have g1 : upd H t (.tup [.str wd.str, .ref a, .ref b]) t = some (.tup [.str wd.str, .ref a, .ref b]) := upd_same
      generalize upd H t (.tup [.str wd.str, .ref a, .ref b]) = H1 at s1 g1
      refine ⟨_, rfl, len2, fun r hr => ?_⟩
      have s2 : Same H1 (upd H1 r (.tup [.ref t, .bl v])) := (Same.refl H1).upd hr
      exact k r t _ (s1.trans s2) (s1.free hr) ht (by rw [upd_same, hv]) (s2 _ _ g1)
    refine ⟨_, (pss_cons (ps_set (i := 3) sc_l_pair.nd rfl (Or.inl rfl) (pe_cmpR op_eq (pe_ix ix_tup (pv 1) pe_int (fun _ _ => rfl)) (pe_ix ix_tup (pv 2) pe_int (fun _ _ => rfl)) (nomark _)))
 (pss_cons (ps_if (pt_cmpR op_eq (pv 0) pe_str (nomark _))
 (pss_one (ps_set (i := 3) sc_l_pair.nd rfl (Or.inl rfl) (pe_and (pe_ix ix_tup (pv 1) pe_int (fun _ _ => rfl)) (pe_one (pe_ix ix_tup (pv 2) pe_int (fun _ _ => rfl))))))
 pss_nil)
 (pss_cons (ps_if (pt_cmpR op_eq (pv 0) pe_str (nomark _))
 (pss_one (ps_set (i := 3) sc_l_pair.nd rfl (Or.inl rfl) (pe_or (pe_ix ix_tup (pv 1) pe_int (fun _ _ => rfl)) (pe_one (pe_ix ix_tup (pv 2) pe_int (fun _ _ => rfl))))))
 pss_nil)
 hu3))), ?_⟩
    refine ⟨_, rfl, p, _, _, _, rfl, rfl, SqT.of hp, rfl, _, rfl, q, _, _, _, rfl, rfl, SqT.of hq, rfl, rfl, ?_⟩
    cases wd with
    | and =>
      refine ⟨_, rfl, rfl, _, rfl, iteT ?_⟩
      refine ⟨_, rfl, p, _, _, _, rfl, rfl, SqT.of hp, rfl, _, rfl, ?_⟩
      cases x with
      | true =>
        refine iteT ⟨_, rfl, q, _, _, _, rfl, rfl, SqT.of hq, rfl, ?_⟩
        exact ⟨_, rfl, rfl, _, rfl, iteF (key3 y rfl)⟩
      | false =>
        refine iteF ?_
        exact ⟨_, rfl, rfl, _, rfl, iteF (key3 false rfl)⟩
    | or =>
      refine ⟨_, rfl, rfl, _, rfl, iteF ?_⟩
      refine ⟨_, rfl, rfl, _, rfl, iteT ?_⟩
      refine ⟨_, rfl, p, _, _, _, rfl, rfl, SqT.of hp, rfl, _, rfl, ?_⟩
      cases x with
      | true => exact iteT (key3 true rfl)
      | false => exact iteF ⟨_, rfl, q, _, _, _, rfl, rfl, SqT.of hq, rfl, key3 y rfl⟩
    | same =>
      refine ⟨_, rfl, rfl, _, rfl, iteF ?_⟩
      refine ⟨_, rfl, rfl, _, rfl, iteF ?_⟩
      exact key3 _ (by cases x <;> cases y <;> rfl)
end
def btS (b : List Bool) : Stt → List Bool
  | .lamp _ => []
  | .non s => btS b s
  | .two w s t => btS b s ++ btS b t ++ [opW w (valS b s) (valS b t)]
abbrev Rw := Addr × Addr × Stt
def rwrefs (rs : List Rw) : List V := rs.map fun r => V.ref r.1
def RwOk (bs : List Bool) (H : Hp) (rs : List Rw) : Prop := ∀ r ∈ rs, H r.1 = some (.tup [.ref r.2.1, .bl (valS bs r.2.2)]) ∧ SAt H r.2.2 r.2.1 ∧ okS bs.length r.2.2
theorem RwOk.tups {bs : List Bool} {H H' : Hp} {rs : List Rw} (h : RwOk bs H rs) (e : ∀ a xs, H a = some (.tup xs) → H' a = some (.tup xs)) : RwOk bs H' rs := fun r hr => ⟨e _ _ (h r hr).1, (h r hr).2.1.mono e, (h r hr).2.2⟩
theorem RwOk.same {bs : List Bool} {H H' : Hp} {rs : List Rw} (h : RwOk bs H rs) (e : Same H H') : RwOk bs H' rs := h.tups fun _ _ q => e _ _ q
theorem RwOk.app {bs : List Bool} {H : Hp} {rs : List Rw} {r : Rw} (h : RwOk bs H rs) (h1 : H r.1 = some (.tup [.ref r.2.1, .bl (valS bs r.2.2)])) (h2 : SAt H r.2.2 r.2.1) (h3 : okS bs.length r.2.2) : RwOk bs H (rs ++ [r]) := fun x hx => by
  rcases List.mem_append.mp hx with z | z
  · exact h x z
  · have : x = r := by simpa using z
    rw [this]; exact ⟨h1, h2, h3⟩
def rnodes (rs : List Rw) : Nat := (rs.map fun r => (post r.2.2).length).sum
def rtruths (bs : List Bool) (rs : List Rw) : List Bool := rs.flatMap fun r => btS bs r.2.2
theorem rwrefs_len (rs : List Rw) : (rwrefs rs).length = rs.length := by simp [rwrefs]
theorem rnodes_len : ∀ rs : List Rw, rs.length ≤ rnodes rs
  | [] => Nat.zero_le _
  | r :: rs => by
    have h1 := rnodes_len rs
    have h2 := post_pos r.2.2
    simp [rnodes] at h1 ⊢; omega
theorem rnodes_app (rs ts : List Rw) : rnodes (rs ++ ts) = rnodes rs + rnodes ts := by simp [rnodes]
theorem btS_len (bs : List Bool) : ∀ s : Stt, (btS bs s).length < (post s).length
  | .lamp _ => by simp [btS, post]
  | .non s => by have := btS_len bs s; simp [btS, post]; omega
  | .two _ s t => by have h1 := btS_len bs s; have h2 := btS_len bs t; simp [btS, post]; omega
theorem rtruths_len (bs : List Bool) : ∀ rs : List Rw, (rtruths bs rs).length ≤ rnodes rs
  | [] => Nat.zero_le _
  | r :: rs => by
    have h1 := rtruths_len bs rs
    have h2 := btS_len bs r.2.2
    simp [rtruths, rnodes] at h1 ⊢; omega
theorem rtruths_app (bs : List Bool) (rs ts : List Rw) : rtruths bs (rs ++ ts) = rtruths bs rs ++ rtruths bs ts := by simp [rtruths]
structure StI (bs : List Bool) (lr lt : Addr) (rs : List Rw) (H Hx : Hp) : Prop where
  sm : Same H Hx
  hr : Hx lr = some (.lst (rwrefs rs))
  ht : Hx lt = some (.lst ((rtruths bs rs).map V.bl))
  ok : RwOk bs Hx rs
def spStated (K : PySem.W.Frag) : Sp := fun vs H Q _ => ∃ (a b : Addr) (cells : List Int) (bs : List Bool), vs = [.ref a, .ref b] ∧ H a = some (.lst (cells.map V.int)) ∧ H b = some (.lst (bs.map V.bl)) ∧ 0 < bs.length ∧ bs.length ≤ 1000 ∧ cells.length ≤ 1000 ∧
  ∀ (t a' l : Addr) (s : Stt) (H' : Hp), Same H H' → H t = none → H' t = some (.tup [.ref a', .bl (valS bs s), .ref l]) → SAt H' s a' → okS bs.length s → H' l = some (.lst ((btS bs s).map V.bl)) → (post s).length ≤ 2 * cells.length + 1 → Q (.ref t) H'
section
variable {P : Program} {w : World} {K : PySem.W.Frag} {mg : Str → Option Value} {base : Heap}
theorem ok_l_stated (B : Blt mg) (c_l_pair : Cal P w K mg base 1 "_law_pair" p_l_pair spPair) (Df : Def K mg "_law_stated" s_l_stated p_l_stated) : Cal P w K mg base 2 "_law_stated" p_l_stated (spStated K) := by
  refine Df.cal sc_l_stated (fun vs H Q E h => ?_) (fun f cdv A outer s H vs Q E hr h => ?_)
  · obtain ⟨a, b, cells, bs, rfl, _⟩ := h; rfl
  · obtain ⟨a, b, cells, bs, rfl, ha, hb, hb0, hbz, hz, q⟩ := h
    have tupL : ∀ {Hy : Hp} {o : HO} {z : Addr} {ys : List V}, Hy z = some (.lst ys) → ∀ a xs, Hy a = some (.tup xs) → upd Hy z o a = some (.tup xs) := fun {Hy o z ys} hl a xs h => by rw [upd_ne (ne_of h hl (by intro q; cases q))]; exact h
    have join : ∀ {rs : List Rw} {r1 r2 : Rw} {wd : Wd} {r t : Addr}, valS bs (.two wd r1.2.2 r2.2.2) = opW wd (valS bs r1.2.2) (valS bs r2.2.2) ∧ rtruths bs (rs ++ [(r, t, .two wd r1.2.2 r2.2.2)]) = rtruths bs (rs ++ [r1, r2]) ++ [valS bs (.two wd r1.2.2 r2.2.2)] ∧ rnodes (rs ++ [(r, t, .two wd r1.2.2 r2.2.2)]) = rnodes (rs ++ [r1, r2]) + 1 := fun {rs r1 r2 wd r t} =>
      ⟨rfl, by simp [rtruths, btS, valS], by simp [rnodes, post]; omega⟩
    obtain ⟨u4, hu4, key4⟩ : ∃ u, PSs (cxOf CX0 P w K mg base n_l_stated "_law_stated" (defScope s_l_stated) f cdv A outer s H E).nox ((defBody s_l_stated).drop 4) u ∧
        ∀ (lr lt : Addr), H lr = none → H lt = none → lr ≠ lt → ∀ (rs : List Rw) (Hx : Hp) (v4 v5 v6 v7 v8 : Option V), StI bs lr lt rs H Hx → rs ≠ [] → rnodes rs + rs.length ≤ 2 * cells.length + 2 → u { nx := fun _ H' => Q .non H', rt := Q } [some (.ref a), some (.ref b), some (.ref lr), some (.ref lt), v4, v5, v6, v7, v8] Hx := by
      refine ⟨_, (pss_cons (ps_while PassesOwn.never (pt_cmpR op_gt (pe_callB call_len_seq (by rfl) B.len_ PySem.boot_len (pa_cons (pv 2) pa_nil)) pe_int (nomark _))
 (pss_cons (ps_set (i := 6) sc_l_stated.nd rfl (Or.inl rfl) (pe_bm0 PySem.F.plainAttrs_list PySem.F.slot_list_pop PySem.F.type_list_pop mt_pop (pv 2)))
 (pss_cons (ps_expr (pe_bm PySem.F.plainAttrs_list PySem.F.slot_list_append PySem.F.type_list_append mt_append (pv 2) (pa_cons (pe_def c_l_pair hr (by decide) (pa_cons (pe_ix ix_list (pe_lst (pa_cons pe_str (pa_cons pe_str (pa_cons pe_str pa_nil)))) (pe_op op_mod (pe_callB call_len_seq (by rfl) B.len_ PySem.boot_len (pa_cons (pv 2) pa_nil)) pe_int) (fun _ _ => rfl)) (pa_cons (pe_bm0 PySem.F.plainAttrs_list PySem.F.slot_list_pop PySem.F.type_list_pop mt_pop (pv 2)) (pa_cons (pv 6) pa_nil)))) pa_nil)))
 (pss_one (ps_expr (pe_bm PySem.F.plainAttrs_list PySem.F.slot_list_append PySem.F.type_list_append mt_append (pv 3) (pa_cons (pe_ix ix_tup (pe_ix ix_list (pv 2) (pe_un un_neg pe_int) (fun _ _ => rfl)) pe_int (fun _ _ => rfl)) pa_nil)))))))
 (pss_one (ps_ret (pe_tup (pa_cons (pe_ix ix_tup (pe_ix ix_list (pv 2) pe_int (fun _ _ => rfl)) pe_int (fun _ _ => rfl)) (pa_cons (pe_ix ix_tup (pe_ix ix_list (pv 2) pe_int (fun _ _ => rfl)) pe_int (fun _ _ => rfl)) (pa_cons (pv 3) pa_nil))))))), fun lr lt hlr hltH nrt rs0 Hx0 v4 v5 v60 v7 v8 hI0 hne0 hn0 => ?_⟩
      refine rd_seq (while_K (fun m σ Hx => ∃ (rs : List Rw) (v6 : Option V), m = rs.length ∧ σ = [some (.ref a), some (.ref b), some (.ref lr), some (.ref lt), v4, v5, v6, v7, v8] ∧ StI bs lr lt rs H Hx ∧ rs ≠ [] ∧ rnodes rs + rs.length ≤ 2 * cells.length + 2) ⟨_, rs0, v60, rfl, rfl, hI0, hne0, hn0⟩ ?_)
      rintro m σ Hx ⟨rs, v6, rfl, rfl, hI, hne, hn⟩ Y X hY hX
      refine ⟨_, rfl, lr, _, rfl, .inl (SqL.of hI.hr), _, _, rfl, rfl, _, rfl, ?_⟩
      have erl := rwrefs_len rs
      have hrn := rnodes_len rs
      refine ite2 (fun c1 => ?_) (fun c1 => ?_)
      · have h2 : 2 ≤ rs.length := by have := of_decide_eq_true c1; omega
        obtain ⟨ri, r2, e1⟩ : ∃ ri r2, rs = ri ++ [r2] := ⟨_, _, (List.dropLast_concat_getLast hne).symm⟩
        have hne2 : ri ≠ [] := fun z => by rw [e1, z] at h2; simp at h2
        obtain ⟨rj, r1, e2⟩ : ∃ rj r1, ri = rj ++ [r1] := ⟨_, _, (List.dropLast_concat_getLast hne2).symm⟩
        subst e2
        subst e1
        have eapp : rj ++ [r1] ++ [r2] = rj ++ [r1, r2] := by simp
        refine ⟨Y, fun _ _ h => h, ?_⟩
        have er : rwrefs (rj ++ [r1] ++ [r2]) = rwrefs (rj ++ [r1]) ++ [V.ref r2.1] := by simp [rwrefs]
        have hxr := hI.hr
        rw [er] at hxr
        refine ⟨_, rfl, .inl ⟨rfl, _, SqL.of hxr⟩, lr, _, .ref r2.1, rfl, rfl, hxr, by simp, ?_⟩
        have ed : (rwrefs (rj ++ [r1]) ++ [V.ref r2.1]).dropLast = rwrefs rj ++ [V.ref r1.1] := by simp [rwrefs]
        dsimp only
        rw [ed]
        have k3 := tupL (o := .lst (rwrefs rj ++ [V.ref r1.1])) hxr
        have g3 : upd Hx lr (.lst (rwrefs rj ++ [V.ref r1.1])) lr = some (.lst (rwrefs rj ++ [V.ref r1.1])) := upd_same
        have s3 : Same H (upd Hx lr (.lst (rwrefs rj ++ [V.ref r1.1]))) := hI.sm.upd hlr
        have h3t : upd Hx lr (.lst (rwrefs rj ++ [V.ref r1.1])) lt = some (.lst ((rtruths bs (rj ++ [r1] ++ [r2])).map V.bl)) := by rw [upd_ne nrt.symm]; exact hI.ht
        have hO3 := hI.ok.tups k3
        generalize upd Hx lr (.lst (rwrefs rj ++ [V.ref r1.1])) = H3 at g3 s3 h3t hO3
        refine ⟨_, rfl, .inl ⟨rfl, _, SqL.of g3⟩, (by show 3 ≤ sizeLine; decide), fun pl hpl => ?_⟩
        have s4 : Same H3 (upd H3 pl (.lst [V.str "same", V.str "and", V.str "or"])) := (Same.refl H3).upd hpl
        have g4 : upd H3 pl (.lst [V.str "same", V.str "and", V.str "or"]) pl = some (.lst [V.str "same", V.str "and", V.str "or"]) := upd_same
        generalize upd H3 pl (.lst [V.str "same", V.str "and", V.str "or"]) = H4 at s4 g4
        obtain ⟨wd, hwd⟩ : ∃ wd : Wd, atI [V.str "same", V.str "and", V.str "or"] ((((rwrefs rj ++ [V.ref r1.1]).length : Nat) : Int) % 3) = some (.str wd.str) := by
          generalize (((rwrefs rj ++ [V.ref r1.1]).length : Nat) : Int) = z
          have : z % 3 = 0 ∨ z % 3 = 1 ∨ z % 3 = 2 := by omega
          rcases this with e | e | e
          · rw [e]; exact ⟨.same, rfl⟩
          · rw [e]; exact ⟨.and, rfl⟩
          · rw [e]; exact ⟨.or, rfl⟩
        have g3' := s4 _ _ g3
        refine ⟨_, rfl, lr, _, rfl, .inl (SqL.of g3'), _, _, rfl, rfl, (by show (0 : Int) < 3; decide), pl, _, _, _, rfl, rfl, SqL.of g4, hwd, ?_⟩
        refine ⟨_, rfl, .inl ⟨rfl, _, SqL.of g3'⟩, lr, _, .ref r1.1, rfl, rfl, g3', by simp, ?_⟩
        have ed2 : (rwrefs rj ++ [V.ref r1.1]).dropLast = rwrefs rj := by simp
        dsimp only
        rw [ed2]
        have k5 := tupL (o := .lst (rwrefs rj)) g3'
        have g5 : upd H4 lr (.lst (rwrefs rj)) lr = some (.lst (rwrefs rj)) := upd_same
        have s5 : Same H (upd H4 lr (.lst (rwrefs rj))) := (s3.trans s4).upd hlr
        have h5t : upd H4 lr (.lst (rwrefs rj)) lt = some (.lst ((rtruths bs (rj ++ [r1] ++ [r2])).map V.bl)) := by rw [upd_ne nrt.symm]; exact s4 _ _ h3t
        have hO5 := (hO3.same s4).tups k5
        generalize upd H4 lr (.lst (rwrefs rj)) = H5 at g5 s5 h5t hO5
        have o1 := hO5 r1 (by simp)
        have o2 := hO5 r2 (by simp)
        refine ⟨_, rfl, wd, r1.1, r2.1, r1.2.1, r2.2.1, _, _, rfl, o1.1, o2.1, fun r t H6 s6 hr6 ht6 h6r h6t => ?_⟩
        have g6 := s6 _ _ g5
        obtain ⟨j1, j2, j3⟩ := join (rs := rj) (r1 := r1) (r2 := r2) (wd := wd) (r := r) (t := t)
        rw [← eapp] at j2 j3
        refine ⟨lr, _, _, rfl, rfl, g6, small6 (by rw [rwrefs_len]; simp at hrn hn ⊢; omega), ?_⟩
        have erw : rwrefs rj ++ [V.ref r] = rwrefs (rj ++ [(r, t, .two wd r1.2.2 r2.2.2)]) := by simp [rwrefs]
        dsimp only
        rw [erw]
        have hOj : RwOk bs H6 rj := fun z hz => hO5.same s6 z (by simp [hz])
        have hOn : RwOk bs H6 (rj ++ [(r, t, .two wd r1.2.2 r2.2.2)]) := hOj.app h6r ⟨_, _, h6t, o1.2.1.same s6, o2.2.1.same s6⟩ ⟨o1.2.2, o2.2.2⟩
        have k7 := tupL (o := .lst (rwrefs (rj ++ [(r, t, .two wd r1.2.2 r2.2.2)]))) g6
        have g7 : upd H6 lr (.lst (rwrefs (rj ++ [(r, t, .two wd r1.2.2 r2.2.2)]))) lr = some (.lst (rwrefs (rj ++ [(r, t, .two wd r1.2.2 r2.2.2)]))) := upd_same
        have s7 : Same H (upd H6 lr (.lst (rwrefs (rj ++ [(r, t, .two wd r1.2.2 r2.2.2)])))) := (s5.trans s6).upd hlr
        have h7t : upd H6 lr (.lst (rwrefs (rj ++ [(r, t, .two wd r1.2.2 r2.2.2)]))) lt = some (.lst ((rtruths bs (rj ++ [r1] ++ [r2])).map V.bl)) := by rw [upd_ne nrt.symm]; exact s6 _ _ h5t
        have hO7 := hOn.tups k7
        generalize upd H6 lr (.lst (rwrefs (rj ++ [(r, t, .two wd r1.2.2 r2.2.2)]))) = H7 at g7 s7 h7t hO7
        have hat : atI (rwrefs (rj ++ [(r, t, .two wd r1.2.2 r2.2.2)])) (-1) = some (.ref r) := by rw [← erw]; exact atI_last _ _
        have o7 := (hO7 (r, t, .two wd r1.2.2 r2.2.2) (by simp)).1
        have htl : (rtruths bs (rj ++ [r1] ++ [r2])).length ≤ rnodes (rj ++ [r1] ++ [r2]) := rtruths_len _ _
        refine ⟨_, rfl, .inl ⟨rfl, _, SqL.of h7t⟩, _, rfl, 1, rfl, lr, _, _, _, rfl, rfl, SqL.of g7, hat, r, _, _, _, rfl, rfl, SqT.of o7, rfl, lt, _, _, rfl, rfl, h7t, small6 (by rw [List.length_map]; omega), ?_⟩
        have ett : (rtruths bs (rj ++ [r1] ++ [r2])).map V.bl ++ [V.bl (valS bs (.two wd r1.2.2 r2.2.2))] = (rtruths bs (rj ++ [(r, t, .two wd r1.2.2 r2.2.2)])).map V.bl := by rw [j2]; simp
        dsimp only
        rw [ett]
        refine hY _ _ ⟨rj.length + 1, by simp, rj ++ [(r, t, .two wd r1.2.2 r2.2.2)], _, by simp, rfl, ⟨s7.upd hltH, by rw [upd_ne nrt]; exact g7, upd_same, hO7.tups (tupL h7t)⟩, by simp, ?_⟩
        rw [j3]; simp at hn ⊢; omega
      · have h1 : rs.length = 1 := by
          have : ¬ 1 < ((rwrefs rs).length : Int) := fun z => c1 (decide_eq_true z)
          have := List.length_pos_iff.mpr hne
          omega
        obtain ⟨r1, e1⟩ := List.length_eq_one_iff.mp h1
        subst e1
        refine hX _ _ ?_
        have o1 := hI.ok r1 (by simp)
        have hg : atI (rwrefs [r1]) 0 = some (.ref r1.1) := rfl
        refine ⟨_, rfl, lr, _, _, _, rfl, rfl, SqL.of hI.hr, hg, r1.1, _, _, _, rfl, rfl, SqT.of o1.1, rfl, _, rfl, lr, _, _, _, rfl, rfl, SqL.of hI.hr, hg, r1.1, _, _, _, rfl, rfl, SqT.of o1.1, rfl, _, rfl, (by show 3 ≤ sizeLine; decide), fun t ht => ?_⟩
        have s3 : Same Hx (upd Hx t (.tup [.ref r1.2.1, .bl (valS bs r1.2.2), .ref lt])) := (Same.refl Hx).upd ht
        refine q t r1.2.1 lt r1.2.2 _ (hI.sm.trans s3) (hI.sm.free ht) upd_same (o1.2.1.same s3) o1.2.2 (s3 _ _ (by rw [hI.ht]; simp [rtruths])) ?_
        simp [rnodes] at hn; omega
    refine ⟨_, (pss_cons (ps_set (i := 2) sc_l_stated.nd rfl (Or.inl rfl) (pe_lst pa_nil))
 (pss_cons (ps_set (i := 3) sc_l_stated.nd rfl (Or.inl rfl) (pe_lst pa_nil))
 (pss_cons (ps_for PassesOwn.never rfl (pi_list (pv 0)) (pg_name (i := 4) sc_l_stated.nd rfl (Or.inl rfl))
 (pss_cons (ps_set (i := 5) sc_l_stated.nd rfl (Or.inl rfl) (pe_op op_mod (pv 4) pe_int))
 (pss_one (ps_if (PW.pt (pw_and (pt_cmpR op_lt (pv 5) pe_int (nomark _)) (pw_and1 (pt_cmpR op_gt (pe_callB call_len_seq (by rfl) B.len_ PySem.boot_len (pa_cons (pv 2) pa_nil)) pe_int (nomark _)))))
 (pss_cons (ps_set (i := 6) sc_l_stated.nd rfl (Or.inl rfl) (pe_bm0 PySem.F.plainAttrs_list PySem.F.slot_list_pop PySem.F.type_list_pop mt_pop (pv 2)))
 (pss_cons (ps_expr (pe_bm PySem.F.plainAttrs_list PySem.F.slot_list_append PySem.F.type_list_append mt_append (pv 2) (pa_cons (pe_def c_l_pair hr (by decide) (pa_cons (pe_ix ix_list (pe_lst (pa_cons pe_str (pa_cons pe_str (pa_cons pe_str pa_nil)))) (pv 5) (fun _ _ => rfl)) (pa_cons (pe_bm0 PySem.F.plainAttrs_list PySem.F.slot_list_pop PySem.F.type_list_pop mt_pop (pv 2)) (pa_cons (pv 6) pa_nil)))) pa_nil)))
 (pss_one (ps_expr (pe_bm PySem.F.plainAttrs_list PySem.F.slot_list_append PySem.F.type_list_append mt_append (pv 3) (pa_cons (pe_ix ix_tup (pe_ix ix_list (pv 2) (pe_un un_neg pe_int) (fun _ _ => rfl)) pe_int (fun _ _ => rfl)) pa_nil))))))
 (pss_one (ps_if (PW.pt (pw_and (pt_cmpR op_eq (pv 5) pe_int (nomark _)) (pw_and1 (pt_cmpR (op_neL (hu0 hr)) (pv 2) (pe_lst pa_nil) (nomark _)))))
 (pss_cons (ps_set (i := 7) sc_l_stated.nd rfl (Or.inl rfl) (pe_bm0 PySem.F.plainAttrs_list PySem.F.slot_list_pop PySem.F.type_list_pop mt_pop (pv 2)))
 (pss_one (ps_expr (pe_bm PySem.F.plainAttrs_list PySem.F.slot_list_append PySem.F.type_list_append mt_append (pv 2) (pa_cons (pe_tup (pa_cons (pe_tup (pa_cons pe_str (pa_cons (pe_ix ix_tup (pv 7) pe_int (fun _ _ => rfl)) pa_nil))) (pa_cons (pe_not (pe_ix ix_tup (pv 7) pe_int (fun _ _ => rfl))) pa_nil))) pa_nil)))))
 (pss_cons (ps_set (i := 8) sc_l_stated.nd rfl (Or.inl rfl) (pe_op op_add pe_int (pe_op op_mod (pe_op op_fdiv (pv 4) pe_int) (pe_callB call_len_seq (by rfl) B.len_ PySem.boot_len (pa_cons (pv 1) pa_nil)))))
 (pss_one (ps_expr (pe_bm PySem.F.plainAttrs_list PySem.F.slot_list_append PySem.F.type_list_append mt_append (pv 2) (pa_cons (pe_tup (pa_cons (pe_tup (pa_cons pe_str (pa_cons (pv 8) pa_nil))) (pa_cons (pe_ix ix_list (pv 1) (pe_op op_sub (pv 8) pe_int) (fun _ _ => rfl)) pa_nil))) pa_nil)))))))))))
 (pss_cons (ps_if (pt_cmpR (op_eqL (hu0 hr)) (pv 2) (pe_lst pa_nil) (nomark _))
 (pss_one (ps_expr (pe_bm PySem.F.plainAttrs_list PySem.F.slot_list_append PySem.F.type_list_append mt_append (pv 2) (pa_cons (pe_tup (pa_cons (pe_tup (pa_cons pe_str (pa_cons pe_int pa_nil))) (pa_cons (pe_ix ix_list (pv 1) pe_int (fun _ _ => rfl)) pa_nil))) pa_nil))))
 pss_nil)
 hu4)))), ?_⟩
    refine ⟨by decide, fun lr hlr => ?_⟩
    have s1 : Same H (upd H lr (.lst [])) := (Same.refl H).upd hlr
    have g1 : upd H lr (.lst []) lr = some (.lst (rwrefs [])) := upd_same
    generalize upd H lr (.lst []) = H1 at s1 g1
    refine ⟨by decide, fun lt hlt => ?_⟩
    have s2 : Same H1 (upd H1 lt (.lst [])) := (Same.refl H1).upd hlt
    have g2 : upd H1 lt (.lst []) lt = some (.lst (([] : List Bool).map V.bl)) := upd_same
    have nrt : lr ≠ lt := ne_of_none g1 hlt
    generalize upd H1 lt (.lst []) = H2 at s2 g2
    have hltH : H lt = none := s1.free hlt
    have i0 : StI bs lr lt [] H H2 := ⟨s1.trans s2, s2 _ _ g1, g2, (fun _ h => nomatch h)⟩
    have elc : (cells.map V.int).length = cells.length := List.length_map ..
    refine ⟨_, rfl, a, rfl, ⟨_, SqL.of (i0.sm _ _ ha)⟩, for_listK (K := K) (a := a) (xs := cells.map V.int) (fun i σ Hx => ∃ (rs : List Rw) (v4 v5 v6 v7 v8 : Option V), σ = [some (.ref a), some (.ref b), some (.ref lr), some (.ref lt), v4, v5, v6, v7, v8] ∧ StI bs lr lt rs H Hx ∧ rnodes rs ≤ i ∧ (i = 0 ∨ rs ≠ []))
      ⟨[], none, none, none, none, none, rfl, i0, Nat.le_refl _, .inl rfl⟩ (fun i σ Hx _ hh => by
        obtain ⟨_, _, _, _, _, _, _, e, _⟩ := hh
        exact SqL.of (e.sm _ _ ha)) ?_ ?_⟩
    · rintro i y σ Hx N B' hi ⟨rs, v4, v5, v6, v7, v8, rfl, hI, hnn, _⟩ hN
      obtain ⟨n, hni, rfl⟩ := getV hi
      have hil : i < cells.length := (List.getElem?_eq_some_iff.mp hni).1
      have hrn := rnodes_len rs
      have erl := rwrefs_len rs
      refine ⟨_, rfl, _, _, rfl, rfl, (by show (0 : Int) < 8; decide), ?_⟩
      have hw0 := Int.emod_nonneg n (show (8 : Int) ≠ 0 by decide)
      dsimp only
      generalize n % 8 = wy at hw0
      refine (fun hE => ⟨_, rfl, _, _, rfl, rfl, _, rfl, ite2 (fun c1 => ⟨_, rfl, lr, _, rfl, .inl (SqL.of hI.hr), _, _, rfl, rfl, _, rfl, ite2 (fun c2 => ?_) (fun _ => hE)⟩) (fun _ => iteF hE)⟩) ?_
      rotate_left
      · have hw3 : wy < 3 := of_decide_eq_true c1
        have h2 : 2 ≤ rs.length := by have := of_decide_eq_true c2; omega
        have hne : rs ≠ [] := fun z => by rw [z] at h2; simp at h2
        obtain ⟨ri, r2, e1⟩ : ∃ ri r2, rs = ri ++ [r2] := ⟨_, _, (List.dropLast_concat_getLast hne).symm⟩
        have hne2 : ri ≠ [] := fun z => by rw [e1, z] at h2; simp at h2
        obtain ⟨rj, r1, e2⟩ : ∃ rj r1, ri = rj ++ [r1] := ⟨_, _, (List.dropLast_concat_getLast hne2).symm⟩
        subst e2
        subst e1
        have eapp : rj ++ [r1] ++ [r2] = rj ++ [r1, r2] := by simp
        have hn : rnodes (rj ++ [r1] ++ [r2]) + 0 ≤ 2 * cells.length + 2 := by omega
        have er : rwrefs (rj ++ [r1] ++ [r2]) = rwrefs (rj ++ [r1]) ++ [V.ref r2.1] := by simp [rwrefs]
        have hxr := hI.hr
        rw [er] at hxr
        refine ⟨_, rfl, .inl ⟨rfl, _, SqL.of hxr⟩, lr, _, .ref r2.1, rfl, rfl, hxr, by simp, ?_⟩
        have ed : (rwrefs (rj ++ [r1]) ++ [V.ref r2.1]).dropLast = rwrefs rj ++ [V.ref r1.1] := by simp [rwrefs]
        dsimp only
        rw [ed]
        have k3 := tupL (o := .lst (rwrefs rj ++ [V.ref r1.1])) hxr
        have g3 : upd Hx lr (.lst (rwrefs rj ++ [V.ref r1.1])) lr = some (.lst (rwrefs rj ++ [V.ref r1.1])) := upd_same
        have s3 : Same H (upd Hx lr (.lst (rwrefs rj ++ [V.ref r1.1]))) := hI.sm.upd hlr
        have h3t : upd Hx lr (.lst (rwrefs rj ++ [V.ref r1.1])) lt = some (.lst ((rtruths bs (rj ++ [r1] ++ [r2])).map V.bl)) := by rw [upd_ne nrt.symm]; exact hI.ht
        have hO3 := hI.ok.tups k3
        generalize upd Hx lr (.lst (rwrefs rj ++ [V.ref r1.1])) = H3 at g3 s3 h3t hO3
        refine ⟨_, rfl, .inl ⟨rfl, _, SqL.of g3⟩, (by show 3 ≤ sizeLine; decide), fun pl hpl => ?_⟩
        have s4 : Same H3 (upd H3 pl (.lst [V.str "and", V.str "or", V.str "same"])) := (Same.refl H3).upd hpl
        have g4 : upd H3 pl (.lst [V.str "and", V.str "or", V.str "same"]) pl = some (.lst [V.str "and", V.str "or", V.str "same"]) := upd_same
        generalize upd H3 pl (.lst [V.str "and", V.str "or", V.str "same"]) = H4 at s4 g4
        obtain ⟨wd, hwd⟩ : ∃ wd : Wd, atI [V.str "and", V.str "or", V.str "same"] wy = some (.str wd.str) := by
          have : wy = 0 ∨ wy = 1 ∨ wy = 2 := by omega
          rcases this with e | e | e
          · rw [e]; exact ⟨.and, rfl⟩
          · rw [e]; exact ⟨.or, rfl⟩
          · rw [e]; exact ⟨.same, rfl⟩
        have g3' := s4 _ _ g3
        refine ⟨_, rfl, pl, _, _, _, rfl, rfl, SqL.of g4, hwd, ?_⟩
        refine ⟨_, rfl, .inl ⟨rfl, _, SqL.of g3'⟩, lr, _, .ref r1.1, rfl, rfl, g3', by simp, ?_⟩
        have ed2 : (rwrefs rj ++ [V.ref r1.1]).dropLast = rwrefs rj := by simp
        dsimp only
        rw [ed2]
        have k5 := tupL (o := .lst (rwrefs rj)) g3'
        have g5 : upd H4 lr (.lst (rwrefs rj)) lr = some (.lst (rwrefs rj)) := upd_same
        have s5 : Same H (upd H4 lr (.lst (rwrefs rj))) := (s3.trans s4).upd hlr
        have h5t : upd H4 lr (.lst (rwrefs rj)) lt = some (.lst ((rtruths bs (rj ++ [r1] ++ [r2])).map V.bl)) := by rw [upd_ne nrt.symm]; exact s4 _ _ h3t
        have hO5 := (hO3.same s4).tups k5
        generalize upd H4 lr (.lst (rwrefs rj)) = H5 at g5 s5 h5t hO5
        have o1 := hO5 r1 (by simp)
        have o2 := hO5 r2 (by simp)
        refine ⟨_, rfl, wd, r1.1, r2.1, r1.2.1, r2.2.1, _, _, rfl, o1.1, o2.1, fun r t H6 s6 hr6 ht6 h6r h6t => ?_⟩
        have g6 := s6 _ _ g5
        obtain ⟨j1, j2, j3⟩ := join (rs := rj) (r1 := r1) (r2 := r2) (wd := wd) (r := r) (t := t)
        rw [← eapp] at j2 j3
        refine ⟨lr, _, _, rfl, rfl, g6, small6 (by rw [rwrefs_len]; simp at hrn hn ⊢; omega), ?_⟩
        have erw : rwrefs rj ++ [V.ref r] = rwrefs (rj ++ [(r, t, .two wd r1.2.2 r2.2.2)]) := by simp [rwrefs]
        dsimp only
        rw [erw]
        have hOj : RwOk bs H6 rj := fun z hz => hO5.same s6 z (by simp [hz])
        have hOn : RwOk bs H6 (rj ++ [(r, t, .two wd r1.2.2 r2.2.2)]) := hOj.app h6r ⟨_, _, h6t, o1.2.1.same s6, o2.2.1.same s6⟩ ⟨o1.2.2, o2.2.2⟩
        have k7 := tupL (o := .lst (rwrefs (rj ++ [(r, t, .two wd r1.2.2 r2.2.2)]))) g6
        have g7 : upd H6 lr (.lst (rwrefs (rj ++ [(r, t, .two wd r1.2.2 r2.2.2)]))) lr = some (.lst (rwrefs (rj ++ [(r, t, .two wd r1.2.2 r2.2.2)]))) := upd_same
        have s7 : Same H (upd H6 lr (.lst (rwrefs (rj ++ [(r, t, .two wd r1.2.2 r2.2.2)])))) := (s5.trans s6).upd hlr
        have h7t : upd H6 lr (.lst (rwrefs (rj ++ [(r, t, .two wd r1.2.2 r2.2.2)]))) lt = some (.lst ((rtruths bs (rj ++ [r1] ++ [r2])).map V.bl)) := by rw [upd_ne nrt.symm]; exact s6 _ _ h5t
        have hO7 := hOn.tups k7
        generalize upd H6 lr (.lst (rwrefs (rj ++ [(r, t, .two wd r1.2.2 r2.2.2)]))) = H7 at g7 s7 h7t hO7
        have hat : atI (rwrefs (rj ++ [(r, t, .two wd r1.2.2 r2.2.2)])) (-1) = some (.ref r) := by rw [← erw]; exact atI_last _ _
        have o7 := (hO7 (r, t, .two wd r1.2.2 r2.2.2) (by simp)).1
        have htl : (rtruths bs (rj ++ [r1] ++ [r2])).length ≤ rnodes (rj ++ [r1] ++ [r2]) := rtruths_len _ _
        refine ⟨_, rfl, .inl ⟨rfl, _, SqL.of h7t⟩, _, rfl, 1, rfl, lr, _, _, _, rfl, rfl, SqL.of g7, hat, r, _, _, _, rfl, rfl, SqT.of o7, rfl, lt, _, _, rfl, rfl, h7t, small6 (by rw [List.length_map]; omega), ?_⟩
        have ett : (rtruths bs (rj ++ [r1] ++ [r2])).map V.bl ++ [V.bl (valS bs (.two wd r1.2.2 r2.2.2))] = (rtruths bs (rj ++ [(r, t, .two wd r1.2.2 r2.2.2)])).map V.bl := by rw [j2]; simp
        dsimp only
        rw [ett]
        refine hN _ _ ⟨rj ++ [(r, t, .two wd r1.2.2 r2.2.2)], _, _, _, _, _, rfl, ⟨s7.upd hltH, by rw [upd_ne nrt]; exact g7, upd_same, hO7.tups (tupL h7t)⟩, ?_, .inr (by simp)⟩
        rw [j3]; omega
      · -- not, or a lamp
        refine ⟨_, rfl, rfl, _, rfl, ite2 (fun c1 => ?_) (fun _ => iteF ?_)⟩
        · refine ⟨_, rfl, by decide, fun pe hpe => ?_⟩
          have s3 : Same Hx (upd Hx pe (.lst [])) := (Same.refl Hx).upd hpe
          have g3 : upd Hx pe (.lst []) pe = some (.lst []) := upd_same
          have I3 : StI bs lr lt rs H (upd Hx pe (.lst [])) := ⟨hI.sm.trans s3, s3 _ _ hI.hr, s3 _ _ hI.ht, hI.ok.same s3⟩
          generalize upd Hx pe (.lst []) = H3 at s3 g3 I3
          refine ⟨(rwrefs rs).isEmpty, ⟨lr, pe, _, [], rfl, rfl, SqL.of I3.hr, SqL.of g3, .inl ⟨rfl, rfl⟩⟩, _, rfl, ite2 (fun c2 => ?_) (fun _ => ?_)⟩
          · have hne : rs ≠ [] := fun z => by rw [z] at c2; cases c2
            obtain ⟨ri, r1, e1⟩ : ∃ ri r1, rs = ri ++ [r1] := ⟨_, _, (List.dropLast_concat_getLast hne).symm⟩
            subst e1
            have er : rwrefs (ri ++ [r1]) = rwrefs ri ++ [V.ref r1.1] := by simp [rwrefs]
            have hxr := I3.hr
            rw [er] at hxr
            refine ⟨_, rfl, .inl ⟨rfl, _, SqL.of hxr⟩, lr, _, .ref r1.1, rfl, rfl, hxr, by simp, ?_⟩
            have ed : (rwrefs ri ++ [V.ref r1.1]).dropLast = rwrefs ri := by simp
            dsimp only
            rw [ed]
            have k4 := tupL (o := .lst (rwrefs ri)) hxr
            have g4 : upd H3 lr (.lst (rwrefs ri)) lr = some (.lst (rwrefs ri)) := upd_same
            have s4 : Same H (upd H3 lr (.lst (rwrefs ri))) := I3.sm.upd hlr
            have h4t : upd H3 lr (.lst (rwrefs ri)) lt = some (.lst ((rtruths bs (ri ++ [r1])).map V.bl)) := by rw [upd_ne nrt.symm]; exact I3.ht
            have hO4 := I3.ok.tups k4
            generalize upd H3 lr (.lst (rwrefs ri)) = H4 at g4 s4 h4t hO4
            have o1 := hO4 r1 (by simp)
            refine ⟨_, rfl, .inl ⟨rfl, _, SqL.of g4⟩, _, rfl, r1.1, _, _, _, rfl, rfl, SqT.of o1.1, rfl, len2, fun t ht => ?_⟩
            have s5 : Same H4 (upd H4 t (.tup [.str "not", .ref r1.2.1])) := (Same.refl H4).upd ht
            have g5 : upd H4 t (.tup [.str "not", .ref r1.2.1]) t = some (.tup [.str "not", .ref r1.2.1]) := upd_same
            generalize upd H4 t (.tup [.str "not", .ref r1.2.1]) = H5 at s5 g5
            refine ⟨_, rfl, r1.1, _, _, _, rfl, rfl, SqT.of (s5 _ _ o1.1), rfl, _, rfl, len2, fun r hr => ?_⟩
            have s6 : Same H5 (upd H5 r (.tup [.ref t, .bl (valS bs (.non r1.2.2))])) := (Same.refl H5).upd hr
            have g6 : upd H5 r (.tup [.ref t, .bl (valS bs (.non r1.2.2))]) r = some (.tup [.ref t, .bl (valS bs (.non r1.2.2))]) := upd_same
            have e6 : (!valS bs r1.2.2) = valS bs (.non r1.2.2) := rfl
            dsimp only
            rw [e6]
            generalize upd H5 r (.tup [.ref t, .bl (valS bs (.non r1.2.2))]) = H6 at s6 g6
            have s46 := s5.trans s6
            have h6r := s46 _ _ g4
            refine ⟨lr, _, _, rfl, rfl, h6r, small6 (by rw [rwrefs_len]; simp at hrn hnn ⊢; omega), ?_⟩
            have erw : rwrefs ri ++ [V.ref r] = rwrefs (ri ++ [(r, t, .non r1.2.2)]) := by simp [rwrefs]
            dsimp only
            rw [erw]
            have hOi : RwOk bs H6 ri := fun z hz => hO4.same s46 z (by simp [hz])
            have hOn : RwOk bs H6 (ri ++ [(r, t, .non r1.2.2)]) := hOi.app g6 ⟨_, s6 _ _ g5, o1.2.1.same s46⟩ o1.2.2
            exact hN _ _ ⟨ri ++ [(r, t, .non r1.2.2)], _, _, _, _, _, rfl, ⟨(s4.trans s46).upd hlr, upd_same, by rw [upd_ne nrt.symm]; have := s46 _ _ h4t; simpa [rtruths, btS] using this, hOn.tups (tupL h6r)⟩, by rw [rnodes_app] at hnn ⊢; simp [rnodes, post] at hnn ⊢; omega, .inr (by simp)⟩
          · refine ⟨_, rfl, _, _, rfl, rfl, ⟨by decide, by decide⟩, _, rfl, b, _, rfl, .inl (SqL.of (I3.sm _ _ hb)), _, _, rfl, rfl, (by rw [List.length_map]; omega), _, _, rfl, rfl, ?_⟩
            obtain ⟨k, hk, hkl⟩ : ∃ k : Nat, 1 + n / 8 % (((bs.map V.bl).length : Nat) : Int) = ((k + 1 : Nat) : Int) ∧ k < bs.length := by
              rw [List.length_map]
              have h1 := Int.emod_nonneg (n / 8) (show (bs.length : Int) ≠ 0 by omega)
              have h2 := Int.emod_lt_of_pos (n / 8) (show (0 : Int) < (bs.length : Int) by omega)
              exact ⟨(n / 8 % (bs.length : Int)).toNat, by omega, by omega⟩
            dsimp only
            rw [hk]
            refine ⟨_, rfl, .inl ⟨rfl, _, SqL.of I3.hr⟩, _, rfl, len2, fun t ht => ?_⟩
            have s4 : Same H3 (upd H3 t (.tup [.str "lamp", .int ((k + 1 : Nat) : Int)])) := (Same.refl H3).upd ht
            have g4 : upd H3 t (.tup [.str "lamp", .int ((k + 1 : Nat) : Int)]) t = some (.tup [.str "lamp", .int ((k + 1 : Nat) : Int)]) := upd_same
            generalize upd H3 t (.tup [.str "lamp", .int ((k + 1 : Nat) : Int)]) = H4 at s4 g4
            have hat : atI (bs.map V.bl) (((k + 1 : Nat) : Int) - 1) = some (.bl (valS bs (.lamp (k + 1)))) := by
              have e : ((k + 1 : Nat) : Int) - 1 = ((k : Nat) : Int) := by omega
              rw [e]; exact atI_nat (by simp [valS, hkl])
            refine ⟨_, rfl, _, rfl, _, _, rfl, rfl, b, _, _, _, rfl, rfl, SqL.of (s4 _ _ (I3.sm _ _ hb)), hat, len2, fun r hr => ?_⟩
            have s5 : Same H4 (upd H4 r (.tup [.ref t, .bl (valS bs (.lamp (k + 1)))])) := (Same.refl H4).upd hr
            have g5 : upd H4 r (.tup [.ref t, .bl (valS bs (.lamp (k + 1)))]) r = some (.tup [.ref t, .bl (valS bs (.lamp (k + 1)))]) := upd_same
            generalize upd H4 r (.tup [.ref t, .bl (valS bs (.lamp (k + 1)))]) = H5 at s5 g5
            have s35 := s4.trans s5
            have h5r := s35 _ _ I3.hr
            refine ⟨lr, _, _, rfl, rfl, h5r, small6 (by rw [rwrefs_len]; omega), ?_⟩
            have erw : rwrefs rs ++ [V.ref r] = rwrefs (rs ++ [(r, t, .lamp (k + 1))]) := by simp [rwrefs]
            dsimp only
            rw [erw]
            have hOn : RwOk bs H5 (rs ++ [(r, t, .lamp (k + 1))]) := (I3.ok.same s35).app g5 (s5 _ _ g4) ⟨by omega, by omega⟩
            exact hN _ _ ⟨rs ++ [(r, t, .lamp (k + 1))], _, _, _, _, _, rfl, ⟨(I3.sm.trans s35).upd hlr, upd_same, by rw [upd_ne nrt.symm, rtruths_app]; have := s35 _ _ I3.ht; simpa [rtruths, btS] using this, hOn.tups (tupL h5r)⟩, by rw [rnodes_app]; simp [rnodes, post] at hnn ⊢; omega, .inr (by simp)⟩
        · refine ⟨_, rfl, _, _, rfl, rfl, ⟨by decide, by decide⟩, _, rfl, b, _, rfl, .inl (SqL.of (hI.sm _ _ hb)), _, _, rfl, rfl, (by rw [List.length_map]; omega), _, _, rfl, rfl, ?_⟩
          obtain ⟨k, hk, hkl⟩ : ∃ k : Nat, 1 + n / 8 % (((bs.map V.bl).length : Nat) : Int) = ((k + 1 : Nat) : Int) ∧ k < bs.length := by
            rw [List.length_map]
            have h1 := Int.emod_nonneg (n / 8) (show (bs.length : Int) ≠ 0 by omega)
            have h2 := Int.emod_lt_of_pos (n / 8) (show (0 : Int) < (bs.length : Int) by omega)
            exact ⟨(n / 8 % (bs.length : Int)).toNat, by omega, by omega⟩
          dsimp only
          rw [hk]
          refine ⟨_, rfl, .inl ⟨rfl, _, SqL.of hI.hr⟩, _, rfl, len2, fun t ht => ?_⟩
          have s4 : Same Hx (upd Hx t (.tup [.str "lamp", .int ((k + 1 : Nat) : Int)])) := (Same.refl Hx).upd ht
          have g4 : upd Hx t (.tup [.str "lamp", .int ((k + 1 : Nat) : Int)]) t = some (.tup [.str "lamp", .int ((k + 1 : Nat) : Int)]) := upd_same
          generalize upd Hx t (.tup [.str "lamp", .int ((k + 1 : Nat) : Int)]) = H4 at s4 g4
          have hat : atI (bs.map V.bl) (((k + 1 : Nat) : Int) - 1) = some (.bl (valS bs (.lamp (k + 1)))) := by
            have e : ((k + 1 : Nat) : Int) - 1 = ((k : Nat) : Int) := by omega
            rw [e]; exact atI_nat (by simp [valS, hkl])
          refine ⟨_, rfl, _, rfl, _, _, rfl, rfl, b, _, _, _, rfl, rfl, SqL.of (s4 _ _ (hI.sm _ _ hb)), hat, len2, fun r hr => ?_⟩
          have s5 : Same H4 (upd H4 r (.tup [.ref t, .bl (valS bs (.lamp (k + 1)))])) := (Same.refl H4).upd hr
          have g5 : upd H4 r (.tup [.ref t, .bl (valS bs (.lamp (k + 1)))]) r = some (.tup [.ref t, .bl (valS bs (.lamp (k + 1)))]) := upd_same
          generalize upd H4 r (.tup [.ref t, .bl (valS bs (.lamp (k + 1)))]) = H5 at s5 g5
          have s35 := s4.trans s5
          have h5r := s35 _ _ hI.hr
          refine ⟨lr, _, _, rfl, rfl, h5r, small6 (by rw [rwrefs_len]; omega), ?_⟩
          have erw : rwrefs rs ++ [V.ref r] = rwrefs (rs ++ [(r, t, .lamp (k + 1))]) := by simp [rwrefs]
          dsimp only
          rw [erw]
          have hOn : RwOk bs H5 (rs ++ [(r, t, .lamp (k + 1))]) := (hI.ok.same s35).app g5 (s5 _ _ g4) ⟨by omega, by omega⟩
          exact hN _ _ ⟨rs ++ [(r, t, .lamp (k + 1))], _, _, _, _, _, rfl, ⟨(hI.sm.trans s35).upd hlr, upd_same, by rw [upd_ne nrt.symm, rtruths_app]; have := s35 _ _ hI.ht; simpa [rtruths, btS] using this, hOn.tups (tupL h5r)⟩, by rw [rnodes_app]; simp [rnodes, post] at hnn ⊢; omega, .inr (by simp)⟩
    · rintro σ Hx ⟨rs, v4, v5, v6, v7, v8, rfl, hI, hnn, hemp⟩
      rw [elc] at hnn hemp
      have hrn := rnodes_len rs
      refine ⟨_, rfl, by decide, fun pe hpe => ?_⟩
      have s3 : Same Hx (upd Hx pe (.lst [])) := (Same.refl Hx).upd hpe
      have g3 : upd Hx pe (.lst []) pe = some (.lst []) := upd_same
      have I3 : StI bs lr lt rs H (upd Hx pe (.lst [])) := ⟨hI.sm.trans s3, s3 _ _ hI.hr, s3 _ _ hI.ht, hI.ok.same s3⟩
      generalize upd Hx pe (.lst []) = H3 at s3 g3 I3
      refine .inl ⟨_, ⟨lr, pe, _, [], rfl, rfl, SqL.of I3.hr, SqL.of g3, .inl ⟨rfl, rfl⟩⟩, _, rfl, ite2 (fun c1 => ?_) (fun c1 => ?_)⟩
      · have hrs : rs = [] := by
          cases rs with
          | nil => rfl
          | cons _ _ => cases c1
        subst hrs
        refine ⟨_, rfl, .inl ⟨rfl, _, SqL.of I3.hr⟩, len2, fun t ht => ?_⟩
        have s4 : Same H3 (upd H3 t (.tup [.str "lamp", .int 1])) := (Same.refl H3).upd ht
        have g4 : upd H3 t (.tup [.str "lamp", .int 1]) t = some (.tup [.str "lamp", .int 1]) := upd_same
        generalize upd H3 t (.tup [.str "lamp", .int 1]) = H4 at s4 g4
        have hat : atI (bs.map V.bl) 0 = some (.bl (valS bs (.lamp 1))) := atI_nat (j := 0) (by simp [valS, hb0])
        refine ⟨_, rfl, b, _, _, _, rfl, rfl, SqL.of (s4 _ _ (I3.sm _ _ hb)), hat, len2, fun r hr => ?_⟩
        have s5 : Same H4 (upd H4 r (.tup [.ref t, .bl (valS bs (.lamp 1))])) := (Same.refl H4).upd hr
        have g5 : upd H4 r (.tup [.ref t, .bl (valS bs (.lamp 1))]) r = some (.tup [.ref t, .bl (valS bs (.lamp 1))]) := upd_same
        generalize upd H4 r (.tup [.ref t, .bl (valS bs (.lamp 1))]) = H5 at s5 g5
        have s35 := s4.trans s5
        have h5r := s35 _ _ I3.hr
        refine ⟨lr, _, _, rfl, rfl, h5r, small6 (by simp [rwrefs]), ?_⟩
        have erw : rwrefs [] ++ [V.ref r] = rwrefs [(r, t, .lamp 1)] := rfl
        dsimp only
        rw [erw]
        have hOn : RwOk bs H5 ([] ++ [(r, t, .lamp 1)]) := RwOk.app (fun _ h => nomatch h) g5 (s5 _ _ g4) ⟨by omega, by omega⟩
        refine key4 lr lt hlr hltH nrt [(r, t, .lamp 1)] _ v4 v5 v6 v7 v8 ⟨(I3.sm.trans s35).upd hlr, upd_same, by rw [upd_ne nrt.symm]; exact s35 _ _ I3.ht, hOn.tups (tupL h5r)⟩ (by simp) (by simp [rnodes, post])
      · have hne : rs ≠ [] := fun z => by rw [z] at c1; exact c1 rfl
        exact key4 lr lt hlr hltH nrt rs H3 v4 v5 v6 v7 v8 I3 hne (by omega)
end
abbrev Td := Addr × Addr × Stt × Bool
def tdrefs (ts : List Td) : List V := ts.map fun r => V.ref r.1
theorem tdrefs_len (ts : List Td) : (tdrefs ts).length = ts.length := by simp [tdrefs]
def TdOk (H : Hp) (ts : List Td) : Prop := ∀ r ∈ ts, H r.1 = some (.tup [.ref r.2.1, .bl r.2.2.2]) ∧ SAt H r.2.2.1 r.2.1
theorem TdOk.tups {H H' : Hp} {ts : List Td} (h : TdOk H ts) (e : ∀ a xs, H a = some (.tup xs) → H' a = some (.tup xs)) : TdOk H' ts := fun r hr => ⟨e _ _ (h r hr).1, (h r hr).2.mono e⟩
def flat1 (s : Stt) (b : Bool) : List Stt := if b then [s] else post s
def flatT (ts : List Td) : List Stt := ts.reverse.flatMap fun r => flat1 r.2.2.1 r.2.2.2
theorem flatT_snoc (ts : List Td) (r : Td) : flatT (ts ++ [r]) = flat1 r.2.2.1 r.2.2.2 ++ flatT ts := by simp [flatT]
theorem flat1_pos (s : Stt) (b : Bool) : 0 < (flat1 s b).length := by
  cases b
  · exact post_pos s
  · exact Nat.zero_lt_one
theorem flatT_len : ∀ ts : List Td, ts.length ≤ (flatT ts).length := fun ts => by
  have : ∀ us : List Td, us.length ≤ (us.flatMap fun r => flat1 r.2.2.1 r.2.2.2).length := fun us => by
    induction us with
    | nil => exact Nat.zero_le _
    | cons r us ih =>
      have := flat1_pos r.2.2.1 r.2.2.2
      simp at ih ⊢; omega
  have h := this ts.reverse
  rw [List.length_reverse] at h
  exact h
def tdW (ts : List Td) : Nat := (ts.map fun r => if r.2.2.2 then 1 else 2 * (post r.2.2.1).length).sum
theorem tdW_snoc (ts : List Td) (r : Td) : tdW (ts ++ [r]) = tdW ts + (if r.2.2.2 then 1 else 2 * (post r.2.2.1).length) := by simp [tdW]
structure DuB (ts : List Td) (st : List Int) (ws : List Wr) (lt lw ll : Addr) (H Hx : Hp) : Prop where
  sm : Same H Hx
  ht : Hx lt = some (.lst (tdrefs ts))
  hw : Hx lw = some (.lst (wrefs ws))
  hl : Hx ll = some (.lst (st.reverse.map V.int))
  tk : TdOk Hx ts
  ok : WsOk Hx ws
  nw : ∀ r ∈ ws, r.1 ≠ lw ∧ r.1 ≠ ll ∧ r.1 ≠ lt
  nn : lt ≠ lw ∧ lt ≠ ll ∧ ll ≠ lw ∧ H lt = none ∧ H lw = none ∧ H ll = none
section
variable {ts ti : List Td} {st : List Int} {ws us : List Wr} {lt lw ll : Addr} {H Hx Hy : Hp}
theorem DuB.same (h : DuB ts st ws lt lw ll H Hx) (e : Same Hx Hy) : DuB ts st ws lt lw ll H Hy :=
  ⟨h.sm.trans e, e _ _ h.ht, e _ _ h.hw, e _ _ h.hl, h.tk.tups fun _ _ q => e _ _ q, h.ok.mono e, h.nw, h.nn⟩
theorem upd_tup {o : HO} {z : Addr} {ys : List V} (hl : Hy z = some (.lst ys)) : ∀ a xs, Hy a = some (.tup xs) → upd Hy z o a = some (.tup xs) := fun a xs h => by rw [upd_ne (ne_of h hl (by intro q; cases q))]; exact h
theorem DuB.setT (h : DuB ts st ws lt lw ll H Hx) {ti : List Td} {xs : List V} (e : xs = tdrefs ti) (ht : TdOk Hx ti) : DuB ti st ws lt lw ll H (upd Hx lt (.lst xs)) :=
  ⟨h.sm.upd h.nn.2.2.2.1, by rw [upd_same, e], by rw [upd_ne h.nn.1.symm]; exact h.hw, by rw [upd_ne h.nn.2.1.symm]; exact h.hl, ht.tups (upd_tup h.ht), fun r hr => by rw [upd_ne (h.nw r hr).2.2]; exact h.ok r hr, h.nw, h.nn⟩
theorem DuB.pop {r : Td} (h : DuB (ti ++ [r]) st ws lt lw ll H Hx) {xs : List V} (e : xs = tdrefs ti) : DuB ti st ws lt lw ll H (upd Hx lt (.lst xs)) := h.setT e fun q hq => h.tk q (List.mem_append_left _ hq)
theorem DuB.push (h : DuB ts st ws lt lw ll H Hx) {p pa : Addr} {s : Stt} {b : Bool} (hp : Hx p = none) (hs : SAt Hx s pa) : DuB (ts ++ [(p, pa, s, b)]) st ws lt lw ll H (upd (upd Hx p (.tup [.ref pa, .bl b])) lt (.lst (tdrefs ts ++ [V.ref p]))) := by
  have s1 : Same Hx (upd Hx p (.tup [.ref pa, .bl b])) := (Same.refl Hx).upd hp
  refine (h.same s1).setT (by simp [tdrefs]) fun r hr => ?_
  rcases List.mem_append.mp hr with z | z
  · exact (h.same s1).tk r z
  · have : r = (p, pa, s, b) := by simpa using z
    rw [this]; exact ⟨upd_same, hs.same s1⟩
theorem DuB.let_ (h : DuB ts st ws lt lw ll H Hx) {st' : List Int} {xs : List V} (e : xs = st'.reverse.map V.int) : DuB ts st' ws lt lw ll H (upd Hx ll (.lst xs)) :=
  ⟨h.sm.upd h.nn.2.2.2.2.2, by rw [upd_ne h.nn.2.1]; exact h.ht, by rw [upd_ne h.nn.2.2.1.symm]; exact h.hw, by rw [upd_same, e], h.tk.tups (upd_tup h.hl), fun r hr => by rw [upd_ne (h.nw r hr).2.1]; exact h.ok r hr, h.nw, h.nn⟩
theorem DuB.wish (h : DuB ts st ws lt lw ll H Hx) (L : Laid Hx Hy us) {xs : List V} (e : xs = wrefs (ws ++ us)) : DuB ts st (ws ++ us) lt lw ll H (upd Hy lw (.lst xs)) := by
  have g := h.same L.sm
  have nu : ∀ r ∈ us, r.1 ≠ lw ∧ r.1 ≠ ll ∧ r.1 ≠ lt := fun r hr => ⟨(fun z => by have := L.nw r hr; rw [z, h.hw] at this; cases this), (fun z => by have := L.nw r hr; rw [z, h.hl] at this; cases this), (fun z => by have := L.nw r hr; rw [z, h.ht] at this; cases this)⟩
  have nw : ∀ r ∈ ws ++ us, r.1 ≠ lw ∧ r.1 ≠ ll ∧ r.1 ≠ lt := fun r hr => (List.mem_append.mp hr).elim (h.nw r) (nu r)
  exact ⟨g.sm.upd h.nn.2.2.2.2.1, by rw [upd_ne h.nn.1]; exact g.ht, by rw [upd_same, e], by rw [upd_ne h.nn.2.2.1]; exact g.hl, g.tk.tups (upd_tup g.hw), fun r hr => by rw [upd_ne (nw r hr).1]; exact (List.mem_append.mp hr).elim (g.ok r) (L.ok r), nw, h.nn⟩
end
theorem Laid.over {H Hy : Hp} {us : List Wr} (L : Laid H Hy us) {l : Addr} {o : HO} (hl : Hy l = none) : Laid H (upd Hy l o) us := ⟨L.sm.trans ((Same.refl Hy).upd hl), L.ok.mono ((Same.refl Hy).upd hl), L.nw⟩
structure DuN (c : Nat) (s0 : Stt) (ts : List Td) (x : Sh) (ws : List Wr) : Prop where
  ew : wl ws = x.W
  run : runL (flatT ts) x = some ⟨[(enc s0 c).1], (enc s0 c).2.1, (enc s0 c).2.2⟩
  sl : x.st.length + (flatT ts).length ≤ (post s0).length
  wn : ws.length + 4 * (flatT ts).length ≤ 4 * (post s0).length
  pn : x.p + (flatT ts).length ≤ c + (post s0).length
theorem SAt.kids {H : Hp} {pt : Stt} {pa : Addr} (h : SAt H pt pa) : (∃ k, pt = .lamp k) ∨ ∃ (wd : Str) (chs : List Pt), H pa = some (.tup (.str wd :: prefs chs)) ∧ decide (V.str wd = V.str "lamp") = false ∧ PsOk H chs ∧ post pt = posts (chs.map (·.2)) ++ [pt] ∧ ((∃ q, chs = [q]) ∨ ∃ q r, chs = [q, r]) := by
  cases pt with
  | lamp k => exact .inl ⟨k, rfl⟩
  | non s1 =>
    obtain ⟨b, hb, hs⟩ := h
    refine .inr ⟨"not", [(b, s1)], hb, by decide +kernel, fun p hp => ?_, by simp [post, posts], .inl ⟨_, rfl⟩⟩
    have : p = (b, s1) := by simpa using hp
    rw [this]; exact hs
  | two wd s1 s2 =>
    obtain ⟨b, c, hb, h1, h2⟩ := h
    refine .inr ⟨wd.str, [(b, s1), (c, s2)], hb, by cases wd <;> decide +kernel, fun p hp => ?_, by simp [post, posts], .inr ⟨_, _, rfl⟩⟩
    have : p = (b, s1) ∨ p = (c, s2) := by simpa using hp
    rcases this with z | z <;> rw [z]
    · exact h1
    · exact h2
def tdV (r : Addr × Stt × Bool) : Nat := if r.2.2 then 1 else 2 * (post r.2.1).length
theorem tdW_of (ts : List Td) : tdW ts = ((ts.map (·.2)).map tdV).sum := by simp [tdW, tdV, Function.comp_def]
theorem flatT_of (ts : List Td) : flatT ts = (ts.map (·.2)).reverse.flatMap fun r => flat1 r.2.1 r.2.2 := by simp [flatT, List.flatMap_map, ← List.map_reverse]
def spDue (K : PySem.W.Frag) : Sp := fun vs H Q _ => ∃ (c : Nat) (a : Addr) (s : Stt), vs = [.ref a, .int c] ∧ SAt H s a ∧ (post s).length ≤ 10000 ∧ c ≤ 1000 ∧
  ∀ (t lw ll : Addr) (ws : List Wr) (H' : Hp), Same H H' → H t = none → H' t = some (.tup [.int (enc s c).2.2, .ref lw]) → H' lw = some (.lst (wrefs (ws ++ [(ll, [(enc s c).1])]))) → WsOk H' (ws ++ [(ll, [(enc s c).1])]) → wl ws = (enc s c).2.1 → Q (.ref t) H'
section
variable {P : Program} {w : World} {K : PySem.W.Frag} {mg : Str → Option Value} {base : Heap}
theorem ok_l_sheet_due (B : Blt mg) (Df : Def K mg "_law_sheet_due" s_l_sheet_due p_l_sheet_due) : Cal P w K mg base 1 "_law_sheet_due" p_l_sheet_due (spDue K) := by
  refine Df.cal sc_l_sheet_due (fun vs H Q E h => ?_) (fun f cdv A outer s H vs Q E hr h => ?_)
  · obtain ⟨c, a, s, rfl, _⟩ := h; rfl
  · obtain ⟨c, a, s0, rfl, ha, hz, hc, q⟩ := h
    refine ⟨_, (pss_cons (ps_set (i := 2) sc_l_sheet_due.nd rfl (Or.inl rfl) (pe_lst (pa_cons (pe_tup (pa_cons (pv 0) (pa_cons pe_bl pa_nil))) pa_nil)))
 (pss_cons (ps_set (i := 3) sc_l_sheet_due.nd rfl (Or.inl rfl) (pe_lst pa_nil))
 (pss_cons (ps_set (i := 4) sc_l_sheet_due.nd rfl (Or.inl rfl) (pe_lst pa_nil))
 (pss_cons (ps_set (i := 5) sc_l_sheet_due.nd rfl (Or.inl rfl) (pv 1))
 (pss_cons (ps_while PassesOwn.never (pt_cmpR (op_neL (hu0 hr)) (pv 2) (pe_lst pa_nil) (nomark _))
 (pss_cons (ps_asg (pe_bm0 PySem.F.plainAttrs_list PySem.F.slot_list_pop PySem.F.type_list_pop mt_pop (pv 2)) (pg_tup rfl (pgs_cons (pg_name (i := 6) sc_l_sheet_due.nd rfl (Or.inl rfl)) (pgs_cons (pg_name (i := 7) sc_l_sheet_due.nd rfl (Or.inl rfl)) pgs_nil))))
 (pss_one (ps_if (pt_cmpR op_eq (pe_ix ix_tup (pv 6) pe_int (fun _ _ => rfl)) pe_str (nomark _))
 (pss_one (ps_expr (pe_bm PySem.F.plainAttrs_list PySem.F.slot_list_append PySem.F.type_list_append mt_append (pv 3) (pa_cons (pe_ix ix_tup (pv 6) pe_int (fun _ _ => rfl)) pa_nil))))
 (pss_one (ps_if (pt_not (pt_val (pv 7)))
 (pss_cons (ps_expr (pe_bm PySem.F.plainAttrs_list PySem.F.slot_list_append PySem.F.type_list_append mt_append (pv 2) (pa_cons (pe_tup (pa_cons (pv 6) (pa_cons pe_bl pa_nil))) pa_nil)))
 (pss_one (ps_for PassesOwn.never rfl (pi_rvt B.reversed_ (pa_cons (pe_slice sl_tup (pv 6) (po_some pe_int) po_none) pa_nil)) (pg_name (i := 8) sc_l_sheet_due.nd rfl (Or.inl rfl))
 (pss_one (ps_expr (pe_bm PySem.F.plainAttrs_list PySem.F.slot_list_append PySem.F.type_list_append mt_append (pv 2) (pa_cons (pe_tup (pa_cons (pv 8) (pa_cons pe_bl pa_nil))) pa_nil)))))))
 (pss_one (ps_if (pt_cmpR op_eq (pe_ix ix_tup (pv 6) pe_int (fun _ _ => rfl)) pe_str (nomark _))
 (pss_one (ps_expr (pe_bm PySem.F.plainAttrs_list PySem.F.slot_list_append PySem.F.type_list_append mt_append (pv 3) (pa_cons (pe_un un_neg (pe_bm0 PySem.F.plainAttrs_list PySem.F.slot_list_pop PySem.F.type_list_pop mt_pop (pv 3))) pa_nil))))
 (pss_cons (ps_set (i := 9) sc_l_sheet_due.nd rfl (Or.inl rfl) (pe_bm0 PySem.F.plainAttrs_list PySem.F.slot_list_pop PySem.F.type_list_pop mt_pop (pv 3)))
 (pss_cons (ps_set (i := 8) sc_l_sheet_due.nd rfl (Or.inl rfl) (pe_bm0 PySem.F.plainAttrs_list PySem.F.slot_list_pop PySem.F.type_list_pop mt_pop (pv 3)))
 (pss_cons (ps_set (i := 5) sc_l_sheet_due.nd rfl (Or.inl rfl) (pe_op op_add (pv 5) pe_int))
 (pss_cons (ps_if (pt_cmpR op_eq (pe_ix ix_tup (pv 6) pe_int (fun _ _ => rfl)) pe_str (nomark _))
 (pss_one (ps_expr (pe_bm PySem.F.plainAttrs_list PySem.F.slot_list_extend PySem.F.type_list_extend mt_extendLT (pv 4) (pa_cons (pe_lst (pa_cons (pe_lst (pa_cons (pe_un un_neg (pv 5)) (pa_cons (pv 8) pa_nil))) (pa_cons (pe_lst (pa_cons (pe_un un_neg (pv 5)) (pa_cons (pv 9) pa_nil))) (pa_cons (pe_lst (pa_cons (pv 5) (pa_cons (pe_un un_neg (pv 8)) (pa_cons (pe_un un_neg (pv 9)) pa_nil)))) pa_nil)))) pa_nil))))
 (pss_one (ps_if (pt_cmpR op_eq (pe_ix ix_tup (pv 6) pe_int (fun _ _ => rfl)) pe_str (nomark _))
 (pss_one (ps_expr (pe_bm PySem.F.plainAttrs_list PySem.F.slot_list_extend PySem.F.type_list_extend mt_extendLT (pv 4) (pa_cons (pe_lst (pa_cons (pe_lst (pa_cons (pv 5) (pa_cons (pe_un un_neg (pv 8)) pa_nil))) (pa_cons (pe_lst (pa_cons (pv 5) (pa_cons (pe_un un_neg (pv 9)) pa_nil))) (pa_cons (pe_lst (pa_cons (pe_un un_neg (pv 5)) (pa_cons (pv 8) (pa_cons (pv 9) pa_nil)))) pa_nil)))) pa_nil))))
 (pss_cons (ps_expr (pe_bm PySem.F.plainAttrs_list PySem.F.slot_list_extend PySem.F.type_list_extend mt_extendLT (pv 4) (pa_cons (pe_lst (pa_cons (pe_lst (pa_cons (pe_un un_neg (pv 5)) (pa_cons (pe_un un_neg (pv 8)) (pa_cons (pv 9) pa_nil)))) (pa_cons (pe_lst (pa_cons (pe_un un_neg (pv 5)) (pa_cons (pv 8) (pa_cons (pe_un un_neg (pv 9)) pa_nil)))) pa_nil))) pa_nil)))
 (pss_one (ps_expr (pe_bm PySem.F.plainAttrs_list PySem.F.slot_list_extend PySem.F.type_list_extend mt_extendLT (pv 4) (pa_cons (pe_lst (pa_cons (pe_lst (pa_cons (pv 5) (pa_cons (pv 8) (pa_cons (pv 9) pa_nil)))) (pa_cons (pe_lst (pa_cons (pv 5) (pa_cons (pe_un un_neg (pv 8)) (pa_cons (pe_un un_neg (pv 9)) pa_nil)))) pa_nil))) pa_nil))))))))
 (pss_one (ps_expr (pe_bm PySem.F.plainAttrs_list PySem.F.slot_list_append PySem.F.type_list_append mt_append (pv 3) (pa_cons (pv 5) pa_nil))))))))))))))))
 (pss_one (ps_ret (pe_tup (pa_cons (pv 5) (pa_cons (pe_op op_cat (pv 4) (pe_lst (pa_cons (pv 3) pa_nil))) pa_nil)))))))))), ?_⟩
    have tupL : ∀ {Hy : Hp} {o : HO} {z : Addr} {ys : List V}, Hy z = some (.lst ys) → ∀ a xs, Hy a = some (.tup xs) → upd Hy z o a = some (.tup xs) := fun {Hy o z ys} hl a xs h => by rw [upd_ne (ne_of h hl (by intro q; cases q))]; exact h
    refine ⟨_, rfl, len2, fun p0 hp0 => ?_⟩
    have s0' : Same H (upd H p0 (.tup [.ref a, .bl false])) := (Same.refl H).upd hp0
    have g0 : upd H p0 (.tup [.ref a, .bl false]) p0 = some (.tup [.ref a, .bl false]) := upd_same
    generalize upd H p0 (.tup [.ref a, .bl false]) = H0 at s0' g0
    refine ⟨len1, fun lt hlt => ?_⟩
    have s1 : Same H0 (upd H0 lt (.lst [V.ref p0])) := (Same.refl H0).upd hlt
    have g1 : upd H0 lt (.lst [V.ref p0]) lt = some (.lst (tdrefs [(p0, a, s0, false)])) := upd_same
    generalize upd H0 lt (.lst [V.ref p0]) = H1 at s1 g1
    refine ⟨by decide, fun ll hll => ?_⟩
    have s2 : Same H1 (upd H1 ll (.lst [])) := (Same.refl H1).upd hll
    have g2 : upd H1 ll (.lst []) ll = some (.lst (([] : List Int).reverse.map V.int)) := upd_same
    have ntl : lt ≠ ll := ne_of_none g1 hll
    generalize upd H1 ll (.lst []) = H2 at s2 g2
    refine ⟨by decide, fun lw hlw => ?_⟩
    have s3 : Same H2 (upd H2 lw (.lst [])) := (Same.refl H2).upd hlw
    have g3 : upd H2 lw (.lst []) lw = some (.lst (wrefs [])) := upd_same
    have ntw : lt ≠ lw := ne_of_none (s2 _ _ g1) hlw
    have nlw : ll ≠ lw := ne_of_none g2 hlw
    generalize upd H2 lw (.lst []) = H3 at s3 g3
    have s01 := s0'.trans s1
    have s02 := s01.trans s2
    have s03 := s02.trans s3
    have hltH : H lt = none := s0'.free hlt
    have hllH : H ll = none := s01.free hll
    have hlwH : H lw = none := s02.free hlw
    refine ⟨_, rfl, ?_⟩
    refine rd_seq (while_K (fun m σ Hx => ∃ (ts : List Td) (x : Sh) (ws : List Wr) (v6 v7 v8 v9 : Option V), m = tdW ts ∧ σ = [some (.ref a), some (.int c), some (.ref lt), some (.ref ll), some (.ref lw), some (.int x.p), v6, v7, v8, v9] ∧ DuB ts x.st ws lt lw ll H Hx ∧ DuN c s0 ts x ws)
      ⟨_, [(p0, a, s0, false)], ⟨[], [], c⟩, [], none, none, none, none, rfl, rfl, ⟨s03, s3 _ _ (s2 _ _ g1), g3, s3 _ _ g2, (fun r hr => ?_), (fun _ h => nomatch h), (fun _ h => nomatch h), ntw, ntl, nlw, hltH, hlwH, hllH⟩, rfl, ?_, ?_, ?_, ?_⟩ ?_)
    · have : r = (p0, a, s0, false) := by simpa using hr
      rw [this]; exact ⟨s3 _ _ (s2 _ _ (s1 _ _ g0)), ha.same s03⟩
    · have := runL_post s0 [] ⟨[], [], c⟩
      rw [List.append_nil] at this
      have e : flatT [(p0, a, s0, false)] = post s0 := by simp [flatT, flat1]
      rw [e, this]
      simp [runL]
    · simp [flatT, flat1]
    · simp [flatT, flat1]
    · simp [flatT, flat1]
    rintro m σ Hx ⟨ts, x, ws, v6, v7, v8, v9, rfl, rfl, hI, hM⟩ Y X hY hX
    refine ⟨_, rfl, by decide, fun le hle => ?_⟩
    have se : Same Hx (upd Hx le (.lst [])) := (Same.refl Hx).upd hle
    have ge : upd Hx le (.lst []) le = some (.lst []) := upd_same
    generalize upd Hx le (.lst []) = He at se ge
    have hI := hI.same se
    refine ⟨_, ⟨lt, le, _, _, rfl, rfl, SqL.of hI.ht, SqL.of ge, .inl ⟨rfl, rfl⟩⟩, _, rfl, ?_⟩
    by_cases hts : ts = []
    · subst hts
      refine iteF (hX _ _ ?_)
      have ex : x = ⟨[(enc s0 c).1], (enc s0 c).2.1, (enc s0 c).2.2⟩ := Option.some.inj hM.run
      subst ex
      refine ⟨_, rfl, _, rfl, _, rfl, len1, fun pl hpl => ?_⟩
      have s4 : Same He (upd He pl (.lst [V.ref ll])) := (Same.refl He).upd hpl
      have g4 : upd He pl (.lst [V.ref ll]) pl = some (.lst [V.ref ll]) := upd_same
      generalize upd He pl (.lst [V.ref ll]) = H4 at s4 g4
      have h4 := hI.same s4
      have hwn := hM.wn
      refine ⟨lw, pl, _, _, rfl, rfl, h4.hw, g4, small6' (by rw [wrefs_len]; simp; omega), fun l2 hl2 => ?_⟩
      have ewr : wrefs ws ++ [V.ref ll] = wrefs (ws ++ [(ll, [(enc s0 c).1])]) := by simp [wrefs]
      rw [ewr]
      have s5 : Same H4 (upd H4 l2 (.lst (wrefs (ws ++ [(ll, [(enc s0 c).1])])))) := (Same.refl H4).upd hl2
      have g5 : upd H4 l2 (.lst (wrefs (ws ++ [(ll, [(enc s0 c).1])]))) l2 = some (.lst (wrefs (ws ++ [(ll, [(enc s0 c).1])]))) := upd_same
      generalize upd H4 l2 (.lst (wrefs (ws ++ [(ll, [(enc s0 c).1])]))) = H5 at s5 g5
      have h5 := h4.same s5
      refine ⟨len2, fun t ht => ?_⟩
      have s6 : Same H5 (upd H5 t (.tup [.int ((enc s0 c).2.2 : Nat), .ref l2])) := (Same.refl H5).upd ht
      refine q t l2 ll ws _ (h5.sm.trans s6) (h5.sm.free ht) upd_same (s6 _ _ g5) (fun r hr => ?_) hM.ew
      rcases List.mem_append.mp hr with z | z
      · exact s6 _ _ (h5.ok r z)
      · have : r = (ll, [(enc s0 c).1]) := by simpa using z
        rw [this]; exact s6 _ _ h5.hl
    · obtain ⟨ti, r, rfl⟩ : ∃ ti r, ts = ti ++ [r] := ⟨_, _, (List.dropLast_concat_getLast hts).symm⟩
      have e1 : (!(tdrefs (ti ++ [r])).isEmpty) = true := by simp [tdrefs]
      rw [e1]
      refine iteT ⟨Y, fun _ _ h => h, ?_⟩
      have er : tdrefs (ti ++ [r]) = tdrefs ti ++ [V.ref r.1] := by simp [tdrefs]
      have hxt := hI.ht
      rw [er] at hxt
      refine ⟨_, rfl, .inl ⟨rfl, _, SqL.of hxt⟩, lt, _, .ref r.1, rfl, rfl, hxt, by simp, ?_⟩
      have ed : (tdrefs ti ++ [V.ref r.1]).dropLast = tdrefs ti := by simp
      dsimp only
      rw [ed]
      have h4 := hI.pop (xs := tdrefs ti) rfl
      have hrk : upd He lt (.lst (tdrefs ti)) r.1 = _ := upd_tup hI.ht _ _ (hI.tk r (by simp)).1
      have hrs : SAt (upd He lt (.lst (tdrefs ti))) r.2.2.1 r.2.1 := (hI.tk r (by simp)).2.mono (upd_tup hI.ht)
      generalize upd He lt (.lst (tdrefs ti)) = H4 at h4 hrk hrs
      refine ⟨r.1, _, rfl, SqT.of hrk, rfl, _, _, rfl, _, _, rfl, rfl, ?_⟩
      have hrun := hM.run
      have hsl := hM.sl
      have hwn := hM.wn
      have hpn := hM.pn
      have hew := hM.ew
      rw [flatT_snoc] at hrun hsl hwn hpn
      rw [tdW_snoc] at hY
      have htl := flatT_len ti
      obtain ⟨ra, pa, pt, fl⟩ := r
      obtain ⟨x_st, x_W, x_p⟩ := x
      dsimp only at hrun hsl hwn hpn hew h4 hrs hrk hY
      rcases hrs.kids with ⟨k, rfl⟩ | ⟨wd0, chs, hpa, hnl, hPc, hpp, hcs⟩
      · have hk : H4 pa = some (.tup [.str "lamp", .int k]) := hrs
        have ef : flat1 (.lamp k) fl = [.lamp k] := by cases fl <;> rfl
        rw [ef] at hrun hsl hwn hpn
        refine ⟨_, rfl, pa, _, _, _, rfl, rfl, SqT.of hk, rfl, rfl, _, rfl, iteT ?_⟩
        refine ⟨_, rfl, .inl ⟨rfl, _, SqL.of h4.hl⟩, _, rfl, pa, _, _, _, rfl, rfl, SqT.of hk, rfl, ll, _, _, rfl, rfl, h4.hl, small6 (by simp at hsl ⊢; omega), ?_⟩
        refine hY _ _ ⟨_, ?_, ti, ⟨(k : Int) :: x_st, x_W, x_p⟩, ws, _, _, _, _, rfl, rfl, h4.let_ (by simp), hew, hrun, by simp at hsl ⊢; omega, by simp at hwn ⊢; omega, by simp at hpn ⊢; omega⟩
        cases fl <;> simp [post]
      · have h0 : atI (V.str wd0 :: prefs chs) 0 = some (V.str wd0) := by rcases hcs with ⟨q, rfl⟩ | ⟨q, r, rfl⟩ <;> rfl
        refine ⟨_, rfl, pa, _, _, _, rfl, rfl, SqT.of hpa, h0, rfl, _, rfl, ite2 (fun z => by rw [hnl] at z; cases z) (fun _ => ?_)⟩
        cases fl with
        | false =>
          refine ⟨_, rfl, _, rfl, iteT ?_⟩
          have hul : (flatT ti).length + 3 ≤ 10003 := by have := post_pos pt; simp [flat1] at hsl; omega
          refine ⟨_, rfl, .inl ⟨rfl, _, SqL.of h4.ht⟩, _, rfl, len2, fun p5 hp5 => ?_⟩
          refine ⟨lt, _, _, rfl, rfl, by rw [upd_ne (ne_of_none h4.ht hp5)]; exact h4.ht, small6 (by rw [tdrefs_len]; omega), ?_⟩
          have h6 := h4.push (b := true) hp5 hrs
          have k6 : ∀ a xs, H4 a = some (.tup xs) → upd (upd H4 p5 (.tup [.ref pa, .bl true])) lt (.lst (tdrefs ti ++ [V.ref p5])) a = some (.tup xs) := fun a xs h => upd_tup (by rw [upd_ne (ne_of_none h4.ht hp5)]; exact h4.ht) _ _ (by rw [upd_ne (ne_of_none h hp5)]; exact h)
          dsimp only
          generalize upd (upd H4 p5 (.tup [.ref pa, .bl true])) lt (.lst (tdrefs ti ++ [V.ref p5])) = H6 at h6 k6
          have hpa6 := k6 _ _ hpa
          have hP6 : PsOk H6 chs := hPc.tups k6
          have hcut : cutV (V.str wd0 :: prefs chs) (some 1) none = prefs chs := by rcases hcs with ⟨q, rfl⟩ | ⟨q, r, rfl⟩ <;> rfl
          refine ⟨_, rfl, _, rfl, pa, _, rfl, SqT.of hpa6, ?_, fun p7 hp7 => ?_⟩
          · rcases hcs with ⟨q, rfl⟩ | ⟨q, r, rfl⟩
            · show ¬ (HT.sIx 2 0 (some 1) = 0 ∧ HT.sIx 2 2 none = 2)
              decide
            · show ¬ (HT.sIx 3 0 (some 1) = 0 ∧ HT.sIx 3 3 none = 3)
              decide
          rw [hcut]
          have s7 : Same H6 (upd H6 p7 (.tup (prefs chs))) := (Same.refl H6).upd hp7
          have g7 : upd H6 p7 (.tup (prefs chs)) p7 = some (.tup (prefs chs)) := upd_same
          generalize upd H6 p7 (.tup (prefs chs)) = H7 at s7 g7
          have hcl : (prefs chs).length ≤ 2 := by rcases hcs with ⟨q, rfl⟩ | ⟨q, r, rfl⟩ <;> simp [prefs]
          refine ⟨p7, _, rfl, SqT.of g7, ?_⟩
          refine for_rvt (K := K) (a := p7) (xs := prefs chs) (fun i σ Hx => ∃ (ds : List Td) (v8 : Option V), ds.map (·.2) = (chs.reverse.take i).map (fun q => (q.1, q.2, false)) ∧ σ = [some (.ref a), some (.int c), some (.ref lt), some (.ref ll), some (.ref lw), some (.int x_p), some (.ref pa), some (.bl false), v8, v9] ∧ DuB (ti ++ [(p5, pa, pt, true)] ++ ds) x_st ws lt lw ll H Hx ∧ Hx p7 = some (.tup (prefs chs)) ∧ PsOk Hx chs)
            ⟨[], v8, rfl, rfl, by rw [List.append_nil]; exact h6.same s7, g7, hP6.same s7⟩ (fun i σ Hx _ ⟨_, _, _, _, _, e, _⟩ => SqT.of e) ?_ ?_
          · rintro i y σ Hx hi ⟨ds, v8, eds, rfl, hB, h7, hPx⟩
            have erv : (prefs chs).reverse = prefs chs.reverse := by simp [prefs]
            rw [erv] at hi
            obtain ⟨p, hpi, rfl⟩ := getV (f := fun p : Pt => V.ref p.1) hi
            have hpm : p ∈ chs := by simpa using List.mem_of_getElem? hpi
            have hil : i < (prefs chs).length := by have := (List.getElem?_eq_some_iff.mp hpi).1; simpa [prefs] using this
            have hdl : ds.length ≤ i := by have := congrArg List.length eds; simp at this; omega
            refine ⟨_, rfl, .inl ⟨rfl, _, SqL.of hB.ht⟩, _, rfl, len2, fun p8 hp8 => ?_⟩
            refine ⟨lt, _, _, rfl, rfl, by rw [upd_ne (ne_of_none hB.ht hp8)]; exact hB.ht, small6 (by rw [tdrefs_len]; simp; omega), ?_⟩
            have h8 := hB.push (b := false) hp8 (hPx p hpm)
            have k8 : ∀ a xs, Hx a = some (.tup xs) → upd (upd Hx p8 (.tup [.ref p.1, .bl false])) lt (.lst (tdrefs (ti ++ [(p5, pa, pt, true)] ++ ds) ++ [V.ref p8])) a = some (.tup xs) := fun a xs h => upd_tup (by rw [upd_ne (ne_of_none hB.ht hp8)]; exact hB.ht) _ _ (by rw [upd_ne (ne_of_none h hp8)]; exact h)
            refine ⟨ds ++ [(p8, p.1, p.2, false)], _, ?_, rfl, by rw [← List.append_assoc]; exact h8, k8 _ _ h7, hPx.tups k8⟩
            rw [List.map_append, eds, List.take_add_one, hpi]; simp
          · rintro σ Hx ⟨ds, v8, eds, rfl, hB, h7, hPx⟩
            have etk : chs.reverse.take (prefs chs).length = chs.reverse := by rw [List.take_of_length_le]; simp [prefs]
            rw [etk] at eds
            have efl : flatT (ti ++ [(p5, pa, pt, true)] ++ ds) = post pt ++ flatT ti := by
              rw [flatT_of, List.map_append, List.map_append, eds, flatT_of, hpp]
              rcases hcs with ⟨q, rfl⟩ | ⟨q, r, rfl⟩ <;> simp [flat1, posts]
            have etw : tdW (ti ++ [(p5, pa, pt, true)] ++ ds) < tdW ti + 2 * (post pt).length := by
              rw [tdW_of, List.map_append, List.map_append, eds, tdW_of, hpp]
              rcases hcs with ⟨q, rfl⟩ | ⟨q, r, rfl⟩ <;> simp [tdV, posts] <;> omega
            have ef1 : flat1 pt false = post pt := rfl
            rw [ef1] at hrun hsl hwn hpn
            exact hY _ _ ⟨_, etw, _, ⟨x_st, x_W, x_p⟩, ws, _, _, _, _, rfl, rfl, hB, hew, by rw [efl]; exact hrun, by rw [efl]; exact hsl, by rw [efl]; exact hwn, by rw [efl]; exact hpn⟩
        | true =>
          refine ⟨_, rfl, _, rfl, iteF ?_⟩
          cases pt with
          | lamp k =>
            have hk : H4 pa = some (.tup [.str "lamp", .int k]) := hrs
            rw [hk] at hpa
            have := Option.some.inj hpa
            injection this with h1
            injection h1 with h2 h3
            rw [← h2] at hnl
            exact absurd hnl (by decide +kernel)
          | non s1 =>
            obtain ⟨b, hb, _⟩ := hrs
            cases x_st with
            | nil => cases hrun
            | cons l0 st =>
              have hxll := h4.hl
              have er : ((l0 :: st).reverse.map V.int) = st.reverse.map V.int ++ [V.int l0] := by simp
              rw [er] at hxll
              refine ⟨_, rfl, pa, _, _, _, rfl, rfl, SqT.of hb, rfl, rfl, _, rfl, iteT ?_⟩
              refine ⟨_, rfl, .inl ⟨rfl, _, SqL.of hxll⟩, _, rfl, .inl ⟨rfl, _, SqL.of hxll⟩, ll, _, .int l0, rfl, rfl, hxll, by simp, _, rfl, ?_⟩
              have ed : (st.reverse.map V.int ++ [V.int l0]).dropLast = st.reverse.map V.int := by simp
              dsimp only
              rw [ed]
              refine ⟨ll, _, _, rfl, rfl, upd_same, small6 (by simp at hsl ⊢; omega), ?_⟩
              exact hY _ _ ⟨_, Nat.lt_succ_self _, ti, ⟨-l0 :: st, x_W, x_p⟩, ws, _, _, _, _, rfl, rfl, (h4.let_ (st' := st) rfl).let_ (by simp), hew, hrun, by simp [flat1] at hsl ⊢; omega, by simp [flat1] at hwn ⊢; omega, by simp [flat1] at hpn ⊢; omega⟩
          | two wd s1 s2 =>
            obtain ⟨b, d, hb, _, _⟩ := hrs
            have nn : ¬ V.str wd.str = V.str "not" := by cases wd <;> (intro z; revert z; decide +kernel)
            cases x_st with
            | nil => cases hrun
            | cons y0 st =>
              cases st with
              | nil => cases hrun
              | cons x0 st =>
                have hxll := h4.hl
                have er : ((y0 :: x0 :: st).reverse.map V.int) = (x0 :: st).reverse.map V.int ++ [V.int y0] := by simp
                rw [er] at hxll
                refine ⟨_, rfl, pa, _, _, _, rfl, rfl, SqT.of hb, rfl, rfl, _, rfl, ite2 (fun z => absurd (of_decide_eq_true z) nn) (fun _ => ?_)⟩
                refine ⟨_, rfl, .inl ⟨rfl, _, SqL.of hxll⟩, ll, _, .int y0, rfl, rfl, hxll, by simp, ?_⟩
                have ed : ((x0 :: st).reverse.map V.int ++ [V.int y0]).dropLast = (x0 :: st).reverse.map V.int := by simp
                dsimp only
                rw [ed]
                have h5 := h4.let_ (st' := x0 :: st) (xs := (x0 :: st).reverse.map V.int) rfl
                have hb5 : upd H4 ll (.lst ((x0 :: st).reverse.map V.int)) pa = _ := upd_tup hxll _ _ hb
                generalize upd H4 ll (.lst ((x0 :: st).reverse.map V.int)) = H5 at h5 hb5
                have h5l := h5.hl
                have er2 : ((x0 :: st).reverse.map V.int) = st.reverse.map V.int ++ [V.int x0] := by simp
                rw [er2] at h5l
                refine ⟨_, rfl, .inl ⟨rfl, _, SqL.of h5l⟩, ll, _, .int x0, rfl, rfl, h5l, by simp, ?_⟩
                have ed2 : (st.reverse.map V.int ++ [V.int x0]).dropLast = st.reverse.map V.int := by simp
                dsimp only
                rw [ed2]
                have h6 := h5.let_ (st' := st) (xs := st.reverse.map V.int) rfl
                have hb6 : upd H5 ll (.lst (st.reverse.map V.int)) pa = _ := upd_tup h5l _ _ hb5
                generalize upd H5 ll (.lst (st.reverse.map V.int)) = H6 at h6 hb6
                refine ⟨_, rfl, _, _, rfl, rfl, ?_⟩
                have elp : ((x_p : Int) + 1) = ((x_p + 1 : Nat) : Int) := by omega
                dsimp only
                rw [elp]
                refine rd_k fun N hN => ?_
                have fin : ∀ {Hy : Hp} {ws' : List Wr}, DuB ti st ws' lt lw ll H Hy → wl ws' = x_W ++ wishW wd ((x_p + 1 : Nat) : Int) x0 y0 → ws'.length ≤ ws.length + 4 → N [some (.ref a), some (.int c), some (.ref lt), some (.ref ll), some (.ref lw), some (.int ((x_p + 1 : Nat) : Int)), some (.ref pa), some (.bl true), some (.int x0), some (.int y0)] Hy := fun {Hy ws'} hB he hl => by
                  refine hN _ _ ⟨_, rfl, .inl ⟨rfl, _, SqL.of hB.hl⟩, _, rfl, ll, _, _, rfl, rfl, hB.hl, small6 (by simp at hsl ⊢; omega), ?_⟩
                  exact hY _ _ ⟨_, Nat.lt_succ_self _, ti, ⟨((x_p + 1 : Nat) : Int) :: st, x_W ++ wishW wd ((x_p + 1 : Nat) : Int) x0 y0, x_p + 1⟩, ws', _, _, _, _, rfl, rfl, hB.let_ (by simp), he, hrun, by simp [flat1] at hsl ⊢; omega, by simp [flat1] at hwn ⊢; omega, by simp [flat1] at hpn ⊢; omega⟩
                have hwl : ws.length ≤ 40000 := by omega
                have ewl : ∀ us : List Wr, wl (ws ++ us) = x_W ++ wl us := fun us => by simp [wl] at hew ⊢; exact hew
                generalize ((x_p + 1 : Nat) : Int) = p at fin
                cases wd with
                | and =>
                  refine ⟨_, rfl, pa, _, _, _, rfl, rfl, SqT.of hb6, rfl, rfl, _, rfl, iteT ?_⟩
                  refine ⟨_, rfl, .inl ⟨rfl, _, SqL.of h6.hw⟩, _, rfl, _, rfl, _, rfl, len2, fun p1 q1 => ?_⟩
                  have L1 := (Laid.zero H6).new (v := [-p, x0]) rfl q1
                  refine ⟨_, rfl, _, rfl, _, rfl, len2, fun p2 q2 => ?_⟩
                  have L2 := L1.new (v := [-p, y0]) rfl q2
                  refine ⟨_, rfl, _, rfl, _, rfl, _, rfl, _, rfl, len3, fun p3 q3 => ?_⟩
                  have L3 := L2.new (v := [p, -x0, -y0]) rfl q3
                  refine ⟨len3, fun l hl => ?_⟩
                  have L4 := L3.over (o := .lst [V.ref p1, V.ref p2, V.ref p3]) hl
                  refine ⟨lw, l, _, _, rfl, rfl, (h6.same L4.sm).hw, .inl upd_same, small6' (by rw [wrefs_len]; simp; omega), ?_⟩
                  exact fin (h6.wish L4 (by simp [wrefs])) (by rw [ewl]; rfl) (by simp)
                | or =>
                  refine ⟨_, rfl, pa, _, _, _, rfl, rfl, SqT.of hb6, rfl, rfl, _, rfl, iteF ?_⟩
                  refine ⟨_, rfl, pa, _, _, _, rfl, rfl, SqT.of hb6, rfl, rfl, _, rfl, iteT ?_⟩
                  refine ⟨_, rfl, .inl ⟨rfl, _, SqL.of h6.hw⟩, _, rfl, _, rfl, _, rfl, len2, fun p1 q1 => ?_⟩
                  have L1 := (Laid.zero H6).new (v := [p, -x0]) rfl q1
                  refine ⟨_, rfl, _, rfl, _, rfl, len2, fun p2 q2 => ?_⟩
                  have L2 := L1.new (v := [p, -y0]) rfl q2
                  refine ⟨_, rfl, _, rfl, _, rfl, _, rfl, len3, fun p3 q3 => ?_⟩
                  have L3 := L2.new (v := [-p, x0, y0]) rfl q3
                  refine ⟨len3, fun l hl => ?_⟩
                  have L4 := L3.over (o := .lst [V.ref p1, V.ref p2, V.ref p3]) hl
                  refine ⟨lw, l, _, _, rfl, rfl, (h6.same L4.sm).hw, .inl upd_same, small6' (by rw [wrefs_len]; simp; omega), ?_⟩
                  exact fin (h6.wish L4 (by simp [wrefs])) (by rw [ewl]; rfl) (by simp)
                | same =>
                  refine ⟨_, rfl, pa, _, _, _, rfl, rfl, SqT.of hb6, rfl, rfl, _, rfl, iteF ?_⟩
                  refine ⟨_, rfl, pa, _, _, _, rfl, rfl, SqT.of hb6, rfl, rfl, _, rfl, iteF ?_⟩
                  refine ⟨_, rfl, .inl ⟨rfl, _, SqL.of h6.hw⟩, _, rfl, _, rfl, _, rfl, _, rfl, _, rfl, len3, fun p1 q1 => ?_⟩
                  have L1 := (Laid.zero H6).new (v := [-p, -x0, y0]) rfl q1
                  refine ⟨_, rfl, _, rfl, _, rfl, _, rfl, _, rfl, len3, fun p2 q2 => ?_⟩
                  have L2 := L1.new (v := [-p, x0, -y0]) rfl q2
                  refine ⟨len2, fun l hl => ?_⟩
                  have L4 := L2.over (o := .lst [V.ref p1, V.ref p2]) hl
                  refine ⟨lw, l, _, _, rfl, rfl, (h6.same L4.sm).hw, .inl upd_same, small6' (by rw [wrefs_len]; simp; omega), ?_⟩
                  have h7 := h6.wish L4 (xs := wrefs ws ++ [V.ref p1, V.ref p2]) (by simp [wrefs])
                  refine ⟨_, rfl, .inl ⟨rfl, _, SqL.of h7.hw⟩, _, rfl, _, rfl, _, rfl, len3, fun p3 q3 => ?_⟩
                  have M1 := (Laid.zero _).new (v := [p, x0, y0]) rfl q3
                  refine ⟨_, rfl, _, rfl, _, rfl, _, rfl, _, rfl, len3, fun p4 q4 => ?_⟩
                  have M2 := M1.new (v := [p, -x0, -y0]) rfl q4
                  refine ⟨len2, fun l' hl' => ?_⟩
                  have M4 := M2.over (o := .lst [V.ref p3, V.ref p4]) hl'
                  refine ⟨lw, l', _, _, rfl, rfl, (h7.same M4.sm).hw, .inl upd_same, small6' (by rw [wrefs_len]; simp; omega), ?_⟩
                  refine fin (h7.wish M4 (by simp [wrefs])) ?_ (by simp)
                  rw [List.append_assoc, ewl]; rfl
end
theorem so_opp' {bs : List Bool} {n : Int} (h : n ≠ 0) : so bs (-n) = !so bs n := by
  unfold so
  have e1 : (-n).natAbs = n.natAbs := Int.natAbs_neg n
  rw [e1]
  by_cases h0 : 0 < n
  · have e2 : decide (0 < -n) = false := decide_eq_false (by omega)
    rw [e2, decide_eq_true h0]; cases bs.getD (n.natAbs - 1) false <;> rfl
  · have e2 : decide (0 < -n) = true := decide_eq_true (by omega)
    rw [e2, decide_eq_false h0]; cases bs.getD (n.natAbs - 1) false <;> rfl
theorem wish_iff (L : List Bool) (w : Wd) {q a b : Int} (hq : q ≠ 0) (ha : a ≠ 0) (hb : b ≠ 0) : ((wishW w q a b).all fun v => v.any (so L)) = (so L q == opW w (so L a) (so L b)) := by
  cases w <;> simp only [wishW, List.all_cons, List.all_nil, List.any_cons, List.any_nil, so_opp' hq, so_opp' ha, so_opp' hb, opW] <;> (cases so L q <;> cases so L a <;> cases so L b <;> rfl)
theorem wishW_in {w : Wd} {q a b : Int} {N : Nat} (hq : q ≠ 0 ∧ q.natAbs ≤ N) (ha : a ≠ 0 ∧ a.natAbs ≤ N) (hb : b ≠ 0 ∧ b.natAbs ≤ N) : ∀ v ∈ wishW w q a b, v ≠ [] ∧ ∀ n ∈ v, n ≠ 0 ∧ n.natAbs ≤ N := by
  have e : ∀ n, n = q ∨ n = -q ∨ n = a ∨ n = -a ∨ n = b ∨ n = -b → n ≠ 0 ∧ n.natAbs ≤ N := fun n h => by omega
  intro v hv
  cases w <;> simp only [wishW, List.mem_cons, List.not_mem_nil, or_false] at hv
  · rcases hv with z | z | z <;> (subst z; refine ⟨by simp, fun n hn => e n ?_⟩; simp only [List.mem_cons, List.not_mem_nil, or_false] at hn; omega)
  · rcases hv with z | z | z <;> (subst z; refine ⟨by simp, fun n hn => e n ?_⟩; simp only [List.mem_cons, List.not_mem_nil, or_false] at hn; omega)
  · rcases hv with z | z | z | z <;> (subst z; refine ⟨by simp, fun n hn => e n ?_⟩; simp only [List.mem_cons, List.not_mem_nil, or_false] at hn; omega)
theorem enc_p (b : List Bool) : ∀ (s : Stt) (p : Nat), (enc s p).2.2 = p + (btS b s).length
  | .lamp k, p => by simp [enc, btS]
  | .non s, p => by simp only [enc, btS]; exact enc_p b s p
  | .two w s t, p => by
    have h1 := enc_p b s p
    have h2 := enc_p b t (enc s p).2.2
    simp [enc, btS]; omega
theorem enc_in {n : Nat} : ∀ (s : Stt) (p : Nat), okS n s → n ≤ p → ((enc s p).1 ≠ 0 ∧ (enc s p).1.natAbs ≤ (enc s p).2.2) ∧ p ≤ (enc s p).2.2 ∧ ∀ v ∈ (enc s p).2.1, v ≠ [] ∧ ∀ m ∈ v, m ≠ 0 ∧ m.natAbs ≤ (enc s p).2.2
  | .lamp k, p, h, hp => by
    have h1 : 1 ≤ k ∧ k ≤ n := h
    simp [enc]; omega
  | .non s, p, h, hp => by
    obtain ⟨h1, h2, h3⟩ := enc_in s p h hp
    simp only [enc]
    exact ⟨⟨by omega, by rw [Int.natAbs_neg]; exact h1.2⟩, h2, h3⟩
  | .two w s t, p, h, hp => by
    obtain ⟨h1, h2, h3⟩ := enc_in s p h.1 hp
    obtain ⟨g1, g2, g3⟩ := enc_in t (enc s p).2.2 h.2 (by omega)
    simp only [enc]
    refine ⟨⟨by omega, by omega⟩, by omega, fun v hv => ?_⟩
    rcases List.mem_append.mp hv with z | z
    · rcases List.mem_append.mp z with y | y
      · exact ⟨(h3 v y).1, fun m hm => ⟨((h3 v y).2 m hm).1, by have := ((h3 v y).2 m hm).2; omega⟩⟩
      · exact ⟨(g3 v y).1, fun m hm => ⟨((g3 v y).2 m hm).1, by have := ((g3 v y).2 m hm).2; omega⟩⟩
    · exact wishW_in ⟨by omega, by omega⟩ ⟨h1.1, by omega⟩ ⟨g1.1, by omega⟩ v z
def Agr (L b : List Bool) (p : Nat) (ts : List Bool) : Prop := (∀ i, i < b.length → L.getD i false = b.getD i false) ∧ ∀ i, i < ts.length → L.getD (p + i) false = ts.getD i false
theorem Agr.app {L b : List Bool} {p : Nat} {ts us : List Bool} (h : Agr L b p (ts ++ us)) : Agr L b p ts ∧ Agr L b (p + ts.length) us := by
  refine ⟨⟨h.1, fun i hi => ?_⟩, h.1, fun i hi => ?_⟩
  · rw [h.2 i (by simp; omega)]
    simp [List.getD_eq_getElem?_getD, List.getElem?_append_left hi]
  · have := h.2 (ts.length + i) (by simp; omega)
    rw [← Nat.add_assoc] at this
    rw [this]
    simp [List.getD_eq_getElem?_getD, List.getElem?_append_right]
theorem enc_so {b : List Bool} (L : List Bool) : ∀ (s : Stt) (p : Nat), okS b.length s → b.length ≤ p → Agr L b p (btS b s) → so L (enc s p).1 = valS b s ∧ ∀ v ∈ (enc s p).2.1, v.any (so L) = true
  | .lamp k, p, h, hp, ha => by
    have h1 : 1 ≤ k ∧ k ≤ b.length := h
    refine ⟨?_, fun v hv => nomatch hv⟩
    show so L (k : Int) = b.getD (k - 1) false
    unfold so
    have e : decide (0 < (k : Int)) = true := decide_eq_true (by omega)
    have e2 : (k : Int).natAbs - 1 = k - 1 := by omega
    rw [e, e2, ha.1 (k - 1) (by omega)]
    cases b.getD (k - 1) false <;> rfl
  | .non s, p, h, hp, ha => by
    obtain ⟨h1, h2⟩ := enc_so L s p h hp ha
    refine ⟨?_, h2⟩
    show so L (-(enc s p).1) = !valS b s
    rw [so_opp' (enc_in s p h hp).1.1, h1]
  | .two w s t, p, h, hp, ha => by
    have ha' : Agr L b p ((btS b s ++ btS b t) ++ [opW w (valS b s) (valS b t)]) := ha
    obtain ⟨a1, a3⟩ := ha'.app
    obtain ⟨a1, a2⟩ := a1.app
    have i1 := enc_in s p h.1 hp
    have e1 := enc_p b s p
    obtain ⟨h1, h2⟩ := enc_so L s p h.1 hp a1
    have i2 := enc_in t (enc s p).2.2 h.2 (by omega)
    obtain ⟨g1, g2⟩ := enc_so L t (enc s p).2.2 h.2 (by omega) (by rw [e1]; exact a2)
    have e2 := enc_p b t (enc s p).2.2
    have hq : so L (((enc t (enc s p).2.2).2.2 + 1 : Nat) : Int) = opW w (valS b s) (valS b t) := by
      unfold so
      have e : decide (0 < (((enc t (enc s p).2.2).2.2 + 1 : Nat) : Int)) = true := decide_eq_true (by omega)
      have e4 : ((((enc t (enc s p).2.2).2.2 + 1 : Nat) : Int)).natAbs - 1 = p + (btS b s ++ btS b t).length + 0 := by simp; omega
      rw [e, e4, a3.2 0 (by simp)]
      simp
    refine ⟨hq, fun v hv => ?_⟩
    rcases List.mem_append.mp hv with z | z
    · exact (List.mem_append.mp z).elim (h2 v) (g2 v)
    · have := wish_iff L w (q := (((enc t (enc s p).2.2).2.2 + 1 : Nat) : Int)) (by omega) i1.1.1 i2.1.1
      rw [hq, h1, g1, beq_self_eq_true] at this
      exact List.all_eq_true.mp this v z
theorem so_away {L M : List Bool} {j : Nat} (h : ∀ i, i ≠ j → M.getD i false = L.getD i false) {n : Int} (hn : n.natAbs - 1 ≠ j) : so M n = so L n := by
  unfold so; rw [h _ hn]
theorem enc_turn {b : List Bool} {L M : List Bool} {j : Nat} (hj : M.getD j false = !L.getD j false) (hM : ∀ i, i ≠ j → M.getD i false = L.getD i false) : ∀ (s : Stt) (p : Nat), okS b.length s → b.length ≤ p → Agr L b p (btS b s) → p ≤ j → j < (enc s p).2.2 → ((enc s p).2.1.all fun v => v.any (so M)) = false
  | .lamp k, p, h, hp, ha, h1, h2 => by simp [enc] at h2; omega
  | .non s, p, h, hp, ha, h1, h2 => enc_turn hj hM s p h hp ha h1 h2
  | .two w s t, p, h, hp, ha, h1, h2 => by
    have ha' : Agr L b p ((btS b s ++ btS b t) ++ [opW w (valS b s) (valS b t)]) := ha
    obtain ⟨a1, a3⟩ := ha'.app
    obtain ⟨a1, a2⟩ := a1.app
    have i1 := enc_in s p h.1 hp
    have e1 := enc_p b s p
    have i2 := enc_in t (enc s p).2.2 h.2 (by omega)
    have e2 := enc_p b t (enc s p).2.2
    show ((enc s p).2.1 ++ (enc t (enc s p).2.2).2.1 ++ wishW w (((enc t (enc s p).2.2).2.2 + 1 : Nat) : Int) (enc s p).1 (enc t (enc s p).2.2).1).all _ = false
    have h2' : j < (enc t (enc s p).2.2).2.2 + 1 := h2
    rw [List.all_append, List.all_append]
    by_cases c1 : j < (enc s p).2.2
    · rw [enc_turn hj hM s p h.1 hp a1 h1 c1]; simp
    · by_cases c2 : j < (enc t (enc s p).2.2).2.2
      · rw [enc_turn hj hM t (enc s p).2.2 h.2 (by omega) (by rw [e1]; exact a2) (by omega) c2]; simp
      · have ej : j = (enc t (enc s p).2.2).2.2 := by omega
        rw [wish_iff M w (by omega) i1.1.1 i2.1.1]
        have w1 : so M (enc s p).1 = so L (enc s p).1 := so_away hM (by omega)
        have w2 : so M (enc t (enc s p).2.2).1 = so L (enc t (enc s p).2.2).1 := so_away hM (by omega)
        have all := (enc_so L (.two w s t) p h hp ha).2
        have w3 : ((wishW w (((enc t (enc s p).2.2).2.2 + 1 : Nat) : Int) (enc s p).1 (enc t (enc s p).2.2).1).all fun v => v.any (so L)) = true := List.all_eq_true.mpr fun v hv => all v (List.mem_append_right _ hv)
        rw [wish_iff L w (by omega) i1.1.1 i2.1.1] at w3
        have w4 : so M (((enc t (enc s p).2.2).2.2 + 1 : Nat) : Int) = !so L (((enc t (enc s p).2.2).2.2 + 1 : Nat) : Int) := by
          unfold so
          have e4 : ((((enc t (enc s p).2.2).2.2 + 1 : Nat) : Int)).natAbs - 1 = j := by omega
          have e : decide (0 < (((enc t (enc s p).2.2).2.2 + 1 : Nat) : Int)) = true := decide_eq_true (by omega)
          rw [e4, e, hj]
          cases L.getD j false <;> rfl
        rw [w1, w2, w4, ← eq_of_beq w3]
        cases so L (((enc t (enc s p).2.2).2.2 + 1 : Nat) : Int) <;> simp
def spSheetC : Sp := fun vs H Q _ => ∃ (t lw : Addr) (N : Nat) (ws : List Wr), vs = [.ref t, .int N] ∧ H t = some (.tup [.int N, .ref lw]) ∧ H lw = some (.lst (wrefs ws)) ∧ WsOk H ws ∧ ws ≠ [] ∧ (∀ r ∈ ws, r.2 ≠ [] ∧ ∀ n ∈ r.2, n ≠ 0 ∧ n.natAbs ≤ N) ∧ Q (.bl true) H
section
variable {P : Program} {w : World} {K : PySem.W.Frag} {mg : Str → Option Value} {base : Heap}
theorem ok_l_sheet (B : Blt mg) (c_l_whole : Cal P w K mg base 1 "_law_whole" p_l_whole spWhole) (Df : Def K mg "_law_sheet" s_l_sheet p_l_sheet) : Cal P w K mg base 2 "_law_sheet" p_l_sheet spSheetC := by
  refine Df.cal sc_l_sheet (fun vs H Q E h => ?_) (fun f cdv A outer s H vs Q E hr h => ?_)
  · obtain ⟨t, lw, N, ws, rfl, _⟩ := h; rfl
  · obtain ⟨t, lw, N, ws, rfl, ht, hw, hO, hne, hin, q⟩ := h
    refine ⟨_, (pss_cons (ps_if (PW.pt (pw_or (pt_not (pt_val (pe_callB call_isi (by rfl) B.isinstance_ bt_isinstance (pa_cons (pv 0) (pa_cons (pe_ty B.tuple_ bt_tuple) pa_nil))))) (pw_or (pt_cmpR op_ne (pe_callB call_len_seq (by rfl) B.len_ PySem.boot_len (pa_cons (pv 0) pa_nil)) pe_int (nomark _)) (pw_or1 (pt_not (pt_val (pe_def c_l_whole hr (by decide) (pa_cons (pe_ix ix_tup (pv 0) pe_int (fun _ _ => rfl)) pa_nil))))))))
 (pss_one (ps_ret pe_bl))
 pss_nil)
 (pss_cons (ps_if (PW.pt (pw_or (pt_cmpR op_ne (pe_ix ix_tup (pv 0) pe_int (fun _ _ => rfl)) (pv 1) (nomark _)) (pw_or (pt_not (pt_val (pe_callB call_isi (by rfl) B.isinstance_ bt_isinstance (pa_cons (pe_ix ix_tup (pv 0) pe_int (fun _ _ => rfl)) (pa_cons (pe_ty B.list_ bt_list) pa_nil))))) (pw_or1 (pt_cmpR op_eq (pe_callB call_len_seq (by rfl) B.len_ PySem.boot_len (pa_cons (pe_ix ix_tup (pv 0) pe_int (fun _ _ => rfl)) pa_nil)) pe_int (nomark _))))))
 (pss_one (ps_ret pe_bl))
 pss_nil)
 (pss_cons (ps_for PassesOwn.never rfl (pi_list (pe_ix ix_tup (pv 0) pe_int (fun _ _ => rfl))) (pg_name (i := 2) sc_l_sheet.nd rfl (Or.inl rfl))
 (pss_cons (ps_if (PW.pt (pw_or (pt_not (pt_val (pe_callB call_isi (by rfl) B.isinstance_ bt_isinstance (pa_cons (pv 2) (pa_cons (pe_ty B.list_ bt_list) pa_nil))))) (pw_or1 (pt_cmpR op_eq (pe_callB call_len_seq (by rfl) B.len_ PySem.boot_len (pa_cons (pv 2) pa_nil)) pe_int (nomark _)))))
 (pss_one (ps_ret pe_bl))
 pss_nil)
 (pss_one (ps_for PassesOwn.never rfl (pi_list (pv 2)) (pg_name (i := 3) sc_l_sheet.nd rfl (Or.inl rfl))
 (pss_one (ps_if (PW.pt (pw_or (pt_not (pt_val (pe_def c_l_whole hr (by decide) (pa_cons (pv 3) pa_nil)))) (pw_or (pt_cmpR op_eq (pv 3) pe_int (nomark _)) (pw_or1 (pt_cmpR op_gt (pe_callB call_abs (by rfl) B.abs_ bt_abs (pa_cons (pv 3) pa_nil)) (pv 1) (nomark _))))))
 (pss_one (ps_ret pe_bl))
 pss_nil))))))
 (pss_one (ps_ret pe_bl))))), ?_⟩
    refine ⟨_, rfl, .ref t, .tup, .tup, rfl, ⟨_, ht⟩, _, rfl, iteF ?_⟩
    refine ⟨_, rfl, t, _, rfl, .inr (SqT.of ht), rfl, _, rfl, iteF ?_⟩
    refine ⟨_, rfl, t, _, _, _, rfl, rfl, SqT.of ht, rfl, .int N, .int, rfl, trivial, _, rfl, iteF ?_⟩
    have eN : (!decide (V.int (N : Int) = V.int (N : Int))) = false := by simp
    refine ⟨_, rfl, t, _, _, _, rfl, rfl, SqT.of ht, rfl, _, rfl, rfl, _, rfl, ite2 (fun z => by rw [eN] at z; cases z) fun _ => ?_⟩
    refine ⟨_, rfl, t, _, _, _, rfl, rfl, SqT.of ht, rfl, .ref lw, .lst, .lst, rfl, ⟨_, .inl hw⟩, _, rfl, iteF ?_⟩
    have el : (wrefs ws).length ≠ 0 := by rw [wrefs_len]; cases ws with | nil => exact absurd rfl hne | cons _ _ => simp
    have e0 : decide (V.int (((wrefs ws).length : Nat) : Int) = V.int 0) = false := decide_eq_false fun h => by injection h with h; omega
    refine ⟨_, rfl, t, _, _, _, rfl, rfl, SqT.of ht, rfl, lw, _, rfl, .inl (SqL.of hw), rfl, _, rfl, ite2 (fun z => by rw [e0] at z; cases z) fun _ => ?_⟩
    refine ⟨_, rfl, t, _, _, _, rfl, rfl, SqT.of ht, rfl, lw, rfl, ⟨_, SqL.of hw⟩, ?_⟩
    refine for_list (K := K) (a := lw) (xs := wrefs ws) (fun i σ Hx => ∃ v2 v3 : Option V, σ = [some (.ref t), some (.int N), v2, v3] ∧ Hx = H) ⟨none, none, rfl, rfl⟩ (fun i σ Hx _ ⟨_, _, _, e⟩ => by rw [e]; exact SqL.of hw) ?_ ?_
    · rintro i y σ Hx hi ⟨v2, v3, rfl, rfl⟩
      obtain ⟨r, hri, rfl⟩ := getV (f := fun r : Wr => V.ref r.1) hi
      have hrm := List.mem_of_getElem? hri
      have hr1 := hO r hrm
      obtain ⟨hr2, hr3⟩ := hin r hrm
      have er : (r.2.map V.int).length ≠ 0 := by rw [List.length_map]; exact fun z => hr2 (List.length_eq_zero_iff.mp z)
      have e1 : decide (V.int (((r.2.map V.int).length : Nat) : Int) = V.int 0) = false := decide_eq_false fun h => by injection h with h; omega
      refine ⟨_, rfl, .ref r.1, .lst, .lst, rfl, ⟨_, .inl hr1⟩, _, rfl, iteF ?_⟩
      refine ⟨_, rfl, r.1, _, rfl, .inl (SqL.of hr1), rfl, _, rfl, ite2 (fun z => by rw [e1] at z; cases z) fun _ => ?_⟩
      refine ⟨_, rfl, r.1, rfl, ⟨_, SqL.of hr1⟩, ?_⟩
      refine for_list (K := K) (a := r.1) (xs := r.2.map V.int) (fun i σ H9 => ∃ v3 : Option V, σ = [some (.ref t), some (.int N), some (.ref r.1), v3] ∧ H9 = Hx) ⟨v3, rfl, rfl⟩ (fun i σ H9 _ ⟨_, _, e⟩ => by rw [e]; exact SqL.of hr1) ?_ ?_
      · rintro j y σ H9 hj ⟨v3, rfl, rfl⟩
        obtain ⟨n, hnj, rfl⟩ := getV (f := V.int) hj
        obtain ⟨n0, nN⟩ := hr3 n (List.mem_of_getElem? hnj)
        have e2 : decide (V.int n = V.int 0) = false := decide_eq_false fun h => by injection h with h; omega
        refine ⟨_, rfl, .int n, .int, rfl, trivial, _, rfl, iteF ?_⟩
        refine ⟨_, rfl, rfl, _, rfl, ite2 (fun z => by rw [e2] at z; cases z) fun _ => ?_⟩
        refine ⟨_, rfl, n, rfl, _, rfl, _, _, rfl, rfl, _, rfl, ite2 (fun z => ?_) fun _ => ⟨_, rfl, rfl⟩⟩
        have := of_decide_eq_true z
        split at this <;> omega
      · rintro σ H9 ⟨v3, rfl, rfl⟩
        exact ⟨_, _, rfl, rfl⟩
    · rintro σ Hx ⟨v2, v3, rfl, rfl⟩
      exact q
end
abbrev lawK : Nat := 4
theorem cut_init (xs : List V) : cutV xs none (some (-1)) = xs.dropLast := by
  unfold cutV
  rw [HT.sIx_none, List.drop_zero, Nat.sub_zero]
  have : HT.sIx xs.length xs.length (some (-1)) = (-1 + (xs.length : Int)).toNat := by
    show (if (-1 : Int) < 0 then (-1 + (xs.length : Int)).toNat else min (-1 : Int).toNat xs.length) = _
    rw [if_pos (by decide)]
  rw [this, List.dropLast_eq_take]
  congr 1
  omega
theorem agr_of (b ts : List Bool) : Agr (b ++ ts) b b.length ts := by
  refine ⟨fun i hi => ?_, fun i hi => ?_⟩
  · simp [List.getD_eq_getElem?_getD, List.getElem?_append_left hi]
  · simp [List.getD_eq_getElem?_getD, List.getElem?_append_right]
theorem turned_at (L : List Bool) {k : Nat} (hk : k < L.length) : (L.take k ++ [!L.getD k false] ++ L.drop (k + 1)).getD k false = !L.getD k false := by
  have : (L.take k).length = k := by rw [List.length_take]; omega
  rw [List.append_assoc, List.getD_eq_getElem?_getD, List.getElem?_append_right (by omega)]
  simp [this]
theorem turned_ne (L : List Bool) {k i : Nat} (hk : k < L.length) (hi : i ≠ k) : (L.take k ++ [!L.getD k false] ++ L.drop (k + 1)).getD i false = L.getD i false := by
  have e : (L.take k).length = k := by rw [List.length_take]; omega
  rw [List.append_assoc, List.getD_eq_getElem?_getD, List.getD_eq_getElem?_getD]
  by_cases h : i < k
  · rw [List.getElem?_append_left (by omega), List.getElem?_take_of_lt h, List.getD_eq_getElem?_getD]
  · rw [List.getElem?_append_right (by omega), e, List.getElem?_append_right (by simp; omega)]
    simp only [List.length_singleton, List.getElem?_drop]
    have : k + 1 + (i - k - 1) = i := by omega
    rw [this, List.getD_eq_getElem?_getD]
theorem wish3 : ∀ (s : Stt) (p : Nat), ∀ v ∈ (enc s p).2.1, v.length ≤ 3
  | .lamp _, _, v, h => nomatch h
  | .non s, p, v, h => wish3 s p v h
  | .two w s t, p, v, h => by
    rcases List.mem_append.mp h with z | z
    · exact (List.mem_append.mp z).elim (wish3 s p v) (wish3 t _ v)
    · cases w <;> simp only [wishW, List.mem_cons, List.not_mem_nil, or_false] at z
      · rcases z with z | z | z <;> (subst z; simp)
      · rcases z with z | z | z <;> (subst z; simp)
      · rcases z with z | z | z | z <;> (subst z; simp)
theorem total_small {n : Nat} : ∀ {W : List (List Int)}, (∀ v ∈ W, v.length ≤ n) → total W ≤ n * W.length
  | [], _ => Nat.zero_le _
  | v :: W, h => by
    have h1 := total_small (W := W) fun x hx => h x (List.mem_cons_of_mem _ hx)
    have h2 := h v List.mem_cons_self
    have e : total (v :: W) = v.length + total W := by simp [total]
    rw [e, List.length_cons, Nat.mul_succ]; omega
section
variable {P : Program} {w : World} {K : PySem.W.Frag} {mg : Str → Option Value} {base : Heap}
set_option maxHeartbeats 4000000
theorem ok_law {f : Addr} {fd : FuncData} (F : Fun K "law" "law" s_law f fd) (B : Blt mg) (D_true_in : Def K mg "true_in" s_true_in p_true_in) (D_value_of : Def K mg "value_of" s_value_of p_value_of) (D_sheet_of : Def K mg "sheet_of" s_sheet_of p_sheet_of) (D_wishes_of : Def K mg "wishes_of" s_wishes_of p_wishes_of) (D_inner_first : Def K mg "inner_first" s_inner_first p_inner_first) (L_draw : Def K mg "_law_draw" s_l_draw p_l_draw) (L_whole : Def K mg "_law_whole" s_l_whole p_l_whole) (L_at : Def K mg "_law_at" s_l_at p_l_at) (L_setting_of : Def K mg "_law_setting_of" s_l_setting_of p_l_setting_of) (L_meets : Def K mg "_law_meets" s_l_meets p_l_meets) (L_all_met : Def K mg "_law_all_met" s_l_all_met p_l_all_met) (L_alike : Def K mg "_law_alike" s_l_alike p_l_alike) (L_pair : Def K mg "_law_pair" s_l_pair p_l_pair) (L_stated : Def K mg "_law_stated" s_l_stated p_l_stated) (L_sheet : Def K mg "_law_sheet" s_l_sheet p_l_sheet) (L_sheet_due : Def K mg "_law_sheet_due" s_l_sheet_due p_l_sheet_due) : FnOk P w K mg base CX0 lawK f fd ["_law_script"] (spLaw K) := by
  have c_inner_first : Cal P w K mg base 1 "inner_first" p_inner_first (spInner K) := ok_inner_first B D_inner_first
  have c_value_of : Cal P w K mg base 1 "value_of" p_value_of (spValueOf K) := ok_value_of D_value_of
  have c_true_in : Cal P w K mg base 2 "true_in" p_true_in (spTrueIn K) := ok_true_in B c_inner_first c_value_of D_true_in
  have c_wishes_of : Cal P w K mg base 1 "wishes_of" p_wishes_of spWishesOf := ok_wishes_of D_wishes_of
  have c_sheet_of : Cal P w K mg base 2 "sheet_of" p_sheet_of (spSheetOf K) := ok_sheet_of B c_inner_first c_wishes_of D_sheet_of
  have c_l_draw : Cal P w K mg base 1 "_law_draw" p_l_draw spDraw := ok_l_draw L_draw
  have c_l_whole : Cal P w K mg base 1 "_law_whole" p_l_whole spWhole := ok_l_whole B L_whole
  have c_l_at : Cal P w K mg base 1 "_law_at" p_l_at (spAt K) := ok_l_at B L_at
  have c_l_setting_of : Cal P w K mg base 2 "_law_setting_of" p_l_setting_of spSetting := ok_l_setting_of B c_l_draw L_setting_of
  have c_l_meets : Cal P w K mg base 1 "_law_meets" p_l_meets spMet := ok_l_meets B L_meets
  have c_l_all_met : Cal P w K mg base 2 "_law_all_met" p_l_all_met (spAllMet K) := ok_l_all_met c_l_meets L_all_met
  have c_l_alike : Cal P w K mg base 2 "_law_alike" p_l_alike spAlike := ok_l_alike B c_l_whole L_alike
  have c_l_pair : Cal P w K mg base 1 "_law_pair" p_l_pair spPair := ok_l_pair L_pair
  have c_l_stated : Cal P w K mg base 2 "_law_stated" p_l_stated (spStated K) := ok_l_stated B c_l_pair L_stated
  have c_l_sheet : Cal P w K mg base 2 "_law_sheet" p_l_sheet spSheetC := ok_l_sheet B c_l_whole L_sheet
  have c_l_sheet_due : Cal P w K mg base 1 "_law_sheet_due" p_l_sheet_due (spDue K) := ok_l_sheet_due B L_sheet_due
  refine F.ok sc_law (fun vs H Q E h => ?_) (fun cdv A outer s H vs Q E hr h => ?_)
  · obtain ⟨a, ns, rfl, _⟩ := h; rfl
  obtain ⟨a, ns, rfl, hS, hz, q⟩ := h
  obtain ⟨u8, hu8, key8⟩ : ∃ u, PSs (cxOf CX0 P w K mg base n_law "law" (defScope s_law) f cdv A outer s H E).nox ((defBody s_law).drop 8) u ∧
      ∀ (bs : List Bool) (s0 : Stt) (ls lt t lw ll : Addr) (ws : List Wr) (v3 v6 : Option V) (H1 : Hp), H1 ls = some (.lst (bs.map V.bl)) → H1 lt = some (.lst ((btS bs s0).map V.bl)) → okS bs.length s0 → bs.length ≤ 6 → (post s0).length ≤ 1000 → H1 t = some (.tup [.int (enc s0 bs.length).2.2, .ref lw]) → H1 lw = some (.lst (wrefs (ws ++ [(ll, [(enc s0 bs.length).1])]))) → WsOk H1 (ws ++ [(ll, [(enc s0 bs.length).1])]) → wl ws = (enc s0 bs.length).2.1 →
        u { nx := fun _ H' => Q .non H', rt := Q } [some (.ref a), some (.int bs.length), some (.ref ls), v3, some (.bl (valS bs s0)), some (.ref lt), v6, some (.ref t), none, none, none] H1 := by
    refine ⟨_, (pss_cons (ps_set (i := 8) sc_law.nd rfl (Or.inl rfl) (pe_op op_cat (pv 2) (pv 5)))
 (pss_cons (ps_if (PW.pt (pw_or (pt_not (pt_val (pe_def c_l_all_met hr (by decide) (pa_cons (pe_slice sl_list (pe_ix ix_tup (pv 7) pe_int (fun _ _ => rfl)) po_none (po_some (pe_un un_neg pe_int))) (pa_cons (pv 8) pa_nil))))) (pw_or1 (pt_cmpR op_ne (pe_callB call_len_seq (by rfl) B.len_ PySem.boot_len (pa_cons (pe_ix ix_list (pe_ix ix_tup (pv 7) pe_int (fun _ _ => rfl)) (pe_un un_neg pe_int) (fun _ _ => rfl)) pa_nil)) pe_int (nomark _)))))
 (pss_one (ps_ret pe_bl))
 pss_nil)
 (pss_cons (ps_for PassesOwn.never rfl (pi_range2 (by rfl) B.range_ (pa_cons (pv 1) (pa_cons (pe_callB call_len_seq (by rfl) B.len_ PySem.boot_len (pa_cons (pv 8) pa_nil)) pa_nil))) (pg_name (i := 9) sc_law.nd rfl (Or.inl rfl))
 (pss_cons (ps_set (i := 10) sc_law.nd rfl (Or.inl rfl) (pe_op op_cat (pe_op op_cat (pe_slice sl_list (pv 8) po_none (po_some (pv 9))) (pe_lst (pa_cons (pe_not (pe_ix ix_list (pv 8) (pv 9) (fun _ _ => rfl))) pa_nil))) (pe_slice sl_list (pv 8) (po_some (pe_op op_add (pv 9) pe_int)) po_none)))
 (pss_one (ps_if (pt_val (pe_def c_l_all_met hr (by decide) (pa_cons (pe_slice sl_list (pe_ix ix_tup (pv 7) pe_int (fun _ _ => rfl)) po_none (po_some (pe_un un_neg pe_int))) (pa_cons (pv 10) pa_nil))))
 (pss_one (ps_ret pe_bl))
 pss_nil))))
 (pss_one (ps_ret (pe_cmpR op_eq (pe_def c_l_meets hr (by decide) (pa_cons (pe_ix ix_list (pe_ix ix_tup (pv 7) pe_int (fun _ _ => rfl)) (pe_un un_neg pe_int) (fun _ _ => rfl)) (pa_cons (pv 8) pa_nil))) (pv 4) (nomark _))))))), fun bs s0 ls lt t lw ll ws v3 v6 H1 hls hlt hok hb6 hps ht hw hO hew => ?_⟩
    have hin := enc_in s0 bs.length hok (Nat.le_refl _)
    have hp := enc_p bs s0 bs.length
    have hbt := btS_len bs s0
    refine ⟨_, rfl, _, rfl, ls, lt, _, _, rfl, rfl, hls, hlt, small6' (by simp; omega), fun lx hlx => ?_⟩
    have em : bs.map V.bl ++ (btS bs s0).map V.bl = (bs ++ btS bs s0).map V.bl := by simp
    rw [em]
    have hag := agr_of bs (btS bs s0)
    have hLl : (bs ++ btS bs s0).length = (enc s0 bs.length).2.2 := by rw [hp]; simp
    obtain ⟨so1, met1⟩ := enc_so (bs ++ btS bs s0) s0 bs.length hok (Nat.le_refl _) hag
    generalize bs ++ btS bs s0 = L at hag hLl so1 met1
    have s2 : Same H1 (upd H1 lx (.lst (L.map V.bl))) := (Same.refl H1).upd hlx
    have g2 : upd H1 lx (.lst (L.map V.bl)) lx = some (.lst (L.map V.bl)) := upd_same
    generalize upd H1 lx (.lst (L.map V.bl)) = H2 at s2 g2
    have ht := s2 _ _ ht
    have hw := s2 _ _ hw
    have hO := hO.mono s2
    have hOw : ∀ {Hx : Hp}, Same H2 Hx → WsOk Hx ws := fun {Hx} e r hr => e _ _ (hO r (List.mem_append_left _ hr))
    have hll : H2 ll = some (.lst ([(enc s0 bs.length).1].map V.int)) := hO (ll, [(enc s0 bs.length).1]) (by simp)
    have ecut : cutV (wrefs (ws ++ [(ll, [(enc s0 bs.length).1])])) none (some (-1)) = wrefs ws := by rw [cut_init]; simp [wrefs]
    have elast : atI (wrefs (ws ++ [(ll, [(enc s0 bs.length).1])])) (-1) = some (.ref ll) := by
      have : wrefs (ws ++ [(ll, [(enc s0 bs.length).1])]) = wrefs ws ++ [V.ref ll] := by simp [wrefs]
      rw [this]; exact atI_last _ _
    have hinL : ∀ v ∈ wl ws, ∀ n ∈ v, n ≠ 0 ∧ n.natAbs ≤ L.length := fun v hv n hn => by rw [hLl]; rw [hew] at hv; exact (hin.2.2 v hv).2 n hn
    have all1 : ((wl ws).all fun v => v.any (so L)) = true := by rw [hew]; exact List.all_eq_true.mpr met1
    refine ⟨_, rfl, t, _, _, _, rfl, rfl, SqT.of ht, rfl, _, rfl, _, rfl, lw, _, rfl, SqL.of hw, fun pz hpz => ?_⟩
    rw [ecut]
    have s3 : Same H2 (upd H2 pz (.lst (wrefs ws))) := (Same.refl H2).upd hpz
    have g3 : upd H2 pz (.lst (wrefs ws)) pz = some (.lst (wrefs ws)) := upd_same
    generalize upd H2 pz (.lst (wrefs ws)) = H3 at s3 g3
    refine ⟨_, rfl, pz, lx, ws, L, rfl, SqL.of g3, hOw s3, s3 _ _ g2, hinL, _, rfl, ?_⟩
    rw [all1]
    refine iteF ?_
    refine ⟨_, rfl, t, _, _, _, rfl, rfl, SqT.of (s3 _ _ ht), rfl, _, rfl, lw, _, _, _, rfl, rfl, SqL.of (s3 _ _ hw), elast, ll, _, rfl, .inl (SqL.of (s3 _ _ hll)), rfl, _, rfl, iteF ?_⟩
    refine ⟨_, rfl, _, rfl, lx, _, rfl, .inl (SqL.of (s3 _ _ g2)), _, _, rfl, ⟨by omega, by omega, by simp <;> omega, by simp <;> omega⟩, ?_⟩
    refine for_range (fun i σ Hx => ∃ v9 v10 : Option V, σ = [some (.ref a), some (.int bs.length), some (.ref ls), v3, some (.bl (valS bs s0)), some (.ref lt), v6, some (.ref t), some (.ref lx), v9, v10] ∧ Same H2 Hx) ⟨none, none, rfl, s3⟩ ?_ ?_
    · rintro i σ Hx hi ⟨v9, v10, rfl, sx⟩
      have hi2 : bs.length + i < L.length := by simp at hi; omega
      have ek : ((bs.length : Int) + (i : Int)) = ((bs.length + i : Nat) : Int) := by omega
      show _
      rw [ek]
      generalize hk : bs.length + i = k at hi2
      have hx := sx _ _ g2
      have e1 : cutV (L.map V.bl) none (some ((k : Nat) : Int)) = (L.take k).map V.bl := by rw [cut_pre, List.map_take]
      have e2 : cutV (L.map V.bl) (some ((k + 1 : Nat) : Int)) none = (L.drop (k + 1)).map V.bl := by rw [cut_suf, List.map_drop]
      have e3 : atI (L.map V.bl) ((k : Nat) : Int) = some (.bl (L.getD k false)) := atI_nat (by simp [hi2])
      have ek1 : ((k : Int) + 1) = ((k + 1 : Nat) : Int) := by omega
      refine ⟨_, rfl, _, rfl, _, rfl, lx, _, rfl, SqL.of hx, fun p1 q1 => ?_⟩
      rw [e1]
      have t1 : Same Hx (upd Hx p1 (.lst ((L.take k).map V.bl))) := (Same.refl Hx).upd q1
      have f1 : upd Hx p1 (.lst ((L.take k).map V.bl)) p1 = some (.lst ((L.take k).map V.bl)) := upd_same
      generalize upd Hx p1 (.lst ((L.take k).map V.bl)) = H4 at t1 f1
      refine ⟨_, rfl, _, rfl, lx, _, _, _, rfl, rfl, SqL.of (t1 _ _ hx), e3, _, rfl, len1, fun p2 q2 => ?_⟩
      have t2 : Same H4 (upd H4 p2 (.lst [V.bl (!L.getD k false)])) := (Same.refl H4).upd q2
      have f2 : upd H4 p2 (.lst [V.bl (!L.getD k false)]) p2 = some (.lst [V.bl (!L.getD k false)]) := upd_same
      generalize upd H4 p2 (.lst [V.bl (!L.getD k false)]) = H5 at t2 f2
      have hL9 : L.length ≤ 2000 := by omega
      refine ⟨p1, p2, _, _, rfl, rfl, t2 _ _ f1, f2, small6' (by simp; omega), fun p3 q3 => ?_⟩
      have em3 : (L.take k).map V.bl ++ [V.bl (!L.getD k false)] = (L.take k ++ [!L.getD k false]).map V.bl := by simp
      rw [em3]
      have t3 : Same H5 (upd H5 p3 (.lst ((L.take k ++ [!L.getD k false]).map V.bl))) := (Same.refl H5).upd q3
      have f3 : upd H5 p3 (.lst ((L.take k ++ [!L.getD k false]).map V.bl)) p3 = some (.lst ((L.take k ++ [!L.getD k false]).map V.bl)) := upd_same
      generalize upd H5 p3 (.lst ((L.take k ++ [!L.getD k false]).map V.bl)) = H6 at t3 f3
      have hx6 := t3 _ _ (t2 _ _ (t1 _ _ hx))
      refine ⟨_, rfl, _, rfl, _, _, rfl, rfl, _, rfl, lx, _, rfl, SqL.of hx6, fun p4 q4 => ?_⟩
      rw [ek1, e2]
      have t4 : Same H6 (upd H6 p4 (.lst ((L.drop (k + 1)).map V.bl))) := (Same.refl H6).upd q4
      have f4 : upd H6 p4 (.lst ((L.drop (k + 1)).map V.bl)) p4 = some (.lst ((L.drop (k + 1)).map V.bl)) := upd_same
      generalize upd H6 p4 (.lst ((L.drop (k + 1)).map V.bl)) = H7 at t4 f4
      refine ⟨p3, p4, _, _, rfl, rfl, t4 _ _ f3, f4, small6' (by simp; omega), fun p5 q5 => ?_⟩
      have em5 : (L.take k ++ [!L.getD k false]).map V.bl ++ (L.drop (k + 1)).map V.bl = (L.take k ++ [!L.getD k false] ++ L.drop (k + 1)).map V.bl := by simp
      rw [em5]
      have hj := turned_at L hi2
      have hM := fun j (hj : j ≠ k) => turned_ne L hi2 hj
      have hMl : (L.take k ++ [!L.getD k false] ++ L.drop (k + 1)).length = L.length := by simp; omega
      have hno := enc_turn hj hM s0 bs.length hok (Nat.le_refl _) hag (by omega) (by omega)
      generalize L.take k ++ [!L.getD k false] ++ L.drop (k + 1) = M at hMl hno
      have t5 : Same H7 (upd H7 p5 (.lst (M.map V.bl))) := (Same.refl H7).upd q5
      have f5 : upd H7 p5 (.lst (M.map V.bl)) p5 = some (.lst (M.map V.bl)) := upd_same
      generalize upd H7 p5 (.lst (M.map V.bl)) = H8 at t5 f5
      have sx8 : Same H2 H8 := sx.trans (t1.trans (t2.trans (t3.trans (t4.trans t5))))
      refine ⟨_, rfl, t, _, _, _, rfl, rfl, SqT.of (sx8 _ _ ht), rfl, _, rfl, _, rfl, lw, _, rfl, SqL.of (sx8 _ _ hw), fun pz hpz => ?_⟩
      rw [ecut]
      have s9 : Same H8 (upd H8 pz (.lst (wrefs ws))) := (Same.refl H8).upd hpz
      have g9 : upd H8 pz (.lst (wrefs ws)) pz = some (.lst (wrefs ws)) := upd_same
      generalize upd H8 pz (.lst (wrefs ws)) = H9 at s9 g9
      refine ⟨_, rfl, pz, p5, ws, M, rfl, SqL.of g9, hOw (sx8.trans s9), s9 _ _ f5, (by rw [hMl]; exact hinL), _, rfl, ?_⟩
      rw [hew, hno]
      exact iteF ⟨_, _, rfl, sx8.trans s9⟩
    · rintro σ Hx ⟨v9, v10, rfl, sx⟩
      refine ⟨_, rfl, t, _, _, _, rfl, rfl, SqT.of (sx _ _ ht), rfl, _, rfl, lw, _, _, _, rfl, rfl, SqL.of (sx _ _ hw), elast, _, rfl, ll, lx, [(enc s0 bs.length).1], L, rfl, sx _ _ hll, sx _ _ g2, (fun n hn => ?_), _, rfl, rfl, ?_⟩
      · have : n = (enc s0 bs.length).1 := by simpa using hn
        rw [this, hLl]; exact hin.1
      · have e1 : [(enc s0 bs.length).1].any (so L) = valS bs s0 := by simp [so1]
        rw [e1]
        have e2 : decide (V.bl (valS bs s0) = V.bl (valS bs s0)) = true := by simp
        rw [e2]
        exact q _
  refine ⟨_, (pss_cons (ps_set (i := 1) sc_law.nd rfl (Or.inl rfl) (pe_op op_add pe_int (pe_op op_mod (pe_def c_l_at hr (by decide) (pa_cons (pv 0) (pa_cons pe_int pa_nil))) pe_int)))
 (pss_cons (ps_set (i := 2) sc_law.nd rfl (Or.inl rfl) (pe_def c_l_setting_of hr (by decide) (pa_cons (pe_def c_l_at hr (by decide) (pa_cons (pv 0) (pa_cons pe_int pa_nil))) (pa_cons (pv 1) pa_nil))))
 (pss_cons (ps_asg (pe_def c_l_stated hr (by decide) (pa_cons (pe_slice sl_list (pv 0) (po_some pe_int) (po_some pe_int)) (pa_cons (pv 2) pa_nil))) (pg_tup rfl (pgs_cons (pg_name (i := 3) sc_law.nd rfl (Or.inl rfl)) (pgs_cons (pg_name (i := 4) sc_law.nd rfl (Or.inl rfl)) (pgs_cons (pg_name (i := 5) sc_law.nd rfl (Or.inl rfl)) pgs_nil)))))
 (pss_cons (ps_set (i := 6) sc_law.nd rfl (Or.inl rfl) (pe_def c_true_in hr (by decide) (pa_cons (pv 3) (pa_cons (pe_callTy call_list_of (by rfl) B.list_ bt_list (pa_cons (pv 2) pa_nil)) pa_nil))))
 (pss_cons (ps_if (PW.pt (pw_or (pt_not (pt_val (pe_callB call_isi (by rfl) B.isinstance_ bt_isinstance (pa_cons (pv 6) (pa_cons (pe_ty B.bool_ bt_bool) pa_nil))))) (pw_or1 (pt_cmpR op_ne (pv 6) (pv 4) (nomark _)))))
 (pss_one (ps_ret pe_bl))
 pss_nil)
 (pss_cons (ps_set (i := 7) sc_law.nd rfl (Or.inl rfl) (pe_def c_sheet_of hr (by decide) (pa_cons (pv 1) (pa_cons (pv 3) pa_nil))))
 (pss_cons (ps_if (pt_not (pt_val (pe_def c_l_sheet hr (by decide) (pa_cons (pv 7) (pa_cons (pe_op op_add (pv 1) (pe_callB call_len_seq (by rfl) B.len_ PySem.boot_len (pa_cons (pv 5) pa_nil))) pa_nil)))))
 (pss_one (ps_ret pe_bl))
 pss_nil)
 (pss_cons (ps_if (pt_not (pt_val (pe_def c_l_alike hr (by decide) (pa_cons (pv 7) (pa_cons (pe_def c_l_sheet_due hr (by decide) (pa_cons (pv 3) (pa_cons (pv 1) pa_nil))) pa_nil)))))
 (pss_one (ps_ret pe_bl))
 pss_nil)
 hu8)))))))), ?_⟩
  refine ⟨_, rfl, a, ns, 0, rfl, hS, _, _, rfl, rfl, (by show (0 : Int) < 6; decide), _, _, rfl, rfl, ?_⟩
  have h6 := Int.emod_nonneg (ns.getD 0 0) (show (6 : Int) ≠ 0 by decide)
  have h7 := Int.emod_lt_of_pos (ns.getD 0 0) (show (0 : Int) < 6 by decide)
  obtain ⟨c, ec⟩ : ∃ c : Nat, 1 + ns.getD 0 0 % 6 = (c : Int) := ⟨(1 + ns.getD 0 0 % 6).toNat, by omega⟩
  dsimp only
  rw [ec]
  refine ⟨_, rfl, a, ns, 1, rfl, hS, _, rfl, _, c, rfl, by omega, fun ls H2 hls s2 h2 => ?_⟩
  have hbl := setting_len (ns.getD 1 0) c
  generalize setting (ns.getD 1 0) c = bs at h2 hbl
  subst hbl
  obtain ⟨cells, hcut, hcl, _⟩ := cut_ints ns (some 2) (some 92)
  refine ⟨_, rfl, _, rfl, _, rfl, a, _, rfl, s2.seq hS, fun pc hpc => ?_⟩
  rw [hcut]
  have s3 : Same H2 (upd H2 pc (.lst (cells.map V.int))) := (Same.refl H2).upd hpc
  have g3 : upd H2 pc (.lst (cells.map V.int)) pc = some (.lst (cells.map V.int)) := upd_same
  generalize upd H2 pc (.lst (cells.map V.int)) = H3 at s3 g3
  refine ⟨_, rfl, pc, ls, cells, bs, rfl, g3, s3 _ _ h2, by omega, by omega, by omega, fun t9 a' lt s0 H4 s4 ht9 h4 hSA hok h4l hps => ?_⟩
  refine ⟨t9, _, rfl, SqT.of h4, rfl, _, _, rfl, _, _, rfl, _, _, rfl, rfl, ?_⟩
  have s04 := s2.trans (s3.trans s4)
  have h4s := s4 _ _ (s3 _ _ h2)
  refine ⟨_, rfl, _, rfl, ls, _, rfl, .inl (SqL.of h4s), fun lc hlc => ?_⟩
  have s5 : Same H4 (upd H4 lc (.lst (bs.map V.bl))) := (Same.refl H4).upd hlc
  have g5 : upd H4 lc (.lst (bs.map V.bl)) lc = some (.lst (bs.map V.bl)) := upd_same
  generalize upd H4 lc (.lst (bs.map V.bl)) = H5 at s5 g5
  refine ⟨a', lc, s0, bs, rfl, hSA.same s5, g5, hok, by omega, fun H6 s6 => ?_⟩
  have s46 := s5.trans s6
  refine ⟨_, rfl, .bl (valS bs s0), .bl, .bl, rfl, trivial, _, rfl, iteF ?_⟩
  have ev : (!decide (V.bl (valS bs s0) = V.bl (valS bs s0))) = false := by simp
  refine ⟨_, rfl, _, rfl, rfl, _, rfl, ite2 (fun z => by rw [ev] at z; cases z) fun _ => ?_⟩
  refine ⟨_, rfl, _, rfl, bs.length, a', s0, rfl, hSA.same s46, by omega, by omega, fun t lw ll ws H7 s7 ht ht7 hw7 hO7 hew hne hlw hwn => ?_⟩
  have s47 := s46.trans s7
  have h7l := s47 _ _ h4l
  have h7s := s47 _ _ h4s
  have hin := enc_in s0 bs.length hok (Nat.le_refl _)
  have hp := enc_p bs s0 bs.length
  have hwin : ∀ r ∈ ws ++ [(ll, [(enc s0 bs.length).1])], r.2 ≠ [] ∧ ∀ n ∈ r.2, n ≠ 0 ∧ n.natAbs ≤ (enc s0 bs.length).2.2 := fun r hr => by
    rcases List.mem_append.mp hr with z | z
    · exact hin.2.2 r.2 (by rw [← hew]; exact List.mem_map.mpr ⟨r, z, rfl⟩)
    · have e : r = (ll, [(enc s0 bs.length).1]) := by simpa using z
      rw [e]
      refine ⟨by simp, fun n hn => ?_⟩
      have : n = (enc s0 bs.length).1 := by simpa using hn
      rw [this]; exact hin.1
  have eN : ((bs.length : Int) + (((btS bs s0).map V.bl).length : Nat)) = (((enc s0 bs.length).2.2 : Nat) : Int) := by rw [hp, List.length_map]; omega
  refine ⟨_, rfl, _, rfl, _, rfl, lt, _, rfl, .inl (SqL.of h7l), _, _, rfl, rfl, ?_⟩
  dsimp only
  rw [eN]
  refine ⟨t, lw, (enc s0 bs.length).2.2, ws ++ [(ll, [(enc s0 bs.length).1])], rfl, ht7, hw7, hO7, by simp, hwin, _, rfl, iteF ?_⟩
  refine ⟨_, rfl, _, rfl, _, rfl, bs.length, a', s0, rfl, hSA.same s47, by omega, by omega, fun t2 lw2 ll2 ws2 H8 s8 ht2 h8t h8w hO8 hew2 => ?_⟩
  have s48 := s47.trans s8
  have atT : ∀ {Hx : Hp} {t lw ll : Addr} {ws : List Wr}, Hx t = some (.tup [.int (enc s0 bs.length).2.2, .ref lw]) → Hx lw = some (.lst (wrefs (ws ++ [(ll, [(enc s0 bs.length).1])]))) → WsOk Hx (ws ++ [(ll, [(enc s0 bs.length).1])]) → wl ws = (enc s0 bs.length).2.1 → At Hx (.tup [.int (enc s0 bs.length).2.2, .lst (((enc s0 bs.length).2.1 ++ [[(enc s0 bs.length).1]]).map fun v => D.lst (dInts v))]) (.ref t) := fun {Hx t lw ll ws} h1 h2 h3 h4 => by
    have e := ws_at h3 h2
    rw [wsD_wl] at e
    have e2 : wl (ws ++ [(ll, [(enc s0 bs.length).1])]) = (enc s0 bs.length).2.1 ++ [[(enc s0 bs.length).1]] := by rw [← h4]; simp [wl]
    rw [e2] at e
    unfold At
    exact ⟨t, _, rfl, h1, AtL.cons (by unfold At; rfl) (AtL.cons e AtL.nil)⟩
  have ed : (((enc s0 bs.length).2.1 ++ [[(enc s0 bs.length).1]]).map fun v => D.lst (dInts v)) = wsD (ws ++ [(ll, [(enc s0 bs.length).1])]) := by
    rw [wsD_wl, ← hew]; simp [wl]
  refine ⟨.ref t, .ref t2, _, rfl, atT (s8 _ _ ht7) (s8 _ _ hw7) (hO7.mono s8) hew, atT h8t h8w hO8 hew2, ?_, ?_, fun H9 s9 => ⟨_, rfl, iteF ?_⟩⟩
  · rw [ed]; simp [D.plain, plains, plains_wsD]
  · rw [ed]
    have e3 := total_small (n := 3) (W := wl (ws ++ [(ll, [(enc s0 bs.length).1])])) (fun v hv => by
      have e2 : wl (ws ++ [(ll, [(enc s0 bs.length).1])]) = (enc s0 bs.length).2.1 ++ [[(enc s0 bs.length).1]] := by rw [← hew]; simp [wl]
      rw [e2] at hv
      rcases List.mem_append.mp hv with z | z
      · exact wish3 s0 _ v z
      · have : v = [(enc s0 bs.length).1] := by simpa using z
        rw [this]; simp)
    rw [wl_len] at e3
    simp [D.size, sizes, sizes_wsD] at e3 ⊢
    omega
  · exact key8 bs s0 ls lt t lw ll ws _ _ H9 (s9 _ _ (s8 _ _ h7s)) (s9 _ _ (s8 _ _ h7l)) hok (by omega) (by omega) (s9 _ _ (s8 _ _ ht7)) (s9 _ _ (s8 _ _ hw7)) ((hO7.mono s8).mono s9) hew
end
theorem all_mk {l : PySem.W.OpenLaw} {w : World} {K : PySem.W.Frag} {h : Heap} {mg : Str → Option Value} {fa : Addr} (X : K.In h) (G : h.Ns mainGlobals mg) (hfa : mg "law" = some (.ref fa))
    {f_true_in : Addr} {od_true_in an_true_in : Option Addr} {sl_true_in : Array (Option Value)} {oc_true_in kV_true_in dc_true_in pm_true_in cd_true_in ct_true_in : Value}
    (a_true_in : PySem.W.nsIn K mainGlobals "true_in" = some (some (.ref f_true_in))) (l_true_in : K.lookup f_true_in = some ⟨oc_true_in, od_true_in, .func (PySem.W.fnOf "true_in" "true_in" (defArgs s_true_in) (defBody s_true_in) (defScope s_true_in) .none kV_true_in dc_true_in pm_true_in an_true_in cd_true_in ct_true_in), sl_true_in⟩) (c_true_in : PySem.W.codeIn K cd_true_in "true_in" = true) (k_true_in : PySem.W.keepIn K (.ref f_true_in) = true)
    {f_value_of : Addr} {od_value_of an_value_of : Option Addr} {sl_value_of : Array (Option Value)} {oc_value_of kV_value_of dc_value_of pm_value_of cd_value_of ct_value_of : Value}
    (a_value_of : PySem.W.nsIn K mainGlobals "value_of" = some (some (.ref f_value_of))) (l_value_of : K.lookup f_value_of = some ⟨oc_value_of, od_value_of, .func (PySem.W.fnOf "value_of" "value_of" (defArgs s_value_of) (defBody s_value_of) (defScope s_value_of) .none kV_value_of dc_value_of pm_value_of an_value_of cd_value_of ct_value_of), sl_value_of⟩) (c_value_of : PySem.W.codeIn K cd_value_of "value_of" = true) (k_value_of : PySem.W.keepIn K (.ref f_value_of) = true)
    {f_sheet_of : Addr} {od_sheet_of an_sheet_of : Option Addr} {sl_sheet_of : Array (Option Value)} {oc_sheet_of kV_sheet_of dc_sheet_of pm_sheet_of cd_sheet_of ct_sheet_of : Value}
    (a_sheet_of : PySem.W.nsIn K mainGlobals "sheet_of" = some (some (.ref f_sheet_of))) (l_sheet_of : K.lookup f_sheet_of = some ⟨oc_sheet_of, od_sheet_of, .func (PySem.W.fnOf "sheet_of" "sheet_of" (defArgs s_sheet_of) (defBody s_sheet_of) (defScope s_sheet_of) .none kV_sheet_of dc_sheet_of pm_sheet_of an_sheet_of cd_sheet_of ct_sheet_of), sl_sheet_of⟩) (c_sheet_of : PySem.W.codeIn K cd_sheet_of "sheet_of" = true) (k_sheet_of : PySem.W.keepIn K (.ref f_sheet_of) = true)
    {f_wishes_of : Addr} {od_wishes_of an_wishes_of : Option Addr} {sl_wishes_of : Array (Option Value)} {oc_wishes_of kV_wishes_of dc_wishes_of pm_wishes_of cd_wishes_of ct_wishes_of : Value}
    (a_wishes_of : PySem.W.nsIn K mainGlobals "wishes_of" = some (some (.ref f_wishes_of))) (l_wishes_of : K.lookup f_wishes_of = some ⟨oc_wishes_of, od_wishes_of, .func (PySem.W.fnOf "wishes_of" "wishes_of" (defArgs s_wishes_of) (defBody s_wishes_of) (defScope s_wishes_of) .none kV_wishes_of dc_wishes_of pm_wishes_of an_wishes_of cd_wishes_of ct_wishes_of), sl_wishes_of⟩) (c_wishes_of : PySem.W.codeIn K cd_wishes_of "wishes_of" = true) (k_wishes_of : PySem.W.keepIn K (.ref f_wishes_of) = true)
    {f_inner_first : Addr} {od_inner_first an_inner_first : Option Addr} {sl_inner_first : Array (Option Value)} {oc_inner_first kV_inner_first dc_inner_first pm_inner_first cd_inner_first ct_inner_first : Value}
    (a_inner_first : PySem.W.nsIn K mainGlobals "inner_first" = some (some (.ref f_inner_first))) (l_inner_first : K.lookup f_inner_first = some ⟨oc_inner_first, od_inner_first, .func (PySem.W.fnOf "inner_first" "inner_first" (defArgs s_inner_first) (defBody s_inner_first) (defScope s_inner_first) .none kV_inner_first dc_inner_first pm_inner_first an_inner_first cd_inner_first ct_inner_first), sl_inner_first⟩) (c_inner_first : PySem.W.codeIn K cd_inner_first "inner_first" = true) (k_inner_first : PySem.W.keepIn K (.ref f_inner_first) = true)
    {f_l_draw : Addr} {od_l_draw an_l_draw : Option Addr} {sl_l_draw : Array (Option Value)} {oc_l_draw kV_l_draw dc_l_draw pm_l_draw cd_l_draw ct_l_draw : Value}
    (a_l_draw : PySem.W.nsIn K mainGlobals "_law_draw" = some (some (.ref f_l_draw))) (l_l_draw : K.lookup f_l_draw = some ⟨oc_l_draw, od_l_draw, .func (PySem.W.fnOf "_law_draw" "_law_draw" (defArgs s_l_draw) (defBody s_l_draw) (defScope s_l_draw) .none kV_l_draw dc_l_draw pm_l_draw an_l_draw cd_l_draw ct_l_draw), sl_l_draw⟩) (c_l_draw : PySem.W.codeIn K cd_l_draw "_law_draw" = true) (k_l_draw : PySem.W.keepIn K (.ref f_l_draw) = true)
    {f_l_whole : Addr} {od_l_whole an_l_whole : Option Addr} {sl_l_whole : Array (Option Value)} {oc_l_whole kV_l_whole dc_l_whole pm_l_whole cd_l_whole ct_l_whole : Value}
    (a_l_whole : PySem.W.nsIn K mainGlobals "_law_whole" = some (some (.ref f_l_whole))) (l_l_whole : K.lookup f_l_whole = some ⟨oc_l_whole, od_l_whole, .func (PySem.W.fnOf "_law_whole" "_law_whole" (defArgs s_l_whole) (defBody s_l_whole) (defScope s_l_whole) .none kV_l_whole dc_l_whole pm_l_whole an_l_whole cd_l_whole ct_l_whole), sl_l_whole⟩) (c_l_whole : PySem.W.codeIn K cd_l_whole "_law_whole" = true) (k_l_whole : PySem.W.keepIn K (.ref f_l_whole) = true)
    {f_l_at : Addr} {od_l_at an_l_at : Option Addr} {sl_l_at : Array (Option Value)} {oc_l_at kV_l_at dc_l_at pm_l_at cd_l_at ct_l_at : Value}
    (a_l_at : PySem.W.nsIn K mainGlobals "_law_at" = some (some (.ref f_l_at))) (l_l_at : K.lookup f_l_at = some ⟨oc_l_at, od_l_at, .func (PySem.W.fnOf "_law_at" "_law_at" (defArgs s_l_at) (defBody s_l_at) (defScope s_l_at) .none kV_l_at dc_l_at pm_l_at an_l_at cd_l_at ct_l_at), sl_l_at⟩) (c_l_at : PySem.W.codeIn K cd_l_at "_law_at" = true) (k_l_at : PySem.W.keepIn K (.ref f_l_at) = true)
    {f_l_setting_of : Addr} {od_l_setting_of an_l_setting_of : Option Addr} {sl_l_setting_of : Array (Option Value)} {oc_l_setting_of kV_l_setting_of dc_l_setting_of pm_l_setting_of cd_l_setting_of ct_l_setting_of : Value}
    (a_l_setting_of : PySem.W.nsIn K mainGlobals "_law_setting_of" = some (some (.ref f_l_setting_of))) (l_l_setting_of : K.lookup f_l_setting_of = some ⟨oc_l_setting_of, od_l_setting_of, .func (PySem.W.fnOf "_law_setting_of" "_law_setting_of" (defArgs s_l_setting_of) (defBody s_l_setting_of) (defScope s_l_setting_of) .none kV_l_setting_of dc_l_setting_of pm_l_setting_of an_l_setting_of cd_l_setting_of ct_l_setting_of), sl_l_setting_of⟩) (c_l_setting_of : PySem.W.codeIn K cd_l_setting_of "_law_setting_of" = true) (k_l_setting_of : PySem.W.keepIn K (.ref f_l_setting_of) = true)
    {f_l_meets : Addr} {od_l_meets an_l_meets : Option Addr} {sl_l_meets : Array (Option Value)} {oc_l_meets kV_l_meets dc_l_meets pm_l_meets cd_l_meets ct_l_meets : Value}
    (a_l_meets : PySem.W.nsIn K mainGlobals "_law_meets" = some (some (.ref f_l_meets))) (l_l_meets : K.lookup f_l_meets = some ⟨oc_l_meets, od_l_meets, .func (PySem.W.fnOf "_law_meets" "_law_meets" (defArgs s_l_meets) (defBody s_l_meets) (defScope s_l_meets) .none kV_l_meets dc_l_meets pm_l_meets an_l_meets cd_l_meets ct_l_meets), sl_l_meets⟩) (c_l_meets : PySem.W.codeIn K cd_l_meets "_law_meets" = true) (k_l_meets : PySem.W.keepIn K (.ref f_l_meets) = true)
    {f_l_all_met : Addr} {od_l_all_met an_l_all_met : Option Addr} {sl_l_all_met : Array (Option Value)} {oc_l_all_met kV_l_all_met dc_l_all_met pm_l_all_met cd_l_all_met ct_l_all_met : Value}
    (a_l_all_met : PySem.W.nsIn K mainGlobals "_law_all_met" = some (some (.ref f_l_all_met))) (l_l_all_met : K.lookup f_l_all_met = some ⟨oc_l_all_met, od_l_all_met, .func (PySem.W.fnOf "_law_all_met" "_law_all_met" (defArgs s_l_all_met) (defBody s_l_all_met) (defScope s_l_all_met) .none kV_l_all_met dc_l_all_met pm_l_all_met an_l_all_met cd_l_all_met ct_l_all_met), sl_l_all_met⟩) (c_l_all_met : PySem.W.codeIn K cd_l_all_met "_law_all_met" = true) (k_l_all_met : PySem.W.keepIn K (.ref f_l_all_met) = true)
    {f_l_alike : Addr} {od_l_alike an_l_alike : Option Addr} {sl_l_alike : Array (Option Value)} {oc_l_alike kV_l_alike dc_l_alike pm_l_alike cd_l_alike ct_l_alike : Value}
    (a_l_alike : PySem.W.nsIn K mainGlobals "_law_alike" = some (some (.ref f_l_alike))) (l_l_alike : K.lookup f_l_alike = some ⟨oc_l_alike, od_l_alike, .func (PySem.W.fnOf "_law_alike" "_law_alike" (defArgs s_l_alike) (defBody s_l_alike) (defScope s_l_alike) .none kV_l_alike dc_l_alike pm_l_alike an_l_alike cd_l_alike ct_l_alike), sl_l_alike⟩) (c_l_alike : PySem.W.codeIn K cd_l_alike "_law_alike" = true) (k_l_alike : PySem.W.keepIn K (.ref f_l_alike) = true)
    {f_l_pair : Addr} {od_l_pair an_l_pair : Option Addr} {sl_l_pair : Array (Option Value)} {oc_l_pair kV_l_pair dc_l_pair pm_l_pair cd_l_pair ct_l_pair : Value}
    (a_l_pair : PySem.W.nsIn K mainGlobals "_law_pair" = some (some (.ref f_l_pair))) (l_l_pair : K.lookup f_l_pair = some ⟨oc_l_pair, od_l_pair, .func (PySem.W.fnOf "_law_pair" "_law_pair" (defArgs s_l_pair) (defBody s_l_pair) (defScope s_l_pair) .none kV_l_pair dc_l_pair pm_l_pair an_l_pair cd_l_pair ct_l_pair), sl_l_pair⟩) (c_l_pair : PySem.W.codeIn K cd_l_pair "_law_pair" = true) (k_l_pair : PySem.W.keepIn K (.ref f_l_pair) = true)
    {f_l_stated : Addr} {od_l_stated an_l_stated : Option Addr} {sl_l_stated : Array (Option Value)} {oc_l_stated kV_l_stated dc_l_stated pm_l_stated cd_l_stated ct_l_stated : Value}
    (a_l_stated : PySem.W.nsIn K mainGlobals "_law_stated" = some (some (.ref f_l_stated))) (l_l_stated : K.lookup f_l_stated = some ⟨oc_l_stated, od_l_stated, .func (PySem.W.fnOf "_law_stated" "_law_stated" (defArgs s_l_stated) (defBody s_l_stated) (defScope s_l_stated) .none kV_l_stated dc_l_stated pm_l_stated an_l_stated cd_l_stated ct_l_stated), sl_l_stated⟩) (c_l_stated : PySem.W.codeIn K cd_l_stated "_law_stated" = true) (k_l_stated : PySem.W.keepIn K (.ref f_l_stated) = true)
    {f_l_sheet : Addr} {od_l_sheet an_l_sheet : Option Addr} {sl_l_sheet : Array (Option Value)} {oc_l_sheet kV_l_sheet dc_l_sheet pm_l_sheet cd_l_sheet ct_l_sheet : Value}
    (a_l_sheet : PySem.W.nsIn K mainGlobals "_law_sheet" = some (some (.ref f_l_sheet))) (l_l_sheet : K.lookup f_l_sheet = some ⟨oc_l_sheet, od_l_sheet, .func (PySem.W.fnOf "_law_sheet" "_law_sheet" (defArgs s_l_sheet) (defBody s_l_sheet) (defScope s_l_sheet) .none kV_l_sheet dc_l_sheet pm_l_sheet an_l_sheet cd_l_sheet ct_l_sheet), sl_l_sheet⟩) (c_l_sheet : PySem.W.codeIn K cd_l_sheet "_law_sheet" = true) (k_l_sheet : PySem.W.keepIn K (.ref f_l_sheet) = true)
    {f_l_sheet_due : Addr} {od_l_sheet_due an_l_sheet_due : Option Addr} {sl_l_sheet_due : Array (Option Value)} {oc_l_sheet_due kV_l_sheet_due dc_l_sheet_due pm_l_sheet_due cd_l_sheet_due ct_l_sheet_due : Value}
    (a_l_sheet_due : PySem.W.nsIn K mainGlobals "_law_sheet_due" = some (some (.ref f_l_sheet_due))) (l_l_sheet_due : K.lookup f_l_sheet_due = some ⟨oc_l_sheet_due, od_l_sheet_due, .func (PySem.W.fnOf "_law_sheet_due" "_law_sheet_due" (defArgs s_l_sheet_due) (defBody s_l_sheet_due) (defScope s_l_sheet_due) .none kV_l_sheet_due dc_l_sheet_due pm_l_sheet_due an_l_sheet_due cd_l_sheet_due ct_l_sheet_due), sl_l_sheet_due⟩) (c_l_sheet_due : PySem.W.codeIn K cd_l_sheet_due "_law_sheet_due" = true) (k_l_sheet_due : PySem.W.keepIn K (.ref f_l_sheet_due) = true)
    {f_law : Addr} {od_law an_law : Option Addr} {sl_law : Array (Option Value)} {oc_law kV_law dc_law pm_law cd_law ct_law : Value}
    (a_law : PySem.W.nsIn K mainGlobals "law" = some (some (.ref f_law))) (l_law : K.lookup f_law = some ⟨oc_law, od_law, .func (PySem.W.fnOf "law" "law" (defArgs s_law) (defBody s_law) (defScope s_law) .none kV_law dc_law pm_law an_law cd_law ct_law), sl_law⟩) (c_law : PySem.W.codeIn K cd_law "law" = true) (k_law : PySem.W.keepIn K (.ref f_law) = true)
    (z_len : PySem.W.nsIn K mainGlobals "len" = some none) (z_abs : PySem.W.nsIn K mainGlobals "abs" = some none) (z_isinstance : PySem.W.nsIn K mainGlobals "isinstance" = some none) (z_int : PySem.W.nsIn K mainGlobals "int" = some none) (z_bool : PySem.W.nsIn K mainGlobals "bool" = some none) (z_list : PySem.W.nsIn K mainGlobals "list" = some none) (z_tuple : PySem.W.nsIn K mainGlobals "tuple" = some none) (z_str : PySem.W.nsIn K mainGlobals "str" = some none) (z_range : PySem.W.nsIn K mainGlobals "range" = some none) (z_max : PySem.W.nsIn K mainGlobals "max" = some none) (z_min : PySem.W.nsIn K mainGlobals "min" = some none) (z_sorted : PySem.W.nsIn K mainGlobals "sorted" = some none) (z_set : PySem.W.nsIn K mainGlobals "set" = some none) (z_enumerate : PySem.W.nsIn K mainGlobals "enumerate" = some none) (z_reversed : PySem.W.nsIn K mainGlobals "reversed" = some none) (z_any : PySem.W.nsIn K mainGlobals "any" = some none) :
    ∃ fd : FuncData, (∀ (s : Shared) (v : Value), BindsTo s fd ⟨[v], []⟩ [("_law_script", v)]) ∧ ∀ base : Heap, K.In base → base.Ns mainGlobals mg → FnOk l.prog w K mg base CX0 lawK fa fd ["_law_script"] (spLaw K) := by
  have e := hfa.symm.trans (PySem.W.mg_of X G a_law)
  cases e
  have B : Blt mg := ⟨PySem.W.mg_none_of X G z_len, PySem.W.mg_none_of X G z_abs, PySem.W.mg_none_of X G z_isinstance, PySem.W.mg_none_of X G z_int, PySem.W.mg_none_of X G z_bool, PySem.W.mg_none_of X G z_list, PySem.W.mg_none_of X G z_tuple, PySem.W.mg_none_of X G z_str, PySem.W.mg_none_of X G z_range, PySem.W.mg_none_of X G z_max, PySem.W.mg_none_of X G z_min, PySem.W.mg_none_of X G z_sorted, PySem.W.mg_none_of X G z_set, PySem.W.mg_none_of X G z_enumerate, PySem.W.mg_none_of X G z_reversed, PySem.W.mg_none_of X G z_any⟩
  have D_true_in : Def K mg "true_in" s_true_in p_true_in := def_mk (st := s_true_in) X G a_true_in l_true_in c_true_in k_true_in fun _ _ _ _ _ _ us hl => match us, hl with | [_, _], _ => rfl
  have D_value_of : Def K mg "value_of" s_value_of p_value_of := def_mk (st := s_value_of) X G a_value_of l_value_of c_value_of k_value_of fun _ _ _ _ _ _ us hl => match us, hl with | [_, _, _], _ => rfl
  have D_sheet_of : Def K mg "sheet_of" s_sheet_of p_sheet_of := def_mk (st := s_sheet_of) X G a_sheet_of l_sheet_of c_sheet_of k_sheet_of fun _ _ _ _ _ _ us hl => match us, hl with | [_, _], _ => rfl
  have D_wishes_of : Def K mg "wishes_of" s_wishes_of p_wishes_of := def_mk (st := s_wishes_of) X G a_wishes_of l_wishes_of c_wishes_of k_wishes_of fun _ _ _ _ _ _ us hl => match us, hl with | [_, _, _, _], _ => rfl
  have D_inner_first : Def K mg "inner_first" s_inner_first p_inner_first := def_mk (st := s_inner_first) X G a_inner_first l_inner_first c_inner_first k_inner_first fun _ _ _ _ _ _ us hl => match us, hl with | [_], _ => rfl
  have D_l_draw : Def K mg "_law_draw" s_l_draw p_l_draw := def_mk (st := s_l_draw) X G a_l_draw l_l_draw c_l_draw k_l_draw fun _ _ _ _ _ _ us hl => match us, hl with | [_, _, _], _ => rfl
  have D_l_whole : Def K mg "_law_whole" s_l_whole p_l_whole := def_mk (st := s_l_whole) X G a_l_whole l_l_whole c_l_whole k_l_whole fun _ _ _ _ _ _ us hl => match us, hl with | [_], _ => rfl
  have D_l_at : Def K mg "_law_at" s_l_at p_l_at := def_mk (st := s_l_at) X G a_l_at l_l_at c_l_at k_l_at fun _ _ _ _ _ _ us hl => match us, hl with | [_, _], _ => rfl
  have D_l_setting_of : Def K mg "_law_setting_of" s_l_setting_of p_l_setting_of := def_mk (st := s_l_setting_of) X G a_l_setting_of l_l_setting_of c_l_setting_of k_l_setting_of fun _ _ _ _ _ _ us hl => match us, hl with | [_, _], _ => rfl
  have D_l_meets : Def K mg "_law_meets" s_l_meets p_l_meets := def_mk (st := s_l_meets) X G a_l_meets l_l_meets c_l_meets k_l_meets fun _ _ _ _ _ _ us hl => match us, hl with | [_, _], _ => rfl
  have D_l_all_met : Def K mg "_law_all_met" s_l_all_met p_l_all_met := def_mk (st := s_l_all_met) X G a_l_all_met l_l_all_met c_l_all_met k_l_all_met fun _ _ _ _ _ _ us hl => match us, hl with | [_, _], _ => rfl
  have D_l_alike : Def K mg "_law_alike" s_l_alike p_l_alike := def_mk (st := s_l_alike) X G a_l_alike l_l_alike c_l_alike k_l_alike fun _ _ _ _ _ _ us hl => match us, hl with | [_, _], _ => rfl
  have D_l_pair : Def K mg "_law_pair" s_l_pair p_l_pair := def_mk (st := s_l_pair) X G a_l_pair l_l_pair c_l_pair k_l_pair fun _ _ _ _ _ _ us hl => match us, hl with | [_, _, _], _ => rfl
  have D_l_stated : Def K mg "_law_stated" s_l_stated p_l_stated := def_mk (st := s_l_stated) X G a_l_stated l_l_stated c_l_stated k_l_stated fun _ _ _ _ _ _ us hl => match us, hl with | [_, _], _ => rfl
  have D_l_sheet : Def K mg "_law_sheet" s_l_sheet p_l_sheet := def_mk (st := s_l_sheet) X G a_l_sheet l_l_sheet c_l_sheet k_l_sheet fun _ _ _ _ _ _ us hl => match us, hl with | [_, _], _ => rfl
  have D_l_sheet_due : Def K mg "_law_sheet_due" s_l_sheet_due p_l_sheet_due := def_mk (st := s_l_sheet_due) X G a_l_sheet_due l_l_sheet_due c_l_sheet_due k_l_sheet_due fun _ _ _ _ _ _ us hl => match us, hl with | [_, _], _ => rfl
  refine ⟨PySem.W.fnOf "law" "law" (defArgs s_law) (defBody s_law) (defScope s_law) .none kV_law dc_law pm_law an_law cd_law ct_law, fun s v => .of_eq rfl, fun base Xb Gb => ?_⟩
  exact ok_law (fun_mk (st := s_law) l_law c_law k_law) B D_true_in D_value_of D_sheet_of D_wishes_of D_inner_first D_l_draw D_l_whole D_l_at D_l_setting_of D_l_meets D_l_all_met D_l_alike D_l_pair D_l_stated D_l_sheet D_l_sheet_due
theorem walk {l : PySem.W.OpenLaw} {q : Program} {loose : List Str} {XP : (Str → Option Value) → Heap → Prop} {YP : World → Heap → Prop} {d : DefRec} {K : Params → PySem.W.Frag} (hn : l.most = some 63) (hdf : d.params.defaults = [])
    (hY : ∀ (w : World) (h : Heap), YP w h → (K w.params).In h)
    (F : ∀ (w : World) (mg : Str → Option Value) (fa : Addr) (h : Heap), (K w.params).In h → h.Ns mainGlobals mg → mg d.name = some (.ref fa) →
      ∃ fd : FuncData, (∀ (s : Shared) (u : Value), BindsTo s fd ⟨[u], []⟩ [("_law_script", u)]) ∧ ∀ base : Heap, (K w.params).In base → base.Ns mainGlobals mg → FnOk l.prog w (K w.params) mg base CX0 lawK fa fd ["_law_script"] (spLaw (K w.params))) :
    PySem.W.WalkO q loose XP YP l.row.toRowW d [] (fun f vs => PySem.call f vs) :=
  L2.walk_of (n := 63) (k := lawK) (x := "_law_script") (CX := fun _ => CX0) (sp := fun w => spLaw (K w.params)) hn (by decide) hdf ⟨rfl, by decide, by decide⟩ hY F (fun _ _ a ns hl _ hS => ⟨a, ns, rfl, hS, hl, fun _ => rfl⟩) fun _ _ _ _ _ z => z
def de (P : Params) (x : Str) (t : Nat) (v : Value) : DictEntry := ⟨PyData.keyHash P x, .str x t, v⟩
def fo (n q : Str) (s : Stmt) (m : Value) (c : Addr) : Obj := ⟨.type "function", none, .func (PySem.W.fnOf n q (defArgs s) (defBody s) (defScope s) .none .none .none m none (.ref c) .none), #[]⟩
def co (n : Str) (t : Nat) (q : Str) (u v : Nat) (l k : Int) (a : Addr) (f : Int) (b : Addr) (A B C : Value) (d : Addr) (m l' : Int) (y : Nat) : Obj := ⟨.type "code", none, .fields #[.str n t, .str q u, .str "/claim/cut.py" v, .int l 0, .int k 0, .int 0 0, .int 0 0, .int 3 0, .ref a, .bool true, .int f 0, .ref b, A, B, C, .ref d, .int m 0, .int l' 0, .str "/claim/cut.py" y], #[]⟩
def hk (P : Params) : PySem.W.Frag :=
(nat_lit 2, ⟨.none, none, (.dict #[] 0), #[]⟩) ::
(nat_lit 3, ⟨(.type "dict"), none, (.dict #[(de P "__name__" 165 (.str "law_lampwish_k13_whole_sheet" 244)), (de P "__doc__" 166 .none), (de P "__package__" 167 .none), (de P "__loader__" 168 (.builtin "__main__.__loader__#opaque")), (de P "__spec__" 169 .none), (de P "__annotations__" 170 (.ref 6)), (de P "__builtins__" 171 (.ref 4)), (de P "__file__" 173 (.str "/claim/cut.py" 172)), (de P "__cached__" 174 .none), (de P "true_in" 198 (.ref 21)), (de P "value_of" 209 (.ref 28)), (de P "sheet_of" 223 (.ref 35)), (de P "wishes_of" 233 (.ref 42)), (de P "inner_first" 243 (.ref 49)), (de P "_law_draw" 254 (.ref 56)), (de P "_law_whole" 261 (.ref 63)), (de P "_law_at" 269 (.ref 70)), (de P "_law_setting_of" 279 (.ref 77)), (de P "_law_meets" 288 (.ref 84)), (de P "_law_all_met" 297 (.ref 91)), (de P "_law_alike" 309 (.ref 98)), (de P "_law_pair" 319 (.ref 105)), (de P "_law_stated" 334 (.ref 112)), (de P "_law_sheet" 344 (.ref 119)), (de P "_law_sheet_due" 360 (.ref 126)), (de P "law" 377 (.ref 133))] 26), #[]⟩) ::
(nat_lit 20, co "true_in" 189 "true_in" 190 191 2 2 15 181 16 .none (.ref 17) (.ref 18) 19 196 2 197) ::
(nat_lit 21, fo "true_in" "true_in" (top 1) (.str "lampwish.statements" 187) 20) ::
(nat_lit 27, co "value_of" 199 "value_of" 200 201 7 3 22 181 23 .none (.ref 24) (.ref 25) 26 207 7 208) ::
(nat_lit 28, fo "value_of" "value_of" (top 2) (.str "lampwish.statements" 187) 27) ::
(nat_lit 34, co "sheet_of" 210 "sheet_of" 211 212 19 2 29 181 30 .none (.ref 31) (.ref 32) 33 221 19 222) ::
(nat_lit 35, fo "sheet_of" "sheet_of" (top 3) (.str "lampwish.statements" 187) 34) ::
(nat_lit 41, co "wishes_of" 224 "wishes_of" 225 226 36 4 36 181 37 .none (.ref 38) (.ref 39) 40 231 36 232) ::
(nat_lit 42, fo "wishes_of" "wishes_of" (top 4) (.str "lampwish.statements" 187) 41) ::
(nat_lit 48, co "inner_first" 234 "inner_first" 235 236 42 1 43 181 44 .none (.ref 45) (.ref 46) 47 241 42 242) ::
(nat_lit 49, fo "inner_first" "inner_first" (top 5) (.str "lampwish.statements" 187) 48) ::
(nat_lit 55, co "_law_draw" 246 "_law_draw" 247 248 52 3 50 181 51 .none (.ref 52) (.ref 53) 54 252 52 253) ::
(nat_lit 56, fo "_law_draw" "_law_draw" (top 7) (.str "law_lampwish_k13_whole_sheet" 244) 55) ::
(nat_lit 62, co "_law_whole" 255 "_law_whole" 256 257 54 1 57 181 58 .none (.ref 59) (.ref 60) 61 259 54 260) ::
(nat_lit 63, fo "_law_whole" "_law_whole" (top 8) (.str "law_lampwish_k13_whole_sheet" 244) 62) ::
(nat_lit 69, co "_law_at" 262 "_law_at" 263 264 56 2 64 181 65 .none (.ref 66) (.ref 67) 68 267 56 268) ::
(nat_lit 70, fo "_law_at" "_law_at" (top 9) (.str "law_lampwish_k13_whole_sheet" 244) 69) ::
(nat_lit 76, co "_law_setting_of" 270 "_law_setting_of" 271 272 60 2 71 181 72 .none (.ref 73) (.ref 74) 75 277 60 278) ::
(nat_lit 77, fo "_law_setting_of" "_law_setting_of" (top 10) (.str "law_lampwish_k13_whole_sheet" 244) 76) ::
(nat_lit 83, co "_law_meets" 280 "_law_meets" 281 282 65 2 78 181 79 .none (.ref 80) (.ref 81) 82 286 65 287) ::
(nat_lit 84, fo "_law_meets" "_law_meets" (top 11) (.str "law_lampwish_k13_whole_sheet" 244) 83) ::
(nat_lit 90, co "_law_all_met" 289 "_law_all_met" 290 291 70 2 85 181 86 .none (.ref 87) (.ref 88) 89 295 70 296) ::
(nat_lit 91, fo "_law_all_met" "_law_all_met" (top 12) (.str "law_lampwish_k13_whole_sheet" 244) 90) ::
(nat_lit 97, co "_law_alike" 298 "_law_alike" 299 300 75 2 92 181 93 .none (.ref 94) (.ref 95) 96 307 75 308) ::
(nat_lit 98, fo "_law_alike" "_law_alike" (top 13) (.str "law_lampwish_k13_whole_sheet" 244) 97) ::
(nat_lit 104, co "_law_pair" 310 "_law_pair" 311 312 97 3 99 181 100 .none (.ref 101) (.ref 102) 103 317 97 318) ::
(nat_lit 105, fo "_law_pair" "_law_pair" (top 14) (.str "law_lampwish_k13_whole_sheet" 244) 104) ::
(nat_lit 111, co "_law_stated" 320 "_law_stated" 321 322 104 2 106 181 107 .none (.ref 108) (.ref 109) 110 332 104 333) ::
(nat_lit 112, fo "_law_stated" "_law_stated" (top 15) (.str "law_lampwish_k13_whole_sheet" 244) 111) ::
(nat_lit 118, co "_law_sheet" 335 "_law_sheet" 336 337 126 2 113 181 114 .none (.ref 115) (.ref 116) 117 342 126 343) ::
(nat_lit 119, fo "_law_sheet" "_law_sheet" (top 16) (.str "law_lampwish_k13_whole_sheet" 244) 118) ::
(nat_lit 125, co "_law_sheet_due" 345 "_law_sheet_due" 346 347 138 2 120 181 121 .none (.ref 122) (.ref 123) 124 358 138 359) ::
(nat_lit 126, fo "_law_sheet_due" "_law_sheet_due" (top 17) (.str "law_lampwish_k13_whole_sheet" 244) 125) ::
(nat_lit 132, co "law" 361 "law" 362 363 166 1 127 181 128 .none (.ref 129) (.ref 130) 131 375 166 376) ::
(nat_lit 133, fo "law" "law" (top 18) (.str "law_lampwish_k13_whole_sheet" 244) 132) :: []
def hkA : List Addr := [2, 3, 20, 21, 27, 28, 34, 35, 41, 42, 48, 49, 55, 56, 62, 63, 69, 70, 76, 77, 83, 84, 90, 91, 97, 98, 104, 105, 111, 112, 118, 119, 125, 126, 132, 133]
def qv : Program := { PySem.Challenge.pw_lampwish_k13_whole_sheet with main := { PySem.Challenge.pw_lampwish_k13_whole_sheet.main with body := ([1, 2, 3, 4, 5, 7, 8, 9, 10, 11, 12, 13, 14, 15, 16, 17, 18] : List Nat).map top } }
theorem hkE (P : Params) : hkA = (hk P).map (·.1) := by kernel_rfl
theorem left : PySem.W.LeftO PySem.Challenge.rw_lampwish_k13_whole_sheet.row.toRowW.prog qv [] (fun s => PySem.W.xlAt qv [] s && PySem.W.recOk (PySem.W.RowW.records PySem.Challenge.rw_lampwish_k13_whole_sheet.row.toRowW) s) (PySem.W.Hook.obs (PySem.W.kHook hk hkA hkE)) (PySem.W.Hook.val (PySem.W.kHook hk hkA hkE)) 1284 := fun w => by kernel_rfl
end My
open PySem PySem.W PyProof.Rows
set_option maxRecDepth 100000 in
set_option maxHeartbeats 0 in
theorem PySem.Challenge.cw_lampwish_k13_whole_sheet_holds : PySem.Challenge.rw_lampwish_k13_whole_sheet.Holds := by
  w_on; o_law
  refine PySem.W.holds_open (q := My.qv) (loose := []) (Xt := fun s => PySem.W.xlAt My.qv [] s && PySem.W.recOk (PySem.W.RowW.records PySem.Challenge.rw_lampwish_k13_whole_sheet.row.toRowW) s) (XP := PySem.W.XL My.qv []) (Yf := PySem.W.Hook.obs (PySem.W.kHook My.hk My.hkA My.hkE)) (Ya := PySem.W.Hook.val (PySem.W.kHook My.hk My.hkA My.hkE)) (YP := PySem.W.Hook.says (PySem.W.kHook My.hk My.hkA My.hkE)) (N := 1284) My.left (PySem.W.Hook.of (PySem.W.kHook My.hk My.hkA My.hkE)) (PySem.W.Hook.keeps (PySem.W.kHook My.hk My.hkA My.hkE)) (fun s e => PySem.W.xl_of s (Bool.and_eq_true_iff.mp e).1) PySem.W.XL.keeps (by rfl) (by rfl) (by rfl) (fun s e => PySem.W.recFacts_of (Bool.and_eq_true_iff.mp e).2) (by rfl) (by first | assumption | decide +kernel) (by decide +kernel) ⟨rfl, rfl, rfl, rfl, rfl, by decide +kernel⟩ ?hw ?hc
  (case hw => w_witness2)
  k_fill
  refine My.walk (l := PySem.Challenge.rw_lampwish_k13_whole_sheet) rfl rfl (fun w h Y => PySem.W.kIn_of Y) ?F
  case F =>
    intro w mg fa h KX G hmg
    refine' My.all_mk KX G hmg ?a_true_in ?l_true_in ?c_true_in ?k_true_in ?a_value_of ?l_value_of ?c_value_of ?k_value_of ?a_sheet_of ?l_sheet_of ?c_sheet_of ?k_sheet_of ?a_wishes_of ?l_wishes_of ?c_wishes_of ?k_wishes_of ?a_inner_first ?l_inner_first ?c_inner_first ?k_inner_first ?a_l_draw ?l_l_draw ?c_l_draw ?k_l_draw ?a_l_whole ?l_l_whole ?c_l_whole ?k_l_whole ?a_l_at ?l_l_at ?c_l_at ?k_l_at ?a_l_setting_of ?l_l_setting_of ?c_l_setting_of ?k_l_setting_of ?a_l_meets ?l_l_meets ?c_l_meets ?k_l_meets ?a_l_all_met ?l_l_all_met ?c_l_all_met ?k_l_all_met ?a_l_alike ?l_l_alike ?c_l_alike ?k_l_alike ?a_l_pair ?l_l_pair ?c_l_pair ?k_l_pair ?a_l_stated ?l_l_stated ?c_l_stated ?k_l_stated ?a_l_sheet ?l_l_sheet ?c_l_sheet ?k_l_sheet ?a_l_sheet_due ?l_l_sheet_due ?c_l_sheet_due ?k_l_sheet_due ?a_law ?l_law ?c_law ?k_law ?z_len ?z_abs ?z_isinstance ?z_int ?z_bool ?z_list ?z_tuple ?z_str ?z_range ?z_max ?z_min ?z_sorted ?z_set ?z_enumerate ?z_reversed ?z_any
    (case a_true_in => k_is); (case l_true_in => k_is); (case c_true_in => k_is); (case k_true_in => k_is)
    (case a_value_of => k_is); (case l_value_of => k_is); (case c_value_of => k_is); (case k_value_of => k_is)
    (case a_sheet_of => k_is); (case l_sheet_of => k_is); (case c_sheet_of => k_is); (case k_sheet_of => k_is)
    (case a_wishes_of => k_is); (case l_wishes_of => k_is); (case c_wishes_of => k_is); (case k_wishes_of => k_is)
    (case a_inner_first => k_is); (case l_inner_first => k_is); (case c_inner_first => k_is); (case k_inner_first => k_is)
    (case a_l_draw => k_is); (case l_l_draw => k_is); (case c_l_draw => k_is); (case k_l_draw => k_is)
    (case a_l_whole => k_is); (case l_l_whole => k_is); (case c_l_whole => k_is); (case k_l_whole => k_is)
    (case a_l_at => k_is); (case l_l_at => k_is); (case c_l_at => k_is); (case k_l_at => k_is)
    (case a_l_setting_of => k_is); (case l_l_setting_of => k_is); (case c_l_setting_of => k_is); (case k_l_setting_of => k_is)
    (case a_l_meets => k_is); (case l_l_meets => k_is); (case c_l_meets => k_is); (case k_l_meets => k_is)
    (case a_l_all_met => k_is); (case l_l_all_met => k_is); (case c_l_all_met => k_is); (case k_l_all_met => k_is)
    (case a_l_alike => k_is); (case l_l_alike => k_is); (case c_l_alike => k_is); (case k_l_alike => k_is)
    (case a_l_pair => k_is); (case l_l_pair => k_is); (case c_l_pair => k_is); (case k_l_pair => k_is)
    (case a_l_stated => k_is); (case l_l_stated => k_is); (case c_l_stated => k_is); (case k_l_stated => k_is)
    (case a_l_sheet => k_is); (case l_l_sheet => k_is); (case c_l_sheet => k_is); (case k_l_sheet => k_is)
    (case a_l_sheet_due => k_is); (case l_l_sheet_due => k_is); (case c_l_sheet_due => k_is); (case k_l_sheet_due => k_is)
    (case a_law => k_is); (case l_law => k_is); (case c_law => k_is); (case k_law => k_is)
    (case z_len => k_is); (case z_abs => k_is); (case z_isinstance => k_is); (case z_int => k_is); (case z_bool => k_is); (case z_list => k_is); (case z_tuple => k_is); (case z_str => k_is); (case z_range => k_is); (case z_max => k_is); (case z_min => k_is); (case z_sorted => k_is); (case z_set => k_is); (case z_enumerate => k_is); (case z_reversed => k_is); (case z_any => k_is)
#print axioms PySem.Challenge.cw_lampwish_k13_whole_sheet_holds
