import PyProof.Rows.All
import Wide.All
import OpenK.AllK
import Wide.FinOn
import Lean
import PyProof.EqAt
import PyProof.EqKinds
import PyProof.TupleCall
import PySem.Challenge.RW_restdraw_k42_two_ties
set_option Elab.async false
set_option linter.all false
set_option maxRecDepth 100000
namespace L2
open PySem PySem.Spec PyProof.Rows

/-- a key: an int or a str -/
abbrev Key := Sum Int Str
def keyIs : Key → Value → Bool
  | .inl k, v => Value.isInt k v
  | .inr x, v => Value.isStrOf x v
def keyH (w : World) : Key → Int
  | .inl k => hashInt k
  | .inr x => hashStr w x
theorem keyIs_shape : ∀ {k : Key} {v : Value}, keyIs k v = true → (∃ i t, k = Sum.inl i ∧ v = Value.int i t) ∨ (∃ x t, k = Sum.inr x ∧ v = Value.str x t)
  | .inl i, v, h => by
    obtain ⟨t, e⟩ := Value.isInt_shape (k := i) (v := v) h
    exact .inl ⟨i, t, rfl, e⟩
  | .inr x, v, h => by
    obtain ⟨t, e⟩ := Value.isStrOf_shape (x := x) (v := v) h
    exact .inr ⟨x, t, rfl, e⟩
theorem key_ll (a b : Int) : decide ((Sum.inl a : Key) = Sum.inl b) = (a == b) := by
  by_cases e : a = b
  · subst e; simp
  · have h : ¬ (Sum.inl a : Key) = Sum.inl b := fun q => e (Sum.inl.inj q)
    rw [decide_eq_false h]
    exact (beq_eq_false_iff_ne.mpr e).symm
theorem key_rr (a b : Str) : decide ((Sum.inr a : Key) = Sum.inr b) = decide (a = b) := by
  by_cases e : a = b
  · subst e; simp
  · have h : ¬ (Sum.inr a : Key) = Sum.inr b := fun q => e (Sum.inr.inj q)
    rw [decide_eq_false h, decide_eq_false e]
theorem key_lr (a : Int) (b : Str) : decide ((Sum.inl a : Key) = Sum.inr b) = false := decide_eq_false (fun q => nomatch q)
theorem key_rl (a : Str) (b : Int) : decide ((Sum.inr a : Key) = Sum.inl b) = false := decide_eq_false (fun q => nomatch q)

def mixKind (prog : Program) (w : World) : PySem.KeyKind prog w Key where
  is := keyIs
  hash := keyH w
  inj := fun v a b ha hb => by
    rcases keyIs_shape ha with ⟨i, t, rfl, rfl⟩ | ⟨x, t, rfl, rfl⟩
    · rcases keyIs_shape hb with ⟨j, u, rfl, e⟩ | ⟨y, u, rfl, e⟩
      · injection e with e1 _; rw [e1]
      · exact nomatch e
    · rcases keyIs_shape hb with ⟨j, u, rfl, e⟩ | ⟨y, u, rfl, e⟩
      · exact nomatch e
      · injection e with e1 _; rw [e1]
  byValue := fun k v h => by
    rcases keyIs_shape h with ⟨i, t, rfl, rfl⟩ | ⟨x, t, rfl, rfl⟩ <;> rfl
  pyHash := fun hv h => by
    rcases keyIs_shape hv with ⟨i, t, rfl, rfl⟩ | ⟨x, t, rfl, rfl⟩
    · exact wpAny_pyHash_int h
    · exact wpAny_pyHash_str h
  eqBool := fun hu hv h => by
    rcases keyIs_shape hu with ⟨i, t, rfl, rfl⟩ | ⟨x, t, rfl, rfl⟩
    · rcases keyIs_shape hv with ⟨j, u, rfl, rfl⟩ | ⟨y, u, rfl, rfl⟩
      · rw [key_ll] at h; exact wpAny_eqBool_int h
      · rw [key_lr] at h; exact SeqAt.EqAt.int_str i t y u _ _ _ _ h
    · rcases keyIs_shape hv with ⟨j, u, rfl, rfl⟩ | ⟨y, u, rfl, rfl⟩
      · rw [key_rl] at h; exact SeqAt.EqAt.str_int x t j u _ _ _ _ h
      · rw [key_rr] at h; exact wpAny_eqBool_str h
  «strs» := fun k x t v h => by
    rcases keyIs_shape h with ⟨i, u, rfl, e⟩ | ⟨y, u, rfl, e⟩
    · exact nomatch e
    · injection e with e1 _
      subst e1
      cases v <;> rfl

end L2

namespace L2
open PySem PySem.Spec PyProof.Rows

/-- a value, without the heap -/
inductive V where
  | non | bl (b : Bool) | int (i : Int) | str (x : Str) | byt (b : Array UInt8) | flt (b : UInt64) | ref (a : Addr) | ty (n : String)
  deriving DecidableEq

def RelV : V → Value → Prop
  | .non, u => u = Value.none
  | .bl b, u => u = Value.bool b
  | .int i, u => ∃ t, u = Value.int i t
  | .str x, u => ∃ t, u = Value.str x t
  | .byt b, u => ∃ t, u = Value.bytes b t
  | .flt b, u => ∃ t, u = Value.float b t
  | .ref a, u => u = Value.ref a
  | .ty n, u => u = Value.type n

abbrev Vals : List V → List Value → Prop := Paired RelV
theorem Vals.length {xs : List V} {us : List Value} (r : Vals xs us) : xs.length = us.length := Paired.length r
theorem Vals.get : ∀ {xs : List V} {us : List Value} {i : Nat} {x : V}, Vals xs us → xs[i]? = some x → ∃ u, us[i]? = some u ∧ RelV x u
  | _, _, _, _, .nil, e => by simp at e
  | _, _, 0, _, .cons r _, e => by simp at e; subst e; exact ⟨_, rfl, r⟩
  | _, _, i + 1, x, .cons _ t, e => by
    obtain ⟨u, h1, h2⟩ := Vals.get (i := i) (x := x) t (by simpa using e)
    exact ⟨u, by simpa using h1, h2⟩
theorem Vals.set {x : V} {u : Value} (r : RelV x u) : ∀ {xs : List V} {us : List Value} (i : Nat), Vals xs us → Vals (xs.set i x) (us.set i u)
  | _, _, _, .nil => .nil
  | _, _, 0, .cons _ t => .cons r t
  | _, _, i + 1, .cons q t => .cons q (Vals.set r i t)
theorem Vals.append : ∀ {xs ys : List V} {us ws : List Value}, Vals xs us → Vals ys ws → Vals (xs ++ ys) (us ++ ws)
  | _, _, _, _, .nil, s => s
  | _, _, _, _, .cons r t, s => .cons r (Vals.append t s)
theorem Vals.take : ∀ {xs : List V} {us : List Value} (n : Nat), Vals xs us → Vals (xs.take n) (us.take n)
  | _, _, 0, _ => .nil
  | _, _, _ + 1, .nil => .nil
  | _, _, n + 1, .cons r t => .cons r (Vals.take n t)
theorem Vals.drop : ∀ {xs : List V} {us : List Value} (n : Nat), Vals xs us → Vals (xs.drop n) (us.drop n)
  | _, _, 0, r => r
  | _, _, _ + 1, .nil => .nil
  | _, _, n + 1, .cons _ t => Vals.drop n t
def RelO : Option V → Option Value → Prop
  | some v, some u => RelV v u
  | none, none => True
  | _, _ => False
def KV {κ : Type} : List (κ × V) → List (κ × Value) → Prop := Paired fun (p : κ × V) (q : κ × Value) => p.1 = q.1 ∧ RelV p.2 q.2

/-- a key of a dict (00_mix): an int or a text -/
def kV : Key → V
  | .inl i => .int i
  | .inr x => .str x

/-- what stands at a tracked address -/
inductive HO where
  /-- a list -/
  | lst (xs : List V)
  /-- a tuple (never changes) -/
  | tup (xs : List V)
  /-- a dict whose keys are ints and texts; one whose keys are tuples of ints and texts (the empty one is both) -/
  | dK (kvs : List (Key × V)) | dT (kvs : List (List Key × V))
  /-- a set of ints: its members, its size -/
  | set (S : Int → Bool) (n : Nat)
  /-- an instance of the class at C, its dict at dx, its attributes -/
  | ins (C dx : Addr) (fs : List (Str × V))
  /-- the dict of the instance at x -/
  | own (x : Addr)
  /-- the dict of an exception -/
  | xd (fs : List (Str × V))
  /-- a bound method, f of x -/
  | met (f x : Addr)
  /-- a range object lo, lo + 1, .. below hi -/
  | rng (lo hi : Int)
  /-- a thing that is known to the object (the script; a dict while a loop walks it): read, never written while it is so -/
  | frz (o : Obj) (u : HO)
  /-- a code object's table -/
  | tbl (ps : Array Value)
  /-- any other thing, by what is true of its one object (a def of one's own: SetO a S n := HO.ext fun h => ..) -/
  | ext (φ : Heap → Prop)

abbrev Hp := Addr → Option HO
def upd (H : Hp) (a : Addr) (o : HO) : Hp := fun b => if b = a then some o else H b
theorem upd_same {H : Hp} {a : Addr} {o : HO} : upd H a o a = some o := by unfold upd; rw [if_pos rfl]
theorem upd_ne {H : Hp} {a b : Addr} {o : HO} (h : b ≠ a) : upd H a o b = H b := by unfold upd; rw [if_neg h]
/-- two objects of different content stand apart -/
theorem ne_of {H : Hp} {a b : Addr} {o u : HO} (h : H a = some o) (h' : H b = some u) (d : o ≠ u) : a ≠ b := by
  intro e; subst e; rw [h] at h'; exact d (Option.some.inj h')
theorem ne_of_none {H : Hp} {a b : Addr} {o : HO} (h : H a = some o) (h' : H b = none) : a ≠ b := by
  intro e; subst e; rw [h] at h'; cases h'

section
/-- a tuple that has no dict of its own -/
def IsTupN (h : Heap) (a : Addr) (items : Array Value) : Prop := ∃ o, h.get? a = some o ∧ o.cls = .type "tuple" ∧ ∃ n, o.data = .seq items n ∧ o.dict = none
theorem IsTupN.isTup {h : Heap} {a : Addr} {items : Array Value} : IsTupN h a items → IsTup h a items := fun ⟨o, e, c, n, d, _⟩ => ⟨o, e, c, n, d⟩
theorem IsTupN.lt {h : Heap} {a : Addr} {items : Array Value} (x : IsTupN h a items) : a < h.objs.size := x.isTup.lt
theorem IsTupN.new (h : Heap) (items : Array Value) : IsTupN (h.push { cls := .type "tuple", data := .seq items }) h.objs.size items := ⟨_, Heap.get?_push_size _ rfl, rfl, _, rfl, rfl⟩
variable (P : Program) (w : World)
def ObjOk (H : Hp) (h : Heap) (a : Addr) : HO → Prop
  | .lst xs => xs.length ≤ sizeLine ∧ ∃ (its : List Value) (n : Nat), Vals xs its ∧ h.get? a = some { cls := .type "list", data := .seq its.toArray n }
  | .tup xs => xs.length ≤ sizeLine ∧ ∃ its : List Value, Vals xs its ∧ IsTupN h a its.toArray
  | .dK kvs => kvs.length ≤ sizeLine ∧ (a == sysModules) = false ∧ ∃ vs, KV kvs vs ∧ h.DictOf (mixKind P w) a vs
  | .dT kvs => kvs.length ≤ sizeLine ∧ (a == sysModules) = false ∧ ∃ xs : List (List Key × Addr × Value),
      Paired (fun (p : List Key × V) (q : List Key × Addr × Value) => p.1 = q.1 ∧ H q.2.1 = some (.tup (p.1.map kV)) ∧ RelV p.2 q.2.2) kvs xs ∧
      ∃ o es ep, h.get? a = some o ∧ o.ExactDict ∧ o.data = .dict es ep ∧ es.toList = xs.map (entryOfKey (tupleKind (mixKind P w))) ∧ (xs.map (·.1)).Nodup
  | .set S n => h.SetOf (intKind P w) a S n
  | .ins C dx fs => H dx = some (.own a) ∧ fs.length ≤ 1000 ∧ dx ≠ a ∧ h.get? a = some (PySem.W.instObj C dx) ∧
      ∃ mA, h.Ns1 dx mA ∧ (∀ f, RelO (fs.lookup f) (mA f)) ∧ PySem.Within mA (fs.map (·.1))
  | .own _ => ∃ o, h.get? a = some o
  | .xd fs => ∃ mA, h.Ns1 a mA ∧ ∀ f, RelO (fs.lookup f) (mA f)
  | .rng lo hi => ∃ t u v, h.get? a = some { cls := .type "range", data := .fields #[.int lo t, .int hi u, .int 1 v] }
  | .frz o u => h.get? a = some o ∧ ObjOk H h a u
  | .tbl ps => h.get? a = some { cls := .none, data := .fields ps }
  | .met f x => h.get? a = some (PySem.W.methodObj (.ref f) (.ref x))
  | .ext φ => φ h ∧ (∃ o, h.get? a = some o) ∧ ∀ h1 h2 : Heap, φ h1 → (∀ o, h1.get? a = some o → h2.get? a = some o) → φ h2
/-- the abstract heap is held -/
def HOk (H : Hp) (h : Heap) : Prop := ∀ a o, H a = some o → ObjOk P w H h a o
end

section
variable {P : Program} {w : World} {H H' : Hp} {h h' : Heap} {a : Addr} {o : HO}
theorem ObjOk.lt (x : ObjOk P w H h a o) : a < h.objs.size := by
  cases o with
  | lst xs => obtain ⟨_, _, _, _, e⟩ := x; exact Heap.lt_size e
  | tup xs => obtain ⟨_, _, _, p⟩ := x; exact p.lt
  | dK kvs => obtain ⟨_, _, _, _, o, _, _, e, _⟩ := x; exact Heap.lt_size e
  | dT kvs => obtain ⟨_, _, _, _, o, _, _, e, _⟩ := x; exact Heap.lt_size e
  | set S n => obtain ⟨o, _, _, _, e, _⟩ := x; exact Heap.lt_size e
  | ins C dx fs => obtain ⟨_, _, _, e, _⟩ := x; exact Heap.lt_size e
  | own y => obtain ⟨_, e⟩ := x; exact Heap.lt_size e
  | xd fs => obtain ⟨_, ⟨_, _, _, e, _⟩, _⟩ := x; exact Heap.lt_size e
  | rng lo hi => obtain ⟨_, _, _, e⟩ := x; exact Heap.lt_size e
  | frz ob u => obtain ⟨e, _⟩ := x; exact Heap.lt_size e
  | tbl ps => exact Heap.lt_size (show h.get? a = some _ from x)
  | met f y => exact Heap.lt_size (show h.get? a = some _ from x)
  | ext φ => obtain ⟨_, ⟨_, e⟩, _⟩ := x; exact Heap.lt_size e
theorem Paired.mapP {α β : Type} {F G : α → β → Prop} : ∀ {l₁ : List α} {l₂ : List β}, Paired F l₁ l₂ → (∀ a b, F a b → G a b) → Paired G l₁ l₂
  | _, _, .nil, _ => .nil
  | _, _, .cons r t, f => .cons (f _ _ r) (Paired.mapP t f)
/-- what an object's description leans on: its own object, its own dict, the tuples -/
theorem ObjOk.stay (x : ObjOk P w H h a o) (k : ∀ b u, (b = a ∨ H b = some (.own a)) → h.get? b = some u → h'.get? b = some u)
    (ho : ∀ b, H b = some (.own a) → H' b = some (.own a)) (ht : ∀ b xs, H b = some (.tup xs) → H' b = some (.tup xs)) : ObjOk P w H' h' a o := by
  induction o with
  | lst xs => obtain ⟨z, its, n, r, e⟩ := x; exact ⟨z, its, n, r, k _ _ (.inl rfl) e⟩
  | tup xs => obtain ⟨z, its, r, ob, e, c⟩ := x; exact ⟨z, its, r, ob, k _ _ (.inl rfl) e, c⟩
  | dK kvs => obtain ⟨z, y, vs, r, ob, es, ep, e, c⟩ := x; exact ⟨z, y, vs, r, ob, es, ep, k _ _ (.inl rfl) e, c⟩
  | dT kvs =>
    obtain ⟨z, y, xs, r, ob, es, ep, e, c⟩ := x
    exact ⟨z, y, xs, Paired.mapP r fun p q z => ⟨z.1, ht _ _ z.2.1, z.2.2⟩, ob, es, ep, k _ _ (.inl rfl) e, c⟩
  | set S n => obtain ⟨ob, es, ep, t, e, c⟩ := x; exact ⟨ob, es, ep, t, k _ _ (.inl rfl) e, c⟩
  | ins C dx fs =>
    obtain ⟨d, z, ne, e, mA, ⟨od, es, ep, e2, c⟩, r⟩ := x
    exact ⟨ho _ d, z, ne, k _ _ (.inl rfl) e, mA, ⟨od, es, ep, k _ _ (.inr d) e2, c⟩, r⟩
  | own y => obtain ⟨ob, e⟩ := x; exact ⟨ob, k _ _ (.inl rfl) e⟩
  | xd fs => obtain ⟨mA, ⟨od, es, ep, e, c⟩, r⟩ := x; exact ⟨mA, ⟨od, es, ep, k _ _ (.inl rfl) e, c⟩, r⟩
  | rng lo hi => obtain ⟨t, u, v, e⟩ := x; exact ⟨t, u, v, k _ _ (.inl rfl) e⟩
  | frz ob u ih => obtain ⟨e, q⟩ := x; exact ⟨k _ _ (.inl rfl) e, ih q⟩
  | tbl ps =>
    have e : h.get? a = some { cls := .none, data := .fields ps } := x
    show h'.get? a = some { cls := .none, data := .fields ps }
    exact k a _ (.inl rfl) e
  | met f y =>
    have e : h.get? a = some (PySem.W.methodObj (.ref f) (.ref y)) := x
    show h'.get? a = some (PySem.W.methodObj (.ref f) (.ref y))
    exact k a _ (.inl rfl) e
  | ext φ => obtain ⟨p, ⟨o, e⟩, st⟩ := x; exact ⟨st _ _ p fun o q => k _ _ (.inl rfl) q, ⟨o, k _ _ (.inl rfl) e⟩, st⟩
theorem HOk.lt (x : HOk P w H h) (e : H a = some o) : a < h.objs.size := (x a o e).lt
theorem HOk.fresh (x : HOk P w H h) (e : h.objs.size ≤ a) : H a = none := by
  cases q : H a with
  | none => rfl
  | some u => exact absurd (Nat.lt_of_lt_of_le (x.lt q) e) (Nat.lt_irrefl _)
/-- every object of the heap is kept -/
theorem HOk.kept (x : HOk P w H h) (k : ∀ b u, h.get? b = some u → h'.get? b = some u) : HOk P w H h' := fun a o e =>
  (x a o e).stay (fun b u _ q => k b u q) (fun _ q => q) fun _ _ q => q
/-- a new object is laid and tracked -/
theorem HOk.laid (x : HOk P w H h) (k : ∀ b u, h.get? b = some u → h'.get? b = some u) (hp : h.objs.size ≤ a) (new : ObjOk P w (upd H a o) h' a o) : HOk P w (upd H a o) h' := fun b u e => by
  have hn := x.fresh hp
  by_cases hb : b = a
  · subst hb; rw [upd_same] at e; cases e; exact new
  · rw [upd_ne hb] at e
    exact (x b u e).stay (fun c v _ q => k c v q) (fun c q => by rw [upd_ne (ne_of_none q hn)]; exact q) fun c xs q => by rw [upd_ne (ne_of_none q hn)]; exact q
end

/-- what may be read as u: it is u, or a known u -/
def Rd (H : Hp) (a : Addr) (u : HO) : Prop := H a = some u ∨ ∃ o, H a = some (.frz o u)
theorem Rd.of {H : Hp} {a : Addr} {u : HO} (h : H a = some u) : Rd H a u := .inl h
theorem Rd.ok {P : Program} {w : World} {H : Hp} {h : Heap} {a : Addr} {u : HO} (r : Rd H a u) (x : HOk P w H h) : ObjOk P w H h a u := by
  rcases r with r | ⟨o, r⟩
  · exact x a u r
  · obtain ⟨_, q⟩ := x a _ r
    exact q
/-- what may be written -/
def Mut : Option HO → Prop
  | some (.lst _) => True
  | some (.dK _) => True
  | some (.dT _) => True
  | some (.set _ _) => True
  | some (.ins _ _ _) => True
  | some (.ext _) => True
  | _ => False
section
variable {P : Program} {w : World} {H : Hp} {h h' : Heap} {x e : Addr} {o' : HO}
/-- the object at e is changed: x itself, or the dict of the instance x -/
theorem HOk.write (ok : HOk P w H h) (mu : Mut (H x)) (he : e = x ∨ H e = some (.own x)) (k : ∀ b u, b ≠ e → h.get? b = some u → h'.get? b = some u) (heo : ∃ u, h'.get? e = some u)
    (new : ObjOk P w (upd H x o') h' x o') : HOk P w (upd H x o') h' := fun b u q => by
  have nown : ∀ c y, H c = some (.own y) → c ≠ x := fun c y r z => by subst z; rw [r] at mu; exact mu
  have ntup : ∀ c xs, H c = some (.tup xs) → c ≠ x := fun c xs r z => by subst z; rw [r] at mu; exact mu
  by_cases hb : b = x
  · subst hb; rw [upd_same] at q; cases q; exact new
  · rw [upd_ne hb] at q
    by_cases hbe : b = e
    · have q' : H b = some (.own x) := by
        rcases he with z | z
        · exact absurd (hbe.trans z) hb
        · rw [hbe]; exact z
      rw [q] at q'; cases q'
      obtain ⟨v, hv⟩ := heo
      exact ⟨v, by rw [hbe]; exact hv⟩
    · refine (ok b u q).stay (fun c v hc r => k c v ?_ r) (fun c r => by rw [upd_ne (nown c b r)]; exact r) fun c xs r => by rw [upd_ne (ntup c xs r)]; exact r
      rcases hc with rfl | hc
      · exact hbe
      · rintro rfl
        rcases he with z | z
        · exact nown c b hc z
        · rw [hc] at z; cases z; exact hb rfl
end

structure Un (fs ex : List Addr) (H H' : Hp) (h h' : Heap) : Prop where
  keep : ∀ b o, h.get? b = some o → H b = none → b ∉ fs → b ∉ ex → h'.get? b = some o
  slot : ∀ b o, h.get? b = some o → H b = none → b ∈ fs → b ∉ ex → ∃ sl, h'.get? b = some { o with slots := sl }
  free : ∀ b o, h.get? b = some o → H b = none → b ∉ ex → H' b = none
  there : ∀ b o, h.get? b = some o → b ∉ ex → ∃ o', h'.get? b = some o'
  tups : ∀ b xs, H b = some (.tup xs) → H' b = some (.tup xs)
  frzs : ∀ b o u, H b = some (.frz o u) → H' b = some (.frz o u)
  tbls : ∀ b ps, H b = some (.tbl ps) → ∃ more, H' b = some (.tbl (ps ++ more))
section
variable {fs fs' ex ex' : List Addr} {H H1 H2 : Hp} {h h1 h2 h' : Heap} {a x e : Addr} {o : HO}
theorem Un.any (u : Un fs ex H H1 h h1) {b : Addr} {ob : Obj} (q : h.get? b = some ob) (n : H b = none) (hx : b ∉ ex) : ∃ sl, h1.get? b = some { ob with slots := sl } := by
  by_cases hb : b ∈ fs
  · exact u.slot b ob q n hb hx
  · exact ⟨ob.slots, u.keep b ob q n hb hx⟩
theorem Un.trans (a : Un fs ex H H1 h h1) (b : Un fs ex H1 H2 h1 h2) : Un fs ex H H2 h h2 where
  keep := fun c ob q n hc hx => b.keep c ob (a.keep c ob q n hc hx) (a.free c ob q n hx) hc hx
  slot := fun c ob q n hc hx => by
    obtain ⟨sl, e1⟩ := a.slot c ob q n hc hx
    obtain ⟨sl', e2⟩ := b.slot c _ e1 (a.free c ob q n hx) hc hx
    exact ⟨sl', e2⟩
  free := fun c ob q n hx => by
    obtain ⟨o', e1⟩ := a.there c ob q hx
    exact b.free c o' e1 (a.free c ob q n hx) hx
  there := fun c ob q hx => by
    obtain ⟨o', e1⟩ := a.there c ob q hx
    exact b.there c o' e1 hx
  tups := fun c xs q => b.tups c xs (a.tups c xs q)
  frzs := fun c ob xs q => b.frzs c ob xs (a.frzs c ob xs q)
  tbls := fun c ps q => by
    obtain ⟨m1, e1⟩ := a.tbls c ps q
    obtain ⟨m2, e2⟩ := b.tbls c _ e1
    exact ⟨m1 ++ m2, by rw [e2, Array.append_assoc]⟩
theorem Un.kept (k : ∀ b u, h.get? b = some u → h'.get? b = some u) : Un fs ex H H h h' :=
  ⟨fun b ob q _ _ _ => k b ob q, fun b ob q _ _ _ => ⟨ob.slots, k b ob q⟩, fun _ _ _ n _ => n, fun b ob q _ => ⟨ob, k b ob q⟩, fun _ _ q => q, fun _ _ _ q => q, fun _ ps q => ⟨#[], by rw [q]; simp⟩⟩
theorem Un.refl : Un fs ex H H h h := Un.kept fun _ _ q => q
theorem Un.laid (k : ∀ b u, h.get? b = some u → h'.get? b = some u) (hp : h.objs.size ≤ a) (hn : H a = none) : Un fs ex H (upd H a o) h h' where
  keep := fun b u q _ _ _ => k b u q
  slot := fun b u q _ _ _ => ⟨u.slots, k b u q⟩
  free := fun b u q n _ => by rw [upd_ne (Nat.ne_of_lt (Nat.lt_of_lt_of_le (Heap.lt_size q) hp))]; exact n
  there := fun b u q _ => ⟨u, k b u q⟩
  tups := fun b xs q => by rw [upd_ne (ne_of_none q hn)]; exact q
  frzs := fun b u xs q => by rw [upd_ne (ne_of_none q hn)]; exact q
  tbls := fun b ps q => ⟨#[], by rw [upd_ne (ne_of_none q hn), q]; simp⟩
theorem Un.write (mu : Mut (H x)) (he : e = x ∨ H e = some (.own x)) (k : ∀ b u, b ≠ e → h.get? b = some u → h'.get? b = some u) (heo : ∃ u, h'.get? e = some u) : Un fs ex H (upd H x o) h h' := by
  have hx : ∀ b, H b = none → b ≠ x := fun b n z => by subst z; rw [n] at mu; exact mu
  have hb : ∀ b, H b = none → b ≠ e := fun b n z => by
    subst z
    rcases he with r | r
    · exact hx b n r
    · rw [n] at r; cases r
  have hm : ∀ b u, H b = some u → ¬ Mut (some u) → b ≠ x := fun b u q nm z => by subst z; rw [q] at mu; exact nm mu
  refine ⟨fun b u q n _ _ => k b u (hb b n) q, fun b u q n _ _ => ⟨u.slots, k b u (hb b n) q⟩, fun b u q n _ => by rw [upd_ne (hx b n)]; exact n, fun b u q _ => ?_,
    fun b xs q => by rw [upd_ne (hm b _ q fun z => z)]; exact q, fun b u xs q => by rw [upd_ne (hm b _ q fun z => z)]; exact q, fun b ps q => ⟨#[], by rw [upd_ne (hm b _ q fun z => z), q]; simp⟩⟩
  by_cases hbe : b = e
  · subst hbe; exact heo
  · exact ⟨u, k b u hbe q⟩
theorem Un.mono (u : Un fs ex H H1 h h1) (hs : ∀ b ∈ fs, b ∈ fs') (hx : ∀ b ∈ ex, b ∈ ex') : Un fs' ex' H H1 h h1 :=
  ⟨fun b ob q n hb he => u.keep b ob q n (fun z => hb (hs b z)) fun z => he (hx b z), fun _ _ q n _ he => u.any q n fun z => he (hx _ z), fun b ob q n he => u.free b ob q n fun z => he (hx b z), fun b ob q he => u.there b ob q fun z => he (hx b z), u.tups, u.frzs, u.tbls⟩
end

def trk (h : Heap) (H : Hp) : List Addr := (List.range h.objs.size).filter fun a => (H a).isSome
def hidT (h : Heap) (H : Hp) : Heap := PySem.W.hideAll h (trk h H)
theorem hidT_size (h : Heap) (H : Hp) : (hidT h H).objs.size = h.objs.size := PySem.W.hideAll_size _ _
theorem hidT_get {h : Heap} {H : Hp} {b : Addr} {o : Obj} (e : h.get? b = some o) (n : H b = none) : (hidT h H).get? b = some o :=
  PySem.W.hideAll_get _ e fun hm => by
    have q : (H b).isSome = true := (List.mem_filter.mp hm).2
    rw [n] at q; simp at q
theorem of_hidT {h : Heap} {H : Hp} {b : Addr} {o : Obj} (e : (hidT h H).get? b = some o) : h.get? b = some o ∧ H b = none := by
  have e' : h.get? b = some o := PySem.W.of_hideAll (trk h H) e
  refine ⟨e', ?_⟩
  cases q : H b with
  | none => rfl
  | some x =>
    have hm : b ∈ trk h H := List.mem_filter.mpr ⟨List.mem_range.mpr (Heap.lt_size e'), by simp [q]⟩
    have z : (hidT h H).get? b = none := PySem.W.hideAll_none (trk h H) hm
    rw [z] at e; cases e

def allNews (g h : Heap) (L : Addr) : List (Addr × Obj) := (List.range h.objs.size).filterMap fun a => if a = L ∨ (g.get? a).isSome = true then none else (h.get? a).map fun o => (a, o)
def rest (g h : Heap) (L d : Addr) : List (Addr × Obj) := (allNews g h L).filter fun p => decide (p.1 ≠ d)
end L2

namespace L2
open PySem PySem.Spec PyProof.Rows

/-- the module's facts, over the base: the heap at the law's entry without what is tracked there -/
structure Mod (K : PySem.W.Frag) (mg : Str → Option Value) (base : Heap) : Prop where
  kin : K.In base
  glob : base.Ns mainGlobals mg
  blt : ∃ mb, base.Ns builtinsNs mb ∧ ∀ x : Str, x ≠ "__name__" → mb x = bootBuiltins x
  nolimit : base.NoLimit

/-- the context: a def's body (or a comprehension's block) running. base: fixed through the whole law; s₀, H₀: the entry; outer: the frames whose slots others may change (a def's callers); stack: all frames that run;
   ex: iterators that were made ahead of the entry and are walked here (a comprehension's); fn: the names whose cells were made at the entry (a def: all; a comprehension's block: its own); calm: not within an except suite; pn: pins that every state bears; xe: what is wanted of an exception that leaves the code -/
structure Cx where
  prog : Program
  w : World
  K : PySem.W.Frag
  mg : Str → Option Value
  base : Heap
  A : Around
  N : List Str
  s₀ : Shared
  H₀ : Hp
  env : Env
  outer : List Env
  stack : List Env
  ex : List Addr
  fn : Str → Bool
  calm : Bool
  pn : List (Addr × Obj)
  xe : Value → Shared → Prop
/-- the callers' frames -/
def frs (l : List Env) : List Addr := l.filterMap (·.frame)
abbrev Cx.fs (X : Cx) : List Addr := frs X.outer

def Vis (sc : Scope) (x : Str) : Prop := sc.names.lookup x = some .local ∨ sc.names.lookup x = some .cell ∨ sc.names.lookup x = some .free
def Loc (sc : Scope) (x : Str) : Prop := sc.names.lookup x = some .local ∨ sc.names.lookup x = some .cell
def Look (env : Env) (h : Heap) (m : Str → Option Value) (x : Str) (u : Value) : Prop :=
  (env.kindOf x = some .local ∧ m x = some u) ∨ ((env.kindOf x = some .cell ∨ env.kindOf x = some .free) ∧ ∃ c, env.cells.lookup x = some c ∧ h.IsCell c (some u))

structure Cx.Ok (X : Cx) : Prop where
  mod : Mod X.K X.mg X.base
  kind : X.env.scope.kind = .function
  glob : X.env.globals = mainGlobals
  blt : X.env.builtins = builtinsNs
  above : X.s₀.heap.objs.size ≤ X.env.locals
  inj : ∀ x y c, X.env.cells.lookup x = some c → X.env.cells.lookup y = some c → x = y
  has : ∀ x, (X.env.kindOf x = some .cell ∨ X.env.kindOf x = some .free) → ∃ c, X.env.cells.lookup x = some c
  cab : ∀ x c, X.fn x = true → X.env.cells.lookup x = some c → X.s₀.heap.objs.size ≤ c
  hd : X.calm = true → X.A.handled = none
  frames : X.A.frames = some X.stack
  stk : X.stack = X.outer ∨ (X.stack = X.env :: X.outer ∧ X.env.frame = some X.env.locals)
  exf : ∀ b ∈ X.ex, b ≠ X.env.locals ∧ ∀ x c, X.env.cells.lookup x = some c → c ≠ b
  bs : ∀ b o, X.base.get? b = some o → X.s₀.heap.get? b = some o ∧ X.H₀ b = none
  bsz : X.base.objs.size ≤ X.s₀.heap.objs.size
  noex : ∀ b o, X.base.get? b = some o → b ∉ X.ex
  exfs : ∀ b ∈ X.ex, b ∉ X.fs
  funs : X.s₀.heap.FunFrames X.base X.outer
  frf : ∀ b ∈ X.fs, X.H₀ b = none

structure Inv (X : Cx) (pins : List (Addr × Obj)) (σ : List (Option V)) (H : Hp) (s : Shared) : Prop where
  ok : X.Ok
  os : s.os = X.s₀.os
  bare : AllBare s.gens
  base : Un X.fs X.ex X.H₀ H X.s₀.heap s.heap
  loc : ∃ m, s.heap.Ns X.env.locals m ∧ ∀ (i : Nat) (x : Str) (v : V), X.N[i]? = some x → σ[i]? = some (some v) → Vis X.env.scope x → ∃ u, RelV v u ∧ Look X.env s.heap m x u
  cell : ∀ x c, X.env.cells.lookup x = some c → ∃ v, s.heap.IsCell c v
  free : H X.env.locals = none
  freeC : ∀ x c, X.env.cells.lookup x = some c → H c = none
  pin : ∀ p ∈ X.pn ++ pins, s.heap.get? p.1 = some p.2 ∧ H p.1 = none ∧ p.1 ≠ X.env.locals ∧ p.1 ∉ X.fs ∧ ∀ v, p.2.data ≠ .cell v
  hok : HOk X.prog X.w H s.heap
  len : σ.length = X.N.length

section
variable {X : Cx} {pins : List (Addr × Obj)} {σ : List (Option V)} {H H' : Hp} {s : Shared} {h' : Heap}

theorem Cx.Ok.nofr (ok : X.Ok) {b : Addr} {o : Obj} (e : X.base.get? b = some o) : b ∉ X.fs := fun hb => by
  have := (ok.funs.mem hb).1
  rw [e] at this; cases this
theorem Inv.bs (I : Inv X pins σ H s) : ∀ b o, X.base.get? b = some o → s.heap.get? b = some o ∧ H b = none := fun b o e =>
  ⟨I.base.keep b o (I.ok.bs b o e).1 (I.ok.bs b o e).2 (I.ok.nofr e) (I.ok.noex b o e), I.base.free b o (I.ok.bs b o e).1 (I.ok.bs b o e).2 (I.ok.noex b o e)⟩
theorem Inv.bk (I : Inv X pins σ H s) : ∀ b o, X.base.get? b = some o → s.heap.get? b = some o := fun b o e => (I.bs b o e).1
theorem Inv.mod (I : Inv X pins σ H s) : Mod X.K X.mg X.base := I.ok.mod
theorem Inv.kIn (I : Inv X pins σ H s) : X.K.In s.heap := I.ok.mod.kin.keeps I.bk
theorem Inv.nolimit (I : Inv X pins σ H s) : s.heap.NoLimit := I.ok.mod.nolimit.keeps I.bk
/-- the frame over the base: for OpenK's rules (K.In X.base is I.mod.kin) -/
theorem Inv.fr (I : Inv X pins σ H s) : ∃ m, Fr X.base X.env.locals s.heap m :=
  let ⟨m, hn, _⟩ := I.loc
  ⟨m, hn, I.bk, Nat.le_trans I.ok.bsz I.ok.above⟩
theorem Inv.lt (I : Inv X pins σ H s) : X.env.locals < s.heap.objs.size := let ⟨_, hn, _⟩ := I.loc; hn.lt
theorem Inv.sz (I : Inv X pins σ H s) : X.s₀.heap.objs.size ≤ s.heap.objs.size := Nat.le_trans I.ok.above (Nat.le_of_lt I.lt)
theorem Inv.nofs (I : Inv X pins σ H s) {a : Addr} (h : s.heap.objs.size ≤ a) : a ∉ X.fs := fun hb => by
  obtain ⟨_, o, ho, _⟩ := I.ok.funs.mem hb
  exact absurd (Nat.lt_of_lt_of_le (Heap.lt_size ho) (Nat.le_trans I.sz h)) (Nat.lt_irrefl _)
theorem Inv.cne (I : Inv X pins σ H s) : ∀ x c, X.env.cells.lookup x = some c → c ≠ X.env.locals := fun x c e z => by
  obtain ⟨v, o, ho, hd⟩ := I.cell x c e
  obtain ⟨m, ⟨o', es, ep, ho', hd', _⟩, _⟩ := I.loc
  rw [z, ho'] at ho; cases ho; rw [hd'] at hd; cases hd
theorem Inv.funs (I : Inv X pins σ H s) : s.heap.FunFrames X.base X.outer := by
  have all : ∀ (l : List Env), (∀ b ∈ frs l, b ∈ X.fs) → X.s₀.heap.FunFrames X.base l → s.heap.FunFrames X.base l := by
    intro l
    induction l with
    | nil => intro _ _; trivial
    | cons env r ih =>
      intro hs hl
      obtain ⟨hk, ⟨L, o, hf, hn, ho, hd⟩, hr⟩ := hl
      have hL : L ∈ X.fs := hs L (by unfold frs; rw [List.filterMap_cons, hf]; exact List.mem_cons_self)
      obtain ⟨sl, e⟩ := I.base.slot L o ho (I.ok.frf L hL) hL fun z => I.ok.exfs L z hL
      exact ⟨hk, ⟨L, _, hf, hn, e, hd⟩, ih (fun b hb => hs b (by unfold frs; rw [List.filterMap_cons, hf]; exact List.mem_cons_of_mem _ hb)) hr⟩
  exact all X.outer (fun _ hb => hb) I.ok.funs

/-- the frames that run, for a call -/
theorem Inv.stack (I : Inv X pins σ H s) : s.heap.FunFrames X.base X.stack := by
  rcases I.ok.stk with e | ⟨e, hf⟩
  · rw [e]; exact I.funs
  · rw [e]
    obtain ⟨m, hn, _⟩ := I.loc
    refine .cons (by rw [I.ok.kind]; decide) hf hn ?_ I.funs
    exact Heap.get?_none_of_le (Nat.le_trans I.ok.bsz I.ok.above)
theorem Inv.stkSub (I : Inv X pins σ H s) : ∀ b ∈ frs X.stack, b ∈ X.env.locals :: X.fs := fun b hb => by
  rcases I.ok.stk with e | ⟨e, hf⟩
  · rw [e] at hb; exact List.mem_cons_of_mem _ hb
  · rw [e] at hb
    unfold frs at hb
    rw [List.filterMap_cons, hf] at hb
    exact hb
theorem Inv.stkFree (I : Inv X pins σ H s) : ∀ b ∈ frs X.stack, H b = none := fun b hb => by
  rcases List.mem_cons.mp (I.stkSub b hb) with e | hb
  · rw [e]; exact I.free
  · obtain ⟨_, o, ho, _⟩ := I.ok.funs.mem hb
    exact I.base.free b o ho (I.ok.frf b hb) fun z => I.ok.exfs b z hb

/-- THE STEP: the untracked objects but the frame and the records at ch are kept (the callers' frames up to slots), the frame's map is kept, the new abstract heap is held -/
theorem Inv.step {g' : Array GenState} {t' : Nat} {d' : Drawn} {ch : List Addr} (I : Inv X pins σ H s)
    (hch : ∀ b ∈ ch, (b ∈ X.ex ∨ X.s₀.heap.objs.size ≤ b) ∧ b ≠ X.env.locals ∧ (∀ x c, X.env.cells.lookup x = some c → c ≠ b) ∧ ∀ p ∈ X.pn ++ pins, p.1 ≠ b)
    (keep : ∀ b o, b ≠ X.env.locals → b ∉ X.fs → b ∉ ch → s.heap.get? b = some o → H b = none → h'.get? b = some o)
    (slot : ∀ b o, b ≠ X.env.locals → b ∈ X.fs → b ∉ ch → s.heap.get? b = some o → H b = none → ∃ sl, h'.get? b = some { o with slots := sl }) (free : ∀ b o, b ∉ ch → s.heap.get? b = some o → H b = none → H' b = none)
    (there : ∀ b o, b ∉ ch → s.heap.get? b = some o → ∃ o', h'.get? b = some o')
    (tups : ∀ b xs, H b = some (.tup xs) → H' b = some (.tup xs)) (frzs : ∀ b o u, H b = some (.frz o u) → H' b = some (.frz o u)) (tbls : ∀ b ps, H b = some (.tbl ps) → ∃ more, H' b = some (.tbl (ps ++ more)))
    (ns : ∀ m, s.heap.Ns X.env.locals m → h'.Ns X.env.locals m) (hok : HOk X.prog X.w H' h') (hg : AllBare g') :
    Inv X pins σ H' { s with heap := h', gens := g', drawn := d', toks := t' } := by
  have neL : ∀ b o, X.s₀.heap.get? b = some o → b ≠ X.env.locals := fun b o e => Nat.ne_of_lt (Nat.lt_of_lt_of_le (Heap.lt_size e) I.ok.above)
  have neC : ∀ b o, X.s₀.heap.get? b = some o → b ∉ X.ex → b ∉ ch := fun b o e hx hb => by
    rcases (hch b hb).1 with z | z
    · exact hx z
    · exact absurd (Nat.lt_of_lt_of_le (Heap.lt_size e) z) (Nat.lt_irrefl _)
  have cellK : ∀ x c, X.env.cells.lookup x = some c → ∀ v, s.heap.IsCell c v → h'.IsCell c v := fun x c e v ⟨o, ho, hd⟩ => by
    have nch : c ∉ ch := fun z => (hch c z).2.2.1 x c e rfl
    by_cases hc : c ∈ X.fs
    · obtain ⟨sl, q⟩ := slot c o (I.cne x c e) hc nch ho (I.freeC x c e)
      exact ⟨_, q, hd⟩
    · exact ⟨o, keep c o (I.cne x c e) hc nch ho (I.freeC x c e), hd⟩
  refine ⟨I.ok, I.os, hg, ⟨fun b o e n hb hx => ?_, fun b o e n hb hx => ?_, fun b o e n hx => ?_, fun b o e hx => ?_, fun b xs e => tups b xs (I.base.tups b xs e), fun b o xs e => frzs b o xs (I.base.frzs b o xs e), fun b ps e => ?_⟩, ?_, fun x c e => ?_, ?_, fun x c e => ?_, fun p hp => ?_, hok, I.len⟩
  · exact keep b o (neL b o e) hb (neC b o e hx) (I.base.keep b o e n hb hx) (I.base.free b o e n hx)
  · obtain ⟨sl, e1⟩ := I.base.slot b o e n hb hx
    obtain ⟨sl', e2⟩ := slot b _ (neL b o e) hb (neC b o e hx) e1 (I.base.free b o e n hx)
    exact ⟨sl', e2⟩
  · obtain ⟨o', e1⟩ := I.base.there b o e hx
    exact free b o' (neC b o e hx) e1 (I.base.free b o e n hx)
  · obtain ⟨o', e1⟩ := I.base.there b o e hx
    exact there b o' (neC b o e hx) e1
  · obtain ⟨m1, e1⟩ := I.base.tbls b ps e
    obtain ⟨m2, e2⟩ := tbls b _ e1
    exact ⟨m1 ++ m2, by rw [e2, Array.append_assoc]⟩
  · obtain ⟨m, hn, hl⟩ := I.loc
    refine ⟨m, ns m hn, fun i x v e1 e2 e3 => ?_⟩
    obtain ⟨u, r, l⟩ := hl i x v e1 e2 e3
    refine ⟨u, r, ?_⟩
    rcases l with l | ⟨k, c, e, z⟩
    · exact .inl l
    · exact .inr ⟨k, c, e, cellK x c e _ z⟩
  · obtain ⟨v, z⟩ := I.cell x c e
    exact ⟨v, cellK x c e v z⟩
  · obtain ⟨m, ⟨o, _, _, ho, _⟩, _⟩ := I.loc
    exact free _ o (fun z => (hch _ z).2.1 rfl) ho I.free
  · obtain ⟨v, o, ho, hd⟩ := I.cell x c e
    exact free c o (fun z => (hch c z).2.2.1 x c e rfl) ho (I.freeC x c e)
  · obtain ⟨e, n, ne, nf, d⟩ := I.pin p hp
    have nch : p.1 ∉ ch := fun z => (hch p.1 z).2.2.2 p hp rfl
    exact ⟨keep p.1 p.2 ne nf nch e n, free p.1 p.2 nch e n, ne, nf, d⟩
/-- .. where the frame's own object is kept too -/
theorem Inv.un {t' : Nat} (I : Inv X pins σ H s) (u : Un X.fs [] H H' s.heap h') (hok : HOk X.prog X.w H' h') : Inv X pins σ H' { s with heap := h', toks := t' } := by
  obtain ⟨m, ⟨o, es, ep, ho, r⟩, _⟩ := id I.loc
  obtain ⟨sl, hL⟩ := u.any ho I.free (by simp)
  exact I.step (g' := s.gens) (d' := s.drawn) (ch := []) (fun _ z => nomatch z) (fun b o _ hb _ e n => u.keep b o e n hb (by simp)) (fun b o _ hb _ e n => u.slot b o e n hb (by simp)) (fun b o _ e n => u.free b o e n (by simp)) (fun b o _ e => u.there b o e (by simp)) u.tups u.frzs u.tbls (fun m' hm => by
    obtain ⟨o', es', ep', ho', r'⟩ := hm
    rw [ho] at ho'; cases ho'
    exact ⟨_, es', ep', hL, r'⟩) hok I.bare
/-- behind a call (or a comprehension's block): the slots of this frame may have changed too, the records at ch may have turned -/
theorem Inv.call {g' : Array GenState} {t' : Nat} {d' : Drawn} {ch : List Addr} (I : Inv X pins σ H s) (u : Un (frs X.stack) ch H H' s.heap h') (hok : HOk X.prog X.w H' h') (hg : AllBare g')
    (hch : ∀ b ∈ ch, (b ∈ X.ex ∨ X.s₀.heap.objs.size ≤ b) ∧ b ≠ X.env.locals ∧ (∀ x c, X.env.cells.lookup x = some c → c ≠ b) ∧ ∀ p ∈ X.pn ++ pins, p.1 ≠ b) :
    Inv X pins σ H' { s with heap := h', gens := g', drawn := d', toks := t' } := by
  obtain ⟨m, ⟨o, es, ep, ho, r⟩, _⟩ := id I.loc
  obtain ⟨sl, hL⟩ := u.any ho I.free fun z => (hch _ z).2.1 rfl
  exact I.step (ch := ch) hch (fun b o hL hb hc e n => u.keep b o e n (fun z => (List.mem_cons.mp (I.stkSub b z)).elim hL hb) hc) (fun b o _ _ hc e n => u.any e n hc) (fun b o hc e n => u.free b o e n hc) (fun b o hc e => u.there b o e hc) u.tups u.frzs u.tbls (fun m' hm => by
    obtain ⟨o', es', ep', ho', r'⟩ := hm
    rw [ho] at ho'; cases ho'
    exact ⟨_, es', ep', hL, r'⟩) hok hg
/-- an untracked record of ours (an iterator) has turned -/
theorem Inv.turned {t' : Nat} {it : Addr} (I : Inv X pins σ H s) (k : ∀ b o, b ≠ it → s.heap.get? b = some o → h'.get? b = some o) (hn : H it = none) (hL : it ≠ X.env.locals)
    (h1 : it ∈ X.ex ∨ X.s₀.heap.objs.size ≤ it) (h2 : ∀ x c, X.env.cells.lookup x = some c → c ≠ it) (h3 : ∀ p ∈ X.pn ++ pins, p.1 ≠ it) : Inv X pins σ H { s with heap := h', toks := t' } := by
  have nit : ∀ b u, H b = some u → b ≠ it := fun b u e z => by rw [z, hn] at e; cases e
  refine I.step (g' := s.gens) (d' := s.drawn) (ch := [it]) (fun b hb => ?_) (fun b o _ _ hc e _ => k b o (fun z => hc (by simp [z])) e) (fun b o _ _ hc e _ => ⟨o.slots, k b o (fun z => hc (by simp [z])) e⟩) (fun _ _ _ _ n => n)
    (fun b o hc e => ⟨o, k b o (fun z => hc (by simp [z])) e⟩) (fun _ _ e => e) (fun _ _ _ e => e) (fun b ps e => ⟨#[], by rw [e]; simp⟩) (fun m hm => ?_) (fun b u e => ?_) I.bare
  · have e : b = it := by simpa using hb
    subst e
    exact ⟨h1, hL, h2, h3⟩
  · obtain ⟨o, es, ep, ho, r⟩ := hm
    exact ⟨o, es, ep, k _ o (Ne.symm hL) ho, r⟩
  · refine (I.hok b u e).stay (fun c v hc q => k c v ?_ q) (fun _ q => q) fun _ _ q => q
    rcases hc with z | z
    · rw [z]; exact nit b u e
    · exact nit c _ z
theorem Inv.tok (I : Inv X pins σ H s) (t : Nat) : Inv X pins σ H { s with toks := t } := I.un (h' := s.heap) (t' := t) Un.refl I.hok
/-- all objects kept -/
theorem Inv.kept {t' : Nat} (I : Inv X pins σ H s) (k : ∀ b u, s.heap.get? b = some u → h'.get? b = some u) : Inv X pins σ H { s with heap := h', toks := t' } := I.un (Un.kept k) (I.hok.kept k)
/-- a new object laid and tracked -/
theorem Inv.laid {a : Addr} {o : HO} {t' : Nat} (I : Inv X pins σ H s) (k : ∀ b u, s.heap.get? b = some u → h'.get? b = some u) (hp : s.heap.objs.size ≤ a) (new : ObjOk X.prog X.w (upd H a o) h' a o) :
    Inv X pins σ (upd H a o) { s with heap := h', toks := t' } := I.un (Un.laid k hp (I.hok.fresh hp)) (I.hok.laid k hp new)
/-- an object written -/
theorem Inv.write {x e : Addr} {o : HO} {t' : Nat} (I : Inv X pins σ H s) (mu : Mut (H x)) (he : e = x ∨ H e = some (.own x)) (k : ∀ b u, b ≠ e → s.heap.get? b = some u → h'.get? b = some u) (heo : ∃ u, h'.get? e = some u)
    (new : ObjOk X.prog X.w (upd H x o) h' x o) : Inv X pins σ (upd H x o) { s with heap := h', toks := t' } := I.un (Un.write mu he k heo) (I.hok.write mu he k heo new)
theorem Inv.pins_of {pins' : List (Addr × Obj)} (I : Inv X pins σ H s) (h : ∀ p ∈ pins', s.heap.get? p.1 = some p.2 ∧ H p.1 = none ∧ p.1 ≠ X.env.locals ∧ p.1 ∉ X.fs ∧ ∀ v, p.2.data ≠ .cell v) : Inv X pins' σ H s :=
  ⟨I.ok, I.os, I.bare, I.base, I.loc, I.cell, I.free, I.freeC, fun p hp => (List.mem_append.mp hp).elim (fun z => I.pin p (List.mem_append_left _ z)) (h p), I.hok, I.len⟩

theorem nodup_ix {N : List Str} (hN : N.Nodup) {i j : Nat} {x : Str} (a : N[i]? = some x) (b : N[j]? = some x) : i = j := by
  obtain ⟨h1, e1⟩ := List.getElem?_eq_some_iff.mp a
  obtain ⟨h2, e2⟩ := List.getElem?_eq_some_iff.mp b
  exact (List.getElem_inj hN).mp (e1.trans e2.symm)

/-- a name is stored; what changed -/
theorem store_ok2 {M : Model} {A : Around} {E : Value → Shared → Prop} {i : Nat} {x : Str} {v : V} {u : Value} {Q : Unit → Shared → Prop} (I : Inv X pins σ H s) (hN : X.N.Nodup) (hi : X.N[i]? = some x) (hx : Loc X.env.scope x) (r : RelV v u)
    (h : ∀ s', Inv X pins (σ.set i (some v)) H s' → (∃ a, Heap.SameBut a s.heap s'.heap ∧ (a = X.env.locals ∨ X.env.cells.lookup x = some a)) → Q () s') (hf : X.fn x = true ∨ X.env.scope.names.lookup x = some .local := by first | exact .inl rfl | exact .inr rfl | assumption) : wpAny M A (storeName X.env x u) Q E s := by
  obtain ⟨m, hn, hl⟩ := id I.loc
  have hcls : (X.env.scope.kind == .class || (X.env.scope.kind == .module && X.env.locals != X.env.globals)) = false := by rw [I.ok.kind]; rfl
  have hiσ : i < σ.length := by rw [I.len]; exact (List.getElem?_eq_some_iff.mp hi).1
  have cne := I.cne
  have tracked : ∀ {a : Addr} {h' : Heap}, (∃ o, s.heap.get? a = some o ∧ H a = none) → Heap.SameBut a s.heap h' → HOk X.prog X.w H h' := fun {a h'} ha hs b ob e => by
    obtain ⟨_, _, hfree⟩ := ha
    refine (I.hok b ob e).stay (fun c w' hc q => (hs.2 c ?_).trans q) (fun _ q => q) fun _ _ q => q
    rintro rfl
    rcases hc with rfl | hc
    · rw [hfree] at e; cases e
    · rw [hfree] at hc; cases hc
  rcases hx with hk | hk
  · refine wpAny_storeName_local hk hn (fun h' hn' hs => ?_) hcls
    obtain ⟨oL, _, _, hoL, _⟩ := id hn
    refine h _ ⟨I.ok, I.os, I.bare, ⟨fun b o e n hb hx => ?_, fun b o e n hb hx => ?_, I.base.free, fun b o e hx => ?_, I.base.tups, I.base.frzs, I.base.tbls⟩, ⟨_, hn', fun j y v' e1 e2 e3 => ?_⟩, fun y c e => ?_, I.free, I.freeC, fun p hp => ?_, tracked ⟨oL, hoL, I.free⟩ hs, by simpa using I.len⟩ ⟨_, hs, .inl rfl⟩
    · exact (hs.2 b (Nat.ne_of_lt (Nat.lt_of_lt_of_le (Heap.lt_size e) I.ok.above))).trans (I.base.keep b o e n hb hx)
    · obtain ⟨sl, e1⟩ := I.base.slot b o e n hb hx
      exact ⟨sl, (hs.2 b (Nat.ne_of_lt (Nat.lt_of_lt_of_le (Heap.lt_size e) I.ok.above))).trans e1⟩
    · obtain ⟨o', e1⟩ := I.base.there b o e hx
      exact ⟨o', (hs.2 b (Nat.ne_of_lt (Nat.lt_of_lt_of_le (Heap.lt_size e) I.ok.above))).trans e1⟩
    · by_cases hj : j = i
      · subst hj
        rw [hi] at e1; cases e1
        rw [List.getElem?_set_self hiσ] at e2
        cases e2
        exact ⟨u, r, .inl ⟨hk, by simp⟩⟩
      · rw [List.getElem?_set_ne (Ne.symm hj)] at e2
        obtain ⟨u', r', q⟩ := hl j y v' e1 e2 e3
        refine ⟨u', r', ?_⟩
        rcases q with ⟨k, e⟩ | ⟨k, c, e, z⟩
        · refine .inl ⟨k, ?_⟩
          have : y ≠ x := fun e => hj (nodup_ix hN e1 (e ▸ hi))
          simp [this, e]
        · exact .inr ⟨k, c, e, z.sameBut hs (cne y c e)⟩
    · obtain ⟨w', z⟩ := I.cell y c e
      exact ⟨w', z.sameBut hs (cne y c e)⟩
    · obtain ⟨e, n, ne, nf, d⟩ := I.pin p hp
      exact ⟨(hs.2 p.1 ne).trans e, n, ne, nf, d⟩
  · have hfn : X.fn x = true := by
      rcases hf with z | z
      · exact z
      · rw [z] at hk; cases hk
    obtain ⟨c, hc⟩ := I.ok.has x (.inl hk)
    obtain ⟨w', z⟩ := I.cell x c hc
    refine wpAny_storeName_cell I.ok.kind hk hc z (fun h' hc' hs => ?_)
    obtain ⟨oc, hoc, hocd⟩ := id z
    refine h { s with heap := h' } ⟨I.ok, I.os, I.bare, ⟨fun b o e n hb hx => ?_, fun b o e n hb hx => ?_, I.base.free, fun b o e hx => ?_, I.base.tups, I.base.frzs, I.base.tbls⟩, ⟨m, hn.sameBut hs (Ne.symm (cne x c hc)), fun j y v' e1 e2 e3 => ?_⟩, fun y c' e => ?_, I.free, I.freeC, fun p hp => ?_, tracked ⟨oc, hoc, I.freeC x c hc⟩ hs, by simpa using I.len⟩ ⟨c, hs, .inr hc⟩
    · exact (hs.2 b (Nat.ne_of_lt (Nat.lt_of_lt_of_le (Heap.lt_size e) (I.ok.cab x c hfn hc)))).trans (I.base.keep b o e n hb hx)
    · obtain ⟨sl, e1⟩ := I.base.slot b o e n hb hx
      exact ⟨sl, (hs.2 b (Nat.ne_of_lt (Nat.lt_of_lt_of_le (Heap.lt_size e) (I.ok.cab x c hfn hc)))).trans e1⟩
    · obtain ⟨o', e1⟩ := I.base.there b o e hx
      exact ⟨o', (hs.2 b (Nat.ne_of_lt (Nat.lt_of_lt_of_le (Heap.lt_size e) (I.ok.cab x c hfn hc)))).trans e1⟩
    · by_cases hj : j = i
      · subst hj
        rw [hi] at e1; cases e1
        rw [List.getElem?_set_self hiσ] at e2
        cases e2
        exact ⟨u, r, .inr ⟨.inl hk, c, hc, hc'⟩⟩
      · rw [List.getElem?_set_ne (Ne.symm hj)] at e2
        obtain ⟨u', r', q⟩ := hl j y v' e1 e2 e3
        refine ⟨u', r', ?_⟩
        rcases q with q | ⟨k, c', e, z'⟩
        · exact .inl q
        · refine .inr ⟨k, c', e, z'.sameBut hs ?_⟩
          rintro rfl
          exact hj (nodup_ix hN e1 (I.ok.inj _ _ _ e hc ▸ hi))
    · by_cases hcc : c' = c
      · subst hcc; exact ⟨_, hc'⟩
      · obtain ⟨w2, z2⟩ := I.cell y c' e
        exact ⟨w2, z2.sameBut hs hcc⟩
    · obtain ⟨e, n, ne, nf, d⟩ := I.pin p hp
      refine ⟨(hs.2 p.1 ?_).trans e, n, ne, nf, d⟩
      intro q
      rw [q, hoc] at e
      have q' : oc = p.2 := Option.some.inj e
      exact d w' (by rw [← q']; exact hocd)
theorem store_ok {M : Model} {A : Around} {E : Value → Shared → Prop} {i : Nat} {x : Str} {v : V} {u : Value} {Q : Unit → Shared → Prop} (I : Inv X pins σ H s) (hN : X.N.Nodup) (hi : X.N[i]? = some x) (hx : Loc X.env.scope x) (r : RelV v u)
    (h : ∀ s', Inv X pins (σ.set i (some v)) H s' → Q () s') (hf : X.fn x = true ∨ X.env.scope.names.lookup x = some .local := by first | exact .inl rfl | exact .inr rfl | assumption) : wpAny M A (storeName X.env x u) Q E s :=
  store_ok2 I hN hi hx r (fun s' I' _ => h s' I') hf
/-- behind a call or a block, the state as it is -/
theorem Inv.call' {s' : Shared} {ch : List Addr} (I : Inv X pins σ H s) (ho : s'.os = s.os) (u : Un (frs X.stack) ch H H' s.heap s'.heap) (hok : HOk X.prog X.w H' s'.heap) (hg : AllBare s'.gens)
    (hch : ∀ b ∈ ch, (b ∈ X.ex ∨ X.s₀.heap.objs.size ≤ b) ∧ b ≠ X.env.locals ∧ (∀ x c, X.env.cells.lookup x = some c → c ≠ b) ∧ ∀ p ∈ X.pn ++ pins, p.1 ≠ b) : Inv X pins σ H' s' := by
  obtain ⟨h', g', d', t', o'⟩ := s'
  have e : o' = s.os := ho
  subst e
  exact I.call (g' := g') (t' := t') (d' := d') u hok hg hch
end

/-- an exception: its class, its own dict's address (where it has one), the abstract heap behind it -/
abbrev XK := Value → Option Addr → Hp → Prop
abbrev St := List (Option V)
abbrev VK := V → Hp → Prop
/-- an expression's reading; a test's; an argument list's -/
abbrev TE := St → Hp → VK → Prop
abbrev TT := St → Hp → (Bool → Hp → Prop) → Prop
abbrev TA := St → Hp → (List V → Hp → Prop) → Prop
/-- what is wanted behind a statement -/
structure Ends where
  nx : St → Hp → Prop
  rt : VK
  bk : St → Hp → Prop := fun _ _ => False
  ct : St → Hp → Prop := fun _ _ => False
abbrev TS := Ends → St → Hp → Prop

def EP (X : Cx) (pins : List (Addr × Obj)) (σ : St) (Q : VK) (u : Value) (s' : Shared) : Prop := ∃ v H', Inv X pins σ H' s' ∧ RelV v u ∧ Q v H'
def TP (X : Cx) (pins : List (Addr × Obj)) (σ : St) (Q : Bool → Hp → Prop) (b : Bool) (s' : Shared) : Prop := ∃ H', Inv X pins σ H' s' ∧ Q b H'
def AP (X : Cx) (pins : List (Addr × Obj)) (σ : St) (Q : List V → Hp → Prop) (us : List Value) (s' : Shared) : Prop := ∃ vs H', Inv X pins σ H' s' ∧ Vals vs us ∧ Q vs H'
def SP (X : Cx) (pins : List (Addr × Obj)) (D : Ends) (f : Flow) (s' : Shared) : Prop :=
  match f with
  | .next => ∃ σ' H', Inv X pins σ' H' s' ∧ D.nx σ' H'
  | .brk => ∃ σ' H', Inv X pins σ' H' s' ∧ D.bk σ' H'
  | .cont => ∃ σ' H', Inv X pins σ' H' s' ∧ D.ct σ' H'
  | .ret u => ∃ v σ' H', Inv X pins σ' H' s' ∧ RelV v u ∧ D.rt v H'

def PE (X : Cx) (e : Expr) (t : TE) : Prop :=
  ∀ (pins : List (Addr × Obj)) (s : Shared) (σ : St) (H : Hp) (Q : VK), Inv X pins σ H s → t σ H Q → wpAny (model X.prog X.w) X.A (eval e X.env) (EP X pins σ Q) X.xe s
def PT (X : Cx) (e : Expr) (t : TT) : Prop :=
  ∀ (pins : List (Addr × Obj)) (s : Shared) (σ : St) (H : Hp) (Q : Bool → Hp → Prop), Inv X pins σ H s → t σ H Q → wpAny (model X.prog X.w) X.A (isTrue e X.env (eval e X.env)) (TP X pins σ Q) X.xe s
/-- a test whatever its 'whole' is (and, or) -/
def PW (X : Cx) (e : Expr) (t : TT) : Prop :=
  ∀ (whole : Sem Value) (pins : List (Addr × Obj)) (s : Shared) (σ : St) (H : Hp) (Q : Bool → Hp → Prop), Inv X pins σ H s → t σ H Q → wpAny (model X.prog X.w) X.A (isTrue e X.env whole) (TP X pins σ Q) X.xe s
theorem PW.pt {X : Cx} {e : Expr} {t : TT} (h : PW X e t) : PT X e t := h _
/-- an argument list (no star), from the left -/
def PA (X : Cx) (es : List Expr) (t : TA) : Prop :=
  ∀ (pos : Pos) (pins : List (Addr × Obj)) (s : Shared) (σ : St) (H : Hp) (Q : List V → Hp → Prop), Inv X pins σ H s → t σ H Q → wpAny (model X.prog X.w) X.A (spliced (backTo pos (starEach es X.env))) (AP X pins σ Q) X.xe s
def PS (X : Cx) (st : Stmt) (t : TS) : Prop :=
  ∀ (pins : List (Addr × Obj)) (s : Shared) (σ : St) (H : Hp) (D : Ends), Inv X pins σ H s → t D σ H → wpAny (model X.prog X.w) X.A (exec st X.env) (SP X pins D) X.xe s
def PSs (X : Cx) (st : List Stmt) (t : TS) : Prop :=
  ∀ (pins : List (Addr × Obj)) (s : Shared) (σ : St) (H : Hp) (D : Ends), Inv X pins σ H s → t D σ H → wpAny (model X.prog X.w) X.A (execs st X.env) (SP X pins D) X.xe s
/-- weaken the end -/
theorem thn {α : Type} {t : Sem α} {Q Q' : α → Shared → Prop} {M : Model} {A : Around} {E : Value → Shared → Prop} {s : Shared} (h : wpAny M A t Q E s) (hQ : ∀ a s, Q a s → Q' a s) : wpAny M A t Q' E s := wpAny_mono h hQ fun _ _ x => x
end L2

namespace L2
open PySem PySem.Spec PyProof.Rows
section
variable {X : Cx}

def tVar (i : Nat) : TE := fun σ H Q => ∃ v, σ[i]? = some (some v) ∧ Q v H
def tC (v : V) : TE := fun _ H Q => Q v H
theorem pe_var {i : Nat} {x : Str} {pos : Pos} (hN : X.N[i]? = some x) (hv : Vis X.env.scope x) (hd : (x == ("__debug__" : Str)) = false := by decide) (hcd : (x == ("__classdict__" : Str)) = false := by decide) : PE X (.Name x pos) (tVar i) := by
  intro pins s σ H Q I h
  obtain ⟨v, e, h⟩ := h
  obtain ⟨m, hn, hl⟩ := I.loc
  obtain ⟨u, r, l⟩ := hl i x v hN e hv
  have fin : EP X pins σ Q u s := ⟨v, H, I, r, h⟩
  rcases l with ⟨hk, hm⟩ | ⟨hk, c, hc, hcell⟩
  · exact wpAny_Name (wpAny_loadName_local I.ok.kind hk hn hm fin) hd
  · rcases hk with hk | hk
    · exact wpAny_Name (wpAny_loadName_cell I.ok.kind hk hc hcell fin) hd
    · exact wpAny_Name (wpAny_loadName_free I.ok.kind hk hc hcell fin hcd) hd
theorem pe_int {i j pos} : PE X (.Constant (.int i) j pos) (tC (.int i)) := fun _ _ _ H _ I h => wpAny_Constant_int ⟨.int i, H, I.tok _, ⟨_, rfl⟩, h⟩
theorem pe_bl {b j pos} : PE X (.Constant (.bool b) j pos) (tC (.bl b)) := fun _ _ _ H _ I h => Constant_bool ⟨.bl b, H, I, rfl, h⟩
theorem pe_non {j pos} : PE X (.Constant .none j pos) (tC .non) := fun _ _ _ H _ I h => Constant_none ⟨.non, H, I, rfl, h⟩
theorem pe_str {x j pos} : PE X (.Constant (.str x) j pos) (tC (.str x)) := fun _ _ _ H _ I h => Calls.Constant_str ⟨.str x, H, I.tok _, ⟨_, rfl⟩, h⟩

/-- a global name of the def -/
def Gl (X : Cx) (x : Str) : Prop := X.env.kindOf x = some .globalImplicit
theorem ld_glob {E : Value → Shared → Prop} {pins : List (Addr × Obj)} {s : Shared} {σ : St} {H : Hp} {x : Str} {u : Value} {pos : Pos} {Q : Value → Shared → Prop} (I : Inv X pins σ H s) (hg : Gl X x) (hm : X.mg x = some u) (h : Q u s)
    (hd : (x == ("__debug__" : Str)) = false := by decide) : wpAny (model X.prog X.w) X.A (eval (.Name x pos) X.env) Q E s :=
  Calls.Name_function_global I.ok.kind hg (Calls.loadGlobal_global (by rw [I.ok.glob]; exact I.mod.glob.keeps I.bk) hm h) hd
theorem ld_blt {E : Value → Shared → Prop} {pins : List (Addr × Obj)} {s : Shared} {σ : St} {H : Hp} {x : Str} {u : Value} {pos : Pos} {Q : Value → Shared → Prop} (I : Inv X pins σ H s) (hg : Gl X x) (hm : X.mg x = none) (hv : bootBuiltins x = some u) (h : Q u s)
    (hn : x ≠ "__name__" := by decide) (hd : (x == ("__debug__" : Str)) = false := by decide) : wpAny (model X.prog X.w) X.A (eval (.Name x pos) X.env) Q E s := by
  obtain ⟨mb, h1, h2⟩ := I.mod.blt
  exact Calls.Name_function_global I.ok.kind hg (Calls.loadGlobal_builtin (by rw [I.ok.glob]; exact I.mod.glob.keeps I.bk) hm (by rw [I.ok.blt]; exact h1.keeps I.bk) ((h2 x hn).trans hv) h) hd
theorem pe_bltn {x : Str} {v : V} {u : Value} {pos : Pos} (hg : Gl X x) (hm : X.mg x = none) (hv : bootBuiltins x = some u) (r : RelV v u) (hn : x ≠ "__name__" := by decide) (hd : (x == ("__debug__" : Str)) = false := by decide) : PE X (.Name x pos) (tC v) :=
  fun _ _ _ H _ I h => ld_blt I hg hm hv ⟨v, H, I, r, h⟩ hn hd

variable {a b : Expr} {ta tb : TE} {pos : Pos}
/-- a comparison as a value, as a test -/
def tB (t : TE) : TT := fun σ H Q => t σ H fun x H1 => ∃ c, x = .bl c ∧ Q c H1
/-- an expression whose value is a bool, as a test -/
theorem pt_val {e : Expr} {t : TE} (h : PE X e t) (he : ∀ whole, isTrue e X.env whole = (do let v ← whole; standAt e.pos; holding [v] (truthy v)) := by intro _; rfl) : PT X e (tB t) := by
  intro pins s σ H Q I hw
  refine isTrue_plain (thn (h pins s σ H _ I hw) fun v s1 ⟨x, H1, I1, r1, q1⟩ => ?_) (he _)
  obtain ⟨d, rfl, q⟩ := q1
  cases r1
  exact wpAny_truthy_bool ⟨H1, I1, q⟩

variable {tA tB' : TT} {rest : List Expr}
def tAnd (t u : TT) : TT := fun σ H Q => t σ H fun c H1 => if c = true then u σ H1 Q else Q false H1
def tOr (t u : TT) : TT := fun σ H Q => t σ H fun c H1 => if c = true then Q true H1 else u σ H1 Q
def tNot (t : TT) : TT := fun σ H Q => t σ H fun c H1 => Q (!c) H1
theorem pw_and1 (ha : PT X a tA) : PW X (.BoolOp .And [a] pos) tA := by
  intro wh pins s σ H Q I h
  refine isTrue_and (thn (ha pins s σ H Q I h) fun c s1 e => ?_)
  cases c with
  | true => exact isTrue_and_nil e
  | false => exact e
theorem pw_or1 (ha : PT X a tA) : PW X (.BoolOp .Or [a] pos) tA := by
  intro wh pins s σ H Q I h
  refine isTrue_or (thn (ha pins s σ H Q I h) fun c s1 e => ?_)
  cases c with
  | false => exact isTrue_or_nil e
  | true => exact e
theorem pw_and (ha : PT X a tA) (hb : PW X (.BoolOp .And (b :: rest) pos) tB') : PW X (.BoolOp .And (a :: b :: rest) pos) (tAnd tA tB') := by
  intro wh pins s σ H Q I h
  refine isTrue_and (thn (ha pins s σ H _ I h) fun c s1 ⟨H1, I1, q1⟩ => ?_)
  cases c with
  | true => exact hb wh pins s1 σ H1 Q I1 q1
  | false => exact ⟨H1, I1, q1⟩
theorem pw_or (ha : PT X a tA) (hb : PW X (.BoolOp .Or (b :: rest) pos) tB') : PW X (.BoolOp .Or (a :: b :: rest) pos) (tOr tA tB') := by
  intro wh pins s σ H Q I h
  refine isTrue_or (thn (ha pins s σ H _ I h) fun c s1 ⟨H1, I1, q1⟩ => ?_)
  cases c with
  | true => exact ⟨H1, I1, q1⟩
  | false => exact hb wh pins s1 σ H1 Q I1 q1
theorem pt_not (ha : PT X a tA) : PT X (.UnaryOp .Not a pos) (tNot tA) := by
  intro pins s σ H Q I h
  exact isTrue_not (ha pins s σ H (fun c H1 => Q (!c) H1) I h)
/-- .. as values (bools) -/
def tAndV (ta tb : TE) : TE := fun σ H Q => ta σ H fun x H1 => ∃ c, x = .bl c ∧ if c = true then tb σ H1 Q else Q (.bl false) H1
theorem pe_one {op} {t : TE} (h : PE X a t) : PE X (.BoolOp op [a] pos) t := fun pins s σ H Q I hw => BoolOp_one (h pins s σ H Q I hw)
theorem pe_and (ha : PE X a ta) (hb : PE X (.BoolOp .And (b :: rest) pos) tb) : PE X (.BoolOp .And (a :: b :: rest) pos) (tAndV ta tb) := by
  intro pins s σ H Q I h
  refine BoolOp_and (thn (ha pins s σ H _ I h) fun v s1 ⟨x, H1, I1, r1, q1⟩ => ?_)
  obtain ⟨c, rfl, q1⟩ := q1
  cases r1
  refine wpAny_truthy_bool ?_
  cases c with
  | true => exact hb pins s1 σ H1 Q I1 q1
  | false => exact ⟨.bl false, H1, I1, rfl, q1⟩
/-- a if t else b -/
def tIf (t : TT) (ta tb : TE) : TE := fun σ H Q => t σ H fun c H1 => if c = true then ta σ H1 Q else tb σ H1 Q
theorem pe_ifExp {c : Expr} (hc : PT X c tA) (ha : PE X a ta) (hb : PE X b tb) : PE X (.IfExp c a b pos) (tIf tA ta tb) := by
  intro pins s σ H Q I h
  refine wpAny_IfExp (thn (hc pins s σ H _ I h) fun d s1 ⟨H1, I1, q1⟩ => ?_)
  cases d with
  | true => exact ha pins s1 σ H1 Q I1 q1
  | false => exact hb pins s1 σ H1 Q I1 q1
end
end L2

namespace L2
open PySem PySem.Spec PyProof.Rows

def SqL (K : PySem.W.Frag) (H : Hp) (a : Addr) (xs : List V) : Prop :=
  Rd H a (.lst xs) ∨
    ∃ (o : Obj) (its : Array Value) (n : Nat), K.lookup a = some o ∧ o.cls = .type "list" ∧ o.dict = none ∧ o.data = .seq its n ∧ its.size ≤ sizeLine ∧ Vals xs its.toList
def SqT (K : PySem.W.Frag) (H : Hp) (a : Addr) (xs : List V) : Prop :=
  Rd H a (.tup xs) ∨
    ∃ (o : Obj) (its : Array Value) (n : Nat), K.lookup a = some o ∧ o.cls = .type "tuple" ∧ o.data = .seq its n ∧ its.size ≤ sizeLine ∧ Vals xs its.toList
def absV : Value → Option V
  | .none => some .non
  | .bool b => some (.bl b)
  | .int i _ => some (.int i)
  | .str x _ => some (.str x)
  | .bytes b _ => some (.byt b)
  | .float b _ => some (.flt b)
  | .ref a => some (.ref a)
  | .type n => some (.ty n)
  | _ => none
theorem RelV.abs {x : V} {u : Value} (r : RelV x u) : absV u = some x := by
  cases x with
  | non => cases r; rfl
  | bl _ => cases r; rfl
  | int _ => obtain ⟨t, rfl⟩ := r; rfl
  | str _ => obtain ⟨t, rfl⟩ := r; rfl
  | byt _ => obtain ⟨t, rfl⟩ := r; rfl
  | flt _ => obtain ⟨t, rfl⟩ := r; rfl
  | ref _ => cases r; rfl
  | ty _ => cases r; rfl
theorem RelV.inj {x y : V} {u : Value} (r : RelV x u) (q : RelV y u) : x = y := Option.some.inj (r.abs.symm.trans q.abs)
theorem Vals.inj : ∀ {xs ys : List V} {us : List Value}, Vals xs us → Vals ys us → xs = ys
  | _, _, _, .nil, .nil => rfl
  | _, _, _, .cons r t, .cons r' t' => by rw [r.inj r', Vals.inj t t']
section
variable {X : Cx} {pins : List (Addr × Obj)} {σ : St} {H : Hp} {s : Shared} {a : Addr} {xs ys : List V}
theorem SqL.of {K : PySem.W.Frag} (h : H a = some (.lst xs)) : SqL K H a xs := .inl (.inl h)
theorem SqT.of {K : PySem.W.Frag} (h : H a = some (.tup xs)) : SqT K H a xs := .inl (.inl h)
theorem Inv.list (I : Inv X pins σ H s) (h : SqL X.K H a xs) : ∃ its : List Value, Vals xs its ∧ PlainL s.heap a its.toArray ∧ xs.length ≤ sizeLine := by
  rcases h with h | ⟨o, its, n, hk, hc, hd, hs, hz, r⟩
  · obtain ⟨z, its, n, r, e⟩ := h.ok I.hok
    exact ⟨its, r, ⟨_, n, e, rfl, rfl, rfl⟩, z⟩
  · refine ⟨its.toList, r, ⟨o, n, I.kIn a o hk, hc, hd, by simpa using hs⟩, ?_⟩
    have e := r.length
    simp only [Array.length_toList] at e
    omega
theorem Inv.tuple (I : Inv X pins σ H s) (h : SqT X.K H a xs) : ∃ its : List Value, Vals xs its ∧ IsTup s.heap a its.toArray ∧ xs.length ≤ sizeLine := by
  rcases h with h | ⟨o, its, n, hk, hc, hs, hz, r⟩
  · obtain ⟨z, its, r, p⟩ := h.ok I.hok
    exact ⟨its, r, p.isTup, z⟩
  · refine ⟨its.toList, r, ⟨o, I.kIn a o hk, hc, n, by simpa using hs⟩, ?_⟩
    have e := r.length
    simp only [Array.length_toList] at e
    omega
theorem Inv.list_inj (I : Inv X pins σ H s) (h : SqL X.K H a xs) (h' : SqL X.K H a ys) : xs = ys := by
  obtain ⟨its, r, ⟨o, n, e, _, _, d⟩, _⟩ := I.list h
  obtain ⟨its', r', ⟨o', n', e', _, _, d'⟩, _⟩ := I.list h'
  rw [e] at e'; cases e'
  rw [d] at d'
  injection d' with d1 _
  have : its = its' := by simpa using congrArg Array.toList d1
  subst this
  exact r.inj r'
theorem Inv.tuple_inj (I : Inv X pins σ H s) (h : SqT X.K H a xs) (h' : SqT X.K H a ys) : xs = ys := by
  obtain ⟨its, r, ⟨o, e, _, n, d⟩, _⟩ := I.tuple h
  obtain ⟨its', r', ⟨o', e', _, n', d'⟩, _⟩ := I.tuple h'
  rw [e] at e'; cases e'
  rw [d] at d'
  injection d' with d1 _
  have : its = its' := by simpa using congrArg Array.toList d1
  subst this
  exact r.inj r'
end

abbrev Cx.wish (X : Cx) (E : Value → Shared → Prop) : Cx := { X with xe := E }
/-- no exception leaves -/
abbrev Cx.nox (X : Cx) : Cx := X.wish fun _ _ => False
theorem Cx.Ok.wish {X : Cx} (ok : X.Ok) (E : Value → Shared → Prop) : (X.wish E).Ok :=
  ⟨ok.mod, ok.kind, ok.glob, ok.blt, ok.above, ok.inj, ok.has, ok.cab, ok.hd, ok.frames, ok.stk, ok.exf, ok.bs, ok.bsz, ok.noex, ok.exfs, ok.funs, ok.frf⟩
theorem Cx.Ok.unwish {X : Cx} {E : Value → Shared → Prop} (ok : (X.wish E).Ok) : X.Ok :=
  ⟨ok.mod, ok.kind, ok.glob, ok.blt, ok.above, ok.inj, ok.has, ok.cab, ok.hd, ok.frames, ok.stk, ok.exf, ok.bs, ok.bsz, ok.noex, ok.exfs, ok.funs, ok.frf⟩
section
variable {X : Cx} {pins : List (Addr × Obj)} {σ : St} {H : Hp} {s : Shared} {E : Value → Shared → Prop}
theorem Inv.wish (I : Inv X pins σ H s) (E : Value → Shared → Prop) : Inv (X.wish E) pins σ H s := ⟨I.ok.wish E, I.os, I.bare, I.base, I.loc, I.cell, I.free, I.freeC, I.pin, I.hok, I.len⟩
theorem Inv.unwish (I : Inv (X.wish E) pins σ H s) : Inv X pins σ H s := ⟨I.ok.unwish, I.os, I.bare, I.base, I.loc, I.cell, I.free, I.freeC, I.pin, I.hok, I.len⟩
theorem SP.unwish {D : Ends} {f : Flow} {s' : Shared} (h : SP (X.wish E) pins D f s') : SP X pins D f s' := by
  cases f with
  | next => obtain ⟨σ', H', I, q⟩ := h; exact ⟨σ', H', I.unwish, q⟩
  | brk => obtain ⟨σ', H', I, q⟩ := h; exact ⟨σ', H', I.unwish, q⟩
  | cont => obtain ⟨σ', H', I, q⟩ := h; exact ⟨σ', H', I.unwish, q⟩
  | ret u => obtain ⟨v, σ', H', I, r, q⟩ := h; exact ⟨v, σ', H', I.unwish, r, q⟩
theorem PE.nox {e : Expr} {t : TE} (h : PE X.nox e t) : PE X e t := fun pins s σ H Q I hw =>
  wpAny_mono (h pins s σ H Q (I.wish _) hw) (fun _ _ ⟨v, H', I', r, q⟩ => ⟨v, H', I'.unwish, r, q⟩) fun _ _ z => False.elim z
theorem PT.nox {e : Expr} {t : TT} (h : PT X.nox e t) : PT X e t := fun pins s σ H Q I hw =>
  wpAny_mono (h pins s σ H Q (I.wish _) hw) (fun _ _ ⟨H', I', q⟩ => ⟨H', I'.unwish, q⟩) fun _ _ z => False.elim z
theorem PSs.nox {st : List Stmt} {t : TS} (h : PSs X.nox st t) : PSs X st t := fun pins s σ H D I hw =>
  wpAny_mono (h pins s σ H D (I.wish _) hw) (fun _ _ q => q.unwish) fun _ _ z => False.elim z
end

section
variable {X : Cx} {st : Stmt} {rest : List Stmt} {t u : TS} {e : Expr} {te : TE} {pos : Pos}
def tNext : TS := fun D σ H => D.nx σ H
def tSeq (t u : TS) : TS := fun D σ H => t { D with nx := u D } σ H
theorem pss_nil : PSs X [] tNext := fun _ _ σ H _ I h => wpAny_execs_nil ⟨σ, H, I, h⟩
theorem pss_cons (h1 : PS X st t) (h2 : PSs X rest u) : PSs X (st :: rest) (tSeq t u) := by
  intro pins s σ H D I h
  refine wpAny_execs_cons (thn (h1 pins s σ H { D with nx := u D } I h) fun f s1 q => ?_)
  cases f with
  | next =>
    obtain ⟨σ', H', I', q⟩ := q
    exact h2 pins s1 σ' H' D I' q
  | ret v => exact q
  | brk => exact q
  | cont => exact q
theorem pss_one (h1 : PS X st t) : PSs X [st] t := by
  intro pins s σ H D I h
  refine wpAny_execs_cons (thn (h1 pins s σ H D I h) fun f s1 q => ?_)
  cases f with
  | next => exact wpAny_execs_nil q
  | ret v => exact q
  | brk => exact q
  | cont => exact q
/-- in a def's body nothing is shown -/
theorem Inv.quiet {pins : List (Addr × Obj)} {σ : St} {H : Hp} {s : Shared} (I : Inv X pins σ H s) : interactive X.env = false := by simp [interactive, I.ok.kind]
/-- an expression whose value is dropped -/
def tDrop (te : TE) : TS := fun D σ H => te σ H fun _ H1 => D.nx σ H1
theorem ps_expr (he : PE X e te) (hs : swapsWith e none pos.line X.env = pure false := by rfl) : PS X (.Expr e pos) (tDrop te) := by
  intro pins s σ H D I h
  exact wpAny_Expr_any (thn (he pins s σ H _ I h) fun v s1 ⟨x, H1, I1, r1, q1⟩ => ⟨σ, H1, I1, q1⟩) I.quiet hs
def tRet (te : TE) : TS := fun D σ H => te σ H D.rt
theorem ps_ret (he : PE X e te) : PS X (.Return (some e) pos) (tRet te) := by
  intro pins s σ H D I h
  exact wpAny_Return_some (thn (he pins s σ H _ I h) fun v s1 ⟨x, H1, I1, r1, q1⟩ => ⟨x, σ, H1, I1, r1, q1⟩)
def tIfS (c : TT) (t u : TS) : TS := fun D σ H => c σ H fun b H1 => if b = true then t D σ H1 else u D σ H1
theorem ps_if {c : Expr} {a b : List Stmt} {tc : TT} (hc : PT X c tc) (ha : PSs X a t) (hb : PSs X b u) : PS X (.If c a b pos) (tIfS tc t u) := by
  intro pins s σ H D I h
  refine wpAny_If (thn (hc pins s σ H _ I h) fun d s1 ⟨H1, I1, q1⟩ => ?_)
  cases d with
  | true => exact ha pins s1 σ H1 D I1 q1
  | false => exact hb pins s1 σ H1 D I1 q1
end

abbrev TG := V → St → Hp → (St → Hp → Prop) → Prop
abbrev TGs := List V → St → Hp → (St → Hp → Prop) → Prop
def PG (X : Cx) (target : Expr) (t : TG) : Prop :=
  ∀ (pins : List (Addr × Obj)) (s : Shared) (σ : St) (H : Hp) (v : V) (u : Value) (Q : St → Hp → Prop), Inv X pins σ H s → RelV v u → t v σ H Q →
    wpAny (model X.prog X.w) X.A (assign target X.env u) (fun _ s' => ∃ σ' H', Inv X pins σ' H' s' ∧ Q σ' H') X.xe s
/-- several targets, one after another -/
def PGs (X : Cx) (ts : List Expr) (t : TGs) : Prop :=
  ∀ (pins : List (Addr × Obj)) (s : Shared) (σ : St) (H : Hp) (vs : List V) (us : List Value) (Q : St → Hp → Prop), Inv X pins σ H s → Vals vs us → t vs σ H Q →
    wpAny (model X.prog X.w) X.A (assignInOrder ((assignEach ts X.env).map (·.2)) us) (fun _ s' => ∃ σ' H', Inv X pins σ' H' s' ∧ Q σ' H') X.xe s
/-- o[i] = v, by values -/
abbrev TSet := V → V → V → Hp → (Hp → Prop) → Prop
def PSet (X : Cx) (t : TSet) : Prop :=
  ∀ (pins : List (Addr × Obj)) (s : Shared) (σ : St) (H : Hp) (o i v : V) (ov iv u : Value) (Q : Hp → Prop), Inv X pins σ H s → RelV o ov → RelV i iv → RelV v u → t o i v H Q →
    wpAny (model X.prog X.w) X.A (setItem ov iv u) (fun _ s' => ∃ H', Inv X pins σ H' s' ∧ Q H') X.xe s
section
variable {X : Cx} {pos : Pos}
def gName (i : Nat) : TG := fun v σ H Q => Q (σ.set i (some v)) H
theorem pg_name {i : Nat} {x : Str} (hN : X.N.Nodup) (hi : X.N[i]? = some x) (hx : Loc X.env.scope x) (hf : X.fn x = true ∨ X.env.scope.names.lookup x = some .local := by first | exact .inl rfl | exact .inr rfl | assumption) : PG X (.Name x pos) (gName i) := by
  intro pins s σ H v u Q I r h
  exact wpAny_assign_Name (store_ok I hN hi hx r (fun s' I' => ⟨_, H, I', h⟩) hf)
def gNil : TGs := fun vs σ H Q => vs = [] ∧ Q σ H
def gCons (t : TG) (u : TGs) : TGs := fun vs σ H Q => ∃ v r, vs = v :: r ∧ t v σ H fun σ' H' => u r σ' H' Q
theorem pgs_nil : PGs X [] gNil := by
  intro pins s σ H vs us Q I r h
  obtain ⟨e, h⟩ := h
  subst e
  cases r
  exact assignInOrder_nil ⟨σ, H, I, h⟩
theorem pgs_cons {e : Expr} {es : List Expr} {t : TG} {u : TGs} (h1 : PG X e t) (h2 : PGs X es u)
    (hs : (assignEach (e :: es) X.env).map (·.2) = assign e X.env :: (assignEach es X.env).map (·.2) := by rfl) : PGs X (e :: es) (gCons t u) := by
  intro pins s σ H vs us Q I r h
  obtain ⟨v, vr, e1, h⟩ := h
  subst e1
  cases r with
  | cons r rr =>
    rw [hs]
    refine assignInOrder_cons (thn (h1 pins s σ H _ _ _ I r h) fun _ s1 ⟨σ1, H1, I1, q1⟩ => ?_)
    exact h2 pins s1 σ1 H1 _ _ Q I1 rr q1
/-- (a, b, ..) = a tuple of that length -/
def gTup (K : PySem.W.Frag) (n : Nat) (t : TGs) : TG := fun v σ H Q => ∃ a xs, v = .ref a ∧ SqT K H a xs ∧ xs.length = n ∧ t xs σ H Q
theorem pg_tup {es : List Expr} {k : Nat} {t : TGs} {n : Nat} (hc : X.calm = true) (h : PGs X es t)
    (hn : (assignEach es X.env).length = n := by rfl) (hst : (assignEach es X.env).findIdx? (·.1) = none := by rfl) : PG X (.Tuple es k pos) (gTup X.K n t) := by
  intro pins s σ H v u Q I r hw
  obtain ⟨a, xs, e1, hq, hl, hw⟩ := hw
  subst e1
  cases r
  obtain ⟨its, rv, ht, hz⟩ := I.tuple hq
  refine assign_Tuple_tuple (I.ok.hd hc) ht (by simp [hn, ← hl, rv.length]) hst fun h' hx => ?_
  have I1 : Inv X pins σ H { s with heap := h' } := I.kept (t' := s.toks) fun b o e => hx b o (Nat.ne_of_lt (Heap.lt_size e)) e
  exact h pins _ σ H xs _ Q I1 (by simpa using rv) hw
/-- o[i] = .. -/
def gSub (to ti : TE) (t : TSet) : TG := fun v σ H Q => to σ H fun o H1 => ti σ H1 fun i H2 => t o i v H2 fun H3 => Q σ H3
theorem pg_sub {o i : Expr} {to ti : TE} {t : TSet} (ho : PE X o to) (hi : PE X i ti) (hs : PSet X t)
    (ha : ∀ v, assign (.Subscript o i pos) X.env v = (do
      let ov ← holding [v] (eval o X.env)
      let iv ← holding [v, ov] (eval i X.env)
      standAt pos
      holding [v, ov, iv] (setItem ov iv v)
      release [v, ov, iv] []) := by intro _; rfl) : PG X (.Subscript o i pos) (gSub to ti t) := by
  intro pins s σ H v u Q I r h
  rw [ha]
  refine wpAny_bind (wpAny_holding (thn (ho pins s σ H _ I h) fun ov s1 ⟨x, H1, I1, r1, q1⟩ => ?_))
  refine wpAny_bind (wpAny_holding (thn (hi pins s1 σ H1 _ I1 q1) fun iv s2 ⟨y, H2, I2, r2, q2⟩ => ?_))
  refine wpAny_bind (wpAny_standAt (wpAny_bind (wpAny_holding (thn (hs pins s2 σ H2 x y v ov iv u _ I2 r1 r2 r q2) fun _ s3 ⟨H3, I3, q3⟩ => ?_))))
  exact wpAny_release ⟨σ, H3, I3, q3⟩
/-- target = value -/
def tAsg (te : TE) (g : TG) : TS := fun D σ H => te σ H fun x H1 => g x σ H1 D.nx
theorem ps_asg {tg e : Expr} {te : TE} {g : TG} (he : PE X e te) (hg : PG X tg g) (hs : swapsWithSole [tg] e pos.line X.env = pure false := by rfl) (hw : swappedStores [tg] e X.env = pure none := by rfl)
    (h1 : (assignEach [tg] X.env).map (·.2) = [assign tg X.env] := by rfl) : PS X (.Assign [tg] e pos) (tAsg te g) := by
  intro pins s σ H D I h
  refine wpAny_Assign_stores (thn (he pins s σ H _ I h) fun v s1 ⟨x, H1, I1, r1, q1⟩ => ?_) hs hw
  rw [h1]
  exact thn (hg pins s1 σ H1 x v _ I1 r1 q1) fun _ s2 q => q
/-- name = value -/
theorem ps_set {i : Nat} {x : Str} {e : Expr} {te : TE} {pos' : Pos} (hN : X.N.Nodup) (hi : X.N[i]? = some x) (hx : Loc X.env.scope x) (he : PE X e te) (hs : swapsWith e (some (.Name x pos')) pos.line X.env = pure false := by rfl) (hf : X.fn x = true ∨ X.env.scope.names.lookup x = some .local := by first | exact .inl rfl | exact .inr rfl | assumption) :
    PS X (.Assign [.Name x pos'] e pos) (tAsg te (gName i)) := by
  intro pins s σ H D I h
  refine wpAny_Assign_Name (thn (he pins s σ H _ I h) fun v s1 ⟨y, H1, I1, r1, q1⟩ => ?_) hs
  exact store_ok I1 hN hi hx r1 (fun s2 I2 => ⟨_, H1, I2, q1⟩) hf
/-- a, b = x, y with plain local names: stored from the right; the pair itself is not tracked (the opening rows as in PyProof/Rows/TupAssign.lean:23) -/
def tPar (i j : Nat) (ta : TA) : TS := fun D σ H => ta σ H fun vs H1 => ∃ v w, vs = [v, w] ∧ D.nx ((σ.set i (some v)).set j (some w)) H1
theorem ps_par {i j : Nat} {x y : Str} {a b : Expr} {ta : TA} {px py pt : Pos} {kt k2 pt2} (hc : X.calm = true) (hN : X.N.Nodup) (hi : X.N[i]? = some x) (hj : X.N[j]? = some y) (hij : i ≠ j)
    (hx : X.env.scope.names.lookup x = some .local) (hy : X.env.scope.names.lookup y = some .local) (ha : PA X [a, b] ta)
    (hw : swappedStores [.Tuple [.Name x px, .Name y py] kt pt] (.Tuple [a, b] k2 pt2) X.env = pure (some [x, y]))
    (hs : swapsWithSole [.Tuple [.Name x px, .Name y py] kt pt] (.Tuple [a, b] k2 pt2) pos.line X.env = pure false := by rfl) :
    PS X (.Assign [.Tuple [.Name x px, .Name y py] kt pt] (.Tuple [a, b] k2 pt2) pos) (tPar i j ta) := by
  intro pins s σ H D I h
  rw [exec_Assign_arm]
  refine wpAny_bind (wpAny_standAt ?_)
  rw [hs]
  refine wpAny_bind (wpAny_pure ?_)
  rw [if_neg (by decide)]
  refine wpAny_bind (Tuple_ (thn (ha _ pins s σ H _ I h) fun us s1 ⟨vs, H1, I1, r1, q1⟩ => ?_))
  obtain ⟨v, w, e1, q1⟩ := q1
  subst e1
  obtain ⟨u1, u2, rfl, rv, rw'⟩ : ∃ u1 u2, us = [u1, u2] ∧ RelV v u1 ∧ RelV w u2 := by
    cases r1 with
    | cons p q =>
      cases q with
      | cons p' q' =>
        cases q'
        exact ⟨_, _, rfl, p, p'⟩
  refine wpAny_newObj_type ?_ (by show 2 ≤ sizeLine; decide)
  have I2 : Inv X pins σ H1 { s1 with heap := s1.heap.push { cls := .type "tuple", data := .seq [u1, u2].toArray } } := I1.kept (t' := s1.toks) fun b o e => Heap.get?_push_of_some _ e
  rw [hw]
  refine wpAny_bind (wpAny_pure ?_)
  show wpAny (model X.prog X.w) X.A (do rule "assign.swapped-stores"; let items ← unpackItems (.ref s1.heap.objs.size) 2 none; assignInOrder [fun v => bindName X.env y v, fun v => bindName X.env x v] items.reverse; pure Flow.next) _ _ _
  refine wpAny_bind (wpAny_rule (wpAny_bind (unpackItems_tuple (items := #[u1, u2]) (I.ok.hd hc) (IsTup.new s1.heap _) fun h' hx' => ?_)))
  have I3 := I2.kept (h' := h') (t' := s1.toks) fun b o e => hx' b o (Nat.ne_of_lt (Heap.lt_size e)) e
  show wpAny _ _ (assignInOrder [fun v => bindName X.env y v, fun v => bindName X.env x v] [u2, u1] >>= fun _ => pure Flow.next) _ _ _
  refine wpAny_bind (assignInOrder_cons (wpAny_bindName (store_ok I3 hN hj (.inl hy) rw' (fun s2 I4 => ?_) (.inr hy))))
  refine assignInOrder_cons (wpAny_bindName (store_ok I4 hN hi (.inl hx) rv (fun s3 I5 => assignInOrder_nil (wpAny_pure ?_)) (.inr hx)))
  rw [List.set_comm _ _ (Ne.symm hij)] at I5
  exact ⟨_, H1, I5, q1⟩
end

section
variable {X : Cx} {pos : Pos}
/-- the invariant W with its measure -/
def tWhile (c : TT) (tb : TS) : TS := fun D σ H => ∃ W : Nat → St → Hp → Prop, (∃ m, W m σ H) ∧ ∀ m σ H, W m σ H →
  c σ H fun b H1 => if b = true then ∃ N : St → Hp → Prop, (∀ σ' H', N σ' H' → ∃ m', m' < m ∧ W m' σ' H') ∧ tb { D with nx := N, ct := N, bk := D.nx } σ H1 else D.nx σ H1
theorem ps_while {c : Expr} {body : List Stmt} {tc : TT} {tb : TS} (hp : PassesOwn (model X.prog X.w) X.A X.env X.xe) (hc : PT X c tc) (hb : PSs X body tb) : PS X (.While c body [] pos) (tWhile tc tb) := by
  intro pins s σ H D I h
  obtain ⟨W, ⟨m0, w0⟩, turn⟩ := h
  refine wpAny_While (codeAny_whileLoop (fun n s' => ∃ σ' H', Inv X pins σ' H' s' ∧ W n σ' H') ?_ m0 ⟨σ, H, I, w0⟩)
  rintro n s1 ⟨σ1, H1, I1, w1⟩
  refine wpAny_passesOwn hp (thn (hc pins s1 σ1 H1 _ I1 (turn n σ1 H1 w1)) fun b s2 ⟨H2, I2, q2⟩ => ?_)
  cases b with
  | true =>
    obtain ⟨N, hN, q2⟩ := q2
    rw [if_pos rfl]
    refine wpAny_passesOwn hp (thn (hb pins s2 σ1 H2 _ I2 q2) fun f s3 q3 => ?_)
    cases f with
    | next =>
      obtain ⟨σ3, H3, I3, n3⟩ := q3
      obtain ⟨m', hm, w3⟩ := hN σ3 H3 n3
      exact ⟨m', hm, σ3, H3, I3, w3⟩
    | cont =>
      obtain ⟨σ3, H3, I3, n3⟩ := q3
      obtain ⟨m', hm, w3⟩ := hN σ3 H3 n3
      exact ⟨m', hm, σ3, H3, I3, w3⟩
    | brk => exact q3
    | ret v => exact q3
  | false =>
    rw [if_neg Bool.false_ne_true]
    exact wpAny_execs_nil ⟨σ1, H2, I2, q2⟩
end

/-- at turn i: it yields x (the heap may grow), or it stops -/
structure It where
  go : Nat → Hp → Prop
  yld : Nat → Hp → V → Hp → Prop
  stop : Nat → Hp → Prop
/-- the iterator's own objects may turn: they are not the frame's, not pinned, younger than the entry (or a comprehension's own) -/
def FpOk (X : Cx) (pins : List (Addr × Obj)) (H : Hp) (b : Addr) : Prop :=
  H b = none ∧ b ≠ X.env.locals ∧ b ∉ X.fs ∧ (b ∈ X.ex ∨ X.s₀.heap.objs.size ≤ b) ∧ (∀ x c, X.env.cells.lookup x = some c → c ≠ b) ∧ ∀ p ∈ X.pn ++ pins, p.1 ≠ b
theorem Inv.fpOk {X : Cx} {pins : List (Addr × Obj)} {σ : St} {H H' : Hp} {s : Shared} {b : Addr} (I : Inv X pins σ H s) (hb : s.heap.objs.size ≤ b) (hn : H' b = none) : FpOk X pins H' b := by
  refine ⟨hn, Nat.ne_of_gt (Nat.lt_of_lt_of_le I.lt hb), I.nofs hb, .inr (Nat.le_trans I.sz hb), fun x c e z => ?_, fun p hp z => ?_⟩
  · obtain ⟨v, q⟩ := I.cell x c e
    exact absurd (Nat.lt_of_lt_of_le q.lt (by rw [z]; exact hb)) (Nat.lt_irrefl _)
  · exact absurd (Nat.lt_of_lt_of_le (Heap.lt_size (I.pin p hp).1) (by rw [z]; exact hb)) (Nat.lt_irrefl _)
structure Turn (P : Program) (w : World) (K : PySem.W.Frag) (tg : Expr) (J : It) (fp : List Addr) (it : Addr) (tn : Nat → Heap → Prop) : Prop where
  mem : it ∈ fp
  obj : ∀ i h, tn i h → ∀ b ∈ fp, ∃ o, h.get? b = some o ∧ ∀ v, o.data ≠ .cell v
  keep : ∀ i h h', tn i h → (∀ b ∈ fp, ∀ o, h.get? b = some o → h'.get? b = some o) → tn i h'
  item : ∀ (X : Cx), X.prog = P → X.w = w → X.K = K → X.calm = true → ∀ (i : Nat) (pins : List (Addr × Obj)) (s : Shared) (σ : St) (H : Hp) (E : Value → Shared → Prop), Inv X pins σ H s → (∀ b ∈ fp, FpOk X pins H b) → tn i s.heap → J.go i H →
    wpAny (model P w) X.A (pyNext (.ref it)) (fun r s1 => ∃ u, r = some u ∧
      wpAny (model P w) X.A (letOwnedTupleGo tg (.ref it) u) (fun _ s2 => ∃ x H', Inv X pins σ H' s2 ∧ RelV x u ∧ J.yld i H x H' ∧ tn (i + 1) s2.heap ∧ ∀ b ∈ fp, H' b = none) E s1) E s
  done : ∀ (X : Cx), X.prog = P → X.w = w → X.K = K → X.calm = true → ∀ (i : Nat) (pins : List (Addr × Obj)) (s : Shared) (σ : St) (H : Hp) (E : Value → Shared → Prop), Inv X pins σ H s → (∀ b ∈ fp, FpOk X pins H b) → tn i s.heap → J.stop i H →
    wpAny (model P w) X.A (pyNext (.ref it)) (fun r s1 => r = none ∧ Inv X pins σ H s1) E s
  self : ∀ (A : Around) (i : Nat) (s : Shared) (Q : Value → Shared → Prop) (E : Value → Shared → Prop), tn i s.heap → Q (.ref it) s → wpAny (model P w) A (pyIter (.ref it)) Q E s
abbrev TI := St → Hp → (It → Hp → Prop) → Prop
/-- an iterator has come -/
def PIE (X : Cx) (pins : List (Addr × Obj)) (σ : St) (tg : Expr) (R : It → Hp → Prop) (itv : Value) (s2 : Shared) : Prop :=
  ∃ (it : Addr) (fp : List Addr) (tn : Nat → Heap → Prop) (J : It) (H' : Hp), itv = .ref it ∧ Inv X pins σ H' s2 ∧ Turn X.prog X.w X.K tg J fp it tn ∧ tn 0 s2.heap ∧ (∀ b ∈ fp, FpOk X pins H' b) ∧ R J H'
def PI (X : Cx) (tg iter : Expr) (wi : TI) : Prop :=
  ∀ (pins : List (Addr × Obj)) (s : Shared) (σ : St) (H : Hp) (R : It → Hp → Prop), Inv X pins σ H s → wi σ H R →
    wpAny (model X.prog X.w) X.A (eval iter X.env) (fun v s1 => wpAny (model X.prog X.w) X.A (pyIter v) (PIE X pins σ tg R) X.xe s1) X.xe s

/-- the step ahead of the store is nothing for an iterator that keeps no tuple -/
theorem go_of {M : Model} {A : Around} {E : Value → Shared → Prop} {s : Shared} {tg : Expr} {it : Addr} {u : Value} {o : Obj} {n : String} {vs : Array Value} {Q : Unit → Shared → Prop} (ho : s.heap.get? it = some o) (hc : o.cls = .type n) (hd : o.data = .fields vs)
    (hn : ["enumerate", "zip", "dict_itemiterator", "dict_reverseitemiterator", "odict_iterator", "itertools.zip_longest", "itertools.pairwise"].contains n = false) (hQ : Q () s) : wpAny M A (letOwnedTupleGo tg (.ref it) u) Q E s := by
  unfold letOwnedTupleGo
  cases tg <;> first
    | exact wpAny_pure hQ
    | (cases u <;> first
        | exact wpAny_pure hQ
        | (refine wpAny_bind (wpAny_load ho ?_)
           rw [hc, hd]
           show wpAny M A (if (["enumerate", "zip", "dict_itemiterator", "dict_reverseitemiterator", "odict_iterator", "itertools.zip_longest", "itertools.pairwise"].contains n && vs[0]? == some (rawInt _)) = true then _ else _) Q E s
           rw [if_neg (by intro h; rw [hn, Bool.false_and] at h; cases h)]
           exact wpAny_pure hQ))

/-- the list at a, as it stands at each turn (a loop may append to it) -/
def Itl (K : PySem.W.Frag) (a : Addr) : It :=
  ⟨fun i H => ∃ xs x, SqL K H a xs ∧ xs[i]? = some x, fun i H x H' => H' = H ∧ ∀ xs, SqL K H a xs → xs[i]? = some x, fun i H => ∃ xs, SqL K H a xs ∧ xs.length ≤ i⟩
def Itt (K : PySem.W.Frag) (a : Addr) : It :=
  ⟨fun i H => ∃ xs x, SqT K H a xs ∧ xs[i]? = some x, fun i H x H' => H' = H ∧ ∀ xs, SqT K H a xs → xs[i]? = some x, fun i H => ∃ xs, SqT K H a xs ∧ xs.length ≤ i⟩
/-- lo, lo + 1, .. (n of them) -/
def Itr (lo : Int) (n : Nat) : It := ⟨fun i _ => i < n, fun i H x H' => H' = H ∧ x = .int (lo + i), fun i _ => n ≤ i⟩
theorem turn_list {P : Program} {w : World} {K : PySem.W.Frag} {tg : Expr} (a it : Addr) : Turn P w K tg (Itl K a) [it] it (fun i h => h.IsListIter it a i) where
  mem := by simp
  obj := fun i h st b hb => by
    have e : b = it := by simpa using hb
    subst e
    obtain ⟨o, e, c, d⟩ := st
    exact ⟨o, e, fun v z => by rw [d] at z; cases z⟩
  keep := fun i h h' st k => st.at fun o e => k it (by simp) o e
  item := by
    intro X hP hw hK hc i pins s σ H E I hf st hg
    subst hP hw hK
    obtain ⟨xs, x, hq, hx⟩ := hg
    obtain ⟨its, rv, p, hz⟩ := I.list hq
    obtain ⟨u, hu, ru⟩ := rv.get hx
    obtain ⟨f0, f1, f2, f3, f4, f5⟩ := hf it (by simp)
    refine wpAny_pyNext_list_item st p.isList (x := u) (by simpa using hu) fun h' st' sb => ?_
    have I1 : Inv X pins σ H { s with heap := h' } := I.turned (t' := s.toks) (fun b o hb e => (sb.2 b hb).trans e) f0 f1 f3 f4 f5
    obtain ⟨o, e, c, d⟩ := id st'
    exact ⟨u, rfl, go_of (s := { s with heap := h' }) e c d (by decide) ⟨x, H, I1, ru, ⟨rfl, fun ys hy => by rw [I.list_inj hy hq]; exact hx⟩, st', fun b hb => (hf b hb).1⟩⟩
  done := by
    intro X hP hw hK hc i pins s σ H E I hf st hg
    subst hP hw hK
    obtain ⟨xs, hq, hx⟩ := hg
    obtain ⟨its, rv, p, hz⟩ := I.list hq
    obtain ⟨f0, f1, f2, f3, f4, f5⟩ := hf it (by simp)
    have hl := rv.length
    exact wpAny_pyNext_list_end (I.ok.hd hc) st p.isList (by simp; omega) fun h' eb => ⟨rfl, I.turned (t' := s.toks) (fun b o hb e => eb b o hb e) f0 f1 f3 f4 f5⟩
  self := fun _ _ _ _ _ st h => wpAny_pyIter_listiter st h
theorem turn_tuple {P : Program} {w : World} {K : PySem.W.Frag} {tg : Expr} (a it : Addr) : Turn P w K tg (Itt K a) [it] it (fun i h => h.IsTupleIter it a i) where
  mem := by simp
  obj := fun i h st b hb => by
    have e : b = it := by simpa using hb
    subst e
    obtain ⟨o, e, c, d⟩ := st
    exact ⟨o, e, fun v z => by rw [d] at z; cases z⟩
  keep := fun i h h' st k => st.at fun o e => k it (by simp) o e
  item := by
    intro X hP hw hK hc i pins s σ H E I hf st hg
    subst hP hw hK
    obtain ⟨xs, x, hq, hx⟩ := hg
    obtain ⟨its, rv, p, hz⟩ := I.tuple hq
    obtain ⟨u, hu, ru⟩ := rv.get hx
    obtain ⟨f0, f1, f2, f3, f4, f5⟩ := hf it (by simp)
    refine wpAny_pyNext_tuple_item st (show s.heap.IsTuple a its.toArray from p) (x := u) (by simpa using hu) fun h' st' sb => ?_
    have I1 : Inv X pins σ H { s with heap := h' } := I.turned (t' := s.toks) (fun b o hb e => (sb.2 b hb).trans e) f0 f1 f3 f4 f5
    obtain ⟨o, e, c, d⟩ := id st'
    exact ⟨u, rfl, go_of (s := { s with heap := h' }) e c d (by decide) ⟨x, H, I1, ru, ⟨rfl, fun ys hy => by rw [I.tuple_inj hy hq]; exact hx⟩, st', fun b hb => (hf b hb).1⟩⟩
  done := by
    intro X hP hw hK hc i pins s σ H E I hf st hg
    subst hP hw hK
    obtain ⟨xs, hq, hx⟩ := hg
    obtain ⟨its, rv, p, hz⟩ := I.tuple hq
    obtain ⟨f0, f1, f2, f3, f4, f5⟩ := hf it (by simp)
    have hl := rv.length
    exact wpAny_pyNext_tuple_end (I.ok.hd hc) st (show s.heap.IsTuple a its.toArray from p) (by simp; omega) fun h' eb => ⟨rfl, I.turned (t' := s.toks) (fun b o hb e => eb b o hb e) f0 f1 f3 f4 f5⟩
  self := fun _ _ _ _ _ st h => wpAny_pyIter_tupleiter st h
theorem turn_range {P : Program} {w : World} {K : PySem.W.Frag} {tg : Expr} (it : Addr) (lo : Int) (n : Nat) : Turn P w K tg (Itr lo n) [it] it (fun i h => IsRangeIter h it (lo + (i : Nat) * 1) ((n : Int) - (i : Nat)) 1) where
  mem := by simp
  obj := fun i h st b hb => by
    have e : b = it := by simpa using hb
    subst e
    exact ⟨_, st, fun v z => by
      have z' : Data.fields _ = Data.cell v := z
      cases z'⟩
  keep := fun i h h' st k => k it (by simp) _ st
  item := by
    intro X hP hw hK hc i pins s σ H E I hf st hg
    subst hP hw hK
    obtain ⟨f0, f1, f2, f3, f4, f5⟩ := hf it (by simp)
    have W := Walks.range (prog := X.prog) (w := X.w) (I.ok.hd hc) it lo 1 n
    refine W.item i s _ _ hg st fun v h' tk hv st' kk => ?_
    obtain ⟨t, rfl⟩ := hv
    have I1 : Inv X pins σ H { s with heap := h', toks := tk } := I.turned (fun b o hb e => kk b o (by simpa using hb) e) f0 f1 f3 f4 f5
    refine ⟨_, rfl, go_of (s := { s with heap := h', toks := tk }) (n := "range_iterator") st' rfl rfl (by decide) ⟨.int (lo + i), H, I1, ⟨t, ?_⟩, ⟨rfl, rfl⟩, st', fun b hb => (hf b hb).1⟩⟩
    rw [Int.mul_one]
  done := by
    intro X hP hw hK hc i pins s σ H E I hf st hg
    subst hP hw hK
    obtain ⟨f0, f1, f2, f3, f4, f5⟩ := hf it (by simp)
    exact wpAny_pyNext_range_end (I.ok.hd hc) st (by have : n ≤ i := hg; omega) fun h' eb => ⟨rfl, I.turned (t' := s.toks) (fun b o hb e => eb b o hb e) f0 f1 f3 f4 f5⟩
  self := fun _ _ _ _ _ st h => wpAny_pyIter_rangeiter st h
end L2

namespace L2
open PySem PySem.Spec PyProof.Rows
section
variable {X : Cx} {tg : Expr}
def iList (K : PySem.W.Frag) (tl : TE) : TI := fun σ H R => tl σ H fun x H1 => ∃ a, x = .ref a ∧ (∃ xs, SqL K H1 a xs) ∧ R (Itl K a) H1
def iTup (K : PySem.W.Frag) (tl : TE) : TI := fun σ H R => tl σ H fun x H1 => ∃ a, x = .ref a ∧ (∃ xs, SqT K H1 a xs) ∧ R (Itt K a) H1
theorem pi_list {l : Expr} {tl : TE} (hl : PE X l tl) : PI X tg l (iList X.K tl) := by
  intro pins s σ H R I h
  refine thn (hl pins s σ H _ I h) fun v s1 ⟨x, H1, I1, r1, q1⟩ => ?_
  obtain ⟨a, e, ⟨xs, hq⟩, q⟩ := q1
  subst e
  cases r1
  obtain ⟨its, rv, p, hz⟩ := I1.list hq
  refine wpAny_pyIter_list p.isList ?_
  refine ⟨s1.heap.objs.size, [s1.heap.objs.size], _, _, H1, rfl, I1.kept (t' := s1.toks) fun b o e => Heap.get?_push_of_some _ e, turn_list a _, ⟨_, Heap.get?_push_size _ rfl, rfl, rfl⟩, fun b hb => ?_, q⟩
  have e : b = s1.heap.objs.size := by simpa using hb
  subst e
  exact I1.fpOk (Nat.le_refl _) (I1.hok.fresh (Nat.le_refl _))
theorem pi_tup {l : Expr} {tl : TE} (hl : PE X l tl) : PI X tg l (iTup X.K tl) := by
  intro pins s σ H R I h
  refine thn (hl pins s σ H _ I h) fun v s1 ⟨x, H1, I1, r1, q1⟩ => ?_
  obtain ⟨a, e, ⟨xs, hq⟩, q⟩ := q1
  subst e
  cases r1
  obtain ⟨its, rv, p, hz⟩ := I1.tuple hq
  refine wpAny_pyIter_tuple (show s1.heap.IsTuple a its.toArray from p) ?_
  refine ⟨s1.heap.objs.size, [s1.heap.objs.size], _, _, H1, rfl, I1.kept (t' := s1.toks) fun b o e => Heap.get?_push_of_some _ e, turn_tuple a _, ⟨_, Heap.get?_push_size _ rfl, rfl, rfl⟩, fun b hb => ?_, q⟩
  have e : b = s1.heap.objs.size := by simpa using hb
  subst e
  exact I1.fpOk (Nat.le_refl _) (I1.hok.fresh (Nat.le_refl _))
/-- a range object just made, walked -/
theorem range_it {pins : List (Addr × Obj)} {σ : St} {H : Hp} {s : Shared} {R : It → Hp → Prop} {E : Value → Shared → Prop} {lo hi : Int} {t u v : Tok} {tk : Nat} (I : Inv X pins σ H s) (h1 : -(2 ^ 62) ≤ lo) (h2 : lo < 2 ^ 62) (h3 : -(2 ^ 62) ≤ hi) (h4 : hi < 2 ^ 62)
    (q : R (Itr lo (hi - lo).toNat) H) : wpAny (model X.prog X.w) X.A (pyIter (.ref s.heap.objs.size)) (PIE X pins σ tg R) E { s with heap := s.heap.push { cls := .type "range", data := .fields #[.int lo t, .int hi u, .int 1 v] }, toks := tk } := by
  refine wpAny_pyIter_range (IsRange.new ..) (small_one h1 h2 h3 h4) ?_
  have I1 : Inv X pins σ H { s with heap := s.heap.push { cls := .type "range", data := .fields #[.int lo t, .int hi u, .int 1 v] }, toks := tk } := I.kept fun b o e => Heap.get?_push_of_some _ e
  refine ⟨(s.heap.push { cls := .type "range", data := .fields #[.int lo t, .int hi u, .int 1 v] }).objs.size, [(s.heap.push { cls := .type "range", data := .fields #[.int lo t, .int hi u, .int 1 v] }).objs.size], _, _, H, rfl,
    I1.kept (t' := tk) fun b o e => Heap.get?_push_of_some _ e, turn_range _ lo (hi - lo).toNat, ?_, fun b hb => ?_, q⟩
  · have e1 : lo + ((0 : Nat) : Int) * 1 = lo := by simp
    have e2 : (((hi - lo).toNat : Nat) : Int) - ((0 : Nat) : Int) = Builtin.Range.rangeSize lo hi 1 := by rw [rangeSize_one]; split <;> omega
    show IsRangeIter _ _ (lo + ((0 : Nat) : Int) * 1) ((((hi - lo).toNat : Nat) : Int) - ((0 : Nat) : Int)) 1
    rw [e1, e2]
    exact Heap.get?_push_size _ rfl
  · have e : b = (s.heap.push { cls := .type "range", data := .fields #[.int lo t, .int hi u, .int 1 v] }).objs.size := by simpa using hb
    subst e
    exact I1.fpOk (Nat.le_refl _) (I1.hok.fresh (Nat.le_refl _))
def iRng1 (ta : TA) : TI := fun σ H R => ta σ H fun vs H1 => ∃ j : Int, vs = [.int j] ∧ -(2 ^ 62) ≤ j ∧ j < 2 ^ 62 ∧ R (Itr 0 j.toNat) H1
theorem pi_range1 {a : Expr} {ta : TA} {p pos : Pos} (hg : Gl X "range") (hm : X.mg "range" = none) (ha : PA X [a] ta) (hs : starEach [a] X.env = [(false, eval a X.env)] := by rfl) : PI X tg (.Call (.Name "range" p) [a] [] pos) (iRng1 ta) := by
  intro pins s σ H R I h
  refine Call_ (ld_blt I hg hm boot_range (PyProof.Rows.callWith_type1 (thn (ha pos pins s σ H _ I h) fun us s1 ⟨vs, H1, I1, r1, q1⟩ => ?_) hs rfl))
  obtain ⟨j, e, q1, q2, q⟩ := q1
  subst e
  cases r1 with
  | cons r rr =>
    cases rr
    obtain ⟨t, rfl⟩ := r
    exact call_range_1 (range_it I1 (by omega) (by omega) q1 q2 (by simpa using q))
/-- W: the invariant by the turn and a measure; N: what the body is to reach -/
def tFor (wi : TI) (g : TG) (tb : TS) : TS := fun D σ H => wi σ H fun J H1 => ∃ W : Nat → Nat → St → Hp → Prop, (∃ m, W 0 m σ H1) ∧ ∀ i m σ H, W i m σ H →
  (J.stop i H ∧ D.nx σ H) ∨ (J.go i H ∧ ∃ N : St → Hp → Prop, (∀ σ' H', N σ' H' → ∃ m', m' < m ∧ W (i + 1) m' σ' H') ∧ ∀ x H', J.yld i H x H' → g x σ H' fun σ2 H2 => tb { D with nx := N, ct := N, bk := D.nx } σ2 H2)
/-- the records at fp as they stand -/
def pinsAt (fp : List Addr) (h : Heap) : List (Addr × Obj) := fp.filterMap fun b => (h.get? b).map fun o => (b, o)
theorem mem_pinsAt {fp : List Addr} {h : Heap} {b : Addr} {o : Obj} (hb : b ∈ fp) (e : h.get? b = some o) : (b, o) ∈ pinsAt fp h := List.mem_filterMap.mpr ⟨b, hb, by rw [e]; rfl⟩
theorem of_pinsAt {fp : List Addr} {h : Heap} {p : Addr × Obj} (hp : p ∈ pinsAt fp h) : p.1 ∈ fp ∧ h.get? p.1 = some p.2 := by
  obtain ⟨b, hb, e⟩ := List.mem_filterMap.mp hp
  cases q : h.get? b with
  | none => rw [q] at e; cases e
  | some o =>
    rw [q] at e
    have e' : (b, o) = p := Option.some.inj e
    subst e'
    exact ⟨hb, q⟩
theorem Inv.pinned {pins : List (Addr × Obj)} {σ : St} {H : Hp} {s : Shared} {fp : List Addr} (I : Inv X pins σ H s) (hf : ∀ b ∈ fp, FpOk X pins H b) (ho : ∀ b ∈ fp, ∃ o, s.heap.get? b = some o ∧ ∀ v, o.data ≠ .cell v) : Inv X (pins ++ pinsAt fp s.heap) σ H s :=
  I.pins_of fun p hp => (List.mem_append.mp hp).elim (fun z => I.pin p (List.mem_append_right _ z)) fun z => by
    obtain ⟨hb, e⟩ := of_pinsAt z
    obtain ⟨f0, f1, f2, _⟩ := hf p.1 hb
    obtain ⟨o, e', d⟩ := ho p.1 hb
    rw [e] at e'; cases e'
    exact ⟨e, f0, f1, f2, d⟩
theorem Inv.unpinned {pins pl : List (Addr × Obj)} {σ : St} {H : Hp} {s : Shared} (I : Inv X (pins ++ pl) σ H s) : Inv X pins σ H s := I.pins_of fun p hp => I.pin p (List.mem_append_right _ (List.mem_append_left _ hp))
theorem ps_for {iter : Expr} {body : List Stmt} {wi : TI} {g : TG} {tb : TS} {pos : Pos} (hp : PassesOwn (model X.prog X.w) X.A X.env X.xe) (hc : X.calm = true) (hi : PI X tg iter wi) (hg : PG X tg g) (hb : PSs X body tb)
    (hs : ∀ x, foldedSetIterable iter X.env x = pure x := by intro _; rfl) : PS X (.For tg iter body [] pos) (tFor wi g tb) := by
  intro pins s σ H D I h
  refine wpAny_For (thn (hi pins s σ H _ I h) fun v s1 h1 => thn h1 fun itv s2 h2 => ?_) hs
  obtain ⟨it, fp, tn, J, H2, e, I2, T, st2, f2, W, ⟨m0, w0⟩, turn⟩ := h2
  subst e
  -- what stays true of the iterator's objects through the loop
  have stat : ∀ {H' : Hp}, (∀ b ∈ fp, H' b = none) → ∀ b ∈ fp, FpOk X pins H' b := fun hn b hb => ⟨hn b hb, (f2 b hb).2⟩
  refine codeAny_forLoop_any (fun n s' => ∃ i σ' H', Inv X pins σ' H' s' ∧ tn i s'.heap ∧ (∀ b ∈ fp, H' b = none) ∧ W i n σ' H') ?_ m0 ⟨0, σ, H2, I2, st2, fun b hb => (f2 b hb).1, w0⟩
  rintro n s3 ⟨i, σ3, H3, I3, st3, fr3, w3⟩
  rcases turn i n σ3 H3 w3 with ⟨stop, qn⟩ | ⟨go, N, hN, step⟩
  · refine wpAny_passesOwn hp (thn (T.done X rfl rfl rfl hc i pins s3 σ3 H3 X.xe I3 (stat fr3) st3 stop) fun r s4 ⟨hr, I4⟩ => ?_)
    subst hr
    exact wpAny_execs_nil ⟨σ3, H3, I4, qn⟩
  · refine wpAny_passesOwn hp (thn (T.item X rfl rfl rfl hc i pins s3 σ3 H3 X.xe I3 (stat fr3) st3 go) fun r s4 ⟨u, hr, h4⟩ => ?_)
    subst hr
    refine wpAny_passesOwn hp (thn h4 fun _ s5 ⟨x, H5, I5, r5, y5, st5, fr5⟩ => ?_)
    have I5' := I5.pinned (stat fr5) (T.obj _ _ st5)
    refine wpAny_passesOwn hp (thn (hg _ s5 σ3 H5 x u _ I5' r5 (step x H5 y5)) fun _ s6 ⟨σ6, H6, I6, q6⟩ => ?_)
    refine wpAny_passesOwn hp (thn (hb _ s6 σ6 H6 _ I6 q6) fun f s7 q7 => ?_)
    have again : ∀ {σ7 : St} {H7 : Hp}, Inv X (pins ++ pinsAt fp s5.heap) σ7 H7 s7 → N σ7 H7 → ∃ m, m < n ∧ ∃ i σ' H', Inv X pins σ' H' s7 ∧ tn i s7.heap ∧ (∀ b ∈ fp, H' b = none) ∧ W i m σ' H' := fun {σ7 H7} I7 n7 => by
      obtain ⟨m', hm, w7⟩ := hN σ7 H7 n7
      refine ⟨m', hm, i + 1, σ7, H7, I7.unpinned, T.keep _ _ _ st5 fun b hb o e => (I7.pin (b, o) (List.mem_append_right _ (List.mem_append_right _ (mem_pinsAt hb e)))).1, fun b hb => ?_, w7⟩
      obtain ⟨o, e, d⟩ := T.obj _ _ st5 b hb
      exact (I7.pin (b, o) (List.mem_append_right _ (List.mem_append_right _ (mem_pinsAt hb e)))).2.1
    cases f with
    | next => obtain ⟨σ7, H7, I7, n7⟩ := q7; exact again I7 n7
    | cont => obtain ⟨σ7, H7, I7, n7⟩ := q7; exact again I7 n7
    | brk => obtain ⟨σ7, H7, I7, q7⟩ := q7; exact ⟨σ7, H7, I7.unpinned, q7⟩
    | ret v => obtain ⟨x7, σ7, H7, I7, r7, q7⟩ := q7; exact ⟨x7, σ7, H7, I7.unpinned, r7, q7⟩
end

/-- over a list that the body leaves as it is -/
theorem for_list {K : PySem.W.Frag} {a : Addr} {xs : List V} {g : TG} {tb : TS} {D : Ends} {σ : St} {H : Hp} (Pv : Nat → St → Hp → Prop) (h0 : Pv 0 σ H) (hl : ∀ i σ H, i ≤ xs.length → Pv i σ H → SqL K H a xs)
    (hs : ∀ i x σ H, xs[i]? = some x → Pv i σ H → g x σ H fun σ2 H2 => tb { D with nx := Pv (i + 1), ct := Pv (i + 1), bk := D.nx } σ2 H2) (hd : ∀ σ H, Pv xs.length σ H → D.nx σ H) :
    ∃ W : Nat → Nat → St → Hp → Prop, (∃ m, W 0 m σ H) ∧ ∀ i m σ H, W i m σ H →
      ((Itl K a).stop i H ∧ D.nx σ H) ∨ ((Itl K a).go i H ∧ ∃ N : St → Hp → Prop, (∀ σ' H', N σ' H' → ∃ m', m' < m ∧ W (i + 1) m' σ' H') ∧ ∀ x H', (Itl K a).yld i H x H' → g x σ H' fun σ2 H2 => tb { D with nx := N, ct := N, bk := D.nx } σ2 H2) := by
  refine ⟨fun i m σ H => m = xs.length - i ∧ i ≤ xs.length ∧ Pv i σ H, ⟨xs.length, by simp, Nat.zero_le _, h0⟩, ?_⟩
  rintro i m σ H ⟨rfl, hi, p⟩
  have q := hl i σ H hi p
  by_cases hlt : i < xs.length
  · refine .inr ⟨⟨xs, xs[i], q, by simp [hlt]⟩, Pv (i + 1), fun σ' H' p' => ⟨xs.length - (i + 1), by omega, rfl, hlt, p'⟩, fun x H' y => ?_⟩
    obtain ⟨e, y⟩ := y
    subst e
    exact hs i x σ _ (y xs q) p
  · have e : i = xs.length := by omega
    subst e
    exact .inl ⟨⟨xs, q, Nat.le_refl _⟩, hd σ H p⟩
theorem for_range {lo : Int} {n : Nat} {g : TG} {tb : TS} {D : Ends} {σ : St} {H : Hp} (Pv : Nat → St → Hp → Prop) (h0 : Pv 0 σ H)
    (hs : ∀ i σ H, i < n → Pv i σ H → g (.int (lo + i)) σ H fun σ2 H2 => tb { D with nx := Pv (i + 1), ct := Pv (i + 1), bk := D.nx } σ2 H2) (hd : ∀ σ H, Pv n σ H → D.nx σ H) :
    ∃ W : Nat → Nat → St → Hp → Prop, (∃ m, W 0 m σ H) ∧ ∀ i m σ H, W i m σ H →
      ((Itr lo n).stop i H ∧ D.nx σ H) ∨ ((Itr lo n).go i H ∧ ∃ N : St → Hp → Prop, (∀ σ' H', N σ' H' → ∃ m', m' < m ∧ W (i + 1) m' σ' H') ∧ ∀ x H', (Itr lo n).yld i H x H' → g x σ H' fun σ2 H2 => tb { D with nx := N, ct := N, bk := D.nx } σ2 H2) := by
  refine ⟨fun i m σ H => m = n - i ∧ i ≤ n ∧ Pv i σ H, ⟨n, by simp, Nat.zero_le _, h0⟩, ?_⟩
  rintro i m σ H ⟨rfl, hi, p⟩
  by_cases hlt : i < n
  · refine .inr ⟨hlt, Pv (i + 1), fun σ' H' p' => ⟨n - (i + 1), by omega, rfl, hlt, p'⟩, fun x H' y => ?_⟩
    obtain ⟨e, y⟩ := y
    subst e y
    exact hs i σ _ hlt p
  · have e : i = n := by omega
    subst e
    exact .inl ⟨Nat.le_refl _, hd σ H p⟩
/-- while, by a word and a measure of the state -/
theorem while_by {c : TT} {tb : TS} {D : Ends} {σ : St} {H : Hp} (Pv : St → Hp → Prop) (μ : St → Hp → Nat) (h0 : Pv σ H)
    (hs : ∀ σ H, Pv σ H → c σ H fun b H1 => if b = true then tb { D with nx := fun σ' H' => Pv σ' H' ∧ μ σ' H' < μ σ H, ct := fun σ' H' => Pv σ' H' ∧ μ σ' H' < μ σ H, bk := D.nx } σ H1 else D.nx σ H1)
    (mono : ∀ σ H Q Q', (∀ b H1, Q b H1 → Q' b H1) → c σ H Q → c σ H Q') : tWhile c tb D σ H := by
  refine ⟨fun m σ H => m = μ σ H ∧ Pv σ H, ⟨_, rfl, h0⟩, ?_⟩
  rintro m σ H ⟨rfl, p⟩
  refine mono σ H _ _ (fun b H1 q => ?_) (hs σ H p)
  cases b with
  | true => exact ⟨_, fun σ' H' ⟨p', l⟩ => ⟨_, l, rfl, p'⟩, q⟩
  | false => exact q
end L2

namespace L2
open PySem PySem.Spec PyProof.Rows

abbrev R2 := V → V → Hp → VK → Prop
/-- a two-place operation on values: f is binaryOp op, inplaceOp op or compareOp op -/
def OpR (X : Cx) (f : Value → Value → Sem Value) (r : R2) : Prop :=
  ∀ (pins : List (Addr × Obj)) (s : Shared) (σ : St) (H : Hp) (x y : V) (v u : Value) (Q : VK), Inv X pins σ H s → RelV x v → RelV y u → r x y H Q →
    wpAny (model X.prog X.w) X.A (f v u) (EP X pins σ Q) X.xe s
/-- a one-place operation -/
def UnR (X : Cx) (f : Value → Sem Value) (r : V → Hp → VK → Prop) : Prop :=
  ∀ (pins : List (Addr × Obj)) (s : Shared) (σ : St) (H : Hp) (x : V) (v : Value) (Q : VK), Inv X pins σ H s → RelV x v → r x H Q →
    wpAny (model X.prog X.w) X.A (f v) (EP X pins σ Q) X.xe s
/-- a call of a value that is known (a builtin, a type) with values -/
def CallR (X : Cx) (f : Value) (r : List V → Hp → VK → Prop) : Prop :=
  ∀ (pins : List (Addr × Obj)) (s : Shared) (σ : St) (H : Hp) (xs : List V) (us : List Value) (Q : VK), Inv X pins σ H s → Vals xs us → r xs H Q →
    wpAny (model X.prog X.w) X.A (call f us) (EP X pins σ Q) X.xe s
def tOp (r : R2) (ta tb : TE) : TE := fun σ H Q => ta σ H fun x H1 => tb σ H1 fun y H2 => r x y H2 Q
def tUn (r : V → Hp → VK → Prop) (ta : TE) : TE := fun σ H Q => ta σ H fun x H1 => r x H1 Q
/-- ints in, under C, and a value out -/
def rI (C : Int → Int → Prop) (g : Int → Int → V) : R2 := fun x y H Q => ∃ i j, x = .int i ∧ y = .int j ∧ C i j ∧ Q (g i j) H
def rI0 (g : Int → Int → V) : R2 := fun x y H Q => ∃ i j, x = .int i ∧ y = .int j ∧ Q (g i j) H
def rU (g : Int → V) : V → Hp → VK → Prop := fun x H Q => ∃ i, x = .int i ∧ Q (g i) H

section
variable {X : Cx} {a b c : Expr} {ta tb tc : TE} {pos : Pos}

theorem binT (ha : PE X a ta) (hb : PE X b tb) {pins : List (Addr × Obj)} {s : Shared} {σ : St} {H : Hp} {R : V → V → Hp → Prop} (I : Inv X pins σ H s)
    (h : ta σ H fun x H1 => tb σ H1 fun y H2 => R x y H2) {Q : Value → Shared → Prop} {f : Value → Value → Sem Value}
    (hf : ∀ v u s2 x y H2, Inv X pins σ H2 s2 → RelV x v → RelV y u → R x y H2 → wpAny (model X.prog X.w) X.A (f v u) Q X.xe s2) :
    wpAny (model X.prog X.w) X.A (eval a X.env) (fun v s₁ => wpAny (model X.prog X.w) X.A (eval b X.env) (fun u s₂ => wpAny (model X.prog X.w) X.A (f v u) Q X.xe s₂) X.xe s₁) X.xe s := by
  refine thn (ha pins s σ H _ I h) fun v s1 ⟨x, H1, I1, r1, q1⟩ => ?_
  refine thn (hb pins s1 σ H1 _ I1 q1) fun u s2 ⟨y, H2, I2, r2, q2⟩ => ?_
  exact hf v u s2 x y H2 I2 r1 r2 q2

theorem pe_op {op : Operator} {r : R2} (ho : OpR X (binaryOp op) r) (ha : PE X a ta) (hb : PE X b tb) : PE X (.BinOp a op b pos) (tOp r ta tb) := by
  intro pins s σ H Q I h
  exact wpAny_BinOp (binT ha hb I h fun v u s2 x y H2 I2 rx ry q => ho pins s2 σ H2 x y v u Q I2 rx ry q)
theorem pe_un {op : UnaryOp} {r : V → Hp → VK → Prop} (ho : UnR X (unaryOp op) r) (ha : PE X a ta) : PE X (.UnaryOp op a pos) (tUn r ta) := by
  intro pins s σ H Q I h
  exact UnaryOp_ (thn (ha pins s σ H _ I h) fun v s1 ⟨x, H1, I1, r1, q1⟩ => ho pins s1 σ H1 x v Q I1 r1 q1)
theorem opI {f : Value → Value → Sem Value} {C : Int → Int → Prop} {g : Int → Int → Int}
    (rule : ∀ (i j : Int) (t u : Tok) (s : Shared) (Q : Value → Shared → Prop) (E : Value → Shared → Prop), C i j → Q (.int (g i j) s.toks) { s with toks := s.toks + 1 } → wpAny (model X.prog X.w) X.A (f (.int i t) (.int j u)) Q E s) :
    OpR X f (rI C fun i j => .int (g i j)) := by
  intro pins s σ H x y v u Q I rx ry h
  obtain ⟨i, j, rfl, rfl, hc, q⟩ := h
  obtain ⟨t, rfl⟩ := rx
  obtain ⟨t', rfl⟩ := ry
  exact rule i j t t' s _ _ hc ⟨.int (g i j), H, I.tok _, ⟨_, rfl⟩, q⟩
theorem opI0 {f : Value → Value → Sem Value} {g : Int → Int → Int}
    (rule : ∀ (i j : Int) (t u : Tok) (s : Shared) (Q : Value → Shared → Prop) (E : Value → Shared → Prop), Q (.int (g i j) s.toks) { s with toks := s.toks + 1 } → wpAny (model X.prog X.w) X.A (f (.int i t) (.int j u)) Q E s) :
    OpR X f (rI0 fun i j => .int (g i j)) := by
  intro pins s σ H x y v u Q I rx ry h
  obtain ⟨i, j, rfl, rfl, q⟩ := h
  obtain ⟨t, rfl⟩ := rx
  obtain ⟨t', rfl⟩ := ry
  exact rule i j t t' s _ _ ⟨.int (g i j), H, I.tok _, ⟨_, rfl⟩, q⟩
theorem opB0 {f : Value → Value → Sem Value} {g : Int → Int → Bool}
    (rule : ∀ (i j : Int) (t u : Tok) (s : Shared) (Q : Value → Shared → Prop) (E : Value → Shared → Prop), Q (.bool (g i j)) s → wpAny (model X.prog X.w) X.A (f (.int i t) (.int j u)) Q E s) :
    OpR X f (rI0 fun i j => .bl (g i j)) := by
  intro pins s σ H x y v u Q I rx ry h
  obtain ⟨i, j, rfl, rfl, q⟩ := h
  obtain ⟨t, rfl⟩ := rx
  obtain ⟨t', rfl⟩ := ry
  exact rule i j t t' s _ _ ⟨.bl (g i j), H, I, rfl, q⟩

def CDiv (i j : Int) : Prop := 0 < j ∧ j < 1073741824
def CPow (i j : Int) : Prop := 0 ≤ j ∧ j ≤ 1000000 ∧ i.natAbs < 2 ^ 64
def CMul (i j : Int) : Prop := (-(2 ^ 64) < i ∧ i < 2 ^ 64) ∨ (-(2 ^ 64) < j ∧ j < 2 ^ 64)
theorem CMul.ok {i j : Int} (h : CMul i j) : IntMulOk i j := by
  rcases h with ⟨h1, h2⟩ | ⟨h1, h2⟩
  · exact .of_left (intBits_le_64 h1 h2)
  · exact .of_right (intBits_le_64 h1 h2)
theorem op_add : OpR X (binaryOp .Add) (rI0 fun i j => .int (i + j)) := opI0 fun _ _ _ _ _ _ _ q => add_int q
theorem op_sub : OpR X (binaryOp .Sub) (rI0 fun i j => .int (i - j)) := opI0 fun _ _ _ _ _ _ _ q => sub_int q
theorem op_mul : OpR X (binaryOp .Mult) (rI CMul fun i j => .int (i * j)) := opI fun _ _ _ _ _ _ _ hc q => mul_int q hc.ok
/-- // by a positive divisor -/
theorem op_fdiv : OpR X (binaryOp .FloorDiv) (rI CDiv fun i j => .int (i / j)) := opI fun i j _ _ _ _ _ hc q => by
  have h1 : (0 : Int) < j := hc.1
  have h2 : j < 1073741824 := hc.2
  exact floordiv_int (by omega) (by rw [Int.fdiv_eq_ediv_of_nonneg i (by omega)]; exact q) (.inl (PyProof.noPylong_small (by omega)))
/-- % by a positive divisor of any size -/
theorem op_mod : OpR X (binaryOp .Mod) (rI (fun _ j => 0 < j) fun i j => .int (i % j)) := opI fun i j _ _ _ _ _ hc q => by
  have h1 : (0 : Int) < j := hc
  exact mod_int' (by omega) (by rw [Int.fmod_eq_emod_of_nonneg i (by omega)]; exact q)
theorem op_pow : OpR X (binaryOp .Pow) (rI CPow fun i j => .int (i ^ j.toNat)) := opI fun _ _ _ _ _ _ _ hc q => pow_int_small hc.1 hc.2.1 hc.2.2 q
theorem unI {f : Value → Sem Value} {g : Int → Int}
    (rule : ∀ (i : Int) (t : Tok) (s : Shared) (Q : Value → Shared → Prop) (E : Value → Shared → Prop), Q (.int (g i) s.toks) { s with toks := s.toks + 1 } → wpAny (model X.prog X.w) X.A (f (.int i t)) Q E s) :
    UnR X f (rU fun i => .int (g i)) := by
  intro pins s σ H x v Q I rx h
  obtain ⟨i, rfl, q⟩ := h
  obtain ⟨t, rfl⟩ := rx
  exact rule i t s _ _ ⟨.int (g i), H, I.tok _, ⟨_, rfl⟩, q⟩
theorem un_neg : UnR X (unaryOp .USub) (rU fun i => .int (-i)) := unI fun _ _ _ _ _ q => neg_int q
end

/-- the scalars that == tells apart as data does -/
def scal : V → V → Bool
  | .non, .non => true | .non, .int _ => true | .int _, .non => true | .non, .bl _ => true | .bl _, .non => true | .non, .str _ => true | .str _, .non => true
  | .int _, .int _ => true | .bl _, .bl _ => true | .str _, .str _ => true | .byt _, .byt _ => true
  | .int _, .str _ => true | .str _, .int _ => true | .bl _, .str _ => true | .str _, .bl _ => true
  | _, _ => false
def rEq : R2 := fun x y H Q => scal x y = true ∧ Q (.bl (decide (x = y))) H
def rNe : R2 := fun x y H Q => scal x y = true ∧ Q (.bl (!decide (x = y))) H

theorem dec_int {i j : Int} : decide (V.int i = V.int j) = (i == j) := by
  rw [Bool.eq_iff_iff]
  simp
theorem dec_bl {i j : Bool} : decide (V.bl i = V.bl j) = (i == j) := by
  rw [Bool.eq_iff_iff]
  simp
theorem dec_str {i j : Str} : decide (V.str i = V.str j) = (i == j) := by
  rw [Bool.eq_iff_iff]
  simp
theorem dec_byt {i j : Array UInt8} : decide (V.byt i = V.byt j) = (i.toList == j.toList) := by
  rw [Bool.eq_iff_iff]
  cases i
  cases j
  simp

section
variable {X : Cx} {a b c : Expr} {ta tb tc : TE} {pos : Pos}
theorem fin_bl {pins : List (Addr × Obj)} {σ : St} {H : Hp} {s : Shared} {Q : VK} {k k' : Bool} (I : Inv X pins σ H s) (q : Q (.bl k) H) (e : k = k') : EP X pins σ Q (.bool k') s := by
  subst e
  exact ⟨.bl k, H, I, rfl, q⟩
theorem op_eq : OpR X (compareOp .Eq) rEq := by
  intro pins s σ H x y v u Q I rx ry h
  obtain ⟨hs, q⟩ := h
  cases x with
  | non =>
    cases rx
    cases y with
    | non => cases ry; exact PySem.EqNone.eq_none_none (fin_bl I q (by simp))
    | bl j => cases ry; exact PySem.EqNone.eq_none_bool (fin_bl I q (by simp))
    | int j => obtain ⟨t', rfl⟩ := ry; exact PySem.EqNone.eq_none_int (fin_bl I q (by simp))
    | str j => obtain ⟨t', rfl⟩ := ry; exact PySem.EqNone.eq_none_str (fin_bl I q (by simp))
    | _ => exact absurd (show false = true from hs) Bool.false_ne_true
  | bl i =>
    cases rx
    cases y with
    | non => cases ry; exact PySem.EqNone.eq_bool_none (fin_bl I q (by simp))
    | bl j => cases ry; exact eq_bool (fin_bl I q dec_bl)
    | str j => obtain ⟨t', rfl⟩ := ry; exact PySem.EqMixed.eq_bool_str (fin_bl I q (by simp))
    | _ => exact absurd (show false = true from hs) Bool.false_ne_true
  | int i =>
    obtain ⟨t, rfl⟩ := rx
    cases y with
    | non => cases ry; exact PySem.EqNone.eq_int_none (fin_bl I q (by simp))
    | int j => obtain ⟨t', rfl⟩ := ry; exact eq_int (fin_bl I q dec_int)
    | str j => obtain ⟨t', rfl⟩ := ry; exact PySem.EqMixed.eq_int_str (fin_bl I q (by simp))
    | _ => exact absurd (show false = true from hs) Bool.false_ne_true
  | str i =>
    obtain ⟨t, rfl⟩ := rx
    cases y with
    | non => cases ry; exact PySem.EqNone.eq_str_none (fin_bl I q (by simp))
    | bl j => cases ry; exact PySem.EqMixed.eq_str_bool (fin_bl I q (by simp))
    | int j => obtain ⟨t', rfl⟩ := ry; exact PySem.EqMixed.eq_str_int (fin_bl I q (by simp))
    | str j => obtain ⟨t', rfl⟩ := ry; exact eq_str (fin_bl I q dec_str)
    | _ => exact absurd (show false = true from hs) Bool.false_ne_true
  | byt i =>
    obtain ⟨t, rfl⟩ := rx
    cases y with
    | byt j => obtain ⟨t', rfl⟩ := ry; exact PySem.W.eq_bytes (fin_bl I q dec_byt)
    | _ => exact absurd (show false = true from hs) Bool.false_ne_true
  | _ => cases y <;> exact absurd (show false = true from hs) Bool.false_ne_true
theorem op_ne : OpR X (compareOp .NotEq) rNe := by
  intro pins s σ H x y v u Q I rx ry h
  obtain ⟨hs, q⟩ := h
  cases x with
  | non =>
    cases rx
    cases y with
    | non => cases ry; exact PySem.EqNone.ne_none_none (fin_bl I q (by simp))
    | bl j => cases ry; exact PySem.EqNone.ne_none_bool (fin_bl I q (by simp))
    | int j => obtain ⟨t', rfl⟩ := ry; exact PySem.EqNone.ne_none_int (fin_bl I q (by simp))
    | str j => obtain ⟨t', rfl⟩ := ry; exact PySem.EqNone.ne_none_str (fin_bl I q (by simp))
    | _ => exact absurd (show false = true from hs) Bool.false_ne_true
  | bl i =>
    cases rx
    cases y with
    | non => cases ry; exact PySem.EqNone.ne_bool_none (fin_bl I q (by simp))
    | bl j => cases ry; exact ne_bool (fin_bl I q (congrArg not dec_bl))
    | str j => obtain ⟨t', rfl⟩ := ry; exact PySem.EqMixed.ne_bool_str (fin_bl I q (by simp))
    | _ => exact absurd (show false = true from hs) Bool.false_ne_true
  | int i =>
    obtain ⟨t, rfl⟩ := rx
    cases y with
    | non => cases ry; exact PySem.EqNone.ne_int_none (fin_bl I q (by simp))
    | int j => obtain ⟨t', rfl⟩ := ry; exact ne_int (fin_bl I q (congrArg not dec_int))
    | str j => obtain ⟨t', rfl⟩ := ry; exact PySem.EqMixed.ne_int_str (fin_bl I q (by simp))
    | _ => exact absurd (show false = true from hs) Bool.false_ne_true
  | str i =>
    obtain ⟨t, rfl⟩ := rx
    cases y with
    | non => cases ry; exact PySem.EqNone.ne_str_none (fin_bl I q (by simp))
    | bl j => cases ry; exact PySem.EqMixed.ne_str_bool (fin_bl I q (by simp))
    | int j => obtain ⟨t', rfl⟩ := ry; exact PySem.EqMixed.ne_str_int (fin_bl I q (by simp))
    | str j => obtain ⟨t', rfl⟩ := ry; exact ne_str (fin_bl I q (congrArg not dec_str))
    | _ => exact absurd (show false = true from hs) Bool.false_ne_true
  | byt i =>
    obtain ⟨t, rfl⟩ := rx
    cases y with
    | byt j => obtain ⟨t', rfl⟩ := ry; exact PySem.W.ne_bytes (fin_bl I q (congrArg not dec_byt))
    | _ => exact absurd (show false = true from hs) Bool.false_ne_true
  | _ => cases y <;> exact absurd (show false = true from hs) Bool.false_ne_true

theorem op_lt : OpR X (compareOp .Lt) (rI0 fun i j => .bl (decide (i < j))) := opB0 fun _ _ _ _ _ _ _ q => lt_int q
theorem op_gt : OpR X (compareOp .Gt) (rI0 fun i j => .bl (decide (j < i))) := opB0 fun _ _ _ _ _ _ _ q => gt_int q
theorem op_ge : OpR X (compareOp .GtE) (rI0 fun i j => .bl (decide (j ≤ i))) := opB0 fun _ _ _ _ _ _ _ q => ge_int q
/-- two rules for one operation: by cases -/
theorem OpR.or {f : Value → Value → Sem Value} {r r' : R2} (h : OpR X f r) (h' : OpR X f r') : OpR X f (fun x y H Q => r x y H Q ∨ r' x y H Q) := by
  intro pins s σ H x y v u Q I rx ry q
  rcases q with q | q
  · exact h pins s σ H x y v u Q I rx ry q
  · exact h' pins s σ H x y v u Q I rx ry q

theorem nomark (b : Expr) {op : CmpOp} (h : op ≠ .In := by decide) (h2 : op ≠ .NotIn := by decide) : behindInMarks op b = false := by
  have e1 : (op == CmpOp.In) = false := by cases op <;> first | rfl | exact absurd rfl h
  have e2 : (op == CmpOp.NotIn) = false := by cases op <;> first | rfl | exact absurd rfl h2
  cases b <;> simp [behindInMarks, e1, e2]
/-- a comparison as a value; hm: nomark b, or (for in, not in) by with_unfolding_all rfl -/
theorem pe_cmpR {op : CmpOp} {r : R2} (ho : OpR X (compareOp op) r) (ha : PE X a ta) (hb : PE X b tb) (hm : behindInMarks op b = false) : PE X (.Compare a [op] [b] pos) (tOp r ta tb) := by
  intro pins s σ H Q I h
  exact wpAny_Compare1 (binT ha hb I h fun v u s2 x y H2 I2 rx ry q => ho pins s2 σ H2 x y v u Q I2 rx ry q) hm
/-- a reading of a value as a test -/
def tTest (t : TE) : TT := fun σ H Q => t σ H fun x H' => ∃ k, x = .bl k ∧ Q k H'
theorem pt_cmpR {op : CmpOp} {r : R2} (ho : OpR X (compareOp op) r) (ha : PE X a ta) (hb : PE X b tb) (hm : behindInMarks op b = false) : PT X (.Compare a [op] [b] pos) (tTest (tOp r ta tb)) := by
  intro pins s σ H Q I h
  refine wpAny_isTrue_Compare1 (thn (ha pins s σ H _ I h) fun v s1 ⟨x, H1, I1, r1, q1⟩ => thn (hb pins s1 σ H1 _ I1 q1) fun u s2 ⟨y, H2, I2, r2, q2⟩ =>
    thn (ho pins s2 σ H2 x y v u _ I2 r1 r2 q2) fun c s3 ⟨z, H3, I3, r3, k, e, q3⟩ => ?_) hm
  subst e
  cases r3
  exact wpAny_truthy_bool ⟨H3, I3, q3⟩
theorem line63 : (sizeLine : Nat) < 2 ^ 63 := by rw [sizeLine_eq]; decide
theorem vals1 {x : V} {us : List Value} (r : Vals [x] us) : ∃ u, us = [u] ∧ RelV x u := by
  cases r with
  | cons r1 r2 => cases r2; exact ⟨_, rfl, r1⟩
theorem vals2 {x y : V} {us : List Value} (r : Vals [x, y] us) : ∃ u w', us = [u, w'] ∧ RelV x u ∧ RelV y w' := by
  cases r with
  | cons r1 r2 =>
    cases r2 with
    | cons r3 r4 => cases r4; exact ⟨_, _, rfl, r1, r3⟩
theorem call_abs : CallR X (.builtin "abs") (fun xs H Q => ∃ i, xs = [.int i] ∧ Q (.int (if i < 0 then -i else i)) H) := by
  intro pins s σ H xs us Q I r h
  obtain ⟨i, rfl, q⟩ := h
  obtain ⟨u, rfl, t, rfl⟩ := vals1 r
  exact call_abs_int fun u tk => ⟨.int (if i < 0 then -i else i), H, I.tok _, ⟨_, rfl⟩, q⟩
theorem call_max2 (hc : X.calm = true) : CallR X (.builtin "max") (fun xs H Q => ∃ i j, xs = [.int i, .int j] ∧ Q (.int (if j > i then j else i)) H) := by
  intro pins s σ H xs us Q I r h
  obtain ⟨i, j, rfl, q⟩ := h
  obtain ⟨u, w', rfl, ⟨t, rfl⟩, ⟨t', rfl⟩⟩ := vals2 r
  refine max_two_ints (I.ok.hd hc) fun h' tk k => ⟨_, H, I.kept k, ?_, q⟩
  by_cases hj : j > i
  · rw [if_pos hj, if_pos hj]; exact ⟨_, rfl⟩
  · rw [if_neg hj, if_neg hj]; exact ⟨_, rfl⟩
theorem call_min2 (hc : X.calm = true) : CallR X (.builtin "min") (fun xs H Q => ∃ i j, xs = [.int i, .int j] ∧ Q (.int (if j < i then j else i)) H) := by
  intro pins s σ H xs us Q I r h
  obtain ⟨i, j, rfl, q⟩ := h
  obtain ⟨u, w', rfl, ⟨t, rfl⟩, ⟨t', rfl⟩⟩ := vals2 r
  refine min_two_ints (I.ok.hd hc) fun h' tk k => ⟨_, H, I.kept k, ?_, q⟩
  by_cases hj : j < i
  · rw [if_pos hj, if_pos hj]; exact ⟨_, rfl⟩
  · rw [if_neg hj, if_neg hj]; exact ⟨_, rfl⟩
theorem call_int1 : CallR X (.type "int") (fun xs H Q => (∃ i, xs = [.int i] ∧ Q (.int i) H) ∨ ∃ k, xs = [.bl k] ∧ Q (.int (if k then 1 else 0)) H) := by
  intro pins s σ H xs us Q I r h
  rcases h with ⟨i, rfl, q⟩ | ⟨k, rfl, q⟩
  · obtain ⟨u, rfl, t, rfl⟩ := vals1 r
    exact call_int_int ⟨.int i, H, I, ⟨_, rfl⟩, q⟩
  · obtain ⟨u, rfl, r1⟩ := vals1 r
    cases r1
    exact call_int_bool ⟨.int (if k then 1 else 0), H, I.tok _, ⟨_, rfl⟩, q⟩
end
end L2

namespace L2
open PySem PySem.Spec PyProof.Rows

structure ObjM (h : Heap) (x dx C : Addr) (mA : Str → Option Value) : Prop where
  obj : h.get? x = some (PySem.W.instObj C dx)
  ns : h.Ns1 dx mA
  ne : dx ≠ x

theorem lookIn_ns {h : Heap} {dx : Addr} {mA : Str → Option Value} (n : h.Ns1 dx mA) : ∃ od, h.get? dx = some od ∧ ∀ name, PySem.W.lookIn name od = some (mA name) := by
  obtain ⟨o, es, ep, ho, hd, hk, _, hm⟩ := n
  refine ⟨o, ho, fun name => ?_⟩
  have e := hm name
  unfold nsFind findBy at e
  rw [← Array.find?_toList] at e
  unfold PySem.W.lookIn
  rw [hd]
  dsimp only
  split
  · rename_i y q
    rw [q] at e
    exact congrArg some e
  · rename_i q
    rw [q] at e
    have a : es.toList.any (·.refKey) = false := by
      rw [List.any_eq_false]
      intro y hy
      obtain ⟨z, t, hkey⟩ := hk y (Array.mem_toList_iff.mp hy)
      simp [DictEntry.refKey, hkey]
    have a' : ¬ es.toList.any (·.refKey) = true := by rw [a]; exact Bool.false_ne_true
    rw [if_neg a']
    exact congrArg some e

theorem ObjM.look {h : Heap} {x dx C : Addr} {mA : Str → Option Value} (I : ObjM h x dx C mA) : ∃ od, PySem.W.InstAt h x (PySem.W.instObj C dx) C (some od) ∧ ∀ name, PySem.W.lookIn name od = some (mA name) :=
  let ⟨od, ho, hl⟩ := lookIn_ns I.ns
  ⟨od, ⟨I.obj, rfl, rfl, ho⟩, hl⟩

section
variable {prog : Program} {w : World} {A : Around} {E : Value → Shared → Prop} {s : Shared} {K : PySem.W.Frag} {x dx C f : Addr} {mA : Str → Option Value} {name : Str} {v : Value}

end

section
variable {P : Program} {w : World} {H H' : Hp} {h h' : Heap} {a C dx : Addr} {fs fs' : List (Str × V)}
theorem ins_get (hok : HOk P w H h) (e : H a = some (.ins C dx fs)) : ∃ mA, ObjM h a dx C mA ∧ (∀ f, RelO (fs.lookup f) (mA f)) ∧ PySem.Within mA (fs.map (·.1)) ∧ fs.length ≤ 1000 ∧ H dx = some (.own a) := by
  obtain ⟨d, z, ne, ob, mA, n, r, q⟩ := (show ObjOk P w H h a (.ins C dx fs) from hok a _ e)
  exact ⟨mA, ⟨ob, n, ne⟩, r, q, z, d⟩
end

structure Cls (K : PySem.W.Frag) (C : Addr) : Prop where
  pg : PySem.W.plainGet K C Str.empty = true
  hd : PySem.W.hasDictIn K C = true
  po : PySem.W.plainOver K C = true
  sa : PySem.W.findIn K (.ref C) "__setattr__" = some (some (.builtin "object.__setattr__"))
theorem Cls.get {K : PySem.W.Frag} {C : Addr} (c : Cls K C) (f : Str) : PySem.W.plainGet K C f = true := c.pg
section
variable {X : Cx} {pins : List (Addr × Obj)} {σ : St} {H : Hp} {s : Shared} {a C dx : Addr} {fs : List (Str × V)} {f : Str} {v : V} {A : Around} {E : Value → Shared → Prop}

/-- a new instance, tracked, without attributes -/
theorem Inv.made (I : Inv X pins σ H s) : Inv X pins σ (upd (upd H s.heap.objs.size (.own (s.heap.objs.size + 1))) (s.heap.objs.size + 1) (.ins C s.heap.objs.size []))
    { s with heap := (s.heap.push PySem.W.emptyDict).push (PySem.W.instObj C s.heap.objs.size) } := by
  have e1 : (s.heap.push PySem.W.emptyDict).get? s.heap.objs.size = some PySem.W.emptyDict := Heap.get?_push_size s.heap rfl
  have e2 : ((s.heap.push PySem.W.emptyDict).push (PySem.W.instObj C s.heap.objs.size)).get? (s.heap.objs.size + 1) = some (PySem.W.instObj C s.heap.objs.size) := by
    have := Heap.get?_push_size (s.heap.push PySem.W.emptyDict) (o := PySem.W.instObj C s.heap.objs.size) rfl
    rwa [Heap.size_push] at this
  have e3 : (s.heap.push PySem.W.emptyDict).Ns s.heap.objs.size (fun _ => none) := ⟨PySem.W.emptyDict, #[], _, e1, rfl, (fun e he => absurd he (by simp)), fun _ => rfl⟩
  have I1 := I.laid (a := s.heap.objs.size) (o := .own (s.heap.objs.size + 1)) (h' := s.heap.push PySem.W.emptyDict) (t' := s.toks) (fun b u q => Heap.get?_push_of_some _ q) (Nat.le_refl _) ⟨_, e1⟩
  refine I1.laid (a := s.heap.objs.size + 1) (o := .ins C s.heap.objs.size []) (t' := s.toks) (fun b u q => Heap.get?_push_of_some _ q) (Nat.le_of_eq (Heap.size_push _ _)) ?_
  have ne : s.heap.objs.size ≠ s.heap.objs.size + 1 := Nat.ne_of_lt (Nat.lt_succ_self _)
  refine ⟨by rw [upd_ne ne, upd_same], Nat.zero_le _, ne, e2, fun _ => none, (Heap.Ns1.of_empty e3).at fun o q => Heap.get?_push_of_some _ q, fun _ => True.intro, fun y hy => absurd rfl hy⟩

end

section
variable {X : Cx} {o e value : Expr} {f : Str} {pos pos' tpos : Pos} {ta tv : TE}
end

section
variable {X : Cx} {pins : List (Addr × Obj)} {σ : St} {H : Hp} {s : Shared} {A : Around} {E : Value → Shared → Prop} {Q : Value → Shared → Prop} {c : Value} {b : Bool}
/-- the type of a value, as the fragment's deciders take it; for an instance its class -/
inductive TyOf (K : PySem.W.Frag) (H : Hp) : V → Value → Prop where
  | non : TyOf K H .non (.type "NoneType")
  | bl (x : Bool) : TyOf K H (.bl x) (.type "bool")
  | int (i : Int) : TyOf K H (.int i) (.type "int")
  | str (x : Str) : TyOf K H (.str x) (.type "str")
  | flt (x : UInt64) : TyOf K H (.flt x) (.type "float")
  | lst {a : Addr} {xs : List V} (e : H a = some (.lst xs)) : TyOf K H (.ref a) (.type "list")
  | frz {a : Addr} {o : Obj} {xs : List V} (e : H a = some (.frz o (.lst xs))) : TyOf K H (.ref a) (.type "list")
  | tup {a : Addr} {xs : List V} (e : H a = some (.tup xs)) : TyOf K H (.ref a) (.type "tuple")
  | dK {a : Addr} {kvs : List (Key × V)} (e : H a = some (.dK kvs)) : TyOf K H (.ref a) (.type "dict")
  | dT {a : Addr} {kvs : List (List Key × V)} (e : H a = some (.dT kvs)) : TyOf K H (.ref a) (.type "dict")
  | ins {a C dx : Addr} {fs : List (Str × V)} (e : H a = some (.ins C dx fs)) (cl : Cls K C) (ha : PySem.W.findIn K (.ref C) "__class__" = some (some (.builtin "object.__class__")))
      (hn : PySem.W.specialIn K (.builtin "object.__class__") "__get__" = some (some (.builtin "getset_descriptor.__get__"))) (htk : PySem.W.takesIn K (.builtin "object.__class__") = some true)
      (hm : PySem.W.mroIn K C (.type "object") = some true) : TyOf K H (.ref a) (.ref C)
/-- isinstance(x, c) for one class c, a built-in or an own one: kitOne's answer -/
theorem isinst_ok {x : V} {u t : Value} (I : Inv X pins σ H s) (rx : RelV x u) (ty : TyOf X.K H x t) (e : PySem.W.kitOne X.K t c = some b) (h : ∀ tk, Q (.bool b) { s with toks := tk }) :
    wpAny (model X.prog X.w) A (call (.builtin "isinstance") [u, c]) Q E s := by
  cases ty with
  | non => cases (show u = Value.none from rx); exact PySem.W.kia_one PySem.W.kitx_none I.kIn True.intro e (fun z => nomatch z) h
  | bl y => cases (show u = Value.bool y from rx); exact PySem.W.kia_one PySem.W.kitx_bool I.kIn True.intro e (fun z => nomatch z) h
  | int i => obtain ⟨t, q⟩ := (show ∃ t, u = Value.int i t from rx); cases q; exact PySem.W.kia_one PySem.W.kitx_int I.kIn True.intro e (fun z => nomatch z) h
  | str y => obtain ⟨t, q⟩ := (show ∃ t, u = Value.str y t from rx); cases q; exact PySem.W.kia_one PySem.W.kitx_str I.kIn True.intro e (fun z => nomatch z) h
  | flt y => obtain ⟨t, q⟩ := (show ∃ t, u = Value.float y t from rx); cases q; exact PySem.W.kia_one PySem.W.kitx_float I.kIn True.intro e (fun z => nomatch z) h
  | @lst a xs ea =>
    cases (show u = Value.ref a from rx)
    obtain ⟨_, _, n, _, h1⟩ := (show ObjOk X.prog X.w H s.heap a (.lst xs) from I.hok a _ ea)
    exact PySem.W.kia_one PySem.W.kitx_list I.kIn ⟨_, h1, rfl⟩ e (fun z => nomatch z) h
  | @frz a ob xs ea =>
    cases (show u = Value.ref a from rx)
    obtain ⟨_, _, _, n, _, h1⟩ := (show ObjOk X.prog X.w H s.heap a (.frz ob (.lst xs)) from I.hok a _ ea)
    exact PySem.W.kia_one PySem.W.kitx_list I.kIn ⟨_, h1, rfl⟩ e (fun z => nomatch z) h
  | @tup a xs ea =>
    cases (show u = Value.ref a from rx)
    obtain ⟨_, _, _, p⟩ := (show ObjOk X.prog X.w H s.heap a (.tup xs) from I.hok a _ ea)
    obtain ⟨o, h1, h2, _⟩ := p
    exact PySem.W.kia_one PySem.W.kitx_tuple I.kIn ⟨o, h1, h2⟩ e (fun z => nomatch z) h
  | @dK a kvs ea =>
    cases (show u = Value.ref a from rx)
    obtain ⟨_, _, vs, _, p⟩ := (show ObjOk X.prog X.w H s.heap a (.dK kvs) from I.hok a _ ea)
    obtain ⟨o, es, ep, h1, h2, _⟩ := p
    exact PySem.W.kia_one PySem.W.kitx_dict I.kIn ⟨o, h1, h2.1⟩ e (fun z => nomatch z) h
  | @dT a kvs ea =>
    cases (show u = Value.ref a from rx)
    obtain ⟨_, _, xs, _, o, es, ep, h1, h2, _⟩ := (show ObjOk X.prog X.w H s.heap a (.dT kvs) from I.hok a _ ea)
    exact PySem.W.kia_one PySem.W.kitx_dict I.kIn ⟨o, h1, h2.1⟩ e (fun z => nomatch z) h
  | @ins a C dx fs ea cl ha hn htk hm =>
    cases (show u = Value.ref a from rx)
    obtain ⟨mA, O, _⟩ := ins_get I.hok ea
    obtain ⟨od, J, _⟩ := O.look
    exact PySem.W.kia_one (PySem.W.kitx_own (cl.get _) cl.hd ha hn htk hm) I.kIn J e (fun z => nomatch z) h
end
end L2

namespace L2
open PySem PySem.Spec PyProof.Rows

structure Room (k : Nat) (A : Around) : Prop where
  hd : A.handled = none
  dp : A.depth + 3 * k + 5 < recursionLimit
  un : A.units + 16 * k + 200 < cLine
  gd : A.guards = some []
theorem Room.mono {j k : Nat} {A : Around} (r : Room k A) (h : j ≤ k) : Room j A := ⟨r.hd, by have := r.dp; omega, by have := r.un; omega, r.gd⟩
theorem Room.deeper {k : Nat} {A : Around} (r : Room (k + 1) A) (env : Env) : Room k (A.deeper env) :=
  ⟨r.hd, by have := r.dp; show A.depth + 1 + 3 * k + 5 < _; omega, by have := r.un; show A.units + 3 + 16 * k + 200 < _; omega, r.gd⟩
theorem Room.in1 {k : Nat} {A : Around} (r : Room (k + 1) A) : Room k A.in1 :=
  ⟨r.hd, by have := r.dp; show A.depth + 3 * k + 5 < _; omega, by have := r.un; show A.units + 1 + 16 * k + 200 < _; omega, r.gd⟩
theorem Room.depth {k : Nat} {A : Around} (r : Room k A) : A.depth < recursionLimit := by have := r.dp; omega
theorem Room.units {k : Nat} {A : Around} (r : Room k A) : A.units + 64 < cLine := by have := r.un; omega
def tNil : TA := fun _ H Q => Q [] H
def tCons (ta : TE) (tr : TA) : TA := fun σ H Q => ta σ H fun x H1 => tr σ H1 fun xs H2 => Q (x :: xs) H2
section
variable {X : Cx} {e : Expr} {es : List Expr} {te : TE} {t : TA} {pos : Pos}
theorem pa_nil : PA X [] tNil := fun _ _ _ _ H Q I h => Calls.spliced_nil ⟨[], H, I, .nil, h⟩
theorem pa_cons (ha : PE X e te) (hr : PA X es t) (hs : starEach (e :: es) X.env = (false, eval e X.env) :: starEach es X.env := by rfl) : PA X (e :: es) (tCons te t) := by
  intro pos pins s σ H Q I h
  rw [hs]
  show wpAny _ _ (spliced ((false, eval e X.env) :: backTo pos (starEach es X.env))) _ _ s
  refine Calls.spliced_cons (thn (ha pins s σ H _ I h) fun u s1 ⟨x, H1, I1, r1, q1⟩ => ?_)
  exact thn (hr pos pins s1 σ H1 _ I1 q1) fun us s2 ⟨xs, H2, I2, r2, q2⟩ => ⟨x :: xs, H2, I2, .cons r1 r2, q2⟩

/-- a tuple, a list of written items -/
def tTup (t : TA) : TE := fun σ H Q => t σ H fun xs H1 => xs.length ≤ sizeLine ∧ ∀ p, H1 p = none → Q (.ref p) (upd H1 p (.tup xs))
def tLst (t : TA) : TE := fun σ H Q => t σ H fun xs H1 => xs.length ≤ sizeLine ∧ ∀ p, H1 p = none → Q (.ref p) (upd H1 p (.lst xs))
theorem pe_tup {x1} (h : PA X es t) : PE X (.Tuple es x1 pos) (tTup t) := by
  intro pins s σ H Q I hq
  refine wpAny_Tuple_spliced (thn (h pos pins s σ H _ I hq) fun us s1 ⟨xs, H1, I1, r, z, q⟩ => ⟨by rw [← r.length]; exact z, ?_⟩)
  have hf : H1 s1.heap.objs.size = none := I1.hok.fresh (Nat.le_refl _)
  refine ⟨.ref s1.heap.objs.size, upd H1 s1.heap.objs.size (.tup xs), I1.laid (t' := s1.toks) (fun b u e => Heap.get?_push_of_some _ e) (Nat.le_refl _) ?_, rfl, q _ hf⟩
  exact ⟨z, us, r, ⟨_, Heap.get?_push_size _ rfl, rfl, _, rfl, rfl⟩⟩
theorem pe_lst (h : PA X es t) : PE X (.List es pos) (tLst t) := by
  intro pins s σ H Q I hq
  refine wpAny_List_spliced (thn (h pos pins s σ H _ I hq) fun us s1 ⟨xs, H1, I1, r, z, q⟩ => ⟨by rw [← r.length]; exact z, ?_⟩)
  have hf : H1 s1.heap.objs.size = none := I1.hok.fresh (Nat.le_refl _)
  refine ⟨.ref s1.heap.objs.size, upd H1 s1.heap.objs.size (.lst xs), I1.laid (t' := s1.toks) (fun b u e => Heap.get?_push_of_some _ e) (Nat.le_refl _) ?_, rfl, q _ hf⟩
  exact ⟨z, us, 0, r, Heap.get?_push_size _ rfl⟩
end

/-- a def's promise: the bound arguments in the parameters' order, the heap, the wanted end, the wanted exception -/
abbrev Sp := List V → Hp → VK → XK → Prop
/-- how an exception lies behind a call (file 08 gives it): the callers' frames, abstract heap and state ahead of the call, the wish, the exception, the state -/
abbrev CXT := List Env → Hp → Shared → XK → Value → Shared → Prop

/-- the state at a call -/
structure Env0 (P : Program) (w : World) (K : PySem.W.Frag) (mg : Str → Option Value) (base : Heap) (A : Around) (outer : List Env) (s : Shared) (H : Hp) : Prop where
  frames : A.frames = some outer
  mod : Mod K mg base
  bs : ∀ b o, base.get? b = some o → s.heap.get? b = some o ∧ H b = none
  bsz : base.objs.size ≤ s.heap.objs.size
  funs : s.heap.FunFrames base outer
  frf : ∀ b ∈ frs outer, H b = none
  hok : HOk P w H s.heap
  bare : AllBare s.gens
/-- a call's end -/
def CE (outer : List Env) (P : Program) (w : World) (H : Hp) (s : Shared) (Q : VK) (u : Value) (s' : Shared) : Prop :=
  ∃ v H', s'.os = s.os ∧ AllBare s'.gens ∧ Un (frs outer) [] H H' s.heap s'.heap ∧ HOk P w H' s'.heap ∧ RelV v u ∧ Q v H'
def CR (CX : CXT) (outer : List Env) (P : Program) (w : World) (H : Hp) (s : Shared) (Q : VK) (E : XK) (r : Result) (s' : Shared) : Prop :=
  match r with
  | .ok (.ret u) => CE outer P w H s Q u s'
  | .ok _ => False
  | .error e => CX outer H s E e s'
structure FnOk (P : Program) (w : World) (K : PySem.W.Frag) (mg : Str → Option Value) (base : Heap) (CX : CXT) (k : Nat) (f : Addr) (fd : FuncData) (ps : List Str) (sp : Sp) : Prop where
  len : ∀ vs H Q E, sp vs H Q E → vs.length = ps.length
  run : ∀ (A : Around) (outer : List Env) (s : Shared) (H : Hp) (args : Args) (us : List Value) (vs : List V) (Q : VK) (E : XK), Room k A → Env0 P w K mg base A outer s H → BindsTo s fd args (ps.zip us) → Vals vs us → sp vs H Q E →
    codeAny (model P w) A (.call (.ref f) args) (CR CX outer P w H s Q E) s
theorem FnOk.mono {P : Program} {w : World} {K : PySem.W.Frag} {mg : Str → Option Value} {base : Heap} {CX : CXT} {j k : Nat} {f : Addr} {fd : FuncData} {ps : List Str} {sp : Sp} (F : FnOk P w K mg base CX j f fd ps sp) (h : j ≤ k) :
    FnOk P w K mg base CX k f fd ps sp := ⟨F.len, fun A outer s H args us vs Q E hr => F.run A outer s H args us vs Q E (hr.mono h)⟩
theorem Env0.in1 {P : Program} {w : World} {K : PySem.W.Frag} {mg : Str → Option Value} {base : Heap} {A : Around} {outer : List Env} {s : Shared} {H : Hp} (e : Env0 P w K mg base A outer s H) :
    Env0 P w K mg base A.in1 outer s H := ⟨e.frames, e.mod, e.bs, e.bsz, e.funs, e.frf, e.hok, e.bare⟩

section
variable {X : Cx} {pins : List (Addr × Obj)} {σ : St} {H : Hp} {s s' : Shared}
/-- from a body: what a callee wants -/
theorem Inv.env0 (I : Inv X pins σ H s) : Env0 X.prog X.w X.K X.mg X.base X.A X.stack s H :=
  ⟨I.ok.frames, I.ok.mod, I.bs, Nat.le_trans I.ok.bsz I.sz, I.stack, I.stkFree, I.hok, I.bare⟩
/-- behind a call -/
theorem Inv.after {Q : VK} {u : Value} (I : Inv X pins σ H s) (h : CE X.stack X.prog X.w H s Q u s') : EP X pins σ Q u s' := by
  obtain ⟨v, H', os, bare, un, hok, r, q⟩ := h
  obtain ⟨hh, g, d, t, os'⟩ := s'
  obtain rfl : os' = s.os := os
  exact ⟨v, H', I.call (h' := hh) (g' := g) (d' := d) (t' := t) (ch := []) un hok bare (fun b z => absurd z (by simp)), r, q⟩
end

/-- f(..): the written arguments, then the defaults dvs; E: what is wanted of an exception -/
def tCall (sp : Sp) (dvs : List V) (E : XK) (t : TA) : TE := fun σ H Q => t σ H fun vs H1 => sp (vs ++ dvs) H1 Q E
/-- how the parameters are bound: us the positional arguments, kw the keywords' values by name, ds the defaults that fill up -/
def Binds (K : PySem.W.Frag) (fd : FuncData) (ps : List Str) (ds : List Value) : Prop :=
  ∀ (s : Shared) (us : List Value), K.In s.heap → (us ++ ds).length = ps.length → BindsTo s fd ⟨us, []⟩ (ps.zip (us ++ ds))
/-- every parameter is given -/
theorem Binds.all {K : PySem.W.Frag} {fd : FuncData} {ps : List Str} (h : ∀ us : List Value, us.length = ps.length → bindArgs fd ⟨us, []⟩ = pure (ps.zip us)) : Binds K fd ps [] := fun s us _ hl => by
  rw [List.append_nil] at hl ⊢
  exact .of_eq (h us hl)

/-- an exception of a callee reaches what this body wants of exceptions -/
def Passes (CX : CXT) (X : Cx) (E : XK) : Prop := ∀ (pins : List (Addr × Obj)) (σ : St) (H : Hp) (s : Shared) (e : Value) (s' : Shared), Inv X pins σ H s → CX X.stack H s E e s' → X.xe e s'

section
variable {X : Cx} {CX : CXT} {k : Nat} {f C : Addr} {fd : FuncData} {ps : List Str} {sp : Sp} {dvs : List V} {ds : List Value} {E : XK} {x m : Str} {p pos apos : Pos} {e o : Expr} {es : List Expr} {ta : TE} {t : TA}

/-- the callee runs -/
theorem run_fn {pins : List (Addr × Obj)} {σ : St} {H : Hp} {s : Shared} {Q : VK} {us : List Value} {vs : List V} (F : FnOk X.prog X.w X.K X.mg X.base CX k f fd ps sp) (hr : Room k X.A) (hb : Binds X.K fd ps ds) (hd : Vals dvs ds) (hx : Passes CX X E)
    (I : Inv X pins σ H s) (r : Vals vs us) (h : sp (vs ++ dvs) H Q E) : wpAny (model X.prog X.w) X.A (call (.ref f) us) (EP X pins σ Q) X.xe s := by
  have r2 : Vals (vs ++ dvs) (us ++ ds) := r.append hd
  have hl : (us ++ ds).length = ps.length := by rw [← r2.length]; exact F.len _ _ _ _ h
  refine wpAny_call (codeAny_mono (F.run X.A X.stack s H ⟨us, []⟩ (us ++ ds) (vs ++ dvs) Q E hr I.env0 (hb s us I.kIn hl) r2 h) fun r s' hq => ?_)
  cases r with
  | error e => exact hx pins σ H s e s' I hq
  | ok fl =>
    cases fl with
    | ret u => exact I.after hq
    | next => exact False.elim hq
    | brk => exact False.elim hq
    | cont => exact False.elim hq

theorem pe_call (F : FnOk X.prog X.w X.K X.mg X.base CX k f fd ps sp) (hr : Room k X.A) (hg : Gl X x) (hm : X.mg x = some (.ref f)) (hk : PySem.W.keepIn X.K (.ref f) = true) (hb : Binds X.K fd ps ds) (hd : Vals dvs ds) (hx : Passes CX X E)
    (ha : PA X (e :: es) t) (hdb : (x == ("__debug__" : Str)) = false := by decide) (he : starEach (e :: es) X.env = (false, eval e X.env) :: starEach es X.env := by rfl) (hpl : (backTo pos (starEach es X.env)).any (·.1) = false := by rfl) :
    PE X (.Call (.Name x p) (e :: es) [] pos) (tCall sp dvs E t) := by
  intro pins s σ H Q I h
  refine wpAny_Call_Name_kw (ld_glob I hg hm ?_ hdb)
  refine PySem.W.callWith_K (h₀ := X.base) I.ok.mod.kin hk (thn (ha pos pins s σ H _ I h) fun us s1 ⟨vs, H1, I1, r, q⟩ => ⟨I1.kIn, ?_⟩) he hpl
  exact run_fn F hr hb hd hx I1 r q
end

section
variable {X : Cx} {CX : CXT} {k : Nat} {f C : Addr} {fd : FuncData} {ps ks : List Str} {sp : Sp} {E : XK} {x m : Str} {p pos apos kpos : Pos} {e o : Expr} {es : List Expr} {kws : List Keyword} {te ta : TE} {t tk : TA} {nm : Option Str}
variable {g : List Value → List Value → List Value} {gV : List V → List V → List V}
end

/-- names: the parameters first -/
structure FnScope (N P : List Str) (sc : Scope) : Prop where
  kind : sc.kind = .function
  co : sc.isCoroutine = false
  gen : sc.isGenerator = false
  nd : N.Nodup
  pre : N.take P.length = P
  par : ∀ x ∈ P, sc.names.lookup x = some .local ∨ sc.names.lookup x = some .cell
  nofree : ∀ y ∈ sc.names, y.2 ≠ .free

theorem bindL_out {kindOf : Str → Option NameKind} {x : Str} : ∀ {binds : List (Str × Value)} {m : Str → Option Value}, (∀ v, (x, v) ∉ binds) → bindL kindOf binds m x = m x
  | [], _, _ => rfl
  | (n, v) :: r, m, h => by
    unfold bindL
    rw [bindL_out fun w hw => h w (List.mem_cons_of_mem _ hw)]
    split
    · have : x ≠ n := by rintro rfl; exact h v List.mem_cons_self
      simp [this]
    · rfl
theorem bindC_out {kindOf : Str → Option NameKind} {x : Str} : ∀ {binds : List (Str × Value)} {m : Str → Option Value}, (∀ v, (x, v) ∉ binds) → bindC kindOf binds m x = m x
  | [], _, _ => rfl
  | (n, v) :: r, m, h => by
    unfold bindC
    rw [bindC_out fun w hw => h w (List.mem_cons_of_mem _ hw)]
    split
    · rfl
    · have : x ≠ n := by rintro rfl; exact h v List.mem_cons_self
      simp [this]
theorem bindL_get {kindOf : Str → Option NameKind} {x : Str} {v : Value} : ∀ {P : List Str} {vs : List Value} {i : Nat} {m : Str → Option Value}, P.Nodup → P[i]? = some x → vs[i]? = some v → kindOf x = some .local →
    bindL kindOf (P.zip vs) m x = some v
  | [], _, _, _, _, h, _, _ => by simp at h
  | _ :: _, [], _, _, _, _, h, _ => by simp at h
  | p :: P, w :: vs, 0, m, nd, h1, h2, hk => by
    simp at h1 h2; subst h1; subst h2
    show bindL kindOf ((p, w) :: P.zip vs) m p = _
    unfold bindL
    rw [bindL_out fun v hv => (List.nodup_cons.mp nd).1 (List.of_mem_zip hv).1, if_pos hk]
    simp
  | p :: P, w :: vs, i + 1, m, nd, h1, h2, hk => by
    show bindL kindOf ((p, w) :: P.zip vs) m x = _
    unfold bindL
    exact bindL_get (i := i) (List.nodup_cons.mp nd).2 (by simpa using h1) (by simpa using h2) hk
theorem bindC_get {kindOf : Str → Option NameKind} {x : Str} {v : Value} : ∀ {P : List Str} {vs : List Value} {i : Nat} {m : Str → Option Value}, P.Nodup → P[i]? = some x → vs[i]? = some v → kindOf x ≠ some .local →
    bindC kindOf (P.zip vs) m x = some v
  | [], _, _, _, _, h, _, _ => by simp at h
  | _ :: _, [], _, _, _, _, h, _ => by simp at h
  | p :: P, w :: vs, 0, m, nd, h1, h2, hk => by
    simp at h1 h2; subst h1; subst h2
    show bindC kindOf ((p, w) :: P.zip vs) m p = _
    unfold bindC
    rw [bindC_out fun v hv => (List.nodup_cons.mp nd).1 (List.of_mem_zip hv).1, if_neg hk]
    simp
  | p :: P, w :: vs, i + 1, m, nd, h1, h2, hk => by
    show bindC kindOf ((p, w) :: P.zip vs) m x = _
    unfold bindC
    exact bindC_get (i := i) (List.nodup_cons.mp nd).2 (by simpa using h1) (by simpa using h2) hk

/-- the names' values at the entry -/
def start (N : List Str) (vs : List V) : St := vs.map some ++ List.replicate (N.length - vs.length) none

/-- the context of a def's body, at its entry; an exception leaves the frame, then lies as CX says -/
def cxOf (CX : CXT) (P : Program) (w : World) (K : PySem.W.Frag) (mg : Str → Option Value) (base : Heap) (N : List Str) (qual : Str) (scope : Scope) (f : Addr) (cd : Value) (A : Around) (outer : List Env) (s : Shared) (H : Hp) (E : XK) : Cx where
  prog := P
  w := w
  K := K
  mg := mg
  base := base
  A := A.deeper (envOfC qual scope s.heap.objs.size f cd)
  N := N
  s₀ := s
  H₀ := H
  env := envOfC qual scope s.heap.objs.size f cd
  outer := outer
  stack := envOfC qual scope s.heap.objs.size f cd :: outer
  ex := []
  calm := true
  fn := fun _ => true
  pn := []
  xe := fun e s' => wpAny (model P w) (A.deeper (envOfC qual scope s.heap.objs.size f cd)) (leaving (envOfC qual scope s.heap.objs.size f cd) e) (fun _ s'' => CX outer H s E e s'') (fun e' s'' => CX outer H s E e' s'') s'

theorem cell_has {sc : Scope} {n : Nat} {x : Str} (h : sc.names.lookup x = some .cell) : ∃ c, (cellsFrom n sc.names []).lookup x = some c := by
  have q := PySem.W.cellsFrom_some sc.names n [] (.inl h)
  exact Option.isSome_iff_exists.mp q

theorem inv_start {CX : CXT} {P : Program} {w : World} {K : PySem.W.Frag} {mg : Str → Option Value} {base : Heap} {N ps : List Str} {qual : Str} {scope : Scope} {f : Addr} {cd : Value} {A : Around} {outer : List Env} {s s1 : Shared} {H : Hp} {E : XK} {us : List Value} {vs : List V}
    (S : FnScope N ps scope) (hd : A.handled = none) (e0 : Env0 P w K mg base A outer s H) (hl : vs.length = ps.length) (r : Vals vs us)
    (x : InCallC s s.heap.objs.size (bindL (envOfC qual scope s.heap.objs.size f cd).kindOf (ps.zip us) fun _ => none) (cellsFrom (s.heap.objs.size + 1) scope.names []) (bindC (envOfC qual scope s.heap.objs.size f cd).kindOf (ps.zip us) fun _ => none) s1) :
    Inv (cxOf CX P w K mg base N qual scope f cd A outer s H E) [] (start N vs) H s1 := by
  have hpl : ps.length ≤ N.length := by have := congrArg List.length S.pre; rw [List.length_take] at this; omega
  obtain ⟨h1, tk, rfl, hk⟩ := x.done
  have noA : ∀ b : Addr, b ∉ (cxOf CX P w K mg base N qual scope f cd A outer s H E).ex := fun b z => absurd (show b ∈ ([] : List Addr) from z) (by simp)
  refine ⟨⟨e0.mod, S.kind, rfl, rfl, Nat.le_refl _, fun y z c h1 h2 => ?_, fun y hy => ?_, fun y c _ h => ?_, fun _ => hd, Around.frames_deeper e0.frames, .inr ⟨rfl, rfl⟩, fun b z => absurd z (noA b), e0.bs, e0.bsz, fun b _ _ => noA b, fun b z => absurd z (noA b), e0.funs, e0.frf⟩,
    rfl, e0.bare, Un.kept hk, ⟨_, x.toInCall.ns, fun i y v h1 h2 h3 => ?_⟩, fun y c h => ⟨_, x.cell y c h⟩, e0.hok.fresh (Nat.le_refl _), fun y c h => ?_, fun p hp => absurd (show p ∈ ([] : List (Addr × Obj)) from hp) (by simp), e0.hok.kept hk, ?_⟩
  · exact name_of_addr x.apart (PySem.mem_of_lookup h1) (PySem.mem_of_lookup h2)
  · have hy : scope.names.lookup y = some .cell ∨ scope.names.lookup y = some .free := hy
    rcases hy with hy | hy
    · exact cell_has hy
    · exact absurd rfl (S.nofree _ (PySem.mem_of_lookup hy))
  · exact Nat.le_of_lt (x.above y c (PySem.mem_of_lookup h))
  · have hi : i < vs.length := by
      unfold start at h2
      by_cases hi : i < vs.length
      · exact hi
      · rw [List.getElem?_append_right (by simpa using hi)] at h2
        rw [List.getElem?_replicate] at h2
        split at h2 <;> cases h2
    have ha : vs[i]? = some v := by
      unfold start at h2
      rw [List.getElem?_append_left (by simpa using hi), List.getElem?_map] at h2
      cases e : vs[i]? with
      | none => rw [e] at h2; cases h2
      | some a => rw [e] at h2; cases h2; rfl
    obtain ⟨u, hu, rv⟩ := r.get ha
    have hp : ps[i]? = some y := by
      rw [← S.pre, List.getElem?_take_of_lt (by omega)]; exact h1
    have ndP : ps.Nodup := by rw [← S.pre]; exact S.nd.sublist (List.take_sublist _ _)
    refine ⟨u, rv, ?_⟩
    rcases S.par y (List.mem_of_getElem? hp) with k | k
    · exact .inl ⟨k, bindL_get ndP hp hu k⟩
    · obtain ⟨c, e⟩ := cell_has (n := s.heap.objs.size + 1) k
      refine .inr ⟨.inl k, c, e, ?_⟩
      have q := x.cell y c e
      rw [bindC_get ndP hp hu (by show scope.names.lookup y ≠ _; rw [k]; decide)] at q
      exact q
  · exact e0.hok.fresh (Nat.le_of_lt (x.above y c (PySem.mem_of_lookup h)))
  · unfold start
    show _ = N.length
    rw [List.length_append, List.length_map, List.length_replicate]
    omega

/-- THE RULE: a def (or a method) of the text, by its body. The body's reading t is chosen for each entry; it is run at the parameters' values -/
theorem fn_of {CX : CXT} {P : Program} {w : World} {K : PySem.W.Frag} {mg : Str → Option Value} {base : Heap} {k : Nat} {f : Addr} {name qual : Str} {params : Arguments} {body : List Stmt} {scope : Scope} {dV kV doc pm cdv ct oc : Value} {an od : Option Addr}
    {osl : Array (Option Value)} {N ps : List Str} {sp : Sp} (lk : K.lookup f = some ⟨oc, od, .func (PySem.W.fnOf name qual params body scope dV kV doc pm an cdv ct), osl⟩) (hcd : PySem.W.codeIn K cdv qual = true) (S : FnScope N ps scope)
    (len : ∀ vs H Q E, sp vs H Q E → vs.length = ps.length)
    (hbody : ∀ (A : Around) (outer : List Env) (s : Shared) (H : Hp) (vs : List V) (Q : VK) (E : XK), Room k (A.deeper (envOfC qual scope s.heap.objs.size f cdv)) → sp vs H Q E →
      ∃ t, PSs (cxOf CX P w K mg base N qual scope f cdv A outer s H E) body t ∧ t { nx := fun _ H' => Q .non H', rt := Q } (start N vs) H) :
    FnOk P w K mg base CX (k + 1) f (PySem.W.fnOf name qual params body scope dV kV doc pm an cdv ct) ps sp := by
  refine ⟨len, fun A outer s H args us vs Q E hr e0 hb r hsp => ?_⟩
  have hl := len _ _ _ _ hsp
  have KX : K.In s.heap := e0.mod.kin.keeps fun b o e => (e0.bs b o e).1
  have lim : s.heap.NoLimit := e0.mod.nolimit.keeps fun b o e => (e0.bs b o e).1
  have hkind : ∀ y ∈ ps.zip us, scope.names.lookup y.1 = some .local ∨ (scope.names.lookup y.1 = some .cell ∧ ((cellsFrom (s.heap.objs.size + 1) scope.names []).lookup y.1).isSome = true) := fun ⟨n, v⟩ hy => by
    rcases S.par n (List.of_mem_zip hy).1 with q | q
    · exact .inl q
    · exact .inr ⟨q, PySem.W.cellsFrom_some _ _ _ (.inl q)⟩
  refine codeAny_call_function hr.depth (KX _ _ lk) rfl S.co S.gen rfl (PySem.W.codeRec_of KX hcd) (hb _ _ _ _ ?_)
  refine wpAny_newFunctionEnv_cells S.kind hkind fun env he s1 x => ?_
  subst he
  refine ⟨lim.keeps x.toInCall.keep, codeAny_func ?_⟩
  obtain ⟨t, ht, hq⟩ := hbody A outer s H vs Q E (hr.deeper _) hsp
  have I : Inv (cxOf CX P w K mg base N qual scope f cdv A outer s H E) [] (start N vs) H s1 := inv_start S hr.hd e0 hl r x
  refine wpAny_mono (ht [] s1 (start N vs) H _ I hq) (fun fl s' hs => ?_) fun e s' hs => hs
  have fin : ∀ {σ' : St} {H' : Hp} {v : V} {u : Value}, Inv (cxOf CX P w K mg base N qual scope f cdv A outer s H E) [] σ' H' s' → RelV v u → Q v H' → CE outer P w H s Q u s' :=
    fun {σ' H' v u} J rv q => ⟨v, H', J.os, J.bare, J.base, J.hok, rv, q⟩
  cases fl with
  | ret u =>
    obtain ⟨v, σ', H', J, rv, q⟩ := hs
    exact fin J rv q
  | next =>
    obtain ⟨σ', H', J, q⟩ := hs
    exact fin (v := V.non) (u := Value.none) J rfl q
  | brk =>
    obtain ⟨_, _, _, q⟩ := hs
    exact False.elim q
  | cont =>
    obtain ⟨_, _, _, q⟩ := hs
    exact False.elim q
end L2

namespace L2
open PySem PySem.Spec PyProof.Rows
section
variable {X : Cx} {x : Str} {p pos : Pos} {e : Expr} {es : List Expr} {t : TA} {id T : String} {r : List V → Hp → VK → Prop}

def tCB (r : List V → Hp → VK → Prop) (t : TA) : TE := fun σ H Q => t σ H fun vs H1 => r vs H1 Q
/-- f(e, ..), f a built-in function -/
theorem pe_callB (hc : CallR X (.builtin id) r) (hg : Gl X x) (hm : X.mg x = none) (hv : bootBuiltins x = some (.builtin id)) (ha : PA X (e :: es) t) (hn : x ≠ "__name__" := by decide) (hdb : (x == ("__debug__" : Str)) = false := by decide)
    (he : starEach (e :: es) X.env = (false, eval e X.env) :: starEach es X.env := by rfl) (hpl : (backTo pos (starEach es X.env)).any (·.1) = false := by rfl) : PE X (.Call (.Name x p) (e :: es) [] pos) (tCB r t) := by
  intro pins s σ H Q I h
  refine wpAny_Call_Name_kw (ld_blt I hg hm hv ?_ hn hdb)
  exact PyProof.Rows.callWith_builtin1 (thn (ha pos pins s σ H _ I h) fun us s1 ⟨vs, H1, I1, r1, q1⟩ => hc pins s1 σ H1 vs us Q I1 r1 q1) he hpl
/-- T(e, ..), T a built-in type -/
theorem pe_callTy (hc : CallR X (.type T) r) (hg : Gl X x) (hm : X.mg x = none) (hv : bootBuiltins x = some (.type T)) (ha : PA X (e :: es) t) (hn : x ≠ "__name__" := by decide) (hdb : (x == ("__debug__" : Str)) = false := by decide)
    (he : starEach (e :: es) X.env = (false, eval e X.env) :: starEach es X.env := by rfl) (hpl : (backTo pos (starEach es X.env)).any (·.1) = false := by rfl) : PE X (.Call (.Name x p) (e :: es) [] pos) (tCB r t) := by
  intro pins s σ H Q I h
  refine wpAny_Call_Name_kw (ld_blt I hg hm hv ?_ hn hdb)
  exact PyProof.Rows.callWith_type1 (thn (ha pos pins s σ H _ I h) fun us s1 ⟨vs, H1, I1, r1, q1⟩ => hc pins s1 σ H1 vs us Q I1 r1 q1) he hpl
end
end L2

namespace HT
open PySem PyProof.Rows

section
open PySem.SeqAt
open PySem.AutoSeq1 (wpAny_loadPart')
open PySem.MeetsSeq PySem.MeetsSeq2 PySem.MeetsSeq3

end

section
variable {prog : Program} {w : World} {A : Around} {E : Value → Shared → Prop} {s : Shared}

/-- a slice's bound as a place among n (d where it is left out) -/
def sIx (n d : Nat) : Option Int → Nat
  | none => d
  | some v => if v < 0 then (v + (n : Int)).toNat else min v.toNat n
theorem sIx_le (n d : Nat) (hd : d ≤ n) (o : Option Int) : sIx n d o ≤ n := by
  cases o with
  | none => exact hd
  | some v =>
    show (if v < 0 then (v + (n : Int)).toNat else min v.toNat n) ≤ n
    by_cases hv : v < 0
    · rw [if_pos hv]; omega
    · rw [if_neg hv]; exact Nat.min_le_right _ _
theorem clip_eq (v : Int) (n d : Nat) : (if v < 0 then max (v + (n : Int)) 0 else min v (n : Int)) = ((sIx n d (some v) : Nat) : Int) := by
  show (if v < 0 then max (v + (n : Int)) 0 else min v (n : Int)) = (((if v < 0 then (v + (n : Int)).toNat else min v.toNat n) : Nat) : Int)
  by_cases hv : v < 0
  · simp only [if_pos hv]; omega
  · simp only [if_neg hv]; omega
theorem adjust_gen (lo hi : Option Int) (n : Nat) : Builtin.Slice.sliceAdjust lo hi 1 (n : Int) = (((sIx n 0 lo : Nat) : Int), ((sIx n n hi : Nat) : Int)) := by
  have h1 : ¬ ((1 : Int) < 0) := by omega
  unfold Builtin.Slice.sliceAdjust
  simp only [h1, if_false]
  refine Prod.ext ?_ ?_
  · cases lo with
    | none => rfl
    | some v => exact clip_eq v n 0
  · cases hi with
    | none => rfl
    | some v => exact clip_eq v n n
theorem places_gen (i j : Nat) : Builtin.Slice.slicePlaces (i : Int) (j : Int) 1 = j - i := by
  unfold Builtin.Slice.slicePlaces
  have h1 : (1 : Int) > 0 := by omega
  simp only [h1, if_true, Int.ediv_one]
  split <;> omega
theorem slicePart_ {v : Value} {o : Option Int} {Q : Option Int → Shared → Prop} (p : IsPart v o) (h : Q o s) : wpAny (model prog w) A (Builtin.Slice.slicePartIndex v) Q E s := by
  cases p with
  | none => exact slicePart_none h
  | int i t => exact slicePart_int h
theorem sliceApplied_gen {sl : Addr} {vl vu : Value} {lo hi : Option Int} {n : Nat} {Q : Int × Int × Nat → Shared → Prop} (hs : s.heap.IsSliceOf sl vl vu .none) (pl : IsPart vl lo) (pu : IsPart vu hi)
    (h : Q (((sIx n 0 lo : Nat) : Int), 1, sIx n n hi - sIx n 0 lo) s) : wpAny (model prog w) A (Builtin.Slice.sliceApplied (.ref sl) (pure (n : Int))) Q E s := by
  obtain ⟨os, hos, hcs, hds⟩ := id hs
  unfold Builtin.Slice.sliceApplied Builtin.Slice.sliceFields
  refine wpAny_bind (wpAny_bind (wpAny_field hos hds (x := vl) rfl (wpAny_bind (wpAny_field hos hds (x := vu) rfl (wpAny_bind (wpAny_field hos hds (x := .none) rfl (wpAny_pure ?_)))))))
  refine wpAny_bind (slicePart_none ?_)
  show wpAny _ _ (if ((1 : Int) == 0) = true then _ else _) _ _ s
  rw [if_neg (by decide)]
  refine wpAny_bind (slicePart_ pl (wpAny_bind (slicePart_ pu (wpAny_bind (wpAny_pure ?_)))))
  show wpAny _ _ (match Builtin.Slice.sliceAdjust lo hi 1 (n : Int) with | (lo, hi) => pure (lo, (1 : Int), Builtin.Slice.slicePlaces lo hi 1)) _ _ s
  rw [adjust_gen lo hi n]
  show wpAny _ _ (pure (((sIx n 0 lo : Nat) : Int), (1 : Int), Builtin.Slice.slicePlaces ((sIx n 0 lo : Nat) : Int) ((sIx n n hi : Nat) : Int) 1)) _ _ s
  rw [places_gen]
  exact wpAny_pure h
theorem pick_gen (xs : Array Value) (i k : Nat) : ((List.range k).filterMap fun (m : Nat) => xs[((i : Int) + (m : Int) * 1).toNat]?).toArray = ((xs.toList.drop i).take k).toArray := by
  have e : (fun (m : Nat) => xs[((i : Int) + (m : Int) * 1).toNat]?) = fun m => xs[i + m]? := by
    funext m
    have : ((i : Int) + (m : Int) * 1).toNat = i + m := by omega
    rw [this]
  rw [e]
  have := pick_run xs i k
  rw [List.filterMap_map] at this
  have e2 : ((fun x => xs[x]?) ∘ fun x => i + x) = fun m => xs[i + m]? := rfl
  rw [e2] at this
  rw [this]

theorem getItem_tuple_cut {t sl : Addr} {items : Array Value} {vl vu : Value} {lo hi : Option Int} {Q : Value → Shared → Prop} (ht : IsTup s.heap t items) (hs : s.heap.IsSliceOf sl vl vu .none) (pl : IsPart vl lo) (pu : IsPart vu hi)
    (hw : ¬ (sIx items.size 0 lo = 0 ∧ sIx items.size items.size hi = items.size))
    (h : Q (.ref s.heap.objs.size) { s with heap := s.heap.push { cls := .type "tuple", data := .seq ((items.toList.drop (sIx items.size 0 lo)).take (sIx items.size items.size hi - sIx items.size 0 lo)).toArray } })
    (hsz : items.size ≤ sizeLine) : wpAny (model prog w) A (getItem (.ref t) (.ref sl)) Q E s := by
  have htake : sizeOk (.seq ((items.toList.drop (sIx items.size 0 lo)).take (sIx items.size items.size hi - sIx items.size 0 lo)).toArray) := by
    show ((items.toList.drop (sIx items.size 0 lo)).take (sIx items.size items.size hi - sIx items.size 0 lo)).toArray.size ≤ sizeLine
    rw [List.size_toArray, List.length_take, List.length_drop, Array.length_toList]
    omega
  have hj : sIx items.size items.size hi ≤ items.size := sIx_le _ _ (Nat.le_refl _) hi
  obtain ⟨os, hos, hcs, hds⟩ := id hs
  have hTs : s.TypeIs (.ref sl) "slice" := ⟨os, hos, hcs⟩
  unfold getItem
  try with_reducible refine wpAny_holding ?_
  first | refine wpAny_bind (wpAny_pure ?_) | skip
  refine wpAny_bind (wpAny_sequenceKey ht.typeIs (by decide) ?_)
  refine wpAny_bind (wpAny_callSpecial?_slot (name := Str.ofString "__getitem__") ht.typeIs PyProof.Rows.slot_tuple_getitem
    (wpAny_call_entry PyProof.Rows.slot_tuple_getitem ht.typeIs entry_tuple_getitem ?_ (args_tuple_getitem _ _)))
  show wpAny _ _ (Builtin.Tuple.tupleItemsOf (.ref t) >>= _) _ _ s
  refine wpAny_bind (tupleItemsOf_ ht ?_)
  refine wpAny_bind (wpAny_typeOf hTs ?_)
  rw [if_pos (by decide)]
  refine wpAny_bind (sliceApplied_gen hs pl pu ?_)
  have hno : ¬ ((((sIx items.size 0 lo : Nat) : Int) == 0 && (1 : Int) == 1 && (sIx items.size items.size hi - sIx items.size 0 lo) == items.size) = true) := by
    intro q
    rw [Bool.and_eq_true, Bool.and_eq_true] at q
    have q1 : ((sIx items.size 0 lo : Nat) : Int) = 0 := eq_of_beq q.1.1
    have q2 : sIx items.size items.size hi - sIx items.size 0 lo = items.size := eq_of_beq q.2
    exact hw ⟨by omega, by omega⟩
  show wpAny _ _ (if (((sIx items.size 0 lo : Nat) : Int) == 0 && (1 : Int) == 1 && (sIx items.size items.size hi - sIx items.size 0 lo) == items.size) = true then _ else _) _ _ s
  rw [if_neg hno, pick_gen]
  first
    | exact wpAny_bind (m := Builtin.Tuple.tupleExact _) (wpAny_newObj_type (wpAny_pure ⟨_, rfl, wpAny_pure h⟩) htake)
    | exact wpAny_bind (m := Builtin.Tuple.tupleExact _) (wpAny_newObj_type (wpAny_bind (wpAny_pure (wpAny_pure ⟨_, rfl, wpAny_pure h⟩))) htake)
    | exact wpAny_bind (wpAny_bind (m := Builtin.Tuple.tupleExact _) (wpAny_newObj_type (wpAny_pure (wpAny_pure ⟨_, rfl, wpAny_pure h⟩)) htake))
    | exact wpAny_bind (wpAny_bind (m := Builtin.Tuple.tupleExact _) (wpAny_newObj_type (wpAny_pure ⟨_, rfl, wpAny_pure h⟩) htake))
end
end HT

namespace L2
open PySem PySem.Spec PyProof.Rows

abbrev TO := St → Hp → (Option Int → Hp → Prop) → Prop
/-- a slice's part (left out, or an int) -/
def PO (X : Cx) (e : Option Expr) (t : TO) : Prop :=
  ∀ (pins : List (Addr × Obj)) (s : Shared) (σ : St) (H : Hp) (Q : Option Int → Hp → Prop), Inv X pins σ H s → t σ H Q →
    wpAny (model X.prog X.w) X.A (evalPart e X.env) (fun u s' => ∃ o H', Inv X pins σ H' s' ∧ IsPart u o ∧ Q o H') X.xe s
def tNoPart : TO := fun _ H Q => Q none H
def tPart (t : TE) : TO := fun σ H Q => t σ H fun x H1 => ∃ i, x = .int i ∧ Q (some i) H1

section
variable {X : Cx} {e : Expr} {te : TE} {lo hi : Option Expr} {tl th : TO} {pos p2 : Pos}

theorem po_none : PO X none tNoPart := by
  intro pins s σ H Q I h
  rw [evalPart_none]
  exact wpAny_pure ⟨none, H, I, .none, h⟩
theorem po_some (h : PE X e te) : PO X (some e) (tPart te) := by
  intro pins s σ H Q I hw
  rw [evalPart_some]
  refine thn (h pins s σ H _ I hw) fun u s1 ⟨x, H1, I1, r1, q1⟩ => ?_
  obtain ⟨i, rfl, q⟩ := q1
  obtain ⟨t, rfl⟩ := r1
  exact ⟨some i, H1, I1, .int i t, q⟩

/-- what a slice of a value is, by values: the slice object stands at sl -/
def SlR (X : Cx) (r : V → Option Int → Option Int → Hp → VK → Prop) : Prop :=
  ∀ (pins : List (Addr × Obj)) (s : Shared) (σ : St) (H : Hp) (x : V) (v vl vu : Value) (lo hi : Option Int) (sl : Addr) (Q : VK), Inv X pins σ H s → RelV x v → s.heap.IsSliceOf sl vl vu .none → IsPart vl lo → IsPart vu hi → r x lo hi H Q →
    ∃ T id, typeLookup (.type T) "__getitem__" = pure (some (.builtin id)) ∧ s.TypeIs v T ∧ wpAny (model X.prog X.w) X.A (getItem v (.ref sl)) (EP X pins σ Q) X.xe s
theorem SlR.or {r r' : V → Option Int → Option Int → Hp → VK → Prop} (h : SlR X r) (h' : SlR X r') : SlR X (fun x lo hi H Q => r x lo hi H Q ∨ r' x lo hi H Q) := by
  intro pins s σ H x v vl vu lo hi sl Q I rx hs pl pu q
  rcases q with q | q
  · exact h pins s σ H x v vl vu lo hi sl Q I rx hs pl pu q
  · exact h' pins s σ H x v vl vu lo hi sl Q I rx hs pl pu q
def tSl (r : V → Option Int → Option Int → Hp → VK → Prop) (te : TE) (tl th : TO) : TE := fun σ H Q => te σ H fun x H1 => tl σ H1 fun l H2 => th σ H2 fun u H3 => r x l u H3 Q
/-- a[lo:hi], any a -/
theorem pe_slice {r : V → Option Int → Option Int → Hp → VK → Prop} (hr : SlR X r) (he : PE X e te) (hl : PO X lo tl) (hu : PO X hi th) : PE X (.Subscript e (.Slice lo hi none p2) pos) (tSl r te tl th) := by
  intro pins s σ H Q I h
  refine Subscript_ (thn (he pins s σ H _ I h) fun v s1 ⟨x, H1, I1, r1, q1⟩ => ?_)
  refine wpAny_Slice (thn (hl pins s1 σ H1 _ I1 q1) fun vl s2 ⟨l, H2, I2, pl, q2⟩ => thn (hu pins s2 σ H2 _ I2 q2) fun vu s3 ⟨u, H3, I3, pu, q3⟩ => ?_)
  rw [evalPart_none]
  refine wpAny_pure ?_
  have I4 : Inv X pins σ H3 { s3 with heap := s3.heap.push { cls := .type "slice", data := .fields #[vl, vu, .none] } } := I3.kept (t' := s3.toks) fun b ob q => Heap.get?_push_of_some _ q
  obtain ⟨T, id, hT, ht, hg⟩ := hr pins { s3 with heap := s3.heap.push { cls := .type "slice", data := .fields #[vl, vu, .none] } } σ H3 x v vl vu l u s3.heap.objs.size Q I4 r1 (Heap.IsSliceOf.new ..) pl pu q3
  show wpAny (model X.prog X.w) X.A (subscriptTail e (.Slice lo hi none p2) v (.ref s3.heap.objs.size)) (EP X pins σ Q) X.xe { s3 with heap := s3.heap.push { cls := .type "slice", data := .fields #[vl, vu, .none] } }
  exact tail_any (ops := [.ref s3.heap.objs.size, v]) ht hT hg (by with_unfolding_all rfl)

/-- the items of xs[lo:hi] -/
def cutV (xs : List V) (lo hi : Option Int) : List V := (xs.drop (HT.sIx xs.length 0 lo)).take (HT.sIx xs.length xs.length hi - HT.sIx xs.length 0 lo)
theorem cutV_length (xs : List V) (lo hi : Option Int) : (cutV xs lo hi).length ≤ xs.length := by
  unfold cutV
  rw [List.length_take, List.length_drop]
  omega
/-- t[lo:hi], not the whole of it (the whole would be t itself) -/
def rSlT (K : PySem.W.Frag) : V → Option Int → Option Int → Hp → VK → Prop := fun x lo hi H Q => ∃ a xs, x = .ref a ∧ SqT K H a xs ∧
  ¬ (HT.sIx xs.length 0 lo = 0 ∧ HT.sIx xs.length xs.length hi = xs.length) ∧ ∀ p, H p = none → Q (.ref p) (upd H p (.tup (cutV xs lo hi)))
theorem sl_tup : SlR X (rSlT X.K) := by
  intro pins s σ H x v vl vu lo hi sl Q I rx hs pl pu h
  obtain ⟨a, xs, rfl, hx, hw, q⟩ := h
  cases rx
  obtain ⟨its, r, ht, hz⟩ := I.tuple hx
  have hlen : its.toArray.size = xs.length := by rw [List.size_toArray]; exact r.length.symm
  refine ⟨"tuple", _, PyProof.Rows.slot_tuple_getitem.lookup, ht.typeIs, ?_⟩
  refine HT.getItem_tuple_cut ht hs pl pu (by rw [hlen]; exact hw) ?_ (by rw [hlen]; exact hz)
  rw [hlen]
  refine ⟨.ref s.heap.objs.size, _, I.laid (t' := s.toks) (o := .tup (cutV xs lo hi)) (fun b ob q => Heap.get?_push_of_some _ q) (Nat.le_refl _) ?_, rfl, q _ (I.hok.fresh (Nat.le_refl _))⟩
  exact ⟨Nat.le_trans (cutV_length xs lo hi) hz, _, (r.drop (HT.sIx xs.length 0 lo)).take (HT.sIx xs.length xs.length hi - HT.sIx xs.length 0 lo), IsTupN.new _ _⟩

end
end L2

namespace L2
open PySem PySem.Spec PyProof.Rows

/-- the place that an index of any sign means -/
def ixN (n : Nat) (i : Int) : Option Nat := if 0 ≤ i then (if i < n then some i.toNat else none) else if -(n : Int) ≤ i then some (i + n).toNat else none
def atI {α : Type} (xs : List α) (i : Int) : Option α := (ixN xs.length i).bind fun j => xs[j]?
theorem ixN_seq {n : Nat} {i : Int} {j : Nat} (h : ixN n i = some j) : seqIndex? i n = some j ∧ j < n ∧ -(n : Int) ≤ i ∧ i < n := by
  unfold ixN at h
  by_cases h0 : 0 ≤ i
  · rw [if_pos h0] at h
    by_cases h1 : i < n
    · rw [if_pos h1] at h
      have e : i.toNat = j := Option.some.inj h
      exact ⟨by rw [seqIndex_of h0 h1, e], by omega, by omega, h1⟩
    · rw [if_neg h1] at h; cases h
  · rw [if_neg h0] at h
    by_cases h1 : -(n : Int) ≤ i
    · rw [if_pos h1] at h
      have e : (i + n).toNat = j := Option.some.inj h
      exact ⟨by rw [seqIndex_neg (by omega) h1, e], by omega, h1, by omega⟩
    · rw [if_neg h1] at h; cases h
theorem atI_get {α : Type} {xs : List α} {i : Int} {v : α} (h : atI xs i = some v) : ∃ j, seqIndex? i xs.length = some j ∧ xs[j]? = some v ∧ j < xs.length ∧ -(xs.length : Int) ≤ i ∧ i < xs.length := by
  unfold atI at h
  cases e : ixN xs.length i with
  | none => rw [e] at h; cases h
  | some j =>
    rw [e] at h
    obtain ⟨h1, h2, h3, h4⟩ := ixN_seq e
    exact ⟨j, h1, h, h2, h3, h4⟩
theorem atI_nat {α : Type} {xs : List α} {j : Nat} {v : α} (h : xs[j]? = some v) : atI xs (j : Int) = some v := by
  have hj : j < xs.length := (List.getElem?_eq_some_iff.mp h).1
  have e : ixN xs.length (j : Int) = some j := by
    unfold ixN
    rw [if_pos (by omega), if_pos (by omega)]; simp
  unfold atI; rw [e]; exact h
/-- what stands as an index of a plain subscript -/
def PlainIx (b : Expr) : Prop := ∀ o i, subscripted b false o i = operate [o, i] (getItem o i)
/-- a subscript by values -/
def IxR (X : Cx) (r : R2) : Prop :=
  ∀ (value slice : Expr) (pins : List (Addr × Obj)) (s : Shared) (σ : St) (H : Hp) (x y : V) (v u : Value) (Q : VK), Inv X pins σ H s → RelV x v → RelV y u → r x y H Q →
    subscripted slice false v u = operate [v, u] (getItem v u) → wpAny (model X.prog X.w) X.A (subscriptTail value slice v u) (EP X pins σ Q) X.xe s
/-- a call of a builtin's method by values: the receiver, the arguments -/
def MtR (X : Cx) (id : String) (r : V → List V → Hp → VK → Prop) : Prop :=
  ∀ (pins : List (Addr × Obj)) (s : Shared) (σ : St) (H : Hp) (x : V) (xs : List V) (v : Value) (us : List Value) (Q : VK), Inv X pins σ H s → RelV x v → Vals xs us → r x xs H Q →
    wpAny (model X.prog X.w) X.A (call (.builtin id) (v :: us)) (EP X pins σ Q) X.xe s
section
variable {X : Cx} {a b : Expr} {ta tb : TE} {pos : Pos}
theorem IxR.or {r r' : R2} (h : IxR X r) (h' : IxR X r') : IxR X (fun x y H Q => r x y H Q ∨ r' x y H Q) := by
  intro value slice pins s σ H x y v u Q I rx ry q hs
  rcases q with q | q
  · exact h value slice pins s σ H x y v u Q I rx ry q hs
  · exact h' value slice pins s σ H x y v u Q I rx ry q hs
theorem MtR.or {id : String} {r r' : V → List V → Hp → VK → Prop} (h : MtR X id r) (h' : MtR X id r') : MtR X id (fun x xs H Q => r x xs H Q ∨ r' x xs H Q) := by
  intro pins s σ H x xs v us Q I rx rs q
  rcases q with q | q
  · exact h pins s σ H x xs v us Q I rx rs q
  · exact h' pins s σ H x xs v us Q I rx rs q
/-- a[b] -/
theorem pe_ix {r : R2} (hr : IxR X r) (ha : PE X a ta) (hb : PE X b tb) (hs : PlainIx b) : PE X (.Subscript a b pos) (tOp r ta tb) := by
  intro pins s σ H Q I h
  exact Subscript_ (binT ha hb I h fun v u s2 x y H2 I2 rx ry q => hr a b pins s2 σ H2 x y v u Q I2 rx ry q (hs _ _))

def rIxL (K : PySem.W.Frag) : R2 := fun x y H Q => ∃ p xs i v, x = .ref p ∧ y = .int i ∧ SqL K H p xs ∧ atI xs i = some v ∧ Q v H
def rIxT (K : PySem.W.Frag) : R2 := fun x y H Q => ∃ p xs i v, x = .ref p ∧ y = .int i ∧ SqT K H p xs ∧ atI xs i = some v ∧ Q v H
theorem ix_list : IxR X (rIxL X.K) := by
  intro value slice pins s σ H x y v u Q I rx ry h hs
  obtain ⟨p, xs, i, z, rfl, rfl, hq, he, q⟩ := h
  cases rx
  obtain ⟨t, rfl⟩ := ry
  obtain ⟨its, r, pl, hz⟩ := I.list hq
  obtain ⟨j, h1, h2, h3, h4, h5⟩ := atI_get he
  obtain ⟨w, ew, rw'⟩ := r.get h2
  have hl := r.length
  have hn := line63
  have fin : EP X pins σ Q w s := ⟨z, H, I, rw', q⟩
  by_cases h0 : 0 ≤ i
  · have hj : i.toNat = j := by
      rw [seqIndex_of h0 h5] at h1
      exact Option.some.inj h1
    exact item_listR pl.isList h0 (by omega) (by rw [hj]; simpa using ew) fin hs
  · have hj : (i + (its.toArray.size : Int)).toNat = j := by
      rw [seqIndex_neg (by omega) h4] at h1
      rw [List.size_toArray, ← hl]
      exact Option.some.inj h1
    exact subscriptTail_builtinR (x := w) pl.isList.typeIs slot_list_getitem.lookup
      (wpAny_getItem_list_neg (Q := fun r s' => r = w ∧ EP X pins σ Q r s') pl.isList (by omega) (by rw [List.size_toArray] <;> omega) (by omega) (by rw [hj]; simpa using ew) ⟨rfl, fin⟩) hs
theorem ix_tup : IxR X (rIxT X.K) := by
  intro value slice pins s σ H x y v u Q I rx ry h hs
  obtain ⟨p, xs, i, z, rfl, rfl, hq, he, q⟩ := h
  cases rx
  obtain ⟨t, rfl⟩ := ry
  obtain ⟨its, r, pl, hz⟩ := I.tuple hq
  obtain ⟨j, h1, h2, h3, h4, h5⟩ := atI_get he
  obtain ⟨w, ew, rw'⟩ := r.get h2
  have hl := r.length
  have hn := line63
  have fin : EP X pins σ Q w s := ⟨z, H, I, rw', q⟩
  exact subscriptTail_builtinR (x := w) pl.typeIs slot_tuple_getitem.lookup
    (getItem_tuple (j := j) (Q := fun r s' => r = w ∧ EP X pins σ Q r s') pl (by omega) (by omega) (by rw [List.size_toArray, ← hl]; exact h1) (by simpa using ew) ⟨rfl, fin⟩) hs
/-- the list's object behind a store -/
theorem mapSeq_set (its : List Value) (n j : Nat) (u : Value) : Obj.mapSeq (·.setIfInBounds j u) { cls := .type "list", data := .seq its.toArray n } = { cls := .type "list", data := .seq (its.set j u).toArray n } := by
  simp [Obj.mapSeq]
theorem Inv.lst {pins : List (Addr × Obj)} {σ : St} {H : Hp} {s : Shared} {p : Addr} {xs : List V} (I : Inv X pins σ H s) (h : H p = some (.lst xs)) :
    ∃ (its : List Value) (n : Nat), Vals xs its ∧ s.heap.get? p = some { cls := .type "list", data := .seq its.toArray n } ∧ xs.length ≤ sizeLine := by
  obtain ⟨z, its, n, r, e⟩ := I.hok p _ h
  exact ⟨its, n, r, e, z⟩
/-- the list at p is written by an update of its object -/
theorem Inv.lstUpd {pins : List (Addr × Obj)} {σ : St} {H : Hp} {s : Shared} {p : Addr} {xs ys : List V} {its its' : List Value} {n n' : Nat} {f : Obj → Obj} (I : Inv X pins σ H s) (h : H p = some (.lst xs))
    (ho : s.heap.get? p = some { cls := .type "list", data := .seq its.toArray n }) (hf : f { cls := .type "list", data := .seq its.toArray n } = { cls := .type "list", data := .seq its'.toArray n' }) (r : Vals ys its') (hz : ys.length ≤ sizeLine) (t : Nat) :
    Inv X pins σ (upd H p (.lst ys)) { s with heap := s.heap.update p f, toks := t } := by
  have e : (s.heap.update p f).get? p = some { cls := .type "list", data := .seq its'.toArray n' } := by
    rw [Heap.get?_update_self f ho (by rw [hf] <;> rfl), hf]
  refine I.write (x := p) (e := p) (by rw [h]; trivial) (.inl rfl) (fun b u hb q => (Heap.get?_update_other _ _ (Ne.symm hb)).trans q) ⟨_, e⟩ ?_
  exact ⟨hz, its', n', r, e⟩
def rSetL : V → V → V → Hp → (Hp → Prop) → Prop := fun o i v H Q => ∃ p xs k j, o = .ref p ∧ i = .int k ∧ H p = some (.lst xs) ∧ ixN xs.length k = some j ∧ Q (upd H p (.lst (xs.set j v)))
theorem set_list : PSet X rSetL := by
  intro pins s σ H o i v ov iv u Q I ro ri rv h
  obtain ⟨p, xs, k, j, rfl, rfl, hp, hj, q⟩ := h
  cases ro
  obtain ⟨t, rfl⟩ := ri
  obtain ⟨its, n, r, ho, hz⟩ := I.lst hp
  obtain ⟨h1, h2, h3, h4⟩ := ixN_seq hj
  have hl := r.length
  have hn := line63
  have I' : Inv X pins σ (upd H p (.lst (xs.set j v))) { s with heap := s.heap.update p (Obj.mapSeq (·.setIfInBounds j u)) } :=
    I.lstUpd hp ho (mapSeq_set its n j u) (r.set rv j) (by rw [List.length_set]; exact hz) s.toks
  by_cases h0 : 0 ≤ k
  · have hk : k.toNat = j := by
      rw [seqIndex_of h0 h4] at h1
      exact Option.some.inj h1
    exact PySem.W.ki_setAt ho h0 (by omega) (by rw [List.size_toArray, ← hl]; exact h4) (by rw [hk]; exact ⟨_, I', q⟩)
  · have hk : (k + (its.toArray.size : Int)).toNat = j := by
      rw [seqIndex_neg (by omega) h3] at h1
      rw [List.size_toArray, ← hl]
      exact Option.some.inj h1
    exact PySem.W.ki_setBack ho (by omega) (by rw [List.size_toArray, ← hl]; exact h3) (by omega) (by rw [hk]; exact ⟨_, I', q⟩)

theorem slice_bounds (lo hi : Option Int) (n : Nat) : (sliceBounds lo hi none n).1 = ((HT.sIx n 0 lo : Nat) : Int) ∧ (sliceBounds lo hi none n).2.1 = ((HT.sIx n n hi : Nat) : Int) ∧ (sliceBounds lo hi none n).2.2 = 1 := by
  refine ⟨?_, ?_, rfl⟩
  · cases lo with
    | none => simp [sliceBounds, HT.sIx]
    | some i =>
      simp only [sliceBounds, HT.sIx, Option.getD_none, show (1 : Int) > 0 by decide, if_true]
      by_cases h : i < 0
      · simp only [h, if_true] <;> omega
      · simp only [h, if_false] <;> omega
  · cases hi with
    | none => simp [sliceBounds, HT.sIx]
    | some i =>
      simp only [sliceBounds, HT.sIx, Option.getD_none, show (1 : Int) > 0 by decide, if_true]
      by_cases h : i < 0
      · simp only [h, if_true] <;> omega
      · simp only [h, if_false] <;> omega
theorem slicePick_cut (its : List Value) (lo hi : Option Int) : slicePick its.toArray lo hi none = ((its.drop (HT.sIx its.length 0 lo)).take (HT.sIx its.length its.length hi - HT.sIx its.length 0 lo)).toArray := by
  obtain ⟨h1, h2, h3⟩ := slice_bounds lo hi its.toArray.size
  unfold slicePick
  rw [h1, h2, h3]
  simp only [sliceRange_one, pick_run, List.size_toArray] <;> rfl
/-- xs[lo:hi] of a list: a new list -/
def rSlL (K : PySem.W.Frag) : V → Option Int → Option Int → Hp → VK → Prop := fun x lo hi H Q => ∃ a xs, x = .ref a ∧ SqL K H a xs ∧ ∀ p, H p = none → Q (.ref p) (upd H p (.lst (cutV xs lo hi)))
theorem sl_list : SlR X (rSlL X.K) := by
  intro pins s σ H x v vl vu lo hi sl Q I rx hs pl pu h
  obtain ⟨a, xs, rfl, hx, q⟩ := h
  cases rx
  obtain ⟨its, r, ht, hz⟩ := I.list hx
  have hlen := r.length
  refine ⟨"list", _, slot_list_getitem.lookup, ht.isList.typeIs, ?_⟩
  refine wpAny_getItem_list_slice ht.isList hs pl pu .none (by simp) ?_ (by rw [List.size_toArray] <;> omega)
  rw [slicePick_cut, ← hlen]
  refine ⟨.ref s.heap.objs.size, _, I.laid (t' := s.toks) (o := .lst (cutV xs lo hi)) (fun b ob q => Heap.get?_push_of_some _ q) (Nat.le_refl _) ?_, rfl, q _ (I.hok.fresh (Nat.le_refl _))⟩
  exact ⟨Nat.le_trans (cutV_length xs lo hi) hz, _, 0, (r.drop (HT.sIx xs.length 0 lo)).take (HT.sIx xs.length xs.length hi - HT.sIx xs.length 0 lo), Heap.get?_push_size _ rfl⟩

def flatV : V → Bool
  | .non => true
  | .bl _ => true
  | .int _ => true
  | .str _ => true
  | _ => false
/-- == of flat values -/
def eqV : V → V → Bool
  | .non, .non => true
  | .bl a, .bl b => a == b
  | .bl a, .int b => (if a then 1 else 0) == b
  | .int a, .bl b => a == (if b then 1 else 0)
  | .int a, .int b => a == b
  | .str a, .str b => a == b
  | _, _ => false
theorem eqAt_V {A : Around} {s : Shared} {y x : V} {u v : Value} (ry : RelV y u) (rx : RelV x v) (fy : flatV y = true) (fx : flatV x = true) : SeqAt.EqAt A s u v (eqV y x) := by
  cases y with
  | non =>
    cases ry
    cases x with
    | non => cases rx; exact SeqAt.EqAt.same _
    | bl b => cases rx; exact SeqAt.EqAt.none_bool b
    | int b => obtain ⟨t, rfl⟩ := rx; exact SeqAt.EqAt.none_int b t
    | str b => obtain ⟨t, rfl⟩ := rx; exact SeqAt.EqAt.none_str b t
    | _ => exact absurd (show false = true from fx) Bool.false_ne_true
  | bl a =>
    cases ry
    cases x with
    | non => cases rx; exact SeqAt.EqAt.bool_none a
    | bl b => cases rx; exact SeqAt.EqAt.bool_bool a b
    | int b => obtain ⟨t, rfl⟩ := rx; exact SeqAt.EqAt.bool_int a b t
    | str b => obtain ⟨t, rfl⟩ := rx; exact SeqAt.EqAt.bool_str a b t
    | _ => exact absurd (show false = true from fx) Bool.false_ne_true
  | int a =>
    obtain ⟨t', rfl⟩ := ry
    cases x with
    | non => cases rx; exact SeqAt.EqAt.int_none a t'
    | bl b => cases rx; exact SeqAt.EqAt.int_bool a t' b
    | int b => obtain ⟨t, rfl⟩ := rx; exact SeqAt.EqAt.int_int a t' b t
    | str b => obtain ⟨t, rfl⟩ := rx; exact SeqAt.EqAt.int_str a t' b t
    | _ => exact absurd (show false = true from fx) Bool.false_ne_true
  | str a =>
    obtain ⟨t', rfl⟩ := ry
    cases x with
    | non => cases rx; exact SeqAt.EqAt.str_none a t'
    | bl b => cases rx; exact SeqAt.EqAt.str_bool a t' b
    | int b => obtain ⟨t, rfl⟩ := rx; exact SeqAt.EqAt.str_int a t' b t
    | str b => obtain ⟨t, rfl⟩ := rx; exact SeqAt.EqAt.str_str a t' b t
    | _ => exact absurd (show false = true from fx) Bool.false_ne_true
  | _ => exact absurd (show false = true from fy) Bool.false_ne_true
/-- the items' answers, read off the values (a value's own answer does not lean on its token) -/
def eqU (x : V) (u : Value) : Bool := match u with
  | .none => eqV .non x
  | .bool b => eqV (.bl b) x
  | .int i _ => eqV (.int i) x
  | .str z _ => eqV (.str z) x
  | _ => false
theorem eqU_of {x y : V} {u : Value} (r : RelV y u) (f : flatV y = true) : eqU x u = eqV y x := by
  cases y with
  | non => cases r; rfl
  | bl b => cases r; rfl
  | int i => obtain ⟨t, rfl⟩ := r; rfl
  | str z => obtain ⟨t, rfl⟩ := r; rfl
  | _ => exact absurd (show false = true from f) Bool.false_ne_true
theorem any_eqU {x : V} : ∀ {xs : List V} {us : List Value}, Vals xs us → xs.all flatV = true → us.any (eqU x) = xs.any fun y => eqV y x
  | _, _, .nil, _ => rfl
  | y :: xs, u :: us, .cons r t, f => by
    rw [List.all_cons, Bool.and_eq_true] at f
    rw [List.any_cons, List.any_cons, eqU_of r f.1, any_eqU t f.2]
theorem mem_eqAt {A : Around} {s : Shared} {x : V} {v : Value} (rx : RelV x v) (fx : flatV x = true) : ∀ {xs : List V} {us : List Value}, Vals xs us → xs.all flatV = true → ∀ u ∈ us, SeqAt.EqAt A s u v (eqU x u)
  | _, _, .nil, _ => fun u hu => by cases hu
  | y :: xs, u :: us, .cons r t, f => fun u' hu => by
    rw [List.all_cons, Bool.and_eq_true] at f
    rcases List.mem_cons.mp hu with rfl | hu
    · rw [eqU_of r f.1]; exact eqAt_V r rx f.1 fx
    · exact mem_eqAt rx fx t f.2 u' hu
def inV (x : V) (xs : List V) : Bool := xs.any fun y => eqV y x
/-- x in a list or tuple of flat items -/
def rIn (K : PySem.W.Frag) (neg : Bool) : R2 := fun x y H Q => ∃ p xs, y = .ref p ∧ (SqL K H p xs ∨ SqT K H p xs) ∧ flatV x = true ∧ xs.all flatV = true ∧ Q (.bl (if neg then !inV x xs else inV x xs)) H
theorem op_in_seq : OpR X (compareOp .In) (rIn X.K false) := by
  intro pins s σ H x y v u Q I rx ry h
  obtain ⟨p, xs, rfl, hq, fx, fs, q⟩ := h
  cases ry
  rcases hq with hq | hq
  · obtain ⟨its, r, pl, hz⟩ := I.list hq
    refine SeqAt.in_listAt (eqU x) pl.isList (fun w hw => mem_eqAt rx fx r fs w (by simpa using hw)) ⟨.bl _, H, I, rfl, ?_⟩
    rw [show its.toArray.any (eqU x) = its.any (eqU x) by simp, any_eqU r fs]
    exact q
  · obtain ⟨its, r, pl, hz⟩ := I.tuple hq
    refine SeqAt.in_tupleAt (eqU x) pl (fun w hw => mem_eqAt rx fx r fs w (by simpa using hw)) ⟨.bl _, H, I, rfl, ?_⟩
    rw [show its.toArray.any (eqU x) = its.any (eqU x) by simp, any_eqU r fs]
    exact q
theorem call_len_seq : CallR X (.builtin "len") (fun xs H Q => ∃ p ys, xs = [.ref p] ∧ (SqL X.K H p ys ∨ SqT X.K H p ys) ∧ Q (.int ys.length) H) := by
  intro pins s σ H xs us Q I r h
  obtain ⟨p, ys, rfl, hq, q⟩ := h
  obtain ⟨u, rfl, rx⟩ := vals1 r
  cases rx
  have hn := line63
  rcases hq with hq | hq
  · obtain ⟨its, r', pl, hz⟩ := I.list hq
    have hlen := r'.length
    exact Calls.call_len_list pl.isList (by simp only [List.size_toArray] <;> omega) ⟨.int ys.length, H, I.tok _, ⟨s.toks + 1, by rw [List.size_toArray, hlen]⟩, q⟩
  · obtain ⟨its, r', pl, hz⟩ := I.tuple hq
    have hlen := r'.length
    exact len_tuple pl (by simp only [List.size_toArray] <;> omega) ⟨.int ys.length, H, I.tok _, ⟨s.toks + 1, by rw [List.size_toArray, hlen]⟩, q⟩
theorem CallR.or {f : Value} {r r' : List V → Hp → VK → Prop} (h : CallR X f r) (h' : CallR X f r') : CallR X f (fun xs H Q => r xs H Q ∨ r' xs H Q) := by
  intro pins s σ H xs us Q I rs q
  rcases q with q | q
  · exact h pins s σ H xs us Q I rs q
  · exact h' pins s σ H xs us Q I rs q
theorem call_tuple_of : CallR X (.type "tuple") (fun xs H Q => ∃ p ys, xs = [.ref p] ∧ ((SqL X.K H p ys ∧ ∀ l, H l = none → Q (.ref l) (upd H l (.tup ys))) ∨ (SqT X.K H p ys ∧ Q (.ref p) H))) := by
  intro pins s σ H xs us Q I r h
  obtain ⟨p, ys, rfl, h⟩ := h
  obtain ⟨u, rfl, rx⟩ := vals1 r
  cases rx
  rcases h with ⟨hq, q⟩ | ⟨hq, q⟩
  · obtain ⟨its, r', pl, hz⟩ := I.list hq
    have hlen := r'.length
    refine call_tuple_list pl.isList (fun h' kp => ?_) (by simp only [List.size_toArray] <;> omega)
    have I1 : Inv X pins σ H { s with heap := h' } := I.kept (t' := s.toks) kp
    have I2 : Inv X pins σ (upd H h'.objs.size (.tup ys)) { s with heap := h'.push { cls := .type "tuple", data := .seq its.toArray } } :=
      I1.laid (t' := s.toks) (fun b o e => Heap.get?_push_of_some _ e) (Nat.le_refl _) (show ObjOk X.prog X.w _ _ _ (.tup ys) from ⟨hz, its, r', IsTupN.new _ _⟩)
    exact ⟨.ref h'.objs.size, _, I2, rfl, q _ (I1.hok.fresh (Nat.le_refl _))⟩
  · obtain ⟨its, r', pl, hz⟩ := I.tuple hq
    exact call_tuple_same pl ⟨.ref p, H, I, rfl, q⟩

/-- the value is of that builtin type -/
def tyV (K : PySem.W.Frag) (T : String) (x : V) (H : Hp) : Prop := match x with
  | .str _ => T = "str"
  | .int _ => T = "int"
  | .ref p => (T = "list" ∧ ∃ xs, SqL K H p xs) ∨ (T = "tuple" ∧ ((∃ o, K.lookup p = some o ∧ o.cls = .type "tuple" ∧ o.dict = none) ∨ ∃ xs, H p = some (.tup xs))) ∨
      (T = "dict" ∧ ((∃ kvs, H p = some (.dK kvs)) ∨ ∃ kvs, H p = some (.dT kvs))) ∨ (T = "set" ∧ ∃ S n, H p = some (.set S n))
  | _ => False
theorem tyV_is {pins : List (Addr × Obj)} {σ : St} {H : Hp} {s : Shared} {T : String} {x : V} {v : Value} (I : Inv X pins σ H s) (r : RelV x v) (ty : tyV X.K T x H) :
    s.TypeIs v T ∧ ∀ a, v = .ref a → ∃ ob, s.heap.get? a = some ob ∧ ob.dict = none := by
  cases x with
  | str z =>
    obtain ⟨t, rfl⟩ := r
    cases (show T = "str" from ty)
    exact ⟨typeIs_str s z t, fun _ e => nomatch e⟩
  | int i =>
    obtain ⟨t, rfl⟩ := r
    cases (show T = "int" from ty)
    exact ⟨typeIs_int s i t, fun _ e => nomatch e⟩
  | ref p =>
    cases r
    rcases ty with ⟨rfl, xs, hq⟩ | ⟨rfl, ⟨o, hk, hc, hd⟩ | ⟨xs, hq⟩⟩ | ⟨rfl, hk⟩ | ⟨rfl, S, n, hk⟩
    · obtain ⟨its, _, pl, _⟩ := I.list hq
      refine ⟨pl.isList.typeIs, fun a e => ?_⟩
      cases e
      obtain ⟨o, n, e, c, hd, _⟩ := pl
      exact ⟨o, e, hd⟩
    · refine ⟨⟨o, I.kIn p o hk, hc⟩, fun a e => ?_⟩
      cases e
      exact ⟨o, I.kIn _ o hk, hd⟩
    · obtain ⟨_, its, _, o, e, c, n, _, hd⟩ := (show ObjOk X.prog X.w H s.heap p (.tup xs) from I.hok p _ hq)
      refine ⟨⟨o, e, c⟩, fun a e2 => ?_⟩
      cases e2
      exact ⟨o, e, hd⟩
    · have z : ∃ o, s.heap.get? p = some o ∧ o.ExactDict := by
        rcases hk with ⟨kvs, hk⟩ | ⟨kvs, hk⟩
        · obtain ⟨_, _, _, _, o, _, _, e, ex, _⟩ := I.hok p _ hk
          exact ⟨o, e, ex⟩
        · obtain ⟨_, _, _, _, o, _, _, e, ex, _⟩ := I.hok p _ hk
          exact ⟨o, e, ex⟩
      obtain ⟨o, e, ex⟩ := z
      refine ⟨⟨o, e, ex.1⟩, fun a e2 => ?_⟩
      cases e2
      exact ⟨o, e, ex.2.1⟩
    · obtain ⟨o, _, _, _, e, ex, _⟩ := I.hok p _ hk
      refine ⟨⟨o, e, ex.1⟩, fun a e2 => ?_⟩
      cases e2
      exact ⟨o, e, ex.2.1⟩
  | _ => exact False.elim ty
def tBM (K : PySem.W.Frag) (T : String) (r : V → List V → Hp → VK → Prop) (to : TE) (t : TA) : TE := fun σ H Q => to σ H fun x H1 => tyV K T x H1 ∧ t σ H1 fun xs H2 => r x xs H2 Q
variable {o e : Expr} {es : List Expr} {to : TE} {t : TA} {name : Str} {apos cpos : Pos} {T id : String} {r : V → List V → Hp → VK → Prop}
theorem pe_bm (pa : PlainAttrs T) (slot : Slot T name id) (hty : typeOf (.builtin id) = pure (.type "method_descriptor")) (hm : MtR X id r) (ho : PE X o to) (ha : PA X (e :: es) t)
    (hbase : attributeBase o name X.env (eval o X.env) = eval o X.env := by rfl)
    (hfew : ((backTo cpos (starEach (e :: es) X.env)).all (fun x => !x.1) && (backToKw cpos (keywordEach [] X.env)).all (fun x => x.1.isSome)
      && decide ((e :: es).length + ([] : List Keyword).length + (if ([] : List Keyword).isEmpty then 0 else 1) < 30)) = true := by rfl)
    (hline : (apos.endLine == cpos.line) = true := by rfl) (hs : starEach (e :: es) X.env = (false, eval e X.env) :: starEach es X.env := by rfl) (hplain : (backTo cpos (starEach es X.env)).any (·.1) = false := by rfl) :
    PE X (.Call (.Attribute o name apos) (e :: es) [] cpos) (tBM X.K T r to t) := by
  intro pins s σ H Q I h
  refine wpAny_Call_method_late hbase hfew hline rfl (thn (ho pins s σ H _ I h) fun v s1 ⟨x, H1, I1, r1, ty, q1⟩ => ?_)
  obtain ⟨h1, h2⟩ := tyV_is I1 r1 ty
  refine ⟨T, id, pa, slot, hty, h1, h2, ?_⟩
  have hA := ha cpos pins s1 σ H1 _ I1 q1
  rw [hs] at hA ⊢
  refine Calls.callWith_builtin (by show (false || (backTo cpos (starEach es X.env)).any (·.1)) = false; rw [hplain] <;> rfl) (Calls.evalArgs_plain ?_)
  exact thn hA fun us s2 ⟨vs, H2, I2, r2, q2⟩ => hm pins s2 σ H2 x vs v us Q I2 r1 r2 q2
end
end L2

namespace L2
open PySem PySem.Spec PyProof.Rows

def MtM (X : Cx) (id : String) (r : V → List V → Hp → VK → Prop) : Prop :=
  ∀ (pins : List (Addr × Obj)) (s : Shared) (σ : St) (H : Hp) (x : V) (xs : List V) (v : Value) (us : List Value) (Q : VK), Inv X pins σ H s → RelV x v → Vals xs us → r x xs H Q →
    wpAny (model X.prog X.w) X.A (call (.builtin id) (v :: us)) (EP X pins σ Q) X.xe s

theorem Vals.one : ∀ {x : V} {us : List Value}, Vals [x] us → ∃ u, us = [u] ∧ RelV x u
  | _, _, .cons r .nil => ⟨_, rfl, r⟩
theorem Vals.two : ∀ {x y : V} {us : List Value}, Vals [x, y] us → ∃ u v, us = [u, v] ∧ RelV x u ∧ RelV y v
  | _, _, _, .cons r (.cons q .nil) => ⟨_, _, rfl, r, q⟩
theorem Vals.zero : ∀ {us : List Value}, Vals [] us → us = []
  | _, .nil => rfl
theorem Vals.reverse {xs : List V} {us : List Value} (h : Vals xs us) : Vals xs.reverse us.reverse := by
  induction h with
  | nil => exact .nil
  | cons r t ih => rw [List.reverse_cons, List.reverse_cons]; exact Vals.append ih (.cons r .nil)
section
variable {X : Cx} {pins : List (Addr × Obj)} {σ : St} {H : Hp} {s : Shared} {l b : Addr} {xs ys zs : List V}

theorem Inv.lset {its its' : List Value} {n : Nat} {f : Array Value → Array Value} {t' : Nat} (I : Inv X pins σ H s) (hH : H l = some (.lst xs))
    (e : s.heap.get? l = some { cls := .type "list", data := .seq its.toArray n }) (hf : f its.toArray = its'.toArray) (hv : Vals ys its') (hz : ys.length ≤ sizeLine) :
    Inv X pins σ (upd H l (.lst ys)) { s with heap := s.heap.update l (Obj.mapSeq f), toks := t' } := by
  have q := PySem.IsL.update e f
  rw [hf] at q
  refine I.write (x := l) (e := l) (by rw [hH]; exact trivial) (.inl rfl) (fun b' u hb hu => (Heap.get?_update_other s.heap (Obj.mapSeq f) (Ne.symm hb)).trans hu) ⟨_, q⟩ ?_
  exact ⟨hz, its', _, hv, q⟩
theorem Inv.lnew {its : List Value} {t' : Nat} (I : Inv X pins σ H s) (hv : Vals ys its) (hz : ys.length ≤ sizeLine) :
    Inv X pins σ (upd H s.heap.objs.size (.lst ys)) { s with heap := s.heap.push { cls := .type "list", data := .seq its.toArray }, toks := t' } :=
  I.laid (fun _ _ q => Heap.get?_push_of_some _ q) (Nat.le_refl _) ⟨hz, its, 0, hv, Heap.get?_push_size _ rfl⟩
theorem Inv.fresh (I : Inv X pins σ H s) : H s.heap.objs.size = none := I.hok.fresh (Nat.le_refl _)
theorem Inv.lstM (I : Inv X pins σ H s) (hH : H l = some (.lst xs)) : xs.length ≤ sizeLine ∧ ∃ (its : List Value) (n : Nat), Vals xs its ∧ xs.length = its.length ∧ s.heap.get? l = some { cls := .type "list", data := .seq its.toArray n } := by
  obtain ⟨z, its, n, r, e⟩ := I.hok l _ hH
  exact ⟨z, its, n, r, r.length, e⟩

end

section
variable {X : Cx}

def rAppend : V → List V → Hp → VK → Prop := fun x vs H Q => ∃ l xs y, x = .ref l ∧ vs = [y] ∧ H l = some (.lst xs) ∧ xs.length < sizeLine ∧ Q .non (upd H l (.lst (xs ++ [y])))
theorem mt_append : MtM X "list.append" rAppend := by
  intro pins s σ H x vs v us Q I rx rv h
  obtain ⟨l, xs, y, rfl, rfl, hH, hz, q⟩ := h
  cases rx
  obtain ⟨u, rfl, ru⟩ := rv.one
  obtain ⟨z, its, n, r, hl, e⟩ := I.lstM hH
  refine call_meets F.slot_list_append ⟨_, e, rfl⟩ F.entry_list_append (F.args_list_append_2 _ _) (PySem.list_append l its.toArray n u (by rw [List.size_toArray]; omega)) ⟨e, ?_⟩
  refine ⟨.non, _, I.lset (its' := its ++ [u]) hH e (by simp) (r.append (.cons ru .nil)) ?_, rfl, q⟩
  rw [List.length_append, List.length_singleton]
  omega

def rCat : R2 := fun x y H Q => ∃ l b xs zs, x = .ref l ∧ y = .ref b ∧ H l = some (.lst xs) ∧ H b = some (.lst zs) ∧ xs.length + zs.length ≤ sizeLine ∧ ∀ p, H p = none → Q (.ref p) (upd H p (.lst (xs ++ zs)))
theorem op_cat : OpR X (binaryOp .Add) rCat := by
  intro pins s σ H x y v u Q I rx ry h
  obtain ⟨l, b, xs, zs, rfl, rfl, hH, hB, hz, q⟩ := h
  cases rx
  cases ry
  obtain ⟨z, its, n, r, hl, e⟩ := I.lstM hH
  obtain ⟨z2, its2, n2, r2, hl2, e2⟩ := I.lstM hB
  refine PySem.P.add_list e e2 ?_ (by rw [List.size_toArray, List.size_toArray]; omega)
  have ea : its.toArray ++ its2.toArray = (its ++ its2).toArray := by simp
  rw [ea]
  exact ⟨.ref _, _, I.lnew (t' := s.toks) (r.append r2) (by rw [List.length_append]; omega), rfl, q _ I.fresh⟩
end

section
variable {prog : Program} {w : World} {A : Around} {E : Value → Shared → Prop} {s : Shared}
end

section
variable {X : Cx}
end
end L2

namespace Att
open PySem PySem.W PySem.Calls PyProof.Rows

theorem ints_of_wellAll {P : Params} {h : Heap} : ∀ (ns : List Int) (vs : List Value), WellAll P h vs (ns.map WData.int) → IntsAre vs ns := by
  intro ns
  induction ns with
  | nil =>
    intro vs w
    rw [List.map_nil] at w
    cases w
    exact .nil
  | cons n ns ih =>
    intro vs w
    rw [List.map_cons] at w
    cases w with
    | cons a b =>
      cases a
      exact .cons _ _ (ih _ b)

theorem script_of {l : OpenLaw} {n : Nat} (hn : l.most = some n) {P : Params} {h : Heap} {args : List WData} {vals : List Value}
    (hpre : l.row.toRowW.claim.pre args = true) (hwl : WellAll P h vals args) :
    ∃ a vs ns, vals = [Value.ref a] ∧ args = [WData.list (ns.map WData.int)] ∧ h.get? a = some { cls := .type "list", data := .seq vs.toArray } ∧ IntsAre vs ns ∧ ns.length ≤ n := by
  have hsh : WShape.hasAll [] args [.list .int] = true := (pre_splitW hpre).1
  have hc : l.pre.holds [] { args := args } = true := (pre_splitW hpre).2
  obtain ⟨d, r, rfl, h1, h2⟩ := hasAllW_cons hsh
  obtain rfl := hasAllW_nil h2
  obtain ⟨xs, rfl, h3⟩ := hasW_list h1
  obtain ⟨ns, rfl⟩ := items_int h3
  have hlen : ns.length ≤ n := by
    unfold OpenLaw.pre at hc
    have h4 : (WTm.not (.lt (.lit (.int (n : Int))) (.len (.arg 0)))).holds [] { args := [.list (ns.map .int)] } = true := by
      have h4 := (holds_andW hc).1
      rw [hn] at h4
      exact h4
    have h5 := condW_of h4 (w_not (w_lt w_lit (w_len_list (w_arg rfl))))
    rw [List.length_map] at h5
    refine Nat.le_of_not_lt fun q => ?_
    have q' : (n : Int) < ((ns.length : Nat) : Int) := by omega
    first
      | (rw [decide_eq_true q'] at h5; exact absurd h5 (by decide))
      | (simp at h5; omega)
  cases hwl with
  | cons w1 w2 =>
    cases w2
    cases w1 with
    | list ho hall => exact ⟨_, _, ns, rfl, rfl, ho, ints_of_wellAll ns _ hall, hlen⟩

theorem post_true (l : OpenLaw) (args : List WData) : l.row.toRowW.claim.post args (.bool true) args = true :=
  postW_of (r := l.row.toRowW) (X := (true == true))
    (show WShape.has [] (.bool true) .bool = true by first | rfl | decide | simp [WShape.has, WShape.arms, WShape.armsAll])
    (show (WTm.eq .res (.lit (.bool true))).value [] { args := args, res := some (.bool true), after := args } = some (.bool (true == true)) from w_eq_bool (w_res rfl) w_lit) rfl

/-- the same from a codeAny of the CALL (for a layer whose function contracts speak of calls) -/
theorem attach_call {l : OpenLaw} {n : Nat} {q : Program} {loose : List Str} {XP : (Str → Option Value) → Heap → Prop} {YP : World → Heap → Prop} {d : DefRec}
    (hn : l.most = some n) (hdf : d.params.defaults = [])
    (call : ∀ (w : World) (s₀ s₁ : Shared) (mg mb : Str → Option Value) (fa : Addr) (o : Obj) (pm cd doc : Value) (a : Addr) (vs : List Value) (ns : List Int),
      Ground q loose [] XP w s₀ mg mb s₁.heap → YP w s₁.heap →
      s₁.heap.get? fa = some o → o.data = .func (docDef d.name d.params d.body d.scope pm cd doc) → s₁.heap.CodeRec cd d.name → mg d.name = some (.ref fa) →
      s₁.heap.get? a = some { cls := .type "list", data := .seq vs.toArray } → IntsAre vs ns → ns.length ≤ n → s₁.gens = #[] →
      codeAny (model l.prog w) callerA (.call (.ref fa) ⟨[.ref a], []⟩) (fun r s' => r = .ok (.ret (.bool true)) ∧ OldK s₁.heap s'.heap ∧ s'.os = s₁.os ∧ AllBare s'.gens) s₁) :
    WalkO q loose XP YP l.row.toRowW d [] (fun f vs => PySem.call f vs) := by
  intro w s₀ s₁ mg mb G Y fa o pm cd doc dV kV ho hd hcd hD hmg hg args vals as hpre hlay hrd hwl hlo
  obtain rfl : dV = .none := Dflts.none hD hdf
  obtain rfl : kV = .none := Dflts.noKw hD
  obtain ⟨a, vs, ns, rfl, rfl, hobj, hints, hlen⟩ := script_of hn hpre hwl
  refine enter_call (codeAny_mono (call w s₀ s₁ mg mb fa o pm cd doc a vs ns G Y ho (fd_plain hd) hcd hmg hobj hints hlen hg) fun r s' hq => ?_)
  obtain ⟨rfl, h2, h3, h4⟩ := hq
  exact ⟨.inl ⟨.bool true, .bool true, [], rfl, fun _ => rfl, .bool true, post_true l _, fun _ => ⟨List.Pairwise.nil, fun _ hm => (nomatch hm)⟩⟩, h2, h3, h4⟩

section
variable {prog : Program} {w : World} {A : Around} {E : Value → Shared → Prop} {s : Shared} {K : Frag}

end
end Att

namespace L2
open PySem PySem.Spec PyProof.Rows

theorem vals_ints : ∀ {vs : List Value} {ns : List Int}, IntsAre vs ns → Vals (ns.map V.int) vs
  | _, _, .nil => .nil
  | _, _, .cons n t h => .cons ⟨t, rfl⟩ (vals_ints h)

/-- nothing is tracked but the script, known to the object (or it is an object of the module) -/
def Only (H : Hp) : Prop := ∀ b, H b = none ∨ ∃ o xs, H b = some (.frz o (.lst xs))

/-- THE HEAD: the law's promise, at the heap behind the top. F, the promise of the law's def, may use that base is part of the heap (so K.In base, base.Ns mainGlobals mg stand in Mod) -/
theorem law_call {P : Program} {w : World} {K : PySem.W.Frag} {mg mb : Str → Option Value} {CX : CXT} {k : Nat} {fa a : Addr} {fd : FuncData} {x : Str} {sp : Sp} {s₁ : Shared} {vs : List Value} {ns : List Int}
    (KX : K.In s₁.heap) (hns : s₁.heap.Ns mainGlobals mg) (hb : s₁.heap.Ns builtinsNs mb) (hbb : ∀ x : Str, x ≠ "__name__" → mb x = bootBuiltins x) (hlim : s₁.heap.NoLimit) (hg : s₁.gens = #[])
    (ha : s₁.heap.get? a = some { cls := .type "list", data := .seq vs.toArray }) (hi : IntsAre vs ns) (hl : ns.length ≤ sizeLine) (hr : Room k callerA)
    (F : ∀ base : Heap, K.In base → base.Ns mainGlobals mg → FnOk P w K mg base CX k fa fd [x] sp) (hbind : ∀ (s : Shared) (u : Value), BindsTo s fd ⟨[u], []⟩ [(x, u)])
    (hsp : ∀ H : Hp, Only H → SqL K H a (ns.map V.int) → sp [.ref a] H (fun v _ => v = .bl true) fun _ _ _ => False)
    (hCX : ∀ H e s', CX [] H s₁ (fun _ _ _ => False) e s' → False) :
    codeAny (model P w) callerA (.call (.ref fa) ⟨[.ref a], []⟩) (fun r s' => r = .ok (.ret (.bool true)) ∧ OldK s₁.heap s'.heap ∧ s'.os = s₁.os ∧ AllBare s'.gens) s₁ := by
  have rv := vals_ints hi
  have lenV := hi.length
  -- from an abstract heap in which nothing but the script may be tracked
  have core : ∀ H : Hp, Only H → SqL K H a (ns.map V.int) → HOk P w H s₁.heap → (∀ b, H b ≠ none → b = a) → (H a ≠ none → K.lookup a = none) →
      codeAny (model P w) callerA (.call (.ref fa) ⟨[.ref a], []⟩) (fun r s' => r = .ok (.ret (.bool true)) ∧ OldK s₁.heap s'.heap ∧ s'.os = s₁.os ∧ AllBare s'.gens) s₁ := by
    intro H hO hS hok hA hK
    have base_of : ∀ {b : Addr} {o : Obj}, s₁.heap.get? b = some o → H b = none → (hidT s₁.heap H).get? b = some o := fun e n => hidT_get e n
    have noA : ∀ {b : Addr} {o : Obj} {es : Array DictEntry} {ep : Nat}, s₁.heap.get? b = some o → o.data = .dict es ep → H b = none := fun {b o es ep} e d => by
      cases q : H b with
      | none => rfl
      | some u =>
        have e' : b = a := hA b (by rw [q]; simp)
        subst e'
        rw [ha] at e; cases e
        have d' : Data.seq vs.toArray _ = Data.dict es ep := d
        cases d'
    have nsK : ∀ {b : Addr} {m : Str → Option Value}, s₁.heap.Ns b m → (hidT s₁.heap H).Ns b m := fun {b m} ⟨o, es, ep, e, d, r⟩ => ⟨o, es, ep, base_of e (noA e d), d, r⟩
    have hKb : K.In (hidT s₁.heap H) := fun b o e => base_of (KX b o e) (by
      cases q : H b with
      | none => rfl
      | some u =>
        have e' : b = a := hA b (by rw [q]; simp)
        subst e'
        rw [hK (by rw [q]; simp)] at e; cases e)
    have hM : Mod K mg (hidT s₁.heap H) := ⟨hKb, nsK hns, ⟨mb, nsK hb, hbb⟩, let ⟨mc, h1, h2⟩ := hlim; ⟨mc, nsK h1, h2⟩⟩
    have e0 : Env0 P w K mg (hidT s₁.heap H) callerA [] s₁ H := ⟨rfl, hM, fun b o e => of_hidT e, Nat.le_of_eq (hidT_size _ _), trivial, fun b hb => absurd (show b ∈ ([] : List Addr) from hb) (by simp), hok, .of_eq hg⟩
    refine codeAny_mono ((F _ hKb (nsK hns)).run callerA [] s₁ H ⟨[.ref a], []⟩ [.ref a] [.ref a] _ _ hr e0 (hbind s₁ (.ref a)) (.cons rfl .nil) (hsp H hO hS)) fun r s' h => ?_
    cases r with
    | error e => exact (hCX H e s' h).elim
    | ok fl =>
      cases fl with
      | next => exact False.elim h
      | brk => exact False.elim h
      | cont => exact False.elim h
      | ret u =>
        obtain ⟨v, H', os, bare, un, hok', r', q⟩ := h
        have q' : v = .bl true := q
        subst q'
        obtain rfl : u = Value.bool true := r'
        refine ⟨rfl, OldK.of_keep fun b o e => ?_, os, bare⟩
        cases q : H b with
        | none => exact un.keep b o e q (by intro z; exact absurd (show b ∈ ([] : List Addr) from z) (by simp)) (by simp)
        | some u =>
          rcases hO b with z | ⟨ob, xs, z⟩
          · rw [q] at z; cases z
          · have z2 := un.frzs b ob _ z
            obtain ⟨e1, _⟩ := hok b _ z
            obtain ⟨e2, _⟩ := hok' b _ z2
            rw [e] at e1; cases e1
            exact e2
  cases hk : K.lookup a with
  | some o =>
    -- the script is one of the module's own objects
    have e := KX a o hk
    rw [ha] at e
    cases e
    refine core (fun _ => none) (fun _ => .inl rfl) (.inr ⟨_, vs.toArray, _, hk, rfl, rfl, rfl, by rw [List.size_toArray, lenV]; exact hl, by simpa using rv⟩) (fun b u z => by have z' : (none : Option HO) = some u := z; cases z') (fun b z => absurd rfl z) fun z => absurd rfl z
  | none =>
    refine core (fun b => if b = a then some (.frz { cls := .type "list", data := .seq vs.toArray } (.lst (ns.map V.int))) else none) (fun b => ?_) (.inl (.inr ⟨{ cls := .type "list", data := .seq vs.toArray }, if_pos rfl⟩)) (fun b u z => ?_) (fun b z => ?_) fun _ => hk
    · by_cases hb : b = a
      · exact .inr ⟨_, _, if_pos hb⟩
      · exact .inl (if_neg hb)
    · by_cases hb : b = a
      · have z' := (if_pos hb).symm.trans z
        cases z'
        subst hb
        exact ⟨ha, by rw [List.length_map]; exact hl, vs, _, rv, ha⟩
      · have z' := (if_neg hb).symm.trans z
        cases z'
    · by_cases hb : b = a
      · exact hb
      · exact absurd (if_neg hb) z
end L2

namespace L2
open PySem PySem.Spec PyProof.Rows

/-- the goal that k_head leaves (case hc), from the law's promise. F gives the function object fd (K's own) once, then the promise over every base -/
theorem walk_of {l : PySem.W.OpenLaw} {n k : Nat} {q : Program} {loose : List Str} {XP : (Str → Option Value) → Heap → Prop} {YP : World → Heap → Prop} {d : DefRec} {K : Params → PySem.W.Frag} {CX : World → CXT} {sp : World → Sp} {x : Str}
    (hn : l.most = some n) (hn2 : n ≤ sizeLine) (hdf : d.params.defaults = []) (hr : Room k callerA)
    (hY : ∀ (w : World) (h : Heap), YP w h → (K w.params).In h)
    (F : ∀ (w : World) (mg : Str → Option Value) (fa : Addr) (h : Heap), (K w.params).In h → h.Ns mainGlobals mg → mg d.name = some (.ref fa) →
      ∃ fd : FuncData, (∀ (s : Shared) (u : Value), BindsTo s fd ⟨[u], []⟩ [(x, u)]) ∧
        ∀ base : Heap, (K w.params).In base → base.Ns mainGlobals mg → FnOk l.prog w (K w.params) mg base (CX w) k fa fd [x] (sp w))
    (hsp : ∀ (w : World) (H : Hp) (a : Addr) (ns : List Int), ns.length ≤ n → Only H → SqL (K w.params) H a (ns.map V.int) → sp w [.ref a] H (fun v _ => v = .bl true) fun _ _ _ => False)
    (hCX : ∀ (w : World) (H : Hp) (s : Shared) (e : Value) (s' : Shared), CX w [] H s (fun _ _ _ => False) e s' → False) :
    PySem.W.WalkO q loose XP YP l.row.toRowW d [] (fun f vs => PySem.call f vs) := by
  refine Att.attach_call hn hdf fun w s₀ s₁ mg mb fa o pm cd doc a vs ns G Y ho hd hcd hmg hobj hints hlen hg => ?_
  have KX := hY w _ Y
  obtain ⟨fd, hb, hF⟩ := F w mg fa _ KX G.T.g hmg
  exact law_call KX G.T.g G.T.b G.T.builtins G.T.nolimit hg hobj hints (Nat.le_trans hlen hn2) hr hF hb (fun H hO hS => hsp w H a ns hlen hO hS) fun H e s' => hCX w H s₁ e s'
end L2


namespace L2
open PySem PySem.Spec PyProof.Rows

def defArgs (s : Stmt) : Arguments := match s with
  | .FunctionDef _ a _ _ _ _ _ _ _ _ => a
  | _ => { posonlyargs := [], args := [], vararg := none, kwonlyargs := [], kw_defaults := [], kwarg := none, defaults := [] }
def defBody (s : Stmt) : List Stmt := match s with
  | .FunctionDef _ _ b _ _ _ _ _ _ _ => b
  | _ => []
def defScope (s : Stmt) : Scope := match s with
  | .FunctionDef _ _ _ _ _ _ sc _ _ _ => sc
  | _ => { kind := .function, names := [], isGenerator := false, isCoroutine := false }

abbrev CX0 : CXT := fun _ _ _ _ _ _ => False
abbrev E0 : XK := fun _ _ _ => False
theorem pass0 {X : Cx} : Passes CX0 X E0 := fun _ _ _ _ _ _ _ h => h.elim

structure Fun (K : PySem.W.Frag) (x qual : Str) (st : Stmt) (f : Addr) (fd : FuncData) : Prop where
  ex : ∃ (oc : Value) (od : Option Addr) (kV doc pm : Value) (an : Option Addr) (cdv ct : Value) (osl : Array (Option Value)),
    fd = PySem.W.fnOf x qual (defArgs st) (defBody st) (defScope st) .none kV doc pm an cdv ct ∧ K.lookup f = some ⟨oc, od, .func fd, osl⟩ ∧ PySem.W.codeIn K cdv qual = true
  kp : PySem.W.keepIn K (.ref f) = true
section
variable {P : Program} {w : World} {K : PySem.W.Frag} {mg : Str → Option Value} {base : Heap}
/-- THE RULE for a def: its body as a term of rules, and the reading of that term -/
theorem Fun.ok {x qual : Str} {st : Stmt} {f : Addr} {fd : FuncData} {N ps : List Str} {k : Nat} {sp : Sp} (F : Fun K x qual st f fd) (S : FnScope N ps (defScope st)) (len : ∀ vs H Q E, sp vs H Q E → vs.length = ps.length)
    (hbody : ∀ (cdv : Value) (A : Around) (outer : List Env) (s : Shared) (H : Hp) (vs : List V) (Q : VK) (E : XK), Room k (A.deeper (envOfC qual (defScope st) s.heap.objs.size f cdv)) → sp vs H Q E →
      ∃ t, PSs (cxOf CX0 P w K mg base N qual (defScope st) f cdv A outer s H E).nox (defBody st) t ∧ t { nx := fun _ H' => Q .non H', rt := Q } (start N vs) H) : FnOk P w K mg base CX0 (k + 1) f fd ps sp := by
  obtain ⟨oc, od, kV, doc, pm, an, cdv, ct, osl, rfl, lk, hcd⟩ := F.ex
  refine fn_of lk hcd S len fun A outer s H vs Q E hr hsp => ?_
  obtain ⟨t, h, q⟩ := hbody cdv A outer s H vs Q E hr hsp
  exact ⟨t, h.nox, q⟩
/-- how its arguments bind (no defaults): h is «fun _ _ _ _ _ _ us hl => match us, hl with | [_, _], _ => rfl», one _ a parameter -/
theorem Fun.binds {x qual : Str} {st : Stmt} {f : Addr} {fd : FuncData} {ps : List Str} (F : Fun K x qual st f fd)
    (h : ∀ (kV doc pm : Value) (an : Option Addr) (cdv ct : Value) (us : List Value), us.length = ps.length → bindArgs (PySem.W.fnOf x qual (defArgs st) (defBody st) (defScope st) .none kV doc pm an cdv ct) ⟨us, []⟩ = pure (ps.zip us)) : Binds K fd ps [] := by
  obtain ⟨oc, od, kV, doc, pm, an, cdv, ct, osl, rfl, lk, hcd⟩ := F.ex
  exact .all (h kV doc pm an cdv ct)
theorem fun_mk {x qual : Str} {st : Stmt} {f : Addr} {oc : Value} {od an : Option Addr} {osl : Array (Option Value)} {kV doc pm cdv ct : Value} (l : K.lookup f = some ⟨oc, od, .func (PySem.W.fnOf x qual (defArgs st) (defBody st) (defScope st) .none kV doc pm an cdv ct), osl⟩)
    (c : PySem.W.codeIn K cdv qual = true) (k : PySem.W.keepIn K (.ref f) = true) : Fun K x qual st f (PySem.W.fnOf x qual (defArgs st) (defBody st) (defScope st) .none kV doc pm an cdv ct) := ⟨⟨oc, od, kV, doc, pm, an, cdv, ct, osl, rfl, l, c⟩, k⟩
end
theorem small1000 {n : Nat} (h : n ≤ 1000) : n < sizeLine := Nat.lt_of_le_of_lt h (by decide)

section
variable {X : Cx}
theorem pv (i : Nat) {x : Str} {pos : Pos} (hN : X.N[i]? = some x := by rfl) (hv : Vis X.env.scope x := by first | exact Or.inl rfl | exact Or.inr (Or.inl rfl) | exact Or.inr (Or.inr rfl)) (hd : (x == ("__debug__" : Str)) = false := by decide)
    (hcd : (x == ("__classdict__" : Str)) = false := by decide) : PE X (.Name x pos) (tVar i) := pe_var hN hv hd hcd
end

theorem iteF {A B : Prop} (h : B) : if false = true then A else B := by
  rw [if_neg Bool.false_ne_true]
  exact h
theorem iteT {A B : Prop} (h : A) : if true = true then A else B := by
  rw [if_pos rfl]
  exact h
theorem ite2 {c A B : Prop} [Decidable c] (h1 : c → A) (h2 : ¬ c → B) : if c then A else B := by
  by_cases h : c
  · rw [if_pos h]
    exact h1 h
  · rw [if_neg h]
    exact h2 h
/-- all that was tracked is as it was -/
def Same (H H' : Hp) : Prop := ∀ b o, H b = some o → H' b = some o
theorem Same.refl (H : Hp) : Same H H := fun _ _ h => h
theorem Same.trans {H H1 H2 : Hp} (a : Same H H1) (b : Same H1 H2) : Same H H2 := fun c o h => b c o (a c o h)
theorem Same.free {H H' : Hp} (e : Same H H') {l : Addr} (h : H' l = Option.none) : H l = Option.none := by
  cases q : H l with
  | none => rfl
  | some o =>
    rw [e l o q] at h
    cases h
theorem Same.seq {K : PySem.W.Frag} {H H' : Hp} {a : Addr} {xs : List V} (e : Same H H') (h : SqL K H a xs) : SqL K H' a xs := by
  rcases h with (h | ⟨o, h⟩) | h
  · exact .inl (.inl (e _ _ h))
  · exact .inl (.inr ⟨o, e _ _ h⟩)
  · exact .inr h

end L2
set_option Elab.async false
set_option linter.all false
set_option maxRecDepth 100000
namespace Own
open PySem PySem.Spec PyProof.Rows L2

def Has (P : Program) (w : World) (K : PySem.W.Frag) (mg : Str → Option Value) (base : Heap) (x : Str) (ps : List Str) (k : Nat) (sp : Sp) : Prop :=
  ∃ (f : Addr) (fd : FuncData), FnOk P w K mg base CX0 k f fd ps sp ∧ Binds K fd ps [] ∧ PySem.W.keepIn K (.ref f) = true ∧ mg x = some (.ref f)
theorem Has.mono {P : Program} {w : World} {K : PySem.W.Frag} {mg : Str → Option Value} {base : Heap} {x : Str} {ps : List Str} {j k : Nat} {sp : Sp} (h : Has P w K mg base x ps j sp) (hk : j ≤ k) : Has P w K mg base x ps k sp := by
  obtain ⟨f, fd, F, r⟩ := h
  exact ⟨f, fd, F.mono hk, r⟩
section
variable {X : Cx} {k : Nat} {ps : List Str} {sp : Sp} {x : Str} {p pos : Pos} {e : Expr} {es : List Expr} {t : TA}
theorem pe_has (h : Has X.prog X.w X.K X.mg X.base x ps k sp) (hr : Room k X.A) (hg : Gl X x)
    (ha : PA X (e :: es) t) (hdb : (x == ("__debug__" : Str)) = false := by decide) (he : starEach (e :: es) X.env = (false, eval e X.env) :: starEach es X.env := by rfl) (hpl : (backTo pos (starEach es X.env)).any (·.1) = false := by rfl) :
    PE X (.Call (.Name x p) (e :: es) [] pos) (tCall sp [] E0 t) := by
  obtain ⟨f, fd, F, b, kp, m⟩ := h
  exact pe_call F hr hg m kp b .nil pass0 ha hdb he hpl
end
def CMulW (i j : Int) : Prop := i.natAbs < 2 ^ 9000 ∧ j.natAbs < 2 ^ 9000
def CDivW (i j : Int) : Prop := j ≠ 0 ∧ j.natAbs < 2 ^ 9000
theorem bits_of {i : Int} (h : i.natAbs < 2 ^ 9000) : Builtin.Int.intBits i ≤ 2 ^ 20 :=
  Nat.le_trans (intBits_le h) (by decide)
section
variable {X : Cx}
theorem op_mulW : OpR X (binaryOp .Mult) (rI CMulW fun i j => .int (i * j)) := opI fun _ _ _ _ _ _ _ hc q => mul_int q (IntMulOk.of_bits (bits_of hc.1) (bits_of hc.2))
theorem log2_lt {n : Nat} (h : n < 2 ^ 9000) : n.log2 < 9000 := by
  by_cases h0 : n = 0
  · subst h0; decide
  · exact (Nat.log2_lt h0).mpr h
theorem op_fdivW : OpR X (binaryOp .FloorDiv) (rI CDivW fun i j => .int (i.fdiv j)) := opI fun _ _ _ _ _ _ _ hc q => floordiv_int hc.1 q (.inl (PyProof.noPylong_of_log2 (log2_lt hc.2)))
/-- isinstance(x, T), T a built-in type -/
theorem call_isi : CallR X (.builtin "isinstance") (fun xs H Q => ∃ x t T b, xs = [x, .ty T] ∧ TyOf X.K H x t ∧ PySem.W.kitOne X.K t (.type T) = some b ∧ Q (.bl b) H) := by
  intro pins s σ H xs us Q I r h
  obtain ⟨x, t, T, b, rfl, ty, e, q⟩ := h
  obtain ⟨u, w', rfl, r1, r2⟩ := vals2 r
  cases r2
  exact isinst_ok I r1 ty e fun tk => ⟨.bl b, H, I.tok _, rfl, q⟩
end
end Own
set_option Elab.async false
set_option linter.all false
set_option maxRecDepth 100000
set_option maxHeartbeats 4000000
namespace L2
open PySem PySem.Spec PyProof.Rows

abbrev TB := (St → Hp → Prop) → St → Hp → Prop
/-- a piece of code within a comprehension's turn -/
def PBd (X : Cx) (code : Sem Unit) (b : TB) : Prop :=
  ∀ (pins : List (Addr × Obj)) (s : Shared) (σ : St) (H : Hp) (N : St → Hp → Prop), Inv X pins σ H s → b N σ H →
    wpAny (model X.prog X.w) X.A code (fun _ s' => ∃ σ' H', Inv X pins σ' H' s' ∧ N σ' H') X.xe s
/-- the rest of a turn: it ends with the loop again -/
def PTl (X : Cx) (tail : Sem PySem.Fin) (L : Code) (b : TB) : Prop :=
  ∀ (pins : List (Addr × Obj)) (s : Shared) (σ : St) (H : Hp) (N : St → Hp → Prop), Inv X pins σ H s → b N σ H →
    wpAny (model X.prog X.w) X.A tail (fun fin s' => fin = .again L ∧ ∃ σ' H', Inv X pins σ' H' s' ∧ N σ' H') X.xe s
def tailOf (ifs : List Expr) (env : Env) (body : Sem Unit) (L : Code) : Sem PySem.Fin :=
  (forIn ifs true fun c r => if r = true then do let ok ← isTrue c env (eval c env); pure (ForInStep.yield ok) else pure (ForInStep.yield r)) >>= fun ok => if ok = true then body >>= fun _ => again L else again L
/-- the walk of one clause: as tFor, without break and return -/
def tWalk (J : It) (g : TG) (b : TB) (N0 : St → Hp → Prop) (σ : St) (H : Hp) : Prop :=
  ∃ W : Nat → Nat → St → Hp → Prop, (∃ m, W 0 m σ H) ∧ ∀ i m σ H, W i m σ H →
    (J.stop i H ∧ N0 σ H) ∨ (J.go i H ∧ ∃ N : St → Hp → Prop, (∀ σ' H', N σ' H' → ∃ m', m' < m ∧ W (i + 1) m' σ' H') ∧ ∀ x H', J.yld i H x H' → g x σ H' fun σ2 H2 => b N σ2 H2)
section
variable {X : Cx} {e tg : Expr} {gens : List Comprehension} {sc : Scope} {cpos : Pos} {d : Nat} {it : Addr} {acc : Value} {tail : Sem PySem.Fin} {p : Pos} {g : TG} {b : TB} {J : It} {fp : List Addr} {tn : Nat → Heap → Prop} {N0 : St → Hp → Prop} {R : Result → Shared → Prop}
theorem comp_loop (he : (∃ el, e = .ListComp el gens sc cpos) ∨ ∃ k v, e = .DictComp k v gens sc cpos) (hx : X.xe = fun _ _ => False) (hc : X.calm = true)
    (ht : compTurn e d (.ref it) acc X.env = (standAt p >>= fun _ => pyNext (.ref it) >>= fun r => match r with
      | none => pure (.done .next)
      | some v => letOwnedTupleGo tg (.ref it) v >>= fun _ => assign tg X.env v >>= fun _ => tail))
    (T : Turn X.prog X.w X.K tg J fp it tn) (hg : PG X tg g) (hb : PTl X tail (.compLoop e d (.ref it) acc X.env) b) {pins : List (Addr × Obj)} {σ : St} {H : Hp} {s : Shared}
    (I : Inv X pins σ H s) (st : tn 0 s.heap) (f2 : ∀ b ∈ fp, FpOk X pins H b) (hw : tWalk J g b N0 σ H)
    (hR : ∀ σ' H' s', Inv X pins σ' H' s' → N0 σ' H' → R (.ok .next) s') :
    codeAny (model X.prog X.w) X.A (.compLoop e d (.ref it) acc X.env) R s := by
  obtain ⟨W, ⟨m0, w0⟩, turn⟩ := hw
  have stat : ∀ {H' : Hp}, (∀ b ∈ fp, H' b = none) → ∀ b ∈ fp, FpOk X pins H' b := fun hn b hb => ⟨hn b hb, (f2 b hb).2⟩
  refine codeAny_loop rfl (fun n s' => ∃ i σ' H', Inv X pins σ' H' s' ∧ tn i s'.heap ∧ (∀ b ∈ fp, H' b = none) ∧ W i n σ' H') ?_ m0 ⟨0, σ, H, I, st, fun b hb => (f2 b hb).1, w0⟩
  rintro n s3 ⟨i, σ3, H3, I3, st3, fr3, w3⟩
  have hden : (model X.prog X.w).den (.compLoop e d (.ref it) acc X.env) = ((compTurn e d (.ref it) acc X.env).onRaise (fun x => do noteFrame x X.env; theTreesLotGoes x)) ∧ X.A.under (.compLoop e d (.ref it) acc X.env) = X.A := by
    rcases he with ⟨el, rfl⟩ | ⟨k, v, rfl⟩ <;> exact ⟨rfl, rfl⟩
  rw [hden.1, hden.2]
  show wpAny _ _ ((compTurn e d (.ref it) acc X.env).onRaise (fun x => do noteFrame x X.env; theTreesLotGoes x)) _ _ s3
  refine wpAny_noted ?_
  rw [ht]
  have no : ∀ {α : Type} {t : Sem α} {Q : α → Shared → Prop} {E : Value → Shared → Prop} {s : Shared}, wpAny (model X.prog X.w) X.A t Q X.xe s → wpAny (model X.prog X.w) X.A t Q E s :=
    fun h => wpAny_mono h (fun _ _ q => q) fun _ _ q => by rw [hx] at q; exact q.elim
  refine wpAny_bind (wpAny_standAt (wpAny_bind ?_))
  rcases turn i n σ3 H3 w3 with ⟨stop, qn⟩ | ⟨go, N, hN, step⟩
  · refine no (thn (T.done X rfl rfl rfl hc i pins s3 σ3 H3 X.xe I3 (stat fr3) st3 stop) fun r s4 ⟨hr, I4⟩ => ?_)
    subst hr
    exact wpAny_pure (hR _ _ _ I4 qn)
  · refine no (thn (T.item X rfl rfl rfl hc i pins s3 σ3 H3 X.xe I3 (stat fr3) st3 go) fun r s4 ⟨u, hr, h4⟩ => ?_)
    subst hr
    refine wpAny_bind (no (thn h4 fun _ s5 ⟨x, H5, I5, r5, y5, st5, fr5⟩ => ?_))
    have I5' := I5.pinned (stat fr5) (T.obj _ _ st5)
    refine wpAny_bind (no (thn (hg _ s5 σ3 H5 x u _ I5' r5 (step x H5 y5)) fun _ s6 ⟨σ6, H6, I6, q6⟩ => ?_))
    refine no (thn (hb _ s6 σ6 H6 _ I6 q6) fun fin s7 ⟨hf, σ7, H7, I7, n7⟩ => ?_)
    subst hf
    obtain ⟨m', hm, w7⟩ := hN σ7 H7 n7
    refine ⟨rfl, m', hm, i + 1, σ7, H7, I7.unpinned, T.keep _ _ _ st5 fun b hb o e => (I7.pin (b, o) (List.mem_append_right _ (List.mem_append_right _ (mem_pinsAt hb e)))).1, fun b hb => ?_, w7⟩
    obtain ⟨o, e, d⟩ := T.obj _ _ st5 b hb
    exact (I7.pin (b, o) (List.mem_append_right _ (List.mem_append_right _ (mem_pinsAt hb e)))).2.1
end
/-- no test; one test; two -/
def bIf (t : TT) (b : TB) : TB := fun N σ H => t σ H fun c H1 => if c = true then b N σ H1 else N σ H1
theorem pt_tail0 {X : Cx} {body : Sem Unit} {L : Code} {b : TB} (hb : PBd X body b) : PTl X (tailOf [] X.env body L) L b := by
  intro pins s σ H N I h
  unfold tailOf
  refine wpAny_bind (wpAny_tests_nil ?_)
  show wpAny _ _ (body >>= fun _ => again L) _ _ s
  exact wpAny_bind (thn (hb pins s σ H N I h) fun _ s' q => wpAny_pure ⟨rfl, q⟩)
theorem pt_tail1 {X : Cx} {c : Expr} {t : TT} {body : Sem Unit} {L : Code} {b : TB} (hc : PT X c t) (hb : PBd X body b) : PTl X (tailOf [c] X.env body L) L (bIf t b) := by
  intro pins s σ H N I h
  unfold tailOf
  refine wpAny_bind (wpAny_tests_one (thn (hc pins s σ H _ I h) fun ok s1 ⟨H1, I1, q⟩ => ?_))
  cases ok with
  | true => exact wpAny_bind (thn (hb pins s1 σ H1 N I1 (by simpa using q)) fun _ s' q => wpAny_pure ⟨rfl, q⟩)
  | false => exact wpAny_pure ⟨rfl, σ, H1, I1, by simpa using q⟩
/-- the item onto the list at D -/
def bApp (D : Addr) (te : TE) : TB := fun N σ H => te σ H fun x H1 => ∃ xs, H1 D = some (.lst xs) ∧ xs.length < sizeLine ∧ N σ (upd H1 D (.lst (xs ++ [x])))
theorem pb_app {X : Cx} {el : Expr} {te : TE} {D : Addr} (he : PE X el te) : PBd X (do let _ ← call (.builtin "list.append") [.ref D, ← eval el X.env]) (bApp D te) := by
  intro pins s σ H N I h
  refine wpAny_bind (thn (he pins s σ H _ I h) fun u s1 ⟨x, H1, I1, r, xs, hD, hz, q⟩ => ?_)
  refine wpAny_bind (thn (mt_append pins s1 σ H1 (.ref D) [x] (.ref D) [u] (fun _ H2 => N σ H2) I1 rfl (.cons r .nil) ⟨D, xs, x, rfl, rfl, hD, hz, q⟩) fun _ s2 ⟨_, H2, I2, _, q2⟩ => ?_)
  exact wpAny_pure ⟨σ, H2, I2, q2⟩
theorem turn_l1 (el tg iter : Expr) (ifs : List Expr) (sc : Scope) (pos : Pos) (it acc : Value) (env : Env) :
    compTurn (.ListComp el [⟨tg, iter, ifs, 0⟩] sc pos) 0 it acc env = (standAt iter.pos >>= fun _ => pyNext it >>= fun r => match r with
      | none => pure (.done .next)
      | some v => letOwnedTupleGo tg it v >>= fun _ => assign tg env v >>= fun _ => tailOf ifs env (do let _ ← call (.builtin "list.append") [acc, ← eval el env]) (.compLoop (.ListComp el [⟨tg, iter, ifs, 0⟩] sc pos) 0 it acc env)) := by rfl
end L2
set_option Elab.async false
set_option linter.all false
set_option maxRecDepth 100000
set_option maxHeartbeats 4000000
namespace L2
open PySem PySem.Spec PyProof.Rows

/-- the cells of the enclosing frame that the block's free names stand for -/
def clStep (env : Env) (cs : List (Str × Addr)) (y : Str × NameKind) : List (Str × Addr) :=
  if (y.2 == .free) = true then (match env.cells.lookup y.1 with | some c => (y.1, c) :: cs | none => cs) else cs
def clOf (sc : Scope) (env : Env) : List (Str × Addr) := sc.names.foldl (clStep env) []
def clTurn (env : Env) (x : Str × NameKind) (r : List (Str × Addr)) : Sem (ForInStep (List (Str × Addr))) :=
  match x with | (name, kind) => if (kind == .free) = true then (do let a ← cellOf env name; pure (ForInStep.yield ((name, a) :: r))) else pure (ForInStep.yield r)
theorem clTurn_eq {env : Env} {y : Str × NameKind} {cs : List (Str × Addr)} (h : y.2 = .free → ∃ c, env.cells.lookup y.1 = some c) : clTurn env y cs = pure (ForInStep.yield (clStep env cs y)) := by
  obtain ⟨n, k⟩ := y
  unfold clTurn clStep
  cases hk : k == NameKind.free with
  | false => simp [hk]
  | true =>
    obtain ⟨c, hc⟩ := h (by simpa using hk)
    have hc' : List.lookup n env.cells = some c := hc
    simp only [hk, if_true, cellOf, hc', pure_bind]
theorem closure_go {env : Env} : ∀ (l : List (Str × NameKind)) (cs : List (Str × Addr)), (∀ y ∈ l, y.2 = .free → ∃ c, env.cells.lookup y.1 = some c) →
    (forIn l cs (clTurn env) : Sem (List (Str × Addr))) = pure (l.foldl (clStep env) cs)
  | [], cs, _ => rfl
  | y :: r, cs, h => by
    rw [List.forIn_cons, clTurn_eq (h y List.mem_cons_self), pure_bind, List.foldl_cons]
    exact closure_go r _ fun y hy => h y (List.mem_cons_of_mem _ hy)
theorem closure_of {sc : Scope} {env : Env} (h : ∀ y ∈ sc.names, y.2 = .free → ∃ c, env.cells.lookup y.1 = some c) : closureFor sc env = pure (clOf sc env) := by
  have q := closure_go (env := env) sc.names [] h
  have z : closureFor sc env = (forIn sc.names [] (clTurn env) >>= fun r => pure r) := rfl
  rw [z, q]
  rfl
theorem cl_in {env : Env} {x : Str} {c : Addr} : ∀ (l : List (Str × NameKind)) (cs : List (Str × Addr)), (cs.lookup x = some c → env.cells.lookup x = some c) → (l.foldl (clStep env) cs).lookup x = some c → env.cells.lookup x = some c
  | [], cs, h, e => h e
  | (n, k) :: r, cs, h, e => by
    rw [List.foldl_cons] at e
    refine cl_in r _ (fun z => ?_) e
    unfold clStep at z
    split at z
    · split at z
      · rename_i c' hc
        rw [List.lookup_cons] at z
        split at z
        · rename_i hx
          have : x = n := by simpa using hx
          subst this
          cases z
          exact hc
        · exact h z
      · exact h z
    · exact h z
theorem cl_has {env : Env} {x : Str} : ∀ (l : List (Str × NameKind)) (cs : List (Str × Addr)), (∃ c, env.cells.lookup x = some c) → ((∃ c, cs.lookup x = some c) ∨ (x, NameKind.free) ∈ l) → ∃ c, (l.foldl (clStep env) cs).lookup x = some c
  | [], cs, _, h => h.elim id (fun z => nomatch z)
  | (n, k) :: r, cs, he, h => by
    rw [List.foldl_cons]
    refine cl_has r _ he ?_
    rcases h with ⟨c, h⟩ | h
    · left
      unfold clStep
      split
      · split
        · rename_i c' hc
          rw [List.lookup_cons]
          split
          · exact ⟨_, rfl⟩
          · exact ⟨c, h⟩
        · exact ⟨c, h⟩
      · exact ⟨c, h⟩
    · rcases List.mem_cons.mp h with z | z
      · cases z
        obtain ⟨c, hc⟩ := he
        left
        refine ⟨c, ?_⟩
        unfold clStep
        simp [hc]
      · exact .inr z

structure CS (sc S0 : Scope) : Prop where
  kind : sc.kind = .function
  names : ∀ y ∈ sc.names, y.2 = .local → sc.names.lookup y.1 = some .local
  nocell : ∀ y ∈ sc.names, y.2 ≠ .cell
  free : ∀ y ∈ sc.names, y.2 = .free → S0.names.lookup y.1 = some .cell
def relOne (env : Env) (y : Str × NameKind) : Str × NameKind := if (y.2 == .free && env.scope.kind == .function && env.kindOf y.1 == some .cell) = true then (y.1, .cell) else (y.1, y.2)
theorem relOne_fst (env : Env) (y : Str × NameKind) : (relOne env y).1 = y.1 := by
  unfold relOne
  split <;> rfl
theorem rel_look {env : Env} {x : Str} : ∀ (l : List (Str × NameKind)), (l.map (relOne env)).lookup x = (l.lookup x).map fun k => (relOne env (x, k)).2
  | [] => rfl
  | (n, k) :: r => by
    rw [List.map_cons]
    have e : relOne env (n, k) = (n, (relOne env (n, k)).2) := Prod.ext (relOne_fst env (n, k)) rfl
    rw [e, List.lookup_cons, List.lookup_cons]
    cases hx : x == n with
    | true =>
      have : x = n := by simpa using hx
      subst this
      rfl
    | false => exact rel_look r
/-- the context of the block: s₂, H₂ ahead of it, the locals at C -/
def cxC (X : Cx) (Nc : List Str) (sc : Scope) (C : Addr) (s₂ : Shared) (H₂ : Hp) (fp : List Addr) (pins : List (Addr × Obj)) : Cx :=
  { X with N := Nc, s₀ := s₂, H₀ := H₂, env := compEnvC sc (clOf sc X.env) C X.env, outer := X.stack, ex := fp, fn := fun _ => false, pn := X.pn ++ pins }
/-- the names' values at the block's start: js says which name of the frame each is, none: the block's own -/
def compSt (js : List (Option Nat)) (σ : St) : St := js.map fun o => o.bind fun j => (σ[j]?).join
def capOk (js : List (Option Nat)) (Nc N : List Str) (names : List (Str × NameKind)) : Bool :=
  decide (js.length = Nc.length) && (js.zip Nc).all fun (o, x) => match o with | none => true | some j => decide (N[j]? = some x) && decide (names.lookup x = some .free)
theorem cap_of {js : List (Option Nat)} {Nc N : List Str} {names : List (Str × NameKind)} (h : capOk js Nc N names = true) : js.length = Nc.length ∧ ∀ (i j : Nat) (x : Str), js[i]? = some (some j) → Nc[i]? = some x → N[j]? = some x ∧ names.lookup x = some .free := by
  unfold capOk at h
  rw [Bool.and_eq_true] at h
  refine ⟨of_decide_eq_true h.1, fun i j x e1 e2 => ?_⟩
  have z : (js.zip Nc)[i]? = some (some j, x) := by
    rw [List.getElem?_zip_eq_some]
    exact ⟨e1, e2⟩
  have q := List.all_eq_true.mp h.2 _ (List.mem_of_getElem? z)
  dsimp only at q
  rw [Bool.and_eq_true] at q
  exact ⟨of_decide_eq_true q.1, of_decide_eq_true q.2⟩
section
variable {X : Cx} {pins : List (Addr × Obj)} {σ : St} {H : Hp} {s : Shared} {sc : Scope} {Nc : List Str} {js : List (Option Nat)} {fp : List Addr}
theorem ok_comp (I : Inv X pins σ H s) (S : CS sc X.env.scope) (f : ∀ b ∈ fp, FpOk X pins H b) (hlt : ∀ b ∈ fp, b < s.heap.objs.size) {C : Addr} (hC : s.heap.objs.size ≤ C) : (cxC X Nc sc C s H fp pins).Ok := by
  have inX : ∀ x c, (clOf sc X.env).lookup x = some c → X.env.cells.lookup x = some c := fun x c e => cl_in sc.names [] (fun z => nomatch z) e
  refine ⟨I.ok.mod, S.kind, I.ok.glob, I.ok.blt, hC, fun x y c e1 e2 => I.ok.inj x y c (inX x c e1) (inX y c e2), fun x hx => ?_, fun x c z => (nomatch z), I.ok.hd, I.ok.frames, .inl rfl, fun b hb => ⟨?_, fun x c e => (f b hb).2.2.2.2.1 x c (inX x c e)⟩, I.bs, Nat.le_trans I.ok.bsz I.sz, fun b o e hb => ?_, fun b hb hs => ?_, I.stack, I.stkFree⟩
  · have hx' : (sc.names.map (relOne X.env)).lookup x = some .cell ∨ (sc.names.map (relOne X.env)).lookup x = some .free := hx
    rw [rel_look] at hx'
    cases e : sc.names.lookup x with
    | none => rw [e] at hx'; rcases hx' with z | z <;> cases z
    | some k =>
      rw [e] at hx'
      have m : (x, k) ∈ sc.names := PySem.mem_of_lookup e
      have kf : k = .free := by
        have nk := S.nocell _ m
        unfold relOne at hx'
        by_cases hk : (k == NameKind.free) = true
        · simpa using hk
        · have hk' : (k == NameKind.free) = false := by simpa using hk
          simp only [hk', Bool.false_and, Option.map_some] at hx'
          rcases hx' with z | z
          · exact absurd (by simpa using z) nk
          · simpa using z
      subst kf
      have hx2 := S.free _ m rfl
      obtain ⟨c, hc⟩ := I.ok.has x (.inl hx2)
      exact cl_has sc.names [] ⟨c, hc⟩ (.inr m)
  · exact Nat.ne_of_lt (Nat.lt_of_lt_of_le (hlt b hb) hC)
  · obtain ⟨h0, h1, h2, h3, h4, h5⟩ := f b hb
    rcases h3 with z | z
    · exact I.ok.noex b o e z
    · exact absurd (Nat.lt_of_lt_of_le (Heap.lt_size (I.ok.bs b o e).1) z) (Nat.lt_irrefl _)
  · obtain ⟨h0, h1, h2, h3, h4, h5⟩ := f b hb
    rcases List.mem_cons.mp (I.stkSub b hs) with z | z
    · exact h1 z
    · exact h2 z
/-- the block begins: h₁ is the heap with the new object at D (tracked as o) and the block's names at C -/
theorem inv_comp (I : Inv X pins σ H s) (S : CS sc X.env.scope) (f : ∀ b ∈ fp, FpOk X pins H b) (hlt : ∀ b ∈ fp, b < s.heap.objs.size) (cap : capOk js Nc X.N sc.names = true) {C D : Addr} {o : HO} {h₁ : Heap} {m : Str → Option Value} {tk : Nat}
    (hC : s.heap.objs.size ≤ C) (hD : s.heap.objs.size ≤ D) (hDC : D ≠ C) (hk : ∀ b ob, s.heap.get? b = some ob → h₁.get? b = some ob) (hns : h₁.Ns C m) (new : ObjOk X.prog X.w (upd H D o) h₁ D o) :
    Inv (cxC X Nc sc C s H fp pins) [] (compSt js σ) (upd H D o) { s with heap := h₁, toks := tk } := by
  have inX : ∀ x c, (clOf sc X.env).lookup x = some c → X.env.cells.lookup x = some c := fun x c e => cl_in sc.names [] (fun z => nomatch z) e
  have fresh : ∀ a, s.heap.objs.size ≤ a → H a = none := fun a ha => I.hok.fresh ha
  obtain ⟨cl, cp⟩ := cap_of cap
  refine ⟨ok_comp I S f hlt hC, rfl, I.bare, Un.laid hk hD (fresh D hD), ⟨m, hns, fun i x v e1 e2 e3 => ?_⟩, fun x c e => ?_, ?_, fun x c e => ?_, fun p hp => ?_, I.hok.laid hk hD new, ?_⟩
  · -- a name of the frame's
    unfold compSt at e2
    rw [List.getElem?_map] at e2
    cases ej : js[i]? with
    | none => rw [ej] at e2; cases e2
    | some oj =>
      rw [ej] at e2
      cases oj with
      | none => cases e2
      | some j =>
        obtain ⟨hN, hfree⟩ := cp i j x ej e1
        have hv : σ[j]? = some (some v) := by
          simp only [Option.map_some, Option.bind_some, Option.some.injEq] at e2
          cases e : σ[j]? with
          | none => rw [e] at e2; cases e2
          | some w => rw [e] at e2; exact congrArg some e2
        have kc : X.env.kindOf x = some .cell := S.free _ (PySem.mem_of_lookup hfree) rfl
        obtain ⟨m', hn', hl⟩ := I.loc
        obtain ⟨u, r, lk⟩ := hl j x v hN hv (.inr (.inl kc))
        refine ⟨u, r, .inr ⟨.inl ?_, ?_⟩⟩
        · show (sc.names.map (relOne X.env)).lookup x = some .cell
          rw [rel_look, hfree]
          unfold relOne
          simp [I.ok.kind, kc]
        · rcases lk with ⟨z, _⟩ | ⟨_, c, hc, ic⟩
          · rw [kc] at z; cases z
          · obtain ⟨c', hc'⟩ := cl_has sc.names [] ⟨c, hc⟩ (.inr (PySem.mem_of_lookup hfree))
            have : c' = c := Option.some.inj ((inX x c' hc').symm.trans hc)
            subst this
            exact ⟨c', hc', ic.keeps hk⟩
  · obtain ⟨v, ic⟩ := I.cell x c (inX x c e)
    exact ⟨v, ic.keeps hk⟩
  · show upd H D o C = none
    rw [upd_ne hDC.symm]
    exact fresh C hC
  · have q := inX x c e
    obtain ⟨v, ic⟩ := I.cell x c q
    show upd H D o c = none
    rw [upd_ne (Nat.ne_of_lt (Nat.lt_of_lt_of_le ic.lt hD))]
    exact I.freeC x c q
  · have hp' : p ∈ X.pn ++ pins := by
      rcases List.mem_append.mp hp with z | z
      · exact z
      · exact absurd z (by simp)
    obtain ⟨a1, a2, a3, a4, a5⟩ := I.pin p hp'
    have lt := Heap.lt_size a1
    refine ⟨hk _ _ a1, ?_, Nat.ne_of_lt (Nat.lt_of_lt_of_le lt hC), fun z => ?_, a5⟩
    · rw [upd_ne (Nat.ne_of_lt (Nat.lt_of_lt_of_le lt hD))]
      exact a2
    · rcases List.mem_cons.mp (I.stkSub _ z) with z | z
      · exact a3 z
      · exact a4 z
  · unfold compSt
    rw [List.length_map]
    exact cl
/-- the block ends: its names are let go (h' is as h but at C) -/
theorem inv_back {C : Addr} {σ' : St} {H' : Hp} {s' : Shared} {h' : Heap} (I : Inv X pins σ H s) (f : ∀ b ∈ fp, FpOk X pins H b) (hC : s.heap.objs.size ≤ C) (J : Inv (cxC X Nc sc C s H fp pins) [] σ' H' s') (hs : Heap.SameBut C s'.heap h') :
    Inv X pins σ H' { s' with heap := h' } := by
  have u := J.base
  have nC : H' C = none := J.free
  have stay : ∀ b ob, b ≠ C → s'.heap.get? b = some ob → h'.get? b = some ob := fun b ob hb e => hs.extBut b ob hb e
  have neC : ∀ b ob, s.heap.get? b = some ob → b ≠ C := fun b ob e => Nat.ne_of_lt (Nat.lt_of_lt_of_le (Heap.lt_size e) hC)
  refine I.call' (ch := fp) J.os ?_ (fun b v e => ?_) J.bare fun b hb => ⟨(f b hb).2.2.2.1, (f b hb).2.1, (f b hb).2.2.2.2.1, (f b hb).2.2.2.2.2⟩
  · refine ⟨fun b ob e n h1 h2 => stay b ob (neC b ob e) (u.keep b ob e n h1 h2), fun b ob e n h1 h2 => ?_, u.free, fun b ob e h2 => ?_, u.tups, u.frzs, u.tbls⟩
    · obtain ⟨sl, q⟩ := u.slot b ob e n h1 h2
      exact ⟨sl, stay b _ (neC b ob e) q⟩
    · obtain ⟨o', q⟩ := u.there b ob e h2
      exact ⟨o', stay b _ (neC b ob e) q⟩
  · have nb : ∀ c w, H' c = some w → c ≠ C := fun c w e z => by rw [z, nC] at e; cases e
    refine (J.hok b v e).stay (fun c w hc q => stay c w ?_ q) (fun _ q => q) fun _ _ q => q
    rcases hc with z | z
    · rw [z]; exact nb b v e
    · exact nb c _ z
end
end L2
set_option Elab.async false
set_option linter.all false
set_option maxRecDepth 100000
set_option maxHeartbeats 4000000
namespace L2
open PySem PySem.Spec PyProof.Rows
section
variable {X : Cx} {e tg iter el : Expr} {ifs : List Expr} {gens rest : List Comprehension} {sc : Scope} {pos : Pos} {Nc : List Str} {js : List (Option Nat)} {wi : TI}
theorem comp_start {prog : Program} {w : World} {A : Around} {env : Env} {R : Result → Shared → Prop} {s : Shared} {d : Nat} {it acc : Value} {g : Comprehension} (he : (∃ el, e = .ListComp el gens sc pos) ∨ ∃ k v, e = .DictComp k v gens sc pos)
    (hg : (clausesOf e)[d]? = some g) (ha : g.is_async = 0)
    (h0 : codeAny (model prog w) A (.compLoop e d it acc env) R s)
    (h : wpAny (model prog w) A (pyIter it) (fun it' s' => codeAny (model prog w) A (.compLoop e d it' acc env) R s') (fun _ _ => False) s) :
    codeAny (model prog w) A (.compStart e d it acc env) R s := by
  refine codeAny_of_tree ?_
  have hden : (model prog w).den (.compStart e d it acc env) = ((compStart e d it acc env).onRaise (fun x => do noteFrame x env; standAt theWindowsPlace)) ∧ A.under (.compStart e d it acc env) = A := by
    rcases he with ⟨el, rfl⟩ | ⟨k, v, rfl⟩ <;> exact ⟨rfl, rfl⟩
  have hq : ∀ d it acc, (Code.compLoop e d it acc env).quiet = true := fun _ _ _ => rfl
  rw [hden.1, hden.2]
  refine wpAny_notedAt ?_
  unfold compStart
  rw [hg]
  have hz : ((some g).elim false fun x => x.is_async != 0) = false := by show (g.is_async != 0) = false; rw [ha]; rfl
  rw [hz]
  show wpAny _ _ (ask >>= _) _ _ s
  refine wpAny_bind (wpAny_askSetting (wpAny_ite ?_))
  split
  · first
      | exact wpAny_bind (wpAny_pure (wpAny_pure (And.intro rfl h0)))
      | exact wpAny_pure (And.intro rfl h0)
  · refine wpAny_bind (wpAny_rule ?_)
    show wpAny _ _ (standAt g.iter.pos >>= _) _ _ s
    exact wpAny_bind (wpAny_standAt (wpAny_bind (wpAny_mono h (fun it' s' h' => wpAny_pure (And.intro rfl h')) fun _ _ x => x.elim)))
/-- [el for tg in iter if ..]: bd is what a turn does behind the target's store, for the list at D -/
def tLC (js : List (Option Nat)) (wi : TI) (g : TG) (bd : Addr → TB) : TE := fun σ H Q => wi σ H fun J H1 => ∀ D, H1 D = none → tWalk J g (bd D) (fun _ H' => Q (.ref D) H') (compSt js σ) (upd H1 D (.lst []))
theorem pe_lc1x {g : TG} {bd : Addr → TB} (hx : X.xe = fun _ _ => False) (hc : X.calm = true) (hi : PI X tg iter wi) (S : CS sc X.env.scope) (cap : capOk js Nc X.N sc.names = true)
    (hg : ∀ C s₂ H₂ fp pins, PG (cxC X Nc sc C s₂ H₂ fp pins) tg g)
    (hb : ∀ C s₂ H₂ fp pins D L, PTl (cxC X Nc sc C s₂ H₂ fp pins) (tailOf ifs (cxC X Nc sc C s₂ H₂ fp pins).env (do let _ ← call (.builtin "list.append") [.ref D, ← eval el (cxC X Nc sc C s₂ H₂ fp pins).env]) L) L (bd D))
    (hs : ∀ x, foldedSetIterable iter X.env x = pure x := by intro _; rfl) :
    PE X (.ListComp el [⟨tg, iter, ifs, 0⟩] sc pos) (tLC js wi g bd) := by
  intro pins s σ H Q I h
  rw [eval_ListComp]
  have hcl : closureFor sc X.env = pure (clOf sc X.env) := closure_of fun y hy hf => I.ok.has y.1 (.inl (S.free y hy hf))
  refine wpAny_comprehension_free (use := none) rfl hs hcl S.kind S.names (thn (hi pins s σ H _ I h) fun v s1 h1 => thn h1 fun itv s2 h2 => ?_)
  obtain ⟨it, fp, tn, J, H2, e, I2, T, st2, f2, hw⟩ := h2
  subst e
  have hlt : ∀ b ∈ fp, b < s2.heap.objs.size := fun b hb => let ⟨o, ho, _⟩ := T.obj _ _ st2 b hb; Heap.lt_size ho
  refine wpAny_newObj_type (wpAny_newFunctionEnv S.nocell (by intro y hy; simp at hy) (fun h₁ hns₁ hsb₁ => ?_) S.kind)
  dsimp only at hns₁ hsb₁ ⊢
  generalize hH2 : s2.heap.push { cls := .type "list", dict := none, data := .seq ([] : List Value).toArray } = G at hns₁ hsb₁ ⊢
  have hCs : G.objs.size = s2.heap.objs.size + 1 := by rw [← hH2, Heap.size_push]
  have hDC : s2.heap.objs.size ≠ G.objs.size := by omega
  have hCle : s2.heap.objs.size ≤ G.objs.size := by omega
  have old : ∀ b o, s2.heap.get? b = some o → h₁.get? b = some o := fun b o e => hsb₁.extBut b o (Nat.ne_of_lt (Nat.lt_of_lt_of_le (Heap.lt_size e) hCle)) (Heap.get?_push_of_some _ (hH2 ▸ Heap.get?_push_of_some _ e))
  have hacc : h₁.get? s2.heap.objs.size = some { cls := .type "list", dict := none, data := .seq ([] : List Value).toArray } := hsb₁.extBut _ _ hDC (Heap.get?_push_of_some _ (hH2 ▸ Heap.get?_push_size _ rfl))
  have new : ObjOk X.prog X.w (upd H2 s2.heap.objs.size (.lst [])) h₁ s2.heap.objs.size (.lst []) := ⟨Nat.zero_le _, [], _, .nil, hacc⟩
  have I4 := inv_comp (js := js) (Nc := Nc) (tk := s2.toks + ([] : List (Str × Value)).length) I2 S f2 hlt cap hCle (Nat.le_refl _) hDC old hns₁ new
  have hn : H2 s2.heap.objs.size = none := I2.fresh
  have f4 : ∀ b ∈ fp, FpOk (cxC X Nc sc G.objs.size s2 H2 fp pins) [] (upd H2 s2.heap.objs.size (.lst [])) b := fun b hb => by
    obtain ⟨h0, h1, h2, h3, h4, h5⟩ := f2 b hb
    refine ⟨?_, Nat.ne_of_lt (Nat.lt_of_lt_of_le (hlt b hb) hCle), fun z => ?_, .inl hb, fun x c z => ?_, fun p hp => ?_⟩
    · rw [upd_ne (Nat.ne_of_lt (hlt b hb))]; exact h0
    · rcases List.mem_cons.mp (I2.stkSub b z) with q | q
      · exact h1 q
      · exact h2 q
    · exact h4 x c (cl_in sc.names [] (fun z => nomatch z) z)
    · rcases List.mem_append.mp hp with z | z
      · exact h5 p z
      · exact absurd z (by simp)
  have st4 : tn 0 h₁ := T.keep _ _ _ st2 fun b hb o e => old b o e
  have loop : codeAny (model X.prog X.w) X.A (.compLoop (.ListComp el [⟨tg, iter, ifs, 0⟩] sc pos) 0 (.ref it) (.ref s2.heap.objs.size) (compEnvC sc (clOf sc X.env) G.objs.size X.env))
      (compPost (model X.prog X.w) X.A X.xe none (EP X pins σ Q) (.ref s2.heap.objs.size) G.objs.size) { s2 with heap := h₁, toks := s2.toks + ([] : List (Str × Value)).length } := by
    refine comp_loop (X := cxC X Nc sc G.objs.size s2 H2 fp pins) (.inl ⟨el, rfl⟩) hx hc (turn_l1 _ _ _ _ _ _ _ _ _) T (hg _ _ _ _ _) (hb _ _ _ _ _ _ _) I4 st4 f4 (hw _ hn) fun σ' H' s' I' q => ?_
    obtain ⟨m', hm', _⟩ := I'.loc
    exact ⟨m', hm', fun h' hs' => ⟨.ref s2.heap.objs.size, H', inv_back I2 f2 hCle I' hs', rfl, q⟩⟩
  exact comp_start (.inl ⟨el, rfl⟩) rfl rfl loop (T.self _ _ _ _ _ st4 loop)
end
end L2
set_option Elab.async false
set_option linter.all false
set_option maxRecDepth 100000
set_option maxHeartbeats 4000000
namespace L2
open PySem PySem.Spec PyProof.Rows

theorem walk_tup {K : PySem.W.Frag} {a : Addr} {xs : List V} {g : TG} {b : TB} {N0 : St → Hp → Prop} {σ : St} {H : Hp} (Pv : Nat → St → Hp → Prop) (h0 : Pv 0 σ H) (hl : ∀ i σ H, i ≤ xs.length → Pv i σ H → SqT K H a xs)
    (hs : ∀ i x σ H, xs[i]? = some x → Pv i σ H → g x σ H fun σ2 H2 => b (Pv (i + 1)) σ2 H2) (hd : ∀ σ H, Pv xs.length σ H → N0 σ H) : tWalk (Itt K a) g b N0 σ H := by
  refine ⟨fun i m σ H => m = xs.length - i ∧ i ≤ xs.length ∧ Pv i σ H, ⟨xs.length, by simp, Nat.zero_le _, h0⟩, ?_⟩
  rintro i m σ H ⟨rfl, hle, p⟩
  by_cases hi : i < xs.length
  · refine .inr ⟨⟨xs, xs[i], hl i σ H hle p, by simp [hi]⟩, Pv (i + 1), fun σ' H' q => ⟨xs.length - (i + 1), by omega, rfl, by omega, q⟩, fun x H' hy => ?_⟩
    obtain ⟨rfl, hy⟩ := hy
    exact hs i x σ _ (hy xs (hl i σ _ hle p)) p
  · have : i = xs.length := by omega
    subst this
    exact .inl ⟨⟨xs, hl _ σ H hle p, Nat.le_refl _⟩, hd σ H p⟩

section
variable {prog : Program} {w : World} {A : Around} {E : Value → Shared → Prop}
end
section
variable {X : Cx} {pos : Pos}
theorem call_divmodW : CallR X (.builtin "divmod") (fun xs H Q => ∃ i j : Int, xs = [.int i, .int j] ∧ (0 < j ∧ j.natAbs < 2 ^ 9000) ∧ ∀ p, H p = none → Q (.ref p) (upd H p (.tup [.int (i / j), .int (i % j)]))) := by
  intro pins s σ H xs us Q I r h
  obtain ⟨i, j, rfl, ⟨h1, h2⟩, q⟩ := h
  obtain ⟨u, w', rfl, ⟨t, rfl⟩, ⟨t', rfl⟩⟩ := vals2 r
  refine divmod_int (by omega) ?_ (.inl (PyProof.noPylong_of_log2 (Own.log2_lt h2)))
  rw [Int.fdiv_eq_ediv_of_nonneg i (by omega), Int.fmod_eq_emod_of_nonneg i (by omega)]
  have hn : H s.heap.objs.size = none := I.hok.fresh (Nat.le_refl _)
  refine ⟨.ref s.heap.objs.size, _, ?_, rfl, q _ hn⟩
  refine I.laid (fun b o e => Heap.get?_push_of_some _ e) (Nat.le_refl _) ⟨by simp only [List.length_cons, List.length_nil]; rw [sizeLine_eq]; decide, [.int (i / j) s.toks, .int (i % j) (s.toks + 1)], .cons ⟨_, rfl⟩ (.cons ⟨_, rfl⟩ .nil), ?_⟩
  exact ⟨_, Heap.get?_push_size s.heap rfl, rfl, 0, rfl, rfl⟩

end

mutual
def Dt (K : PySem.W.Frag) (H : Hp) : PyData → V → Prop
  | .none, v => v = .non
  | .bool b, v => v = .bl b
  | .int i, v => v = .int i
  | .str x, v => v = .str x
  | .tuple xs, v => ∃ a vs, v = .ref a ∧ SqT K H a vs ∧ DtAll K H xs vs
  | .list xs, v => ∃ a vs, v = .ref a ∧ SqL K H a vs ∧ DtAll K H xs vs
  | .dict _, _ => False
def DtAll (K : PySem.W.Frag) (H : Hp) : List PyData → List V → Prop
  | [], vs => vs = []
  | d :: ds, vs => ∃ v vr, vs = v :: vr ∧ Dt K H d v ∧ DtAll K H ds vr
end
section
variable {X : Cx} {pins : List (Addr × Obj)} {σ : St} {H : Hp} {s : Shared}
mutual
theorem Dt.reads (I : Inv X pins σ H s) : ∀ (d : PyData) (v : V) (u : Value), RelV v u → Dt X.K H d v → ∃ as, Reads s.heap u d as
  | .none, v, u, r, h => by unfold Dt at h; subst h; cases r; exact ⟨_, .none⟩
  | .bool b, v, u, r, h => by unfold Dt at h; subst h; cases r; exact ⟨_, .bool b⟩
  | .int i, v, u, r, h => by unfold Dt at h; subst h; obtain ⟨t, rfl⟩ := r; exact ⟨_, .int i t⟩
  | .str x, v, u, r, h => by unfold Dt at h; subst h; obtain ⟨t, rfl⟩ := r; exact ⟨_, .str x t⟩
  | .tuple xs, v, u, r, h => by
    unfold Dt at h
    obtain ⟨a, vs, rfl, hs, hd⟩ := h
    cases r
    obtain ⟨its, rv, ⟨o, e1, e2, n, e3⟩, hz⟩ := I.tuple hs
    obtain ⟨as, ra⟩ := DtAll.reads I xs vs its rv hd
    exact ⟨_, .tuple e1 e2 e3 (by simpa using ra)⟩
  | .list xs, v, u, r, h => by
    unfold Dt at h
    obtain ⟨a, vs, rfl, hs, hd⟩ := h
    cases r
    obtain ⟨its, rv, ht, hz⟩ := I.list hs
    obtain ⟨as, ra⟩ := DtAll.reads I xs vs its rv hd
    obtain ⟨o, e1, e2, n, e3⟩ := ht.isList
    exact ⟨_, .list e1 e2 e3 (by simpa using ra)⟩
  | .dict _, v, u, r, h => by unfold Dt at h; exact h.elim
theorem DtAll.reads (I : Inv X pins σ H s) : ∀ (ds : List PyData) (vs : List V) (us : List Value), Vals vs us → DtAll X.K H ds vs → ∃ as, ReadsAll s.heap us ds as
  | [], vs, us, r, h => by unfold DtAll at h; subst h; cases r; exact ⟨_, .nil⟩
  | d :: ds, vs, us, r, h => by
    unfold DtAll at h
    obtain ⟨v, vr, rfl, h1, h2⟩ := h
    cases r with
    | cons r1 r2 =>
      obtain ⟨as, q1⟩ := Dt.reads I d v _ r1 h1
      obtain ⟨bs, q2⟩ := DtAll.reads I ds vr _ r2 h2
      exact ⟨_, .cons q1 q2⟩
end
end
section
variable {X : Cx}
/-- x == y, x != y, told deep -/
def rEqD (K : PySem.W.Frag) (neg : Bool) : R2 := fun x y H Q => ∃ d e, Dt K H d x ∧ Dt K H e y ∧ SeqAt.shaped d = true ∧ SeqAt.shaped e = true ∧ Q (.bl (if neg then !PyData.eqv d e else PyData.eqv d e)) H
theorem op_eqD (hu : X.A.units + 64 < cLine) : OpR X (compareOp .Eq) (rEqD X.K false) := by
  intro pins s σ H x y v u Q I rx ry h
  obtain ⟨d, e, h1, h2, s1, s2, q⟩ := h
  obtain ⟨as, p1⟩ := Dt.reads I d x v rx h1
  obtain ⟨bs, p2⟩ := Dt.reads I e y u ry h2
  exact SeqAt.compareEq_shaped p1 p2 s1 s2 hu ⟨.bl _, H, I, rfl, q⟩
theorem op_neD (hu : X.A.units + 64 < cLine) : OpR X (compareOp .NotEq) (rEqD X.K true) := by
  intro pins s σ H x y v u Q I rx ry h
  obtain ⟨d, e, h1, h2, s1, s2, q⟩ := h
  obtain ⟨as, p1⟩ := Dt.reads I d x v rx h1
  obtain ⟨bs, p2⟩ := Dt.reads I e y u ry h2
  exact SeqAt.compareNe_shaped p1 p2 s1 s2 hu ⟨.bl _, H, I, rfl, q⟩
end
end L2
set_option Elab.async false
set_option linter.all false
set_option maxRecDepth 100000
set_option maxHeartbeats 4000000
namespace L2
open PySem PySem.Spec PyProof.Rows
open Classical in
noncomputable def eqD (h : Heap) (d : PyData) (u : Value) : Bool := if z : ∃ d', d'.canLay0 = true ∧ ∃ as, Reads h u d' as then PyData.eqv z.choose d else false
theorem eqD_of {h : Heap} {d d' : PyData} {u : Value} {as : List Addr} (c : d'.canLay0 = true) (r : Reads h u d' as) : eqD h d u = PyData.eqv d' d := by
  have z : ∃ d', d'.canLay0 = true ∧ ∃ as, Reads h u d' as := ⟨d', c, as, r⟩
  unfold eqD
  rw [dif_pos z]
  obtain ⟨c1, as', r1⟩ := z.choose_spec
  rw [SeqAt.Reads.unique _ _ _ _ _ c1 r1 r]
theorem any_eqD {h : Heap} {d : PyData} : ∀ {es : List PyData} {us : List Value} {as : List Addr}, ReadsAll h us es as → PyData.canLayAll0 es = true → us.any (eqD h d) = es.any fun e => PyData.eqv e d
  | [], us, as, r, _ => by cases r; rfl
  | e :: es, us, as, r, c => by
    have c' : e.canLay0 = true ∧ PyData.canLayAll0 es = true := by simpa [PyData.canLayAll0] using c
    cases r with
    | cons r1 r2 => rw [List.any_cons, List.any_cons, eqD_of c'.1 r1, any_eqD r2 c'.2]
theorem mem_reads {h : Heap} : ∀ {es : List PyData} {us : List Value} {as : List Addr}, ReadsAll h us es as → ∀ u ∈ us, ∃ e ∈ es, ∃ as, Reads h u e as
  | [], us, as, r, u, hu => by cases r; cases hu
  | e :: es, us, as, r, u, hu => by
    cases r with
    | cons r1 r2 =>
      rcases List.mem_cons.mp hu with rfl | hu
      · exact ⟨e, List.mem_cons_self, _, r1⟩
      · obtain ⟨e', he, x⟩ := mem_reads r2 u hu
        exact ⟨e', List.mem_cons_of_mem _ he, x⟩
theorem canAll {es : List PyData} (h : ∀ e ∈ es, SeqAt.shaped e = true) : PyData.canLayAll0 es = true := by
  induction es with
  | nil => rfl
  | cons e es ih =>
    simp only [PyData.canLayAll0, Bool.and_eq_true]
    exact ⟨SeqAt.canLay_of_shaped (h e List.mem_cons_self), ih fun e' he => h e' (List.mem_cons_of_mem _ he)⟩
section
variable {X : Cx}
/-- x in a list or tuple, told deep -/
def rInD (K : PySem.W.Frag) (neg : Bool) : R2 := fun x y H Q => ∃ d es p xs, y = .ref p ∧ (SqL K H p xs ∨ SqT K H p xs) ∧ Dt K H d x ∧ DtAll K H es xs ∧ SeqAt.shaped d = true ∧ (∀ e ∈ es, SeqAt.shaped e = true) ∧
  Q (.bl (if neg then !es.any (fun e => PyData.eqv e d) else es.any fun e => PyData.eqv e d)) H
theorem op_inD (hu : X.A.units + 65 < cLine) : OpR X (compareOp .In) (rInD X.K false) := by
  intro pins s σ H x y v u Q I rx ry h
  obtain ⟨d, es, p, xs, rfl, hq, hd, hes, sd, ses, q⟩ := h
  cases ry
  obtain ⟨as, rd⟩ := Dt.reads I d x v rx hd
  have key : ∀ its : List Value, Vals xs its → (∀ w ∈ its, SeqAt.EqAt X.A.in1 s w v (eqD s.heap d w)) ∧ its.any (eqD s.heap d) = es.any fun e => PyData.eqv e d := fun its r => by
    obtain ⟨bs, ra⟩ := DtAll.reads I es xs its r hes
    refine ⟨fun w hw => ?_, any_eqD ra (canAll ses)⟩
    obtain ⟨e, he, cs, re⟩ := mem_reads ra w hw
    rw [eqD_of (SeqAt.canLay_of_shaped (ses e he)) re]
    exact SeqAt.eqAt_reads e d X.A.in1 s w v cs as re rd (SeqAt.canLay_of_shaped (ses e he)) (SeqAt.canLay_of_shaped sd) (SeqAt.room_of_shaped (ses e he) (by show X.A.units + 1 + 64 < cLine; omega))
  rcases hq with hq | hq
  · obtain ⟨its, r, pl, hz⟩ := I.list hq
    obtain ⟨k1, k2⟩ := key its r
    refine SeqAt.in_listAt (eqD s.heap d) pl.isList (fun w hw => k1 w (by simpa using hw)) ⟨.bl _, H, I, rfl, ?_⟩
    rw [show its.toArray.any (eqD s.heap d) = its.any (eqD s.heap d) by simp, k2]
    exact q
  · obtain ⟨its, r, pl, hz⟩ := I.tuple hq
    obtain ⟨k1, k2⟩ := key its r
    refine SeqAt.in_tupleAt (eqD s.heap d) pl (fun w hw => k1 w (by simpa using hw)) ⟨.bl _, H, I, rfl, ?_⟩
    rw [show its.toArray.any (eqD s.heap d) = its.any (eqD s.heap d) by simp, k2]
    exact q
end
def csOk (sc S0 : Scope) : Bool := (sc.names.all fun y => (y.2 != .local || sc.names.lookup y.1 == some .local) && y.2 != .cell && (y.2 != .free || S0.names.lookup y.1 == some .cell))
theorem CS.of {sc S0 : Scope} (k : sc.kind = .function) (h : csOk sc S0 = true) : CS sc S0 := by
  have q : ∀ y ∈ sc.names, _ := List.all_eq_true.mp h
  refine ⟨k, fun y hy e => ?_, fun y hy e => ?_, fun y hy e => ?_⟩ <;> have z := q y hy <;> rw [Bool.and_eq_true, Bool.and_eq_true] at z <;> obtain ⟨⟨z1, z2⟩, z3⟩ := z
  · rw [e] at z1; simpa using z1
  · rw [e] at z2; simp at z2
  · rw [e] at z3; simpa using z3
theorem Room.units65 {k : Nat} {A : Around} (r : Room k A) : A.units + 65 < cLine := by have := r.un; omega
end L2
set_option Elab.async false
set_option linter.all false
set_option maxRecDepth 100000
set_option maxHeartbeats 4000000
namespace L2
open PySem PySem.Spec PyProof.Rows
section
variable {prog : Program} {w : World} {A : Around} {E : Value → Shared → Prop} {s : Shared}
end
def ItOf (k : Bool) (h : Heap) (it a : Addr) (i : Nat) : Prop := match k with | true => h.IsListIter it a i | false => h.IsTupleIter it a i
def SqOf (k : Bool) (h : Heap) (a : Addr) (items : Array Value) : Prop := match k with | true => h.IsList a items | false => h.IsTuple a items
def itName (k : Bool) : String := match k with | true => "list_iterator" | false => "tuple_iterator"
theorem ItOf.at {k : Bool} {h h' : Heap} {it a : Addr} {i : Nat} (x : ItOf k h it a i) (g : ∀ o, h.get? it = some o → h'.get? it = some o) : ItOf k h' it a i := by
  cases k
  · obtain ⟨o, e, r⟩ := x; exact ⟨o, g o e, r⟩
  · obtain ⟨o, e, r⟩ := x; exact ⟨o, g o e, r⟩
theorem ItOf.live {k : Bool} {h : Heap} {it a : Addr} {i : Nat} (x : ItOf k h it a i) : ∃ o, h.get? it = some o ∧ ∀ v, o.data ≠ .cell v := by
  cases k
  · obtain ⟨o, e, c, d⟩ := x; exact ⟨o, e, fun v z => by rw [d] at z; cases z⟩
  · obtain ⟨o, e, c, d⟩ := x; exact ⟨o, e, fun v z => by rw [d] at z; cases z⟩
theorem SqOf.at {k : Bool} {h h' : Heap} {a : Addr} {items : Array Value} (x : SqOf k h a items) (g : ∀ o, h.get? a = some o → h'.get? a = some o) : SqOf k h' a items := by
  cases k
  · obtain ⟨o, e, r⟩ := x; exact ⟨o, g o e, r⟩
  · obtain ⟨o, e, r⟩ := x; exact ⟨o, g o e, r⟩
theorem SqOf.there {k : Bool} {h : Heap} {a : Addr} {items : Array Value} (x : SqOf k h a items) : ∃ o, h.get? a = some o := by
  cases k
  · obtain ⟨o, e, r⟩ := x; exact ⟨o, e⟩
  · obtain ⟨o, e, r⟩ := x; exact ⟨o, e⟩
theorem SqOf.lt {k : Bool} {h : Heap} {a : Addr} {items : Array Value} (x : SqOf k h a items) : a < h.objs.size := let ⟨_, e⟩ := x.there; Heap.lt_size e
theorem ItOf.new (k : Bool) (h : Heap) (a : Addr) : ItOf k (h.push { cls := .type (itName k), data := .fields #[.ref a, .int 0 0] }) h.objs.size a 0 := by
  cases k
  · exact ⟨_, Heap.get?_push_size _ rfl, rfl, rfl⟩
  · exact ⟨_, Heap.get?_push_size _ rfl, rfl, rfl⟩
section
variable {prog : Program} {w : World} {A : Around} {E : Value → Shared → Prop} {s : Shared}
end
end L2
set_option Elab.async false
set_option linter.all false
set_option maxRecDepth 100000
set_option maxHeartbeats 4000000
namespace L2
open PySem PySem.Spec PyProof.Rows
open AutoSeq1 (wpAny_loadPart')
section
variable {prog : Program} {w : World} {A : Around} {E : Value → Shared → Prop} {s : Shared}
end
theorem ItOf.cls {k : Bool} {h : Heap} {it a : Addr} {i : Nat} (x : ItOf k h it a i) : ∃ o, h.get? it = some o ∧ o.cls = .type (itName k) := by
  cases k <;> obtain ⟨o, e, c, _⟩ := x <;> exact ⟨o, e, c⟩
def sqName (k : Bool) : String := match k with | true => "list" | false => "tuple"
theorem SqOf.cls {k : Bool} {h : Heap} {a : Addr} {items : Array Value} (x : SqOf k h a items) : ∃ o, h.get? a = some o ∧ o.cls = .type (sqName k) := by
  cases k <;> obtain ⟨o, e, c, _⟩ := x <;> exact ⟨o, e, c⟩
section
variable {X : Cx}
end
end L2
set_option Elab.async false
set_option linter.all false
set_option maxRecDepth 100000
set_option maxHeartbeats 4000000
namespace L2
open PySem PySem.Spec PyProof.Rows
section
variable {prog : Program} {w : World} {A : Around} {E : Value → Shared → Prop} {s : Shared} {z TI TO i1 i2 : Addr} {fp1 fp2 : List Addr} {n1 n2 j : Nat} {P1 P2 : Nat → Value → Prop} {S1 S2 : Nat → Heap → Prop} {a b : Value}
end
end L2
set_option Elab.async false
set_option linter.all false
set_option maxRecDepth 100000
set_option maxHeartbeats 4000000
namespace L2
open PySem PySem.Spec PyProof.Rows
section
variable {prog : Program} {w : World} {A : Around} {E : Value → Shared → Prop} {s : Shared}
end
section
variable {X : Cx}
end
end L2
set_option Elab.async false
set_option linter.all false
set_option maxRecDepth 100000
set_option maxHeartbeats 4000000
namespace L2
open PySem PySem.Spec PyProof.Rows
section
variable {X : Cx} {tg iter el : Expr} {ifs : List Expr} {sc : Scope} {pos py spos : Pos} {Nc : List Str} {js : List (Option Nat)} {wi : TI} {i : Nat} {y : Str}
end
end L2
set_option Elab.async false
set_option linter.all false
set_option maxRecDepth 100000
set_option maxHeartbeats 4000000
namespace L2
open PySem PySem.Spec PyProof.Rows
theorem range_any (bs : List Bool) : (List.range bs.length).any (fun i => bs.getD i false) = bs.any id := by
  rw [Bool.eq_iff_iff, List.any_eq_true, List.any_eq_true]
  constructor
  · rintro ⟨i, hi, e⟩
    have hl : i < bs.length := List.mem_range.mp hi
    refine ⟨bs[i], List.getElem_mem hl, ?_⟩
    simpa [List.getD_eq_getElem?_getD, hl] using e
  · rintro ⟨b, hb, e⟩
    obtain ⟨i, hi, rfl⟩ := List.mem_iff_getElem.mp hb
    refine ⟨i, List.mem_range.mpr hi, ?_⟩
    simpa [List.getD_eq_getElem?_getD, hi] using e
theorem vals_bl : ∀ {bs : List Bool} {its : List Value}, Vals (bs.map V.bl) its → its = bs.map Value.bool
  | [], _, r => by cases r; rfl
  | b :: bs, _, r => by
    cases r with
    | cons r1 r2 =>
      cases r1
      rw [vals_bl r2]
      rfl
section
variable {X : Cx}
theorem truth_bl {prog : Program} {w : World} {A : Around} {bs : List Bool} {items : Array Value} (e : items = (bs.map Value.bool).toArray) : TruthOf prog w A (fun i v => items[i]? = some v) (fun i => bs.getD i false) := by
  intro i v s Q E h q
  rw [e] at h
  have h' : (bs.map Value.bool)[i]? = some v := by simpa using h
  rw [List.getElem?_map] at h'
  cases z : bs[i]? with
  | none => rw [z] at h'; cases h'
  | some b =>
    rw [z] at h'
    cases h'
    refine wpAny_truthy_bool ?_
    simpa [List.getD_eq_getElem?_getD, z] using q
theorem call_anyL (hc : X.calm = true) : CallR X (.builtin "any") (fun xs H Q => ∃ (a : Addr) (bs : List Bool), xs = [.ref a] ∧ SqL X.K H a (bs.map V.bl) ∧ Q (.bl (bs.any id)) H) := by
  intro pins s σ H xs us Q I r h
  obtain ⟨a, bs, rfl, hS, q⟩ := h
  obtain ⟨u, rfl, r1⟩ := vals1 r
  cases r1
  obtain ⟨its, rv, ht, hz⟩ := I.list hS
  have hl := ht.isList
  have hne : a ≠ s.heap.objs.size := by obtain ⟨o, e, _⟩ := hl; exact Nat.ne_of_lt (Heap.lt_size e)
  have eits := vals_bl rv
  refine call_any_walk (wpAny_pyIter_list hl ⟨_, _, _, _, _, _, _, rfl, Walks.list (A := X.A.in1) (I.ok.hd hc) _ a hne its.toArray, ⟨⟨_, Heap.get?_push_size _ rfl, rfl, rfl⟩, hl.push _⟩, truth_bl (bs := bs) (by rw [eits]), fun h' tk hk => ?_⟩)
  have e : its.toArray.size = bs.length := by rw [eits]; simp
  rw [e, range_any]
  refine ⟨.bl _, H, I.kept fun b o e' => hk b o (fun z => ?_) (Heap.get?_push_of_some _ e'), rfl, q⟩
  rw [List.mem_singleton.mp z] at e'
  exact absurd (Heap.lt_size e') (Nat.lt_irrefl _)
end
end L2
set_option Elab.async false
set_option linter.all false
set_option maxRecDepth 100000
namespace L2
open PySem PySem.Spec PyProof.Rows

section
variable {κ : Type} [DecidableEq κ]
def valV (kvs : List (κ × V)) (k : κ) : Option V := (kvs.find? fun kv => decide (kv.1 = k)).map (·.2)
/-- in its place, or at the end -/
def putK (kvs : List (κ × V)) (k : κ) (v : V) : List (κ × V) :=
  if (kvs.any fun kv => decide (kv.1 = k)) = true then kvs.map (fun kv => if kv.1 = k then (kv.1, v) else kv) else kvs ++ [(k, v)]
def dropK (kvs : List (κ × V)) (k : κ) : List (κ × V) := kvs.filter fun kv => decide (kv.1 ≠ k)

theorem valV_pos {p : κ × V} {r : List (κ × V)} {k : κ} (e : p.1 = k) : valV (p :: r) k = some p.2 := by simp [valV, List.find?_cons, e]
theorem valV_neg {p : κ × V} {r : List (κ × V)} {k : κ} (e : ¬ p.1 = k) : valV (p :: r) k = valV r k := by simp [valV, List.find?_cons, e]
theorem valV_any (k : κ) : ∀ kvs : List (κ × V), (kvs.any fun kv => decide (kv.1 = k)) = (valV kvs k).isSome
  | [] => rfl
  | p :: r => by
    rw [List.any_cons]
    by_cases e : p.1 = k
    · simp only [valV_pos e, decide_eq_true e, Bool.true_or, Option.isSome_some]
    · rw [valV_neg e, decide_eq_false e, Bool.false_or]; exact valV_any k r
theorem RelO.isSome_eq {o : Option V} {u : Option Value} (r : RelO o u) : o.isSome = u.isSome := by
  cases o with
  | none => cases u with
    | none => rfl
    | some _ => exact (show False from r).elim
  | some _ => cases u with
    | none => exact (show False from r).elim
    | some _ => rfl
theorem RelO.getD {o : Option V} {u : Option Value} {d : V} {d' : Value} (r : RelO o u) (rd : RelV d d') : RelV (o.getD d) (u.getD d') := by
  cases o with
  | none => cases u with
    | none => exact rd
    | some _ => exact (show False from r).elim
  | some _ => cases u with
    | none => exact (show False from r).elim
    | some _ => exact r

/-- raw tables of the same keys -/
theorem KV.val {kvs : List (κ × V)} {vs : List (κ × Value)} (r : KV kvs vs) (k : κ) : RelO (valV kvs k) (valueAt vs k) := by
  unfold KV at r
  induction r with
  | nil => exact True.intro
  | @cons p q ps qs h t ih =>
    obtain ⟨h1, h2⟩ := h
    by_cases e : p.1 = k
    · have e' : q.1 = k := h1.symm.trans e
      have b : valueAt (q :: qs) k = some q.2 := by simp [valueAt, List.find?_cons, e']
      rw [valV_pos e, b]; exact h2
    · have e' : ¬ q.1 = k := fun z => e (h1.trans z)
      have b : valueAt (q :: qs) k = valueAt qs k := by simp [valueAt, List.find?_cons, e']
      rw [valV_neg e, b]; exact ih
theorem KV.any {kvs : List (κ × V)} {vs : List (κ × Value)} (r : KV kvs vs) (k : κ) : (kvs.any fun kv => decide (kv.1 = k)) = vs.any fun kv => decide (kv.1 = k) := by
  unfold KV at r
  induction r with
  | nil => rfl
  | cons h t ih => rw [List.any_cons, List.any_cons, ih, h.1]
theorem KV.repl {kvs : List (κ × V)} {vs : List (κ × Value)} (r : KV kvs vs) (k : κ) {y : V} {u : Value} (ry : RelV y u) :
    KV (kvs.map fun kv => if kv.1 = k then (kv.1, y) else kv) (vs.map fun kv => if kv.1 = k then (kv.1, u) else kv) := by
  unfold KV at r ⊢
  induction r with
  | nil => exact .nil
  | @cons p q ps qs h t ih =>
    rw [List.map_cons, List.map_cons]
    refine .cons ?_ ih
    obtain ⟨h1, h2⟩ := h
    by_cases e : p.1 = k
    · rw [if_pos e, if_pos (h1.symm.trans e)]; exact ⟨h1, ry⟩
    · rw [if_neg e, if_neg (fun z => e (h1.trans z))]; exact ⟨h1, h2⟩
theorem KV.put {kvs : List (κ × V)} {vs : List (κ × Value)} (r : KV kvs vs) (k : κ) {y : V} {u : Value} (ry : RelV y u) : KV (putK kvs k y) (stored vs k u) := by
  unfold putK stored
  rw [r.any k]
  by_cases e : (vs.any fun kv => decide (kv.1 = k)) = true
  · rw [if_pos e, if_pos e]; exact r.repl k ry
  · rw [if_neg e, if_neg e]; exact Paired.snoc r ⟨rfl, ry⟩
theorem KV.drop {kvs : List (κ × V)} {vs : List (κ × Value)} (r : KV kvs vs) (k : κ) : KV (dropK kvs k) (without vs k) := by
  unfold KV at r ⊢
  unfold dropK without
  induction r with
  | nil => exact .nil
  | @cons p q ps qs h t ih =>
    obtain ⟨h1, h2⟩ := h
    rw [List.filter_cons, List.filter_cons]
    by_cases e : p.1 = k
    · have a : ¬ decide (p.1 ≠ k) = true := by simp [e]
      have b : ¬ decide (q.1 ≠ k) = true := by simp [h1.symm.trans e]
      rw [if_neg a, if_neg b]; exact ih
    · have e' : ¬ q.1 = k := fun z => e (h1.trans z)
      have a : decide (p.1 ≠ k) = true := by simp [e]
      have b : decide (q.1 ≠ k) = true := by simp [e']
      rw [if_pos a, if_pos b]; exact .cons ⟨h1, h2⟩ ih
theorem KV.keys {kvs : List (κ × V)} {vs : List (κ × Value)} (r : KV kvs vs) : kvs.map (·.1) = vs.map (·.1) := by
  unfold KV at r
  induction r with
  | nil => rfl
  | cons h t ih => rw [List.map_cons, List.map_cons, ih, h.1]
theorem KV.length {kvs : List (κ × V)} {vs : List (κ × Value)} (r : KV kvs vs) : kvs.length = vs.length := Paired.length r
end


/-- raw entries of a dict with tuple keys -/
abbrev KT (H : Hp) : List (List Key × V) → List (List Key × Addr × Value) → Prop := Paired fun p q => p.1 = q.1 ∧ H q.2.1 = some (.tup (p.1.map kV)) ∧ RelV p.2 q.2.2
theorem KT.val {H : Hp} {kvs : List (List Key × V)} {xs : List (List Key × Addr × Value)} (r : KT H kvs xs) (k : List Key) : RelO (valV kvs k) ((atKey xs k).map (·.2)) := by
  induction r with
  | nil => exact True.intro
  | @cons p q ps qs h t ih =>
    obtain ⟨h1, _, h2⟩ := h
    by_cases e : p.1 = k
    · have e' : q.1 = k := h1.symm.trans e
      have b : atKey (q :: qs) k = some q.2 := by simp [atKey, List.find?_cons, e']
      rw [valV_pos e, b]; exact h2
    · have e' : ¬ q.1 = k := fun z => e (h1.trans z)
      have b : atKey (q :: qs) k = atKey qs k := by simp [atKey, List.find?_cons, e']
      rw [valV_neg e, b]; exact ih
theorem KT.repl {H : Hp} {kvs : List (List Key × V)} {xs : List (List Key × Addr × Value)} (r : KT H kvs xs) (k : List Key) {y : V} {u : Value} (ry : RelV y u) :
    KT H (kvs.map fun kv => if kv.1 = k then (kv.1, y) else kv) (xs.map (putAt k u)) := by
  induction r with
  | nil => exact .nil
  | @cons p q ps qs h t ih =>
    rw [List.map_cons, List.map_cons]
    refine .cons ?_ ih
    obtain ⟨h1, h2, h3⟩ := h
    unfold putAt
    by_cases e : p.1 = k
    · rw [if_pos e, if_pos (h1.symm.trans e)]; exact ⟨h1, h2, ry⟩
    · rw [if_neg e, if_neg (fun z => e (h1.trans z))]; exact ⟨h1, h2, h3⟩
theorem KT.put {H : Hp} {kvs : List (List Key × V)} {xs : List (List Key × Addr × Value)} (r : KT H kvs xs) (k : List Key) {b : Addr} {y : V} {u : Value} (hb : H b = some (.tup (k.map kV))) (ry : RelV y u) :
    KT H (putK kvs k y) (storedH xs k b u) := by
  have e : (kvs.any fun kv => decide (kv.1 = k)) = (atKey xs k).isSome := by
    rw [valV_any, (r.val k).isSome_eq, Option.isSome_map]
  unfold putK storedH
  rw [e]
  by_cases q : (atKey xs k).isSome = true
  · rw [if_pos q, if_pos q]; exact r.repl k ry
  · rw [if_neg q, if_neg q]; exact Paired.snoc r ⟨rfl, hb, ry⟩
theorem KT.keeps {H H' : Hp} {kvs : List (List Key × V)} {xs : List (List Key × Addr × Value)} (r : KT H kvs xs) (ht : ∀ b ys, H b = some (.tup ys) → H' b = some (.tup ys)) : KT H' kvs xs :=
  Paired.mapP r fun _ _ z => ⟨z.1, ht _ _ z.2.1, z.2.2⟩

section
variable {P : Program} {w : World} {H : Hp} {h : Heap} {a : Addr}
end

/-- what the dict at a holds at the key y -/
def DGet (H : Hp) (a : Addr) (y : V) (r : Option V) : Prop :=
  (∃ kvs k, Rd H a (.dK kvs) ∧ y = kV k ∧ r = valV kvs k) ∨ ∃ kvs k b, Rd H a (.dT kvs) ∧ y = .ref b ∧ H b = some (.tup (k.map kV)) ∧ r = valV kvs k
/-- the heap behind a[y] = v -/
def DPut (H : Hp) (a : Addr) (y v : V) (H' : Hp) : Prop :=
  (∃ kvs k, H a = some (.dK kvs) ∧ y = kV k ∧ kvs.length < sizeLine ∧ H' = upd H a (.dK (putK kvs k v))) ∨
  ∃ kvs k b, H a = some (.dT kvs) ∧ y = .ref b ∧ H b = some (.tup (k.map kV)) ∧ kvs.length < sizeLine ∧ H' = upd H a (.dT (putK kvs k v))
theorem DGet.k {H : Hp} {a : Addr} {kvs : List (Key × V)} {k : Key} (e : H a = some (.dK kvs)) : DGet H a (kV k) (valV kvs k) := .inl ⟨kvs, k, .inl e, rfl, rfl⟩
theorem DGet.t {H : Hp} {a b : Addr} {kvs : List (List Key × V)} {k : List Key} (e : H a = some (.dT kvs)) (eb : H b = some (.tup (k.map kV))) : DGet H a (.ref b) (valV kvs k) := .inr ⟨kvs, k, b, .inl e, rfl, eb, rfl⟩
theorem DPut.k {H : Hp} {a : Addr} {kvs : List (Key × V)} {k : Key} {v : V} (e : H a = some (.dK kvs)) (hl : kvs.length < sizeLine) : DPut H a (kV k) v (upd H a (.dK (putK kvs k v))) := .inl ⟨kvs, k, e, rfl, hl, rfl⟩
theorem DPut.t {H : Hp} {a b : Addr} {kvs : List (List Key × V)} {k : List Key} {v : V} (e : H a = some (.dT kvs)) (eb : H b = some (.tup (k.map kV))) (hl : kvs.length < sizeLine) :
    DPut H a (.ref b) v (upd H a (.dT (putK kvs k v))) := .inr ⟨kvs, k, b, e, rfl, eb, hl, rfl⟩


section
variable {X : Cx} {pins : List (Addr × Obj)} {σ : St} {H : Hp} {s : Shared} {a : Addr} {y v : V} {u r : Value} {o : Option V} {A : Around} {E : Value → Shared → Prop}

end

section
variable {X : Cx} {pins : List (Addr × Obj)} {σ : St} {H : Hp} {s : Shared} {a : Addr} {kvs : List (Key × V)} {k : Key} {u : Value} {A : Around} {E : Value → Shared → Prop}
end


section
variable {X : Cx} {o i e value : Expr} {pos pos' tpos : Pos} {td ty tv : TE}
end


section
variable {X : Cx} {pos : Pos}
end

section
variable {X : Cx} {pins : List (Addr × Obj)} {σ : St} {H : Hp} {s : Shared} {a : Addr} {y d : V} {u r : Value} {o : Option V} {A : Around} {E : Value → Shared → Prop}
end

section
variable {X : Cx} {o e f : Expr} {apos cpos : Pos} {td ty tx : TE}
end

section
variable {X : Cx} {pins : List (Addr × Obj)} {σ : St} {H : Hp} {s : Shared} {a : Addr} {kvs : List (Key × V)} {A : Around} {E : Value → Shared → Prop}
end


section
variable {X : Cx} {pins : List (Addr × Obj)} {σ : St} {H : Hp} {s : Shared} {a : Addr} {y : V} {u : Value} {A : Around} {E : Value → Shared → Prop}
end
end L2

namespace L2
open PySem PySem.Spec PyProof.Rows
section
variable {κ : Type} [DecidableEq κ]
end
end L2
set_option Elab.async false
set_option linter.all false
set_option maxRecDepth 100000
set_option maxHeartbeats 4000000
namespace L2
open PySem PySem.Spec PyProof.Rows
section
variable {X : Cx}
end
mutual
/-- tuples, ints, truths, texts alone -/
def onlyT : PyData → Bool
  | .none | .bool _ | .int _ | .str _ => true
  | .tuple xs => onlyTs xs
  | .list _ | .dict _ => false
def onlyTs : List PyData → Bool
  | [] => true
  | x :: xs => onlyT x && onlyTs xs
end
mutual
theorem reads_no {h : Heap} : ∀ (d : PyData) (u : Value) (as : List Addr), Reads h u d as → onlyT d = true → as = []
  | .none, _, _, r, _ => by cases r; rfl
  | .bool _, _, _, r, _ => by cases r; rfl
  | .int _, _, _, r, _ => by cases r; rfl
  | .str _, _, _, r, _ => by cases r; rfl
  | .tuple xs, _, _, r, e => by
    cases r with
    | tuple h1 h2 h3 h4 => exact reads_nos xs _ _ h4 (by simpa [onlyT] using e)
  | .list _, _, _, _, e => by simp [onlyT] at e
  | .dict _, _, _, _, e => by simp [onlyT] at e
theorem reads_nos {h : Heap} : ∀ (ds : List PyData) (us : List Value) (as : List Addr), ReadsAll h us ds as → onlyTs ds = true → as = []
  | [], _, _, r, _ => by cases r; rfl
  | d :: ds, _, _, r, e => by
    have e' : onlyT d = true ∧ onlyTs ds = true := by simpa [onlyTs] using e
    cases r with
    | cons r1 r2 => rw [reads_no d _ _ r1 e'.1, reads_nos ds _ _ r2 e'.2]; rfl
end
section
variable {X : Cx}
def DtS (X : Cx) (H : Hp) (d : PyData) (v : V) : Prop := ∀ (pins : List (Addr × Obj)) (s : Shared) (σ : St) (u : Value), Inv X pins σ H s → RelV v u → ∃ as, Reads s.heap u d as ∧ sysModules ∉ as
theorem DtS.of {H : Hp} {d : PyData} {v : V} (h : Dt X.K H d v) (o : onlyT d = true) : DtS X H d v := fun pins s σ u I r => by
  obtain ⟨as, q⟩ := Dt.reads I d v u r h
  rw [reads_no d u as q o] at q
  exact ⟨[], q, by simp⟩
theorem DtS.pair {H : Hp} {a : Addr} {d e : PyData} {x y : V} (h : H a = some (.tup [x, y])) (h1 : DtS X H d x) (h2 : DtS X H e y) : DtS X H (.tuple [d, e]) (.ref a) := fun pins s σ u I r => by
  cases r
  obtain ⟨its, rv, ⟨o, e1, e2, n, e3⟩, hz⟩ := I.tuple (SqT.of (K := X.K) h)
  cases rv with
  | cons r1 rr =>
    cases rr with
    | cons r2 rr =>
      cases rr
      obtain ⟨as, q1, w1⟩ := h1 pins s σ _ I r1
      obtain ⟨bs, q2, w2⟩ := h2 pins s σ _ I r2
      refine ⟨_, .tuple e1 e2 e3 (by simpa using ReadsAll.cons q1 (ReadsAll.cons q2 .nil)), ?_⟩
      simp [w1, w2]
/-- a table from tuples of ints to ints -/
def kvD (p : List Int × Int) : PyData × PyData := (.tuple (p.1.map PyData.int), .int p.2)
theorem dt_ints {H : Hp} {P : Program} {w : World} {h : Heap} {b : Addr} {k : List Int} (ok : HOk P w H h) (e : H b = some (.tup (k.map V.int))) : Reads h (.ref b) (.tuple (k.map PyData.int)) [] := by
  obtain ⟨z, its, rv, ⟨o, e1, e2, n, e3, _⟩⟩ := (show ObjOk P w H h b (.tup (k.map V.int)) from ok b _ e)
  refine .tuple e1 e2 e3 ?_
  have : ∀ (k : List Int) (its : List Value), Vals (k.map V.int) its → ReadsAll h its (k.map PyData.int) [] := fun k => by
    induction k with
    | nil => intro its r; cases r; exact .nil
    | cons i k ih =>
      intro its r
      cases r with
      | cons r1 r2 =>
        obtain ⟨t, rfl⟩ := r1
        exact ReadsAll.cons (.int i t) (ih _ r2)
  simpa using this k its rv
def kvV (p : List Int × Int) : List Key × V := (p.1.map Sum.inl, .int p.2)
theorem kv_key (k : List Int) : (k.map (Sum.inl (α := Int) (β := Str))).map kV = k.map V.int := by
  rw [List.map_map]
  rfl
theorem DtS.table {H : Hp} {a : Addr} {ps : List (List Int × Int)} (h : H a = some (.dT (ps.map kvV))) : DtS X H (.dict (ps.map kvD)) (.ref a) := fun pins s σ u I r => by
  cases r
  obtain ⟨z, y, xs, pr, o, es, ep, h1, h2, h3, h4, h5⟩ := (show ObjOk X.prog X.w H s.heap a (.dT (ps.map kvV)) from I.hok a _ h)
  have key : ∀ (ps : List (List Int × Int)) (xs : List (List Key × Addr × Value)), Paired (fun (p : List Key × V) (q : List Key × Addr × Value) => p.1 = q.1 ∧ H q.2.1 = some (.tup (p.1.map kV)) ∧ RelV p.2 q.2.2) (ps.map kvV) xs →
      ReadsAll s.heap ((xs.map (entryOfKey (tupleKind (mixKind X.prog X.w)))).map (·.key)) ((ps.map kvD).map (·.1)) [] ∧ ReadsAll s.heap ((xs.map (entryOfKey (tupleKind (mixKind X.prog X.w)))).map (·.val)) ((ps.map kvD).map (·.2)) [] := fun ps => by
    induction ps with
    | nil => intro xs r; cases r; exact ⟨.nil, .nil⟩
    | cons p ps ih =>
      intro xs r
      cases r with
      | cons r1 r2 =>
        obtain ⟨e1, e2, e3⟩ := r1
        obtain ⟨i1, i2⟩ := ih _ r2
        have e2' := e2
        rw [show (kvV p).1.map kV = p.1.map V.int from kv_key p.1] at e2'
        obtain ⟨t, et⟩ := e3
        have hv : ∀ {q : List Key × Addr × Value}, q.2.2 = Value.int p.2 t → Reads s.heap (entryOfKey (tupleKind (mixKind X.prog X.w)) q).val (.int p.2) [] := fun {q} z => by
          show Reads s.heap q.2.2 (.int p.2) []
          rw [z]; exact .int _ _
        exact ⟨ReadsAll.cons (as := []) (bs := []) (dt_ints I.hok e2') i1, ReadsAll.cons (as := []) (bs := []) (hv et) i2⟩
  obtain ⟨k1, k2⟩ := key ps xs pr
  have hcls : o.cls = .type "dict" := h2.1
  refine ⟨a :: [] ++ [], .dict h1 hcls h3 (by rw [h4]; exact k1) (by rw [h4]; exact k2), ?_⟩
  intro w
  have e : sysModules = a := by simpa using w
  rw [e] at y
  simp at y
end
end L2
set_option Elab.async false
set_option linter.all false
set_option maxRecDepth 100000
set_option maxHeartbeats 4000000
namespace L2
open PySem PySem.Spec PyProof.Rows
section
variable {X : Cx} {tg iter el tg2 iter2 : Expr} {ifs ifs2 : List Expr} {sc : Scope} {pos : Pos} {Nc : List Str} {js : List (Option Nat)} {wi wi2 : TI} {g g2 : TG}
end
end L2
set_option Elab.async false
set_option linter.all false
set_option maxRecDepth 100000
set_option maxHeartbeats 4000000
namespace L2
open PySem PySem.Spec PyProof.Rows
section
variable {X : Cx}
/-- where an int stands first -/
def FirstAt (ns : List Int) (n : Int) (j : Nat) : Prop := ns[j]? = some n ∧ ∀ m : Nat, m < j → ns[m]? ≠ some n
theorem vals_ints_get {ns : List Int} {its : List Value} (r : Vals (ns.map V.int) its) {m : Nat} (hm : m < its.length) : ∃ k t, ns[m]? = some k ∧ its[m] = Value.int k t := by
  have hl := r.length
  rw [List.length_map] at hl
  have hk : m < ns.length := by omega
  obtain ⟨u, hu, q⟩ := r.get (i := m) (x := .int ns[m]) (by rw [List.getElem?_map, List.getElem?_eq_getElem hk]; rfl)
  obtain ⟨t, rfl⟩ := q
  refine ⟨ns[m], t, List.getElem?_eq_getElem hk, ?_⟩
  rw [List.getElem?_eq_getElem hm] at hu
  exact Option.some.inj hu
def eqInt (n : Int) (v : Value) : Bool := match v with | .int k _ => k == n | _ => false
theorem vals_ints_eq {ns : List Int} {its : List Value} (r : Vals (ns.map V.int) its) (n : Int) (t : Tok) : ∀ y, y ∈ its.toArray → MeetsSeq.EqGives y (.int n t) (eqInt n y) := fun y hy => by
  obtain ⟨m, hm, rfl⟩ := List.mem_iff_getElem.mp (List.mem_toArray.mp hy)
  obtain ⟨k, t', _, e⟩ := vals_ints_get r hm
  rw [e]
  exact MeetsSeq.EqGives.int _ _ _ _
theorem first_hit {ns : List Int} {its : List Value} (r : Vals (ns.map V.int) its) {n : Int} {j : Nat} (h : FirstAt ns n j) : ∃ hj : j < its.toArray.size, eqInt n its.toArray[j] = true ∧ ∀ m (hm : m < its.toArray.size), m < j → eqInt n its.toArray[m] = false := by
  have hl := r.length
  rw [List.length_map] at hl
  have hj : j < ns.length := (List.getElem?_eq_some_iff.mp h.1).1
  have hj' : j < its.length := by omega
  refine ⟨by rw [List.size_toArray]; exact hj', ?_, fun m hm hlt => ?_⟩
  · obtain ⟨k, t, e1, e2⟩ := vals_ints_get r hj'
    rw [h.1] at e1
    cases e1
    simp [e2, eqInt]
  · rw [List.size_toArray] at hm
    obtain ⟨k, t, e1, e2⟩ := vals_ints_get r hm
    have : k ≠ n := fun z => h.2 m hlt (by rw [e1, z])
    simp [e2, eqInt, this]
end
end L2
set_option Elab.async false
set_option linter.all false
set_option maxRecDepth 100000
set_option maxHeartbeats 4000000
namespace L2
open PySem PySem.Spec PyProof.Rows
open AutoSeq1 (wpAny_loadPart')
theorem tup_index (l : Addr) (items : Array Value) (n : Nat) (dd : Option Addr) (sl : Array (Option Value)) (x : Value) (e : Value → Bool) (j : Nat) (hj : j < items.size) (hit : e items[j] = true) (hno : ∀ m (hm : m < items.size), m < j → e items[m] = false) :
    Meets (Builtin.«tuple.index» ⟨[.ref l, x], []⟩) (fun A R s => s.heap.get? l = some { cls := .type "tuple", dict := dd, data := .seq items n, slots := sl } ∧ (∀ y, y ∈ items → SeqAt.EqAt A.in1 s y x (e y)) ∧ R (.ok (.ret (.int j s.toks))) { s with toks := s.toks + 1 }) :=
  .of_wp fun prog w A R s h => by
    obtain ⟨hp, g, d, tk, os⟩ := s; obtain ⟨hl, he, h⟩ := h
    wp_walk using wpAny_loadPart' hl
    have hR : ∀ (f : Nat → Option PySem.Fin × PUnit → Sem (ForInStep (Option PySem.Fin × PUnit))) (Q : Option PySem.Fin × PUnit → Shared → Prop) (E : Value → Shared → Prop) (s0 : Shared),
        wpAny (model prog w) A.in1 (forIn (List.range' 0 items.size) ((none : Option PySem.Fin), PUnit.unit) f) Q E s0 → wpAny (model prog w) A.in1 (forIn [:min items.size items.size] ((none : Option PySem.Fin), PUnit.unit) f) Q E s0 := fun f Q E s0 z => by
      rw [Std.Legacy.Range.forIn_eq_forIn_range']
      simpa [Std.Legacy.Range.size] using z
    refine hR (fun i __s => match items[i]? with
            | some y => do
              if ← eqBool y x then do
                  let r ← retInt (i : Nat)
                  pure (ForInStep.done (some r, ()))
                else pure (ForInStep.yield (none, ()))
            | _ => pure (ForInStep.yield (none, ()))) _ _ _ ?_
    refine wpAny_forIn_list _ (fun rest b s' => b.1 = none ∧ s' = ⟨hp, g, d, tk, os⟩ ∧ ∃ i, i ≤ j ∧ rest = List.range' i (items.size - i)) _ ?_ ?_ _ _ ⟨rfl, rfl, 0, Nat.zero_le _, by simp⟩
    · rintro y rest b s' ⟨hb, rfl, i, hi, er⟩
      have hlt : i < items.size := by omega
      rw [show items.size - i = (items.size - (i + 1)) + 1 by omega, List.range'_succ] at er
      injection er with e1 e2
      subst e1
      have hg : items[y]? = some items[y] := by simp [hlt]
      simp only [hg]
      refine wpAny_bind (he _ (Array.getElem_mem hlt) prog w _ _ ?_)
      by_cases c : y = j
      · subst c
        rw [hit]
        wp_walk
        exact ⟨_, rfl, h⟩
      · rw [hno y hlt (by omega)]
        wp_walk
        exact ⟨rfl, rfl, y + 1, by omega, e2⟩
    · rintro b s' ⟨hb, rfl, i, hi, er⟩
      have : List.length ([] : List Nat) = items.size - i := by rw [er, List.length_range']
      simp at this
      omega
section
variable {X : Cx}
def rIndexT (K : PySem.W.Frag) : V → List V → Hp → VK → Prop := fun x vs H Q => ∃ (l : Addr) (ns : List Int) (n : Int) (j : Nat), x = .ref l ∧ vs = [.int n] ∧ SqT K H l (ns.map V.int) ∧ FirstAt ns n j ∧ Q (.int j) H
theorem mt_indexT : MtM X "tuple.index" (rIndexT X.K) := by
  intro pins s σ H x vs v us Q I rx rv h
  obtain ⟨l, ns, n, j, rfl, rfl, hH, hj, q⟩ := h
  cases rx
  obtain ⟨u, rfl, t, rfl⟩ := rv.one
  obtain ⟨its, r, ⟨⟨cls, dd, dt, sl⟩, ho, hc, m, hd⟩, hz⟩ := I.tuple hH
  simp only at hc hd
  subst hc hd
  obtain ⟨h1, h2, h3⟩ := first_hit r hj
  refine call_meets F.slot_tuple_index ⟨_, ho, rfl⟩ F.entry_tuple_index (F.args_tuple_index_2 _ _) (tup_index l its.toArray m dd sl (.int n t) (eqInt n) j h1 h2 h3) ⟨ho, fun y hy => (vals_ints_eq r n t y hy).at _ _, ?_⟩
  exact ⟨.int j, H, I.tok _, ⟨_, rfl⟩, q⟩
end
end L2
set_option Elab.async false
set_option linter.all false
set_option maxRecDepth 100000
set_option maxHeartbeats 4000000
namespace SetP
open PySem

def pos (h : Int) : Nat → Nat × Nat
  | 0 => (SetTable.bits h % 8, SetTable.bits h)
  | m + 1 => SetTable.leap 7 (pos h m).1 (pos h m).2
def prb (h : Int) (m : Nat) : SetTable.Probe := { j := (pos h m).1, more := 0, i := (pos h m).1, perturb := (pos h m).2, dummy := none }
theorem pos_lt (h : Int) (m : Nat) : (pos h m).1 < 8 := by
  cases m with
  | zero => exact Nat.mod_lt _ (by decide)
  | succ m => exact Nat.mod_lt _ (by decide)
theorem run7 (i : Nat) : SetTable.runEnd 7 i = i := by unfold SetTable.runEnd; rw [if_neg (by omega)]
theorem start7 {t : SetTable} (h : t.mask = 7) (k : Int) : t.probeStart k = prb k 0 := by
  unfold SetTable.probeStart
  simp only [h, run7]
  simp [prb, pos]
theorem adv7 {t : SetTable} (h : t.mask = 7) (k : Int) (m : Nat) : t.advance (prb k m) = prb k (m + 1) := by
  unfold SetTable.advance
  simp [prb, h, run7, pos]
theorem bits_lt (h : Int) : SetTable.bits h < 2 ^ 64 := by
  unfold SetTable.bits
  have h1 := Int.emod_nonneg h (show (2 ^ 64 : Int) ≠ 0 by decide)
  have h2 := Int.emod_lt_of_pos h (show (0 : Int) < 2 ^ 64 by decide)
  omega
theorem pert (h : Int) : ∀ m, (pos h m).2 = SetTable.bits h / 32 ^ m
  | 0 => by simp [pos]
  | m + 1 => by
    show (pos h m).2 / 32 = _
    rw [pert h m, Nat.div_div_eq_div_mul, Nat.pow_succ]
theorem pert0 (h : Int) {m : Nat} (hm : 13 ≤ m) : (pos h m).2 = 0 := by
  rw [pert]
  refine Nat.div_eq_of_lt (Nat.lt_of_lt_of_le (bits_lt h) ?_)
  exact Nat.le_trans (show 2 ^ 64 ≤ 32 ^ 13 by decide) (Nat.pow_le_pow_right (by decide) hm)
def turn (x : Nat) : Nat := (x * 5 + 1) % 8
def turnN (x : Nat) : Nat → Nat
  | 0 => x
  | k + 1 => turn (turnN x k)
theorem late (h : Int) : ∀ k, (pos h (13 + k)).1 = turnN (pos h 13).1 k
  | 0 => rfl
  | k + 1 => by
    show ((pos h (13 + k)).1 * 5 + 1 + (pos h (13 + k)).2 / 32) % (7 + 1) = _
    rw [pert0 h (by omega), late h k]
    rfl
theorem turns_all : ∀ x j : Fin 8, ∃ k : Fin 8, turnN x.1 k.1 = j.1 := by decide +kernel
theorem cover (h : Int) {j : Nat} (hj : j < 8) : ∃ m, m < 21 ∧ (pos h m).1 = j := by
  obtain ⟨k, e⟩ := turns_all ⟨(pos h 13).1, pos_lt h 13⟩ ⟨j, hj⟩
  exact ⟨13 + k.1, by omega, by rw [late]; exact e⟩

def srt : List Nat → Bool
  | [] => true
  | [a] => a < 8
  | [a, b] => a < b && b < 8
  | [a, b, c] => a < b && b < c && c < 8
  | [a, b, c, d] => a < b && b < c && c < d && d < 8
  | _ => false
def okAt (pl : List Nat) (j : Nat) : Bool :=
  if pl.contains j then pl.toArray[SetTable.below pl.toArray j]? == some j
  else srt (pl.take (SetTable.below pl.toArray j) ++ j :: pl.drop (SetTable.below pl.toArray j)) && (pl.toArray[SetTable.below pl.toArray j]? != some j)
theorem ok0 : ∀ j : Fin 8, okAt [] j.1 = true := by decide +kernel
theorem ok1 : ∀ a j : Fin 8, okAt [a.1] j.1 = true := by decide +kernel
theorem ok2 : ∀ a b j : Fin 8, a.1 < b.1 → okAt [a.1, b.1] j.1 = true := by decide +kernel
theorem ok3 : ∀ a b c j : Fin 8, a.1 < b.1 → b.1 < c.1 → okAt [a.1, b.1, c.1] j.1 = true := by decide +kernel
theorem okAll {pl : List Nat} (s : srt pl = true) (l : pl.length ≤ 3) {j : Nat} (hj : j < 8) : okAt pl j = true := by
  match pl, s, l with
  | [], _, _ => exact ok0 ⟨j, hj⟩
  | [a], s, _ =>
    have : a < 8 := by simpa [srt] using s
    exact ok1 ⟨a, this⟩ ⟨j, hj⟩
  | [a, b], s, _ =>
    have : a < b ∧ b < 8 := by simpa [srt] using s
    exact ok2 ⟨a, by omega⟩ ⟨b, this.2⟩ ⟨j, hj⟩ this.1
  | [a, b, c], s, _ =>
    have : (a < b ∧ b < c) ∧ c < 8 := by simpa [srt] using s
    exact ok3 ⟨a, by omega⟩ ⟨b, by omega⟩ ⟨c, this.2⟩ ⟨j, hj⟩ this.1.1 this.1.2
structure Tb (t : SetTable) (pl : List Nat) : Prop where
  mask : t.mask = 7
  dum : t.dummies = #[]
  place : t.place = pl.toArray
  srt : srt pl = true
theorem Tb.slot {t : SetTable} {pl : List Nat} (T : Tb t pl) (l : pl.length ≤ 3) {j : Nat} (hj : j < 8) : (j ∈ pl ∧ ∃ i, t.slot j = .live i ∧ pl[i]? = some j) ∨ (j ∉ pl ∧ t.slot j = .empty) := by
  have o := okAll T.srt l hj
  unfold okAt at o
  have nd : SetTable.has t.dummies j = false := by rw [T.dum]; rfl
  unfold SetTable.slot
  rw [T.place, nd]
  by_cases c : j ∈ pl
  · rw [if_pos (by simpa using c)] at o
    refine .inl ⟨c, _, if_pos o, ?_⟩
    simpa using o
  · rw [if_neg (by simpa using c), Bool.and_eq_true] at o
    refine .inr ⟨c, ?_⟩
    rw [if_neg (by simpa using o.2)]
    rfl
theorem Tb.put {t : SetTable} {pl : List Nat} (T : Tb t pl) (l : pl.length ≤ 3) {j : Nat} (hj : j < 8) (c : j ∉ pl) :
    ∃ p, t.put j = ((t.put j).1, p) ∧ Tb (t.put j).1 (pl.take p ++ j :: pl.drop p) := by
  have o := okAll T.srt l hj
  unfold okAt at o
  rw [if_neg (by simpa using c), Bool.and_eq_true] at o
  have nd : SetTable.has t.dummies j = false := by rw [T.dum]; rfl
  refine ⟨SetTable.below pl.toArray j, ?_, ⟨T.mask, ?_, ?_, o.1⟩⟩
  · unfold SetTable.put; rw [T.place]
  · unfold SetTable.put; simp only [nd]; exact T.dum
  · unfold SetTable.put SetTable.insertAt
    simp only [T.place]
    apply Array.ext'
    simp
    exact List.take_of_length_le (by simp)
/-- what a walk along the places meets first -/
theorem Tb.go {t : SetTable} {pl : List Nat} (T : Tb t pl) (l : pl.length ≤ 3) (hashAt : Nat → Int) (h : Int) : ∀ (fuel m m₁ : Nat), m ≤ m₁ → m₁ < m + fuel → (pos h m₁).1 ∉ pl →
    ∃ m₂, m ≤ m₂ ∧ m₂ ≤ m₁ ∧ (∀ m', m ≤ m' → m' < m₂ → ∃ i, pl[i]? = some (pos h m').1 ∧ hashAt i ≠ h) ∧
      (((pos h m₂).1 ∉ pl ∧ SetTable.probe.go t hashAt h fuel (prb h m) = some (.empty (pos h m₂).1 none)) ∨
       (m₂ < m₁ ∧ ∃ i, t.slot (pos h m₂).1 = .live i ∧ pl[i]? = some (pos h m₂).1 ∧ hashAt i = h ∧ SetTable.probe.go t hashAt h fuel (prb h m) = some (.candidate (pos h m₂).1 i (prb h (m₂ + 1))))) := by
  intro fuel
  induction fuel with
  | zero => intro m m₁ h1 h2; omega
  | succ f ih =>
    intro m m₁ h1 h2 hn
    rcases T.slot l (pos_lt h m) with ⟨c, i, e1, e2⟩ | ⟨c, e⟩
    · have ne : m ≠ m₁ := fun z => hn (z ▸ c)
      by_cases q : hashAt i = h
      · refine ⟨m, Nat.le_refl _, h1, fun m' a b => by omega, .inr ⟨by omega, i, e1, e2, q, ?_⟩⟩
        unfold SetTable.probe.go
        rw [show (prb h m).j = (pos h m).1 from rfl, e1]
        simp only [q, beq_self_eq_true, if_true, adv7 T.mask]
      · obtain ⟨m₂, a1, a2, a3, a4⟩ := ih (m + 1) m₁ (by omega) (by omega) hn
        have eg : SetTable.probe.go t hashAt h (f + 1) (prb h m) = SetTable.probe.go t hashAt h f (prb h (m + 1)) := by
          conv => lhs; unfold SetTable.probe.go
          rw [show (prb h m).j = (pos h m).1 from rfl, e1]
          simp only [show (hashAt i == h) = false by simpa using q, Bool.false_eq_true, if_false, adv7 T.mask]
        rw [eg]
        refine ⟨m₂, by omega, a2, fun m' b1 b2 => ?_, a4⟩
        by_cases z : m' = m
        · subst z; exact ⟨i, e2, q⟩
        · exact a3 m' (by omega) b2
    · refine ⟨m, Nat.le_refl _, h1, fun m' a b => by omega, .inl ⟨c, ?_⟩⟩
      unfold SetTable.probe.go
      rw [show (prb h m).j = (pos h m).1 from rfl, e]
      rfl
end SetP
set_option Elab.async false
set_option linter.all false
set_option maxRecDepth 100000
set_option maxHeartbeats 4000000
namespace SetP
open PySem L2 PyProof.Rows
section
variable {prog : Program} {w : World}
/-- the hash of v, at the heap h -/
def HA (prog : Program) (w : World) (n : Nat) (h : Heap) (v : Value) (k : Int) : Prop :=
  ∀ (A : Around) (E : Value → Shared → Prop) (s : Shared) (Q : Int → Shared → Prop), A.units + n < cLine → s.heap = h → (∀ t, s.toks ≤ t → Q k { s with toks := t }) → wpAny (model prog w) A (pyHash v) Q E s
theorem HA.int (n : Nat) (h : Heap) (i : Int) (t : Tok) : HA prog w n h (.int i t) ((intKind prog w).hash i) := fun A E s Q _ _ q =>
  (intKind prog w).pyHash (k := i) (intKind_is _ _ _ _) (q _ (Nat.le_succ _))
theorem HA.up {n m : Nat} {h : Heap} {v : Value} {k : Int} (x : HA prog w n h v k) (l : n ≤ m) : HA prog w m h v k := fun A E s Q hu => x A E s Q (by omega)
def tupH (hs : List Int) : Int := reduceHash (Builtin.Tuple.tupleHashOf hs)
theorem HA.tup {n : Nat} {h : Heap} {a : Addr} {its : List Value} {hs : List Int} (T : IsTup h a its.toArray) (r : Paired (HA prog w n h) its hs) : HA prog w (n + 1) h (.ref a) (tupH hs) := by
  intro A E s Q hu he q
  subst he
  obtain ⟨o, ho, hc, m, hd⟩ := T
  have hT : s.TypeIs (.ref a) "tuple" := ⟨o, ho, hc⟩
  unfold pyHash
  first | unfold pyHashByItsType | skip
  first | refine wpAny_bind (wpAny_cRoomFor_or (.inr (by omega)) ?_) | skip
  refine wpAny_bind (wpAny_specialOf hT F.slot_tuple_hash.lookup ?_)
  rw [show ((some (Value.builtin "tuple.__hash__") : Option Value) == some Value.none) = false from beq_builtin_none ..]
  rw [if_neg Bool.false_ne_true]
  refine wpAny_bind (wpAny_specialOf hT F.slot_tuple_hash.lookup ?_)
  refine wpAny_bind (wpAny_callSpecialIfBoundUnlessNone?_slot hT F.slot_tuple_hash ?_)
  refine wpAny_call_entry F.slot_tuple_hash hT F.entry_tuple_hash ?_ (F.args_tuple_hash_1 _)
  show wpAny _ _ (Builtin.Tuple.tupleItemsOf (.ref a) >>= fun d => forIn d _ _ >>= _) _ _ s
  refine wpAny_bind (wpAny_tupleItemsOf ho hd ?_)
  refine wpAny_bind ?_
  rw [← Array.forIn_toList]
  refine wpAny_forIn_list _ (fun rest (b : Array Int) s' => ∃ hr t, Paired (HA prog w n s.heap) rest hr ∧ b.toList ++ hr = hs ∧ s.toks ≤ t ∧ s' = { s with toks := t }) _ ?_ ?_ _ _ ⟨hs, s.toks, r, rfl, Nat.le_refl _, rfl⟩
  · rintro x rest b s' ⟨hr, t, r, e, le, rfl⟩
    cases r with
    | cons r1 r2 =>
      rename_i k ks
      refine wpAny_bind (r1 _ _ _ _ ?_ rfl fun t' le' => ?_)
      · first | (show A.units + 1 + n < cLine; omega) | omega
      · have fin : ∃ hr t'', Paired (HA prog w n s.heap) rest hr ∧ (b.push k).toList ++ hr = hs ∧ s.toks ≤ t'' ∧ ({ { s with toks := t } with toks := t' } : Shared) = { s with toks := t'' } := ⟨ks, t', r2, by simpa using e, Nat.le_trans le le', rfl⟩
        first
          | exact wpAny_pure fin
          | exact wpAny_bind (wpAny_pure (wpAny_pure fin))
  · rintro b s' ⟨hr, t, r, e, le, rfl⟩
    cases r
    rw [List.append_nil] at e
    subst e
    refine wpAny_ret_mkInt ?_
    have q' := q (t + 1) (Nat.le_succ_of_le le)
    unfold tupH reduceHash at q'
    by_cases c : (decide (-(2 : Int) ^ 63 ≤ Builtin.Tuple.tupleHashOf b.toList) && decide (Builtin.Tuple.tupleHashOf b.toList < 2 ^ 63)) = true
    · rw [if_pos c] at q'
      refine Eq.mpr (congrArg (fun z => wpAny _ _ z _ _ _) (if_pos c)) ?_
      exact wpAny_pure q'
    · rw [if_neg c] at q'
      refine Eq.mpr (congrArg (fun z => wpAny _ _ z _ _ _) (if_neg c)) ?_
      exact wpAny_bind (wpAny_rule (wpAny_pure q'))
end
end SetP
set_option Elab.async false
set_option linter.all false
set_option maxRecDepth 100000
set_option maxHeartbeats 4000000
namespace SetP
open PySem L2 PyProof.Rows
/-- a whole number, or a tuple of such, n deep -/
inductive Cold (h : Heap) : Nat → Value → Prop
  | int (n : Nat) (i : Int) (t : Tok) : Cold h n (.int i t)
  | tup {n : Nat} {a : Addr} {its : List Value} (T : IsTup h a its.toArray) (r : ∀ v ∈ its, Cold h n v) : Cold h (n + 1) (.ref a)
section
variable {prog : Program} {w : World} {A : Around} {E : Value → Shared → Prop} {s : Shared}
theorem Cold.quiet {n : Nat} {v : Value} (c : Cold s.heap n v) : ∀ {k : Nat} {Q : Bool → Shared → Prop}, n ≤ k → Q true s → wpAny (model prog w) A (eqIsQuiet k v) Q E s := by
  induction c with
  | int n i t =>
    intro k Q _ q
    unfold eqIsQuiet; exact wpAny_pure q
  | @tup n a its T r ih =>
    intro k Q le q
    obtain ⟨o, ho, hc, m, hd⟩ := T
    have hT : s.TypeIs (.ref a) "tuple" := ⟨o, ho, hc⟩
    obtain ⟨k, rfl⟩ : ∃ k', k = k' + 1 := ⟨k - 1, by omega⟩
    unfold eqIsQuiet
    refine wpAny_bind (wpAny_specialOf hT F.slot_tuple_eq.lookup ?_)
    show wpAny _ _ (isInstance (.ref a) (.type "tuple") >>= fun b => _) _ _ s
    refine wpAny_bind (wpAny_isInstance hT isSubtype_tuple_tuple ?_)
    rw [if_neg (by decide)]
    refine wpAny_bind (wpAny_seqItems ho hd (wpAny_bind ?_))
    show wpAny _ _ (forIn its.toArray (none, ()) _) _ _ s
    rw [← Array.forIn_toList]
    refine wpAny_forIn_list _ (fun rest r s' => r.1 = none ∧ s' = s ∧ ∀ v ∈ rest, v ∈ its) _ ?_ ?_ _ _ ⟨rfl, rfl, fun v hv => hv⟩
    · rintro v rest z s' ⟨hr, rfl, all⟩
      refine wpAny_bind (ih v (all v List.mem_cons_self) (by omega) ?_)
      rw [if_neg (by decide)]
      exact wpAny_pure ⟨rfl, rfl, fun u hu => all u (List.mem_cons_of_mem _ hu)⟩
    · rintro ⟨z, _⟩ s' ⟨hr, rfl, _⟩
      cases hr
      exact wpAny_pure q
theorem Cold.byValue {n : Nat} {v : Value} (c : Cold s.heap n v) : ∀ {k : Nat} {Q : Bool → Shared → Prop}, n ≤ k → Q true s → wpAny (model prog w) A (hashByValue k v) Q E s := by
  induction c with
  | int n i t =>
    intro k Q _ q
    cases k <;> exact wpAny_pure q
  | @tup n a its T r ih =>
    intro k Q le q
    obtain ⟨o, ho, hc, m, hd⟩ := T
    have hT : s.TypeIs (.ref a) "tuple" := ⟨o, ho, hc⟩
    obtain ⟨k, rfl⟩ : ∃ k', k = k' + 1 := ⟨k - 1, by omega⟩
    unfold hashByValue
    refine wpAny_bind (wpAny_specialOf hT F.slot_tuple_hash.lookup ?_)
    show wpAny _ _ (seqItems? (.ref a) >>= fun b => _) _ _ s
    refine wpAny_bind (wpAny_seqItems ho hd (wpAny_bind ?_))
    show wpAny _ _ (forIn its.toArray (none, ()) _) _ _ s
    rw [← Array.forIn_toList]
    refine wpAny_forIn_list _ (fun rest r s' => r.1 = none ∧ s' = s ∧ ∀ v ∈ rest, v ∈ its) _ ?_ ?_ _ _ ⟨rfl, rfl, fun v hv => hv⟩
    · rintro v rest z s' ⟨hr, rfl, all⟩
      refine wpAny_bind (ih v (all v List.mem_cons_self) (by omega) ?_)
      rw [if_neg (by decide)]
      exact wpAny_pure ⟨rfl, rfl, fun u hu => all u (List.mem_cons_of_mem _ hu)⟩
    · rintro ⟨z, _⟩ s' ⟨hr, rfl, _⟩
      cases hr
      exact wpAny_pure q
theorem Cold.noClass {n : Nat} {v : Value} (c : Cold s.heap n v) : ∀ {k : Nat} {Q : Bool → Shared → Prop}, n ≤ k → Q false s → wpAny (model prog w) A (ofAClassStatement k v) Q E s := by
  induction c with
  | int n i t =>
    intro k Q _ q
    unfold ofAClassStatement; exact wpAny_pure q
  | @tup n a its T r ih =>
    intro k Q le q
    obtain ⟨o, ho, hc, m, hd⟩ := T
    have hT : s.TypeIs (.ref a) "tuple" := ⟨o, ho, hc⟩
    obtain ⟨k, rfl⟩ : ∃ k', k = k' + 1 := ⟨k - 1, by omega⟩
    unfold ofAClassStatement
    refine wpAny_bind (wpAny_typeOf hT ?_)
    dsimp only
    rw [if_pos (by decide)]
    refine wpAny_bind (wpAny_pure ?_)
    rw [if_neg (by decide)]
    refine wpAny_bind (wpAny_seqItems ho hd ?_)
    refine wpAny_bind ?_
    show wpAny _ _ (forIn its.toArray (none, ()) _) _ _ s
    rw [← Array.forIn_toList]
    refine wpAny_forIn_list _ (fun rest r s' => r.1 = none ∧ s' = s ∧ ∀ v ∈ rest, v ∈ its) _ ?_ ?_ _ _ ⟨rfl, rfl, fun v hv => hv⟩
    · rintro v rest z s' ⟨hr, rfl, all⟩
      refine wpAny_bind (ih v (all v List.mem_cons_self) (by omega) ?_)
      rw [if_neg (by decide)]
      exact wpAny_pure ⟨rfl, rfl, fun u hu => all u (List.mem_cons_of_mem _ hu)⟩
    · rintro ⟨z, _⟩ s' ⟨hr, rfl, _⟩
      cases hr
      exact wpAny_pure q
theorem wp_if {α : Type} {M : Model} {c : Prop} [Decidable c] {a b : Sem α} {Q : α → Shared → Prop} (h1 : c → wpAny M A a Q E s) (h2 : ¬ c → wpAny M A b Q E s) : wpAny M A (if c then a else b) Q E s := by
  by_cases h : c
  · rw [if_pos h]; exact h1 h
  · rw [if_neg h]; exact h2 h
theorem unseen {n : Nat} {x : Value} (hx : Cold s.heap n x) (hn : n ≤ 8) {ys : List Value} (hy : ∀ y ∈ ys, Cold s.heap n y) {Q : Bool → Shared → Prop} (q : Q false s) : wpAny (model prog w) A (searchCouldBeSeen x ys) Q E s := by
  unfold searchCouldBeSeen
  refine wpAny_bind (wpAny_forIn_list _ (fun rest r s' => r.1 = none ∧ s' = s ∧ ∀ v ∈ rest, Cold s.heap n v) _ ?_ ?_ _ _ ⟨rfl, rfl, hy⟩)
  · rintro v rest z s' ⟨hr, rfl, all⟩
    have hv := all v List.mem_cons_self
    have next : ∀ u ∈ rest, Cold s'.heap n u := fun u hu => all u (List.mem_cons_of_mem _ hu)
    dsimp only
    refine wp_if (fun _ => ?_) fun _ => ?_
    · exact wpAny_pure ⟨rfl, rfl, next⟩
    · refine wpAny_bind (hx.quiet hn ?_)
      rw [if_neg (by decide)]
      refine wpAny_bind (hv.quiet hn ?_)
      rw [if_neg (by decide)]
      refine wpAny_bind (hx.noClass hn ?_)
      rw [if_neg (by decide)]
      refine wpAny_bind (hv.noClass hn ?_)
      rw [if_neg (by decide)]
      exact wpAny_pure ⟨rfl, rfl, next⟩
  · rintro ⟨z, _⟩ s' ⟨hr, rfl, _⟩
    cases hr
    exact wpAny_pure q
end
end SetP
set_option Elab.async false
set_option linter.all false
set_option maxRecDepth 100000
set_option maxHeartbeats 4000000
namespace SetP
open PySem L2 PyProof.Rows PySem.Spec
abbrev P4 := Int × Int × Int × Int
def dP (P : P4) : PyData := .tuple [.tuple [.int P.1, .int P.2.1], .tuple [.int P.2.2.1, .int P.2.2.2]]
def PtH (h : Heap) (u : Value) (P : P4) : Prop := ∃ (a x y : Addr) (t1 t2 t3 t4 : Tok), u = .ref a ∧ IsTup h a #[.ref x, .ref y] ∧ IsTup h x #[.int P.1 t1, .int P.2.1 t2] ∧ IsTup h y #[.int P.2.2.1 t3, .int P.2.2.2 t4]
theorem isTup_keeps {h h' : Heap} {a : Addr} {its : Array Value} (x : IsTup h a its) (k : ∀ o, h.get? a = some o → h'.get? a = some o) : IsTup h' a its := let ⟨o, e, r⟩ := x; ⟨o, k o e, r⟩
theorem isTup_inj {h : Heap} {a : Addr} {xs ys : Array Value} (x : IsTup h a xs) (y : IsTup h a ys) : xs = ys := by
  obtain ⟨o, e, _, n, d⟩ := x
  obtain ⟨o', e', _, n', d'⟩ := y
  rw [e] at e'
  cases e'
  rw [d] at d'
  cases d'
  rfl
theorem PtH.keeps {h h' : Heap} {u : Value} {P : P4} (x : PtH h u P) {S : Addr} (k : ∀ b o, b ≠ S → h.get? b = some o → h'.get? b = some o) (nS : ∀ its, ¬ IsTup h S its) : PtH h' u P := by
  obtain ⟨a, x, y, t1, t2, t3, t4, rfl, r1, r2, r3⟩ := x
  have up : ∀ {b its}, IsTup h b its → IsTup h' b its := fun {b its} z => isTup_keeps z fun o e => k b o (fun q => nS its (q ▸ z)) e
  exact ⟨a, x, y, t1, t2, t3, t4, rfl, up r1, up r2, up r3⟩
theorem PtH.inj {h : Heap} {u : Value} {P P' : P4} (x : PtH h u P) (y : PtH h u P') : P = P' := by
  obtain ⟨a, x, y, t1, t2, t3, t4, rfl, r1, r2, r3⟩ := x
  obtain ⟨a', x', y', t1', t2', t3', t4', e, r1', r2', r3'⟩ := y
  cases e
  have e1 := isTup_inj r1 r1'
  simp at e1
  obtain ⟨rfl, rfl⟩ := e1
  have e2 := isTup_inj r2 r2'
  have e3 := isTup_inj r3 r3'
  simp at e2 e3
  obtain ⟨p1, p2, p3, p4⟩ := P
  obtain ⟨q1, q2, q3, q4⟩ := P'
  simp_all
theorem PtH.cold {h : Heap} {u : Value} {P : P4} (x : PtH h u P) : Cold h 2 u := by
  obtain ⟨a, x, y, t1, t2, t3, t4, rfl, r1, r2, r3⟩ := x
  have int2 : ∀ {i j : Int} {t t' : Tok}, ∀ v ∈ [Value.int i t, Value.int j t'], Cold h 0 v := fun v hv => by
    rcases List.mem_cons.mp hv with rfl | hv
    · exact .int ..
    · rcases List.mem_cons.mp hv with rfl | hv
      · exact .int ..
      · cases hv
  refine .tup (its := [.ref x, .ref y]) r1 fun v hv => ?_
  rcases List.mem_cons.mp hv with rfl | hv
  · exact .tup (its := [_, _]) r2 int2
  · rcases List.mem_cons.mp hv with rfl | hv
    · exact .tup (its := [_, _]) r3 int2
    · cases hv
theorem PtH.reads {h : Heap} {u : Value} {P : P4} (x : PtH h u P) : ∃ as, Reads h u (dP P) as := by
  obtain ⟨a, x, y, t1, t2, t3, t4, rfl, ⟨o1, e1, c1, n1, d1⟩, ⟨o2, e2, c2, n2, d2⟩, ⟨o3, e3, c3, n3, d3⟩⟩ := x
  exact ⟨_, .tuple e1 c1 d1 (.cons (.tuple e2 c2 d2 (.cons (.int ..) (.cons (.int ..) .nil))) (.cons (.tuple e3 c3 d3 (.cons (.int ..) (.cons (.int ..) .nil))) .nil))⟩
theorem dP_ok (P : P4) : SeqAt.shaped (dP P) = true := by
  simp [SeqAt.shaped, dP, PyData.canLay0, PyData.canLayAll0, PyData.depth, PyData.depthAll]
theorem dP_eqv (P P' : P4) : PyData.eqv (dP P) (dP P') = decide (P = P') := by
  obtain ⟨p1, p2, p3, p4⟩ := P
  obtain ⟨q1, q2, q3, q4⟩ := P'
  rw [Bool.eq_iff_iff]
  simp [dP, PyData.eqv, PyData.eqvAll, and_assoc]
section
variable {prog : Program} {w : World}
def kP (prog : Program) (w : World) (P : P4) : Int := tupH [tupH [(intKind prog w).hash P.1, (intKind prog w).hash P.2.1], tupH [(intKind prog w).hash P.2.2.1, (intKind prog w).hash P.2.2.2]]
theorem PtH.hash {h : Heap} {u : Value} {P : P4} (x : PtH h u P) : HA prog w 2 h u (kP prog w P) := by
  obtain ⟨a, x, y, t1, t2, t3, t4, rfl, r1, r2, r3⟩ := x
  exact HA.tup (its := [_, _]) r1 (.cons (HA.tup (its := [_, _]) r2 (.cons (HA.int _ _ _ _) (.cons (HA.int _ _ _ _) .nil))) (.cons (HA.tup (its := [_, _]) r3 (.cons (HA.int _ _ _ _) (.cons (HA.int _ _ _ _) .nil))) .nil))
abbrev Ent := Int × Value × Nat
structure SetIs (prog : Program) (w : World) (h : Heap) (S : Addr) (D : List Ent) : Prop where
  obj : ∃ o ep t, h.get? S = some o ∧ o.ExactSet ∧ o.data = .set (D.map fun d => (d.1, d.2.1)).toArray ep t ∧ Tb t (D.map (·.2.2))
  pts : ∀ d ∈ D, ∃ P, PtH h d.2.1 P ∧ d.1 = kP prog w P
  way : ∀ d ∈ D, ∃ m, (pos d.1 m).1 = d.2.2 ∧ ∀ m', m' < m → (pos d.1 m').1 ∈ D.map (·.2.2)
theorem srt_nodup {pl : List Nat} (s : srt pl = true) : pl.Nodup ∧ pl.length ≤ 4 ∧ ∀ x ∈ pl, x < 8 := by
  match pl, s with
  | [], _ => simp
  | [a], s => simpa [srt] using s
  | [a, b], s =>
    have : a < b ∧ b < 8 := by simpa [srt] using s
    simp; omega
  | [a, b, c], s =>
    have : (a < b ∧ b < c) ∧ c < 8 := by simpa [srt] using s
    simp; omega
  | [a, b, c, d], s =>
    have : ((a < b ∧ b < c) ∧ c < d) ∧ d < 8 := by simpa [srt] using s
    simp; omega
theorem Tb.fits {t : SetTable} {pl : List Nat} (T : Tb t pl) : t.fits pl.length = true := by
  have := (srt_nodup T.srt).2.1
  unfold SetTable.fits SetTable.fill
  rw [T.place, T.dum, T.mask]
  simp
  omega
theorem isT_not_set {h : Heap} {S : Addr} {o : Obj} (e : h.get? S = some o) (x : o.ExactSet) : ∀ its, ¬ IsTup h S its := fun its ⟨o', e', c, _⟩ => by
  rw [e] at e'
  cases e'
  rw [x.1] at c
  exact absurd c (by decide)
end
end SetP
set_option Elab.async false
set_option linter.all false
set_option maxRecDepth 100000
set_option maxHeartbeats 4000000
namespace SetP
open PySem L2 PyProof.Rows PySem.Spec
section
variable {prog : Program} {w : World} {A : Around} {E : Value → Shared → Prop} {s : Shared} {S : Addr} {D : List Ent}
theorem same_place (nd : (D.map (·.2.2)).Nodup) {d d' : Ent} (h : d ∈ D) (h' : d' ∈ D) (e : d.2.2 = d'.2.2) : d = d' := by
  obtain ⟨i, hi, rfl⟩ := List.mem_iff_getElem.mp h
  obtain ⟨j, hj, rfl⟩ := List.mem_iff_getElem.mp h'
  have : i = j := by
    refine (List.getElem_inj (xs := D.map (·.2.2)) (i := i) (j := j) (h₀ := by simpa using hi) (h₁ := by simpa using hj) nd).mp ?_
    simpa using e
  subst this
  rfl
theorem same_self {u : Value} {P : P4} (h : PtH s.heap u P) {Q : Bool → Shared → Prop} (q : Q true s) : wpAny (model prog w) A (isSame u u) Q E s := by
  obtain ⟨a, _, _, _, _, _, _, rfl, _⟩ := h
  unfold isSame
  dsimp only
  rw [if_pos (by simp)]
  exact wpAny_pure q
theorem free_place (pl : List Nat) (l : pl.length ≤ 3) : ∃ j, j < 8 ∧ j ∉ pl := by
  match pl, l with
  | [], _ => exact ⟨0, by decide, by simp⟩
  | [a], _ =>
    by_cases c : a = 0
    · exact ⟨1, by decide, by simp; omega⟩
    · exact ⟨0, by decide, by simp; omega⟩
  | [a, b], _ =>
    by_cases c : a = 7 ∨ b = 7
    · by_cases c2 : a = 6 ∨ b = 6
      · exact ⟨5, by decide, by simp; omega⟩
      · exact ⟨6, by decide, by simp; omega⟩
    · exact ⟨7, by decide, by simp; omega⟩
  | [a, b, c], _ =>
    by_cases c1 : a = 7 ∨ b = 7 ∨ c = 7
    · by_cases c2 : a = 6 ∨ b = 6 ∨ c = 6
      · by_cases c3 : a = 5 ∨ b = 5 ∨ c = 5
        · exact ⟨4, by decide, by simp; omega⟩
        · exact ⟨5, by decide, by simp; omega⟩
      · exact ⟨6, by decide, by simp; omega⟩
    · exact ⟨7, by decide, by simp; omega⟩
theorem search_from {x : Value} {P : P4} {m₁ : Nat} (hS : SetIs prog w s.heap S D) (l : D.length ≤ 3) (hx : PtH s.heap x P) (hu : A.units + 64 < cLine) (n1 : (pos (kP prog w P) m₁).1 ∉ D.map (·.2.2)) {Q : SetFound → Shared → Prop}
    (q1 : (∃ d ∈ D, PtH s.heap d.2.1 P) → Q (.there none) s)
    (q2 : ∀ m, (pos (kP prog w P) m).1 ∉ D.map (·.2.2) → (∀ m', m' < m → (pos (kP prog w P) m').1 ∈ D.map (·.2.2)) → (∀ d ∈ D, ¬ PtH s.heap d.2.1 P) → Q (.free (pos (kP prog w P) m).1 false) s) :
    ∀ (fuel m : Nat) (st : Option SetTable.Probe), (∀ t : SetTable, t.mask = 7 → st.getD (t.probeStart (kP prog w P)) = prb (kP prog w P) m) → m ≤ m₁ → m₁ < 21 → m₁ < m + fuel →
      (∀ m', m' < m → (pos (kP prog w P) m').1 ∈ D.map (·.2.2) ∧ ∀ d ∈ D, d.2.2 = (pos (kP prog w P) m').1 → ¬ PtH s.heap d.2.1 P) →
      wpAny (model prog w) A (setSearchFrom S x (kP prog w P) true fuel st) Q E s := by
  obtain ⟨⟨o, ep, t, ho, hex, hd, T⟩, pts, way⟩ := hS
  have l' : (D.map (·.2.2)).length ≤ 3 := by simpa using l
  have fit : t.fits (D.map fun d => (d.1, d.2.1)).toArray.size = true := by
    have := T.fits
    simpa using this
  have nd := (srt_nodup T.srt).1
  intro fuel
  induction fuel with
  | zero => intro m st e1 e2 e3 e4; omega
  | succ f ih =>
    intro m st e1 e2 e21 e3 seen
    unfold setSearchFrom
    refine wpAny_bind (wpAny_setState_of ho hd fit ?_)
    dsimp only
    rw [if_neg (by unfold SetTable.gaveWay; rw [T.mask]; decide)]
    rw [e1 t T.mask]
    obtain ⟨m₂, a1, a2, a3, a4⟩ := T.go l' (fun i => (((D.map fun d => (d.1, d.2.1)).toArray[i]?).map (·.1)).getD 0) (kP prog w P) (10 * SetTable.turns t.mask) m m₁ e2 (by rw [T.mask]; show m₁ < m + 220; omega) n1
    have ent : ∀ {i j : Nat}, (D.map (·.2.2))[i]? = some j → ∃ d ∈ D, D[i]? = some d ∧ d.2.2 = j := fun {i j} e => by
      rw [List.getElem?_map] at e
      cases hq : D[i]? with
      | none => rw [hq] at e; cases e
      | some d => rw [hq] at e; cases e; exact ⟨d, List.mem_of_getElem? hq, rfl, rfl⟩
    have hat : ∀ {i : Nat} {d : Ent}, D[i]? = some d → (((D.map fun d => (d.1, d.2.1)).toArray[i]?).map (·.1)).getD 0 = d.1 := fun {i d} e => by simp [e]
    have miss : ∀ m', m ≤ m' → m' < m₂ → (pos (kP prog w P) m').1 ∈ D.map (·.2.2) ∧ ∀ d ∈ D, d.2.2 = (pos (kP prog w P) m').1 → ¬ PtH s.heap d.2.1 P := fun m' b1 b2 => by
      obtain ⟨i, c1, c2⟩ := a3 m' b1 b2
      obtain ⟨d, c3, c4, c5⟩ := ent c1
      rw [hat c4] at c2
      refine ⟨List.mem_of_getElem? c1, fun d' h' e' pd => c2 ?_⟩
      obtain rfl := same_place nd h' c3 (e'.trans c5.symm)
      obtain ⟨P', h1, h2⟩ := pts d' h'
      rw [h2, h1.inj pd]
    have seen2 : ∀ m', m' < m₂ → (pos (kP prog w P) m').1 ∈ D.map (·.2.2) ∧ ∀ d ∈ D, d.2.2 = (pos (kP prog w P) m').1 → ¬ PtH s.heap d.2.1 P := fun m' b => by
      by_cases c : m' < m
      · exact seen m' c
      · exact miss m' (by omega) b
    generalize hr : SetTable.probe t _ (kP prog w P) (prb (kP prog w P) m) = r
    rcases a4 with ⟨b1, b2⟩ | ⟨b0, i, b1, b2, b3, b4⟩
    · obtain rfl : r = some (.empty (pos (kP prog w P) m₂).1 none) := by rw [← hr]; exact b2
      dsimp only
      refine wpAny_pure (q2 m₂ b1 (fun m' z => (seen2 m' z).1) fun d h pd => ?_)
      obtain ⟨P', h1, h2⟩ := pts d h
      obtain ⟨mm, w1, w2⟩ := way d h
      rw [h2, h1.inj pd] at w1 w2
      rcases Nat.lt_trichotomy mm m₂ with c | c | c
      · exact (seen2 mm c).2 d h w1.symm pd
      · exact b1 (c ▸ w1 ▸ List.mem_map.mpr ⟨d, h, rfl⟩)
      · exact b1 (w2 m₂ c)
    · obtain rfl : r = some (.candidate (pos (kP prog w P) m₂).1 i (prb (kP prog w P) (m₂ + 1))) := by rw [← hr]; exact b4
      dsimp only
      obtain ⟨d, hd1, hd2, hd3⟩ := ent b2
      obtain ⟨P', h1, h2⟩ := pts d hd1
      have all : ∀ y ∈ ((((D.map fun d => (d.1, d.2.1)).toArray).filter fun e => e.1 == kP prog w P).toList.map (·.2)), Cold s.heap 2 y := fun y hy => by
        obtain ⟨e, he, rfl⟩ := List.mem_map.mp hy
        have he' : e ∈ D.map fun d => (d.1, d.2.1) := by
          have := (Array.mem_filter.mp (Array.mem_toList_iff.mp he)).1
          simpa using this
        obtain ⟨d', hb, rfl⟩ := List.mem_map.mp he'
        obtain ⟨P2, k1, _⟩ := pts _ hb
        exact k1.cold
      have ei : (D.map fun d => (d.1, d.2.1)).toArray[i]? = some (d.1, d.2.1) := by simp [hd2]
      obtain ⟨as, re⟩ := h1.reads
      obtain ⟨bs, rx⟩ := hx.reads
      have eq := SeqAt.eqAt_reads (dP P') (dP P) A s d.2.1 x as bs re rx (SeqAt.canLay_of_shaped (dP_ok P')) (SeqAt.canLay_of_shaped (dP_ok P)) (SeqAt.room_of_shaped (dP_ok P') hu)
      rw [dP_eqv] at eq
      cases led : t.led
      all_goals
        first
          | rw [if_neg (show ¬ ((!true) = true) by decide)]
          | (rw [if_pos (show (!false) = true from rfl)]
             refine wpAny_bind (unseen hx.cold (by decide) all ?_)
             rw [if_neg (by decide)])
        rw [ei]
        dsimp only
        refine wpAny_bind (wpAny_holding (eq prog w _ _ ?_))
        refine wpAny_bind (wpAny_setState_of ho hd fit ?_)
        dsimp only
        by_cases c : P' = P
        · rw [decide_eq_true c, if_pos (show (true && true) = true from rfl)]
          exact wpAny_pure (q1 ⟨d, hd1, c ▸ h1⟩)
        · rw [decide_eq_false c, if_neg (by decide)]
          rw [show t.sameMemory t.moves t.mask = some true by unfold SetTable.sameMemory; simp]
          dsimp only
          rw [if_pos rfl, b1]
          dsimp only
          rw [ei]
          dsimp only
          refine wpAny_bind (same_self h1 (wpAny_bind (wpAny_pure ?_)))
          rw [if_pos rfl]
          dsimp only
          rw [if_neg (by decide)]
          refine ih (m₂ + 1) _ (fun _ _ => rfl) (by omega) e21 (by omega) fun m' z => ?_
          by_cases z2 : m' = m₂
          · subst z2
            refine ⟨List.mem_of_getElem? b2, fun d' h' e' pd => c ?_⟩
            obtain rfl := same_place nd h' hd1 (e'.trans hd3.symm)
            exact h1.inj pd
          · exact seen2 m' (by omega)
end
end SetP
set_option Elab.async false
set_option linter.all false
set_option maxRecDepth 100000
set_option maxHeartbeats 4000000
namespace SetP
open PySem L2 PyProof.Rows PySem.Spec
theorem insert_map {α β : Type} (f : α → β) (D : List α) (p : Nat) (d : α) : SetTable.insertAt (D.map f).toArray p (f d) = ((D.take p ++ d :: D.drop p).map f).toArray := by
  unfold SetTable.insertAt
  apply Array.ext'
  simp [List.map_take, List.map_drop]
  exact List.take_of_length_le (by simp)
section
variable {prog : Program} {w : World} {A : Around} {E : Value → Shared → Prop} {s : Shared} {S : Addr} {D : List Ent}
theorem add {x : Value} {P : P4} (hS : SetIs prog w s.heap S D) (l : D.length ≤ 3) (hx : PtH s.heap x P) (hu : A.units + 64 < cLine) {Q : Bool → Shared → Prop}
    (q : ∀ (h' : Heap) (t : Nat) (D' : List Ent) (b : Bool), s.toks ≤ t → Heap.SameBut S s.heap h' → SetIs prog w h' S D' → D'.length = D.length + (if b then 1 else 0) → (∃ d ∈ D', PtH h' d.2.1 P) → (∀ d ∈ D, d ∈ D') → (b = true → ∀ d ∈ D, ¬ PtH s.heap d.2.1 P) →
      Q b { s with heap := h', toks := t }) : wpAny (model prog w) A (setAdd S x) Q E s := by
  unfold setAdd
  refine wpAny_holding (wpAny_bind (hx.hash A E s _ (by omega) rfl fun tk ltk => ?_))
  unfold setAddHashed
  refine wpAny_holding ?_
  obtain ⟨⟨o, ep, t, ho, hex, hd, T⟩, pts, way⟩ := id hS
  have fit : t.fits (D.map fun d => (d.1, d.2.1)).toArray.size = true := by
    have := T.fits
    simpa using this
  have l' : (D.map (·.2.2)).length ≤ 3 := by simpa using l
  show wpAny _ _ (setAddHashedIn S x (kP prog w P) (99999 + 1)) _ _ _
  unfold setAddHashedIn
  refine wpAny_bind (wpAny_setState_of (s := { s with toks := tk }) ho hd fit ?_)
  dsimp only
  have ns : byScan x (D.map fun d => (d.1, d.2.1)).toArray = false := by
    obtain ⟨a, _, _, _, _, _, _, rfl, _⟩ := hx
    rfl
  rw [ns, if_neg Bool.false_ne_true]
  obtain ⟨j, hj, nj⟩ := free_place (D.map (·.2.2)) l'
  obtain ⟨m₁, lm, ej⟩ := cover (kP prog w P) hj
  refine wpAny_bind (search_from (s := { s with toks := tk }) (m₁ := m₁) hS l hx hu (ej ▸ nj) (fun z => ?_) (fun m c1 c2 c3 => ?_) 100000 0 none (fun t' e => start7 e _) (Nat.zero_le _) lm (by omega) fun m' z => absurd z (by omega))
  · dsimp only
    exact wpAny_pure (q s.heap tk D false ltk (Heap.SameBut.refl ..) hS rfl z (fun d h => h) fun z => absurd z (by decide))
  · dsimp only
    refine wpAny_bind (wpAny_setState_of (s := { s with toks := tk }) ho hd fit ?_)
    dsimp only
    obtain ⟨p, e1, T'⟩ := T.put l' (pos_lt (kP prog w P) m) c1
    rw [e1]
    dsimp only
    have keyT : D.map (·.2.2) = D.map (fun d : Ent => d.2.2) := rfl
    have eD : (D.map (·.2.2)).take p ++ (pos (kP prog w P) m).1 :: (D.map (·.2.2)).drop p = (D.take p ++ (kP prog w P, x, (pos (kP prog w P) m).1) :: D.drop p).map (·.2.2) := by simp
    rw [eD] at T'
    have memD : ∀ d : Ent, d ∈ D.take p ++ (kP prog w P, x, (pos (kP prog w P) m).1) :: D.drop p ↔ d = (kP prog w P, x, (pos (kP prog w P) m).1) ∨ d ∈ D := fun d => by
      have : d ∈ D ↔ d ∈ D.take p ∨ d ∈ D.drop p := by rw [← List.mem_append, List.take_append_drop]
      rw [this]
      simp only [List.mem_append, List.mem_cons]
      constructor
      · rintro (h | h | h)
        · exact .inr (.inl h)
        · exact .inl h
        · exact .inr (.inr h)
      · rintro (h | h | h)
        · exact .inr (.inl h)
        · exact .inl h
        · exact .inr (.inr h)
    have lenD : (D.take p ++ (kP prog w P, x, (pos (kP prog w P) m).1) :: D.drop p).length = D.length + 1 := by
      simp only [List.length_append, List.length_cons, List.length_take, List.length_drop]
      omega
    have eE := insert_map (fun d : Ent => (d.1, d.2.1)) D p (kP prog w P, x, (pos (kP prog w P) m).1)
    generalize hDD : D.take p ++ (kP prog w P, x, (pos (kP prog w P) m).1) :: D.drop p = D' at *
    generalize ht' : (t.put (pos (kP prog w P) m).1).1 = t' at *
    have store : wpAny (model prog w) A (do
        storeSet S (SetTable.insertAt (D.map fun d => (d.1, d.2.1)).toArray p (kP prog w P, x)) t'
        if (!false && t'.tooFull) = true then setRelay S (SetTable.grown ((D.map fun d => (d.1, d.2.1)).toArray.size + 1))
        pure true) Q E { s with toks := tk } := by
      rw [eE]
      have sz : (D'.map fun d => (d.1, d.2.1)).toArray.size < 10 := by simp; omega
      refine wpAny_bind (wpAny_storeSet_of (s := { s with toks := tk }) ho hd ?_ (Nat.le_trans (Nat.le_of_lt sz) (by decide)))
      rw [if_neg (by
        unfold SetTable.tooFull SetTable.fill
        rw [T'.place, T'.dum, T'.mask]
        simp
        omega)]
      have sb := Heap.SameBut.update s.heap S (Obj.putSet (D'.map fun d => (d.1, d.2.1)).toArray t')
      have hg : (s.heap.update S (Obj.putSet (D'.map fun d => (d.1, d.2.1)).toArray t')).get? S = some { o with data := .set (D'.map fun d => (d.1, d.2.1)).toArray (ep + 1) t' } := by
        have := Heap.get?_update_self (Obj.putSet (D'.map fun d => (d.1, d.2.1)).toArray t') ho (by rw [putSet_of _ _ hd]; rfl)
        rw [putSet_of _ _ hd] at this
        exact this
      have kp : ∀ {u : Value} {R : P4}, PtH s.heap u R → PtH (s.heap.update S (Obj.putSet (D'.map fun d => (d.1, d.2.1)).toArray t')) u R := fun z => z.keeps (fun b o' nb e => by rw [sb.2 b nb]; exact e) (isT_not_set ho hex)
      refine wpAny_pure (q _ tk D' true ltk sb ⟨⟨_, _, t', hg, hex, rfl, T'⟩, fun d h => ?_, fun d h => ?_⟩ (by rw [lenD]; rfl) ⟨_, (memD _).mpr (.inl rfl), kp hx⟩ (fun d h => (memD d).mpr (.inr h)) fun _ => c3)
      · rcases (memD d).mp h with rfl | h
        · exact ⟨P, kp hx, rfl⟩
        · obtain ⟨R, k1, k2⟩ := pts d h
          exact ⟨R, kp k1, k2⟩
      · have sub : ∀ {i : Nat}, i ∈ D.map (·.2.2) → i ∈ D'.map (·.2.2) := fun {i} z => by
          obtain ⟨d', h1, rfl⟩ := List.mem_map.mp z
          exact List.mem_map.mpr ⟨d', (memD d').mpr (.inr h1), rfl⟩
        rcases (memD d).mp h with rfl | h
        · exact ⟨m, rfl, fun m' z => sub (c2 m' z)⟩
        · obtain ⟨mm, k1, k2⟩ := way d h
          exact ⟨mm, k1, fun m' z => sub (k2 m' z)⟩
    by_cases pl : t'.plain = true
    · rw [if_pos pl]
      refine wpAny_bind (Cold.byValue (s := { s with toks := tk }) hx.cold (by decide) ?_)
      rw [if_pos rfl]
      exact store
    · rw [if_neg pl]
      refine wpAny_bind (wpAny_pure ?_)
      rw [if_pos rfl]
      exact store
end
end SetP
set_option Elab.async false
set_option linter.all false
set_option maxRecDepth 100000
set_option maxHeartbeats 4000000
namespace SetP
open PySem L2 PyProof.Rows PySem.Spec
section
variable {prog : Program} {w : World} {A : Around} {R : Result → Shared → Prop}
theorem SetIs.keeps {h h' : Heap} {S I : Addr} {D : List Ent} (x : SetIs prog w h S D) (k : ∀ b o, b ≠ I → h.get? b = some o → h'.get? b = some o) (nS : S ≠ I) (nI : ∀ its, ¬ IsTup h I its) : SetIs prog w h' S D := by
  obtain ⟨⟨o, ep, t, ho, r⟩, pts, way⟩ := x
  refine ⟨⟨o, ep, t, k S o nS ho, r⟩, fun d hd => ?_, way⟩
  obtain ⟨P, h1, h2⟩ := pts d hd
  exact ⟨P, h1.keeps k nI, h2⟩
theorem iter_not {h : Heap} {I t : Addr} {i : Nat} (x : h.IsTupleIter I t i) : ∀ its, ¬ IsTup h I its := fun its ⟨o', e', c, _⟩ => by
  obtain ⟨o, e, c2, _⟩ := x
  rw [e] at e'
  cases e'
  rw [c2] at c
  exact absurd c (by decide)
theorem loop {I S t : Addr} {its : List Value} {Ps : List P4} (hh : A.handled = none) (hne : t ≠ I) (nSI : S ≠ I) (nSt : S ≠ t) (h4 : its.length ≤ 4) (hl : Ps.length = its.length) (hu : A.units + 66 < cLine) :
    ∀ (k i : Nat) (s : Shared) (D : List Ent), its.length - i = k → i ≤ its.length → s.heap.IsTupleIter I t i → s.heap.IsTuple t its.toArray → SetIs prog w s.heap S D → D.length ≤ i →
      (∀ (j : Nat) (P : P4), j < i → Ps[j]? = some P → ∃ d ∈ D, PtH s.heap d.2.1 P) → (D.length = i → (Ps.take i).Nodup) → (∀ (j : Nat) (u : Value) (P : P4), its[j]? = some u → Ps[j]? = some P → PtH s.heap u P) →
      (∀ s' D', Moved [S, I] (fun a b => b = a) s s' → SetIs prog w s'.heap S D' → (D'.length = its.length → Ps.Nodup) → R (.ok (.ret .none)) s') →
      codeAny (model prog w) A (.builtin "set.update.loop" ⟨[.ref S, .ref I], []⟩) R s := by
  have hh1 : A.in1.handled = none := by simp [hh]
  have W := (Walks.tuple (prog := prog) (w := w) hh1 I t hne its.toArray).toS
  have sub : ∀ b ∈ [I], b ∈ [S, I] := fun b hb => by simp at hb; simp [hb]
  intro k
  induction k with
  | zero =>
    intro i s D hk hi st1 st2 hS lD all nd pts fin
    obtain rfl : i = its.length := by omega
    refine codeAny_builtin F.entry_set_update_loop ?_
    rw [Around.under_plainId F.plain_set_update_loop]
    refine wpAny_bind (W.done s _ _ ⟨by simpa using st1, st2⟩ fun s' hm => ?_)
    refine wpAny_pure (fin s' D (hm.mono sub) (hS.keeps (fun b o nb e => hm.heap b o (by simpa using nb) e) nSI (iter_not st1)) fun e => ?_)
    have := nd e
    rwa [← hl, List.take_length] at this
  | succ k ih =>
    intro i s D hk hi st1 st2 hS lD all nd pts fin
    have lt : i < its.length := by omega
    refine codeAny_builtin F.entry_set_update_loop ?_
    rw [Around.under_plainId F.plain_set_update_loop]
    refine wpAny_bind (W.item i s _ _ (by simpa using lt) ⟨st1, st2⟩ fun v s' hP hst hm => ?_)
    have hv : its[i]? = some v := by simpa using hP
    have kp : ∀ b o, b ≠ I → s.heap.get? b = some o → s'.heap.get? b = some o := fun b o nb e => hm.heap b o (by simpa using nb) e
    have ptk : ∀ {u : Value} {P : P4}, PtH s.heap u P → PtH s'.heap u P := fun z => z.keeps kp (iter_not st1)
    have eP : Ps[i]? = some Ps[i] := List.getElem?_eq_getElem (by omega)
    have hx := ptk (pts i v _ hv eP)
    have hS' := hS.keeps kp nSI (iter_not st1)
    refine wpAny_bind (wpAny_holding (add hS' (by omega) hx (by show A.units + 1 + 64 < cLine; omega) fun h' tk D' b ltk sb hS2 len h1 h2 h3 => ?_))
    obtain ⟨o, ep, tt, ho, hex, _⟩ := hS'.obj
    have kp2 : ∀ b o, b ≠ S → s'.heap.get? b = some o → h'.get? b = some o := fun b o nb e => by rw [sb.2 b nb]; exact e
    have ptk2 : ∀ {u : Value} {P : P4}, PtH s'.heap u P → PtH h' u P := fun z => z.keeps kp2 (isT_not_set ho hex)
    refine wpAny_pure ⟨plainId_quiet F.plain_set_update_loop _, ih (i + 1) _ D' (by omega) lt (hst.1.at fun o e => kp2 I o nSI.symm e) (hst.2.at fun o e => kp2 t o nSt.symm e) hS2 ?_ ?_ ?_ ?_ ?_⟩
    · rw [len]; split <;> omega
    · intro j P hj ej
      by_cases c : j = i
      · subst c
        rw [eP] at ej
        cases ej
        exact h1
      · obtain ⟨d, hd, pd⟩ := all j P (by omega) ej
        exact ⟨d, h2 d hd, ptk2 (ptk pd)⟩
    · intro e
      have hb : b = true := by
        cases b with
        | true => rfl
        | false => simp at len; omega
      rw [hb] at len
      have eD : D.length = i := by simp at len; omega
      rw [List.take_succ, eP]
      refine List.nodup_append.mpr ⟨nd eD, by simp, fun x hx' y hy e' => ?_⟩
      have : y = Ps[i] := by simpa using hy
      subst this
      subst e'
      obtain ⟨j, hj, ej⟩ := List.mem_take_iff_getElem.mp hx'
      obtain ⟨d, hd, pd⟩ := all j Ps[i] (by omega) (by rw [List.getElem?_eq_getElem (by omega)]; exact congrArg some ej)
      exact h3 hb d hd (ptk pd)
    · exact fun j u P e1 e2 => ptk2 (ptk (pts j u P e1 e2))
    · refine fun s'' D'' hm'' => fin s'' D'' (Moved.trans W.gtrans ((hm.mono sub).then_heap ltk fun b o hb e => kp2 b o (by simp at hb; exact hb.1) e) hm'')
end
end SetP
set_option Elab.async false
set_option linter.all false
set_option maxRecDepth 100000
set_option maxHeartbeats 4000000
namespace SetP
open PySem L2 PyProof.Rows PySem.Spec
theorem no_set : isSubtype (.type "tuple") (.type "set") = pure false := by rw [isSubtype_type]; kernel_rfl
theorem no_frozen : isSubtype (.type "tuple") (.type "frozenset") = pure false := by rw [isSubtype_type]; kernel_rfl
abbrev fresh0 (led : Bool) : Obj := { cls := .type "set", dict := none, data := .set #[] 0 (.fresh 0 0 led) }
theorem setIs_new {prog : Program} {w : World} {h : Heap} {S : Addr} {led : Bool} (e : h.get? S = some (fresh0 led)) : SetIs prog w h S [] :=
  ⟨⟨_, 0, _, e, ⟨rfl, rfl, rfl⟩, rfl, ⟨rfl, rfl, rfl, rfl⟩⟩, fun d hd => absurd hd (by simp), fun d hd => absurd hd (by simp)⟩
section
variable {prog : Program} {w : World} {A : Around} {E : Value → Shared → Prop} {s : Shared}
theorem call_set {t : Addr} {its : List Value} {Ps : List P4} {Q : Value → Shared → Prop} (hh : A.handled = none) (ht : s.heap.IsTuple t its.toArray) (h4 : its.length ≤ 4) (hl : Ps.length = its.length) (hu : A.units + 80 < cLine)
    (pts : ∀ (j : Nat) (u : Value) (P : P4), its[j]? = some u → Ps[j]? = some P → PtH s.heap u P)
    (q : ∀ (h' : Heap) (tk : Nat) (D : List Ent), SetIs prog w h' s.heap.objs.size D → (D.length = its.length → Ps.Nodup) → (∀ b o, s.heap.get? b = some o → h'.get? b = some o) → Q (.ref s.heap.objs.size) { s with heap := h', toks := tk }) :
    wpAny (model prog w) A (call (.type "set") [.ref t]) Q E s := by
  obtain ⟨_, _, hmro⟩ := F.called_set.mro
  have f1 := F.called_set.made; have f2 := F.called_set.sub
  refine wpAny_call (codeAny_of_tree ?_)
  refine wpAny_pure ⟨Code.quiet_builtin _ (by decide +kernel), codeAny_builtin F.entry_type_call ?_⟩
  rw [Around.under_plain (weight_type_call_type "set" [.ref t] []) rfl]
  have f3 := F.called_set.notType; have f4 := F.called_set.canCreate; have f5 := F.typeCall_set_1 (.ref t)
  repeat (any_goals (first | assumption | wp_step))
  refine codeAny_mono (code_set_new_1 (.ref t) (E := E) (Q₁ := fun v s₁ => ∃ led : Bool, v = .ref s.heap.objs.size ∧ s₁ = { s with heap := s.heap.push (fresh0 led) }) fun led => ⟨led, rfl, rfl⟩) fun r s₁ hr => ?_
  cases r with
  | error e => exact hr
  | ok fl =>
    cases fl with
    | next => exact hr.elim
    | brk => exact hr.elim
    | cont => exact hr.elim
    | ret v =>
      obtain ⟨led, rfl, rfl⟩ := hr
      have hS : (s.heap.push (fresh0 led)).get? s.heap.objs.size = some (fresh0 led) := Heap.get?_push_size _ rfl
      have hT : Shared.TypeIs { s with heap := s.heap.push (fresh0 led) } (.ref s.heap.objs.size) "set" := ⟨_, hS, rfl⟩
      have g1 := F.called_set.init.lookup; have g2 := F.called_set.init.bind (.ref s.heap.objs.size)
      repeat (any_goals (first | assumption | wp_step))
      refine codeAny_mono (codeAny_call_builtin (R := wants (fun r s₂ => r = .none ∧ ∃ h' tk D, s₂ = { s with heap := h', toks := tk } ∧ SetIs prog w h' s.heap.objs.size D ∧ (D.length = its.length → Ps.Nodup) ∧ (∀ b o, s.heap.get? b = some o → h'.get? b = some o)) E)
        F.called_set.init.plain F.entry_set_init (check_set_init_1 hT ?_)) fun r₂ s₂ hr₂ => ?_
      · have ht1 : (s.heap.push (fresh0 led)).IsTuple t its.toArray := ht.at fun o e => Heap.get?_push_of_some _ e
        obtain ⟨ol, hol, hcl, nl, hdl⟩ := id ht1
        obtain ⟨ocls, odict, odata, oslots⟩ := ol
        simp only at hcl hdl
        subst hcl; subst hdl
        have k1 := no_set; have k2 := no_frozen
        have k3 : (Value.type "tuple" == Value.type "dict") = false := by decide
        have tS : t < s.heap.objs.size := by obtain ⟨o, e, _⟩ := ht; exact Heap.lt_size e
        unfold Builtin.«set.__init__» noKeywords Builtin.Frozenset.updateFrom
        generalize hPI : pyIter = PI
        wp_walk
        subst hPI
        refine wpAny_pyIter_tuple ht1 ?_
        refine wpAny_bind (wpAny_runValue ?_)
        have keep2 : ∀ (b : Addr) (o : Obj) (x : Obj), s.heap.get? b = some o → ((s.heap.push (fresh0 led)).push x).get? b = some o := fun b o x e => Heap.get?_push_of_some _ (Heap.get?_push_of_some _ e)
        have hh3 : A.in1.in1.in1.handled = none := by simp [hh]
        have zS : (s.heap.push (fresh0 led)).objs.size = s.heap.objs.size + 1 := Heap.size_push ..
        refine loop (S := s.heap.objs.size) (t := t) (its := its) (Ps := Ps) (by simp [hh]) (by rw [zS]; exact Nat.ne_of_lt (Nat.lt_succ_of_lt tS)) (by rw [zS]; exact Nat.ne_of_lt (Nat.lt_succ_self _)) (Nat.ne_of_gt tS) h4 hl ?hu (its.length - 0) 0 _ [] (by omega) (Nat.zero_le _) ⟨_, Heap.get?_push_size _ rfl, rfl, rfl⟩ (ht1.at fun o e => Heap.get?_push_of_some _ e) (setIs_new (Heap.get?_push_of_some _ hS)) (Nat.zero_le _) (fun j P hj => absurd hj (by omega)) (fun _ => by simp) (fun j u P e1 e2 => ?pt) ?fin
        case hu => show A.units + 1 + 1 + 66 < cLine; omega
        case pt => exact (pts j u P e1 e2).keeps (S := s.heap.objs.size) (fun b o _ e => keep2 b o _ e) (fun its' z => by obtain ⟨o, e, _⟩ := z; exact absurd (Heap.lt_size e) (Nat.lt_irrefl _))
        case fin =>
          intro s' D' hm hS' nd
          obtain ⟨h', g', d', tk', os'⟩ := s'
          obtain rfl : g' = s.gens := hm.gens
          obtain rfl : d' = s.drawn := hm.drawn
          obtain rfl : os' = s.os := hm.os
          refine wpAny_pure (wpAny_pure ⟨rfl, h', tk', D', rfl, hS', nd, fun b o e => ?_⟩)
          refine hm.heap b o ?_ (keep2 b o _ e)
          have := Heap.lt_size e
          simp only [List.mem_cons, List.not_mem_nil, or_false, not_or]
          exact ⟨Nat.ne_of_lt this, by rw [zS]; exact Nat.ne_of_lt (Nat.lt_succ_of_lt this)⟩
      · cases r₂ with
        | error e => exact hr₂
        | ok fl₂ =>
          cases fl₂ with
          | next => exact hr₂.elim
          | brk => exact hr₂.elim
          | cont => exact hr₂.elim
          | ret r =>
            obtain ⟨rfl, h', tk, D, rfl, k1, k2, k3⟩ := hr₂
            repeat (any_goals (first | assumption | wp_step))
            exact q _ _ D k1 k2 k3
end
end SetP
set_option Elab.async false
set_option linter.all false
set_option maxRecDepth 100000
set_option maxHeartbeats 4000000
namespace L2
open PySem PySem.Spec PyProof.Rows
def SetN (S : Addr) (n : Nat) (h : Heap) : Prop := ∃ o es ep t, h.get? S = some o ∧ o.ExactSet ∧ o.data = .set es ep t ∧ t.fits es.size = true ∧ es.size = n ∧ n ≤ 4
def PtV (H : Hp) (a : Addr) (P : SetP.P4) : Prop := ∃ x y, H a = some (.tup [.ref x, .ref y]) ∧ H x = some (.tup [.int P.1, .int P.2.1]) ∧ H y = some (.tup [.int P.2.2.1, .int P.2.2.2])
section
variable {X : Cx} {pins : List (Addr × Obj)} {σ : St} {H : Hp} {s : Shared}
theorem PtV.pth (I : Inv X pins σ H s) {a : Addr} {P : SetP.P4} (h : PtV H a P) : SetP.PtH s.heap (.ref a) P := by
  obtain ⟨x, y, h1, h2, h3⟩ := h
  obtain ⟨i1, r1, p1, _⟩ := I.tuple (SqT.of (K := X.K) h1)
  obtain ⟨i2, r2, p2, _⟩ := I.tuple (SqT.of (K := X.K) h2)
  obtain ⟨i3, r3, p3, _⟩ := I.tuple (SqT.of (K := X.K) h3)
  obtain ⟨u1, v1, rfl, e1, e2⟩ := Vals.two r1
  obtain ⟨u2, v2, rfl, ⟨t1, rfl⟩, ⟨t2, rfl⟩⟩ := Vals.two r2
  obtain ⟨u3, v3, rfl, ⟨t3, rfl⟩, ⟨t4, rfl⟩⟩ := Vals.two r3
  cases e1
  cases e2
  exact ⟨a, x, y, t1, t2, t3, t4, rfl, p1, p2, p3⟩
/-- set(t), t a tuple of up to four points: how many it has is told when all are unlike -/
theorem call_setP (hc : X.calm = true) (hu : X.A.units + 80 < cLine) : CallR X (.type "set") (fun xs H Q => ∃ (p : Addr) (ps : List Addr) (Ps : List SetP.P4), xs = [.ref p] ∧ H p = some (.tup (ps.map V.ref)) ∧ ps.length ≤ 4 ∧ Ps.length = ps.length ∧
    (∀ (j : Nat) (a : Addr) (P : SetP.P4), ps[j]? = some a → Ps[j]? = some P → PtV H a P) ∧ ∀ (S : Addr) (n : Nat), H S = none → (n = ps.length → Ps.Nodup) → Q (.ref S) (upd H S (.ext (SetN S n)))) := by
  intro pins s σ H xs us Q I r h
  obtain ⟨p, ps, Ps, rfl, hp, l4, hl, pts, q⟩ := h
  obtain ⟨u, rfl, rx⟩ := vals1 r
  cases rx
  obtain ⟨its, rv, tp, _⟩ := I.tuple (SqT.of (K := X.K) hp)
  have len : its.length = ps.length := by rw [← rv.length, List.length_map]
  refine SetP.call_set (its := its) (Ps := Ps) (I.ok.hd hc) tp (by omega) (by omega) hu (fun j v P e1 e2 => ?_) fun h' tk D hS nd k => ?_
  · have hj : j < ps.length := by have := (List.getElem?_eq_some_iff.mp e1).1; omega
    have e3 : ps[j]? = some ps[j] := List.getElem?_eq_getElem hj
    obtain ⟨v', e4, r4⟩ := rv.get (i := j) (x := V.ref ps[j]) (by rw [List.getElem?_map, e3]; rfl)
    rw [e1] at e4
    cases e4
    cases r4
    exact (pts j _ P e3 e2).pth I
  · have hf : H s.heap.objs.size = none := I.hok.fresh (Nat.le_refl _)
    refine ⟨.ref s.heap.objs.size, upd H s.heap.objs.size (.ext (SetN s.heap.objs.size D.length)), I.laid (t' := tk) k (Nat.le_refl _) ?_, rfl, q _ D.length hf fun e => nd (by omega)⟩
    obtain ⟨o, ep, t, ho, hex, hd, T⟩ := hS.obj
    have fit : t.fits (D.map fun d => (d.1, d.2.1)).toArray.size = true := by
      have := T.fits
      simpa using this
    have l4 : D.length ≤ 4 := by
      have := (SetP.srt_nodup T.srt).2.1
      simpa using this
    refine ⟨⟨o, _, ep, t, ho, hex, hd, fit, by simp, l4⟩, ⟨o, ho⟩, fun h1 h2 z kk => ?_⟩
    obtain ⟨o, es, ep, t, z1, z2⟩ := z
    exact ⟨o, es, ep, t, kk o z1, z2⟩
theorem call_lenS : CallR X (.builtin "len") (fun xs H Q => ∃ (S : Addr) (n : Nat), xs = [.ref S] ∧ H S = some (.ext (SetN S n)) ∧ Q (.int n) H) := by
  intro pins s σ H xs us Q I r h
  obtain ⟨S, n, rfl, hS, q⟩ := h
  obtain ⟨u, rfl, rx⟩ := vals1 r
  cases rx
  obtain ⟨⟨o, es, ep, t, ho, hex, hd, fit, rfl, l4⟩, _⟩ := I.hok S _ hS
  exact call_len_set ho hex hd fit (by omega) ⟨.int es.size, H, I.tok _, ⟨_, rfl⟩, q⟩
end
end L2
set_option Elab.async false
set_option linter.all false
set_option maxRecDepth 100000
set_option maxHeartbeats 4000000
namespace HT
open PySem PySem.Spec PyProof.Rows
section
variable {prog : Program} {w : World} {A : Around} {E : Value → Shared → Prop} {s : Shared}
theorem getItem_rev2 {t sl : Addr} {u v : Value} {tk : Tok} {Q : Value → Shared → Prop} (ht : IsTup s.heap t #[u, v]) (hs : s.heap.IsSliceOf sl .none .none (.int (-1) tk))
    (h : Q (.ref s.heap.objs.size) { s with heap := s.heap.push { cls := .type "tuple", data := .seq #[v, u] } }) : wpAny (model prog w) A (getItem (.ref t) (.ref sl)) Q E s := by
  have hok : sizeOk (.seq #[v, u]) := by show 2 ≤ sizeLine; decide
  obtain ⟨os, hos, hcs, hds⟩ := id hs
  have hTs : s.TypeIs (.ref sl) "slice" := ⟨os, hos, hcs⟩
  unfold getItem
  try (with_reducible refine wpAny_holding ?_)
  first | (refine wpAny_bind (wpAny_pure ?_)) | skip
  refine wpAny_bind (wpAny_sequenceKey ht.typeIs (by decide) (wpAny_bind (wpAny_callSpecial?_slot (name := Str.ofString "__getitem__") ht.typeIs PyProof.Rows.slot_tuple_getitem (wpAny_call_entry PyProof.Rows.slot_tuple_getitem ht.typeIs entry_tuple_getitem ?_ (args_tuple_getitem _ _)))))
  show wpAny _ _ (Builtin.Tuple.tupleItemsOf (.ref t) >>= fun _ => _) _ _ s
  refine wpAny_bind (tupleItemsOf_ ht (wpAny_bind (wpAny_typeOf hTs ?_)))
  rw [if_pos (by decide)]
  have ap : ∀ {R : Int × Int × Nat → Shared → Prop}, R (1, -1, 2) s → wpAny (model prog w) A.in1 (Builtin.Slice.sliceApplied (.ref sl) (pure (2 : Int))) R E s := fun {R} hR => by
    unfold Builtin.Slice.sliceApplied Builtin.Slice.sliceFields
    refine wpAny_bind (wpAny_bind (wpAny_field hos hds (x := .none) rfl (wpAny_bind (wpAny_field hos hds (x := .none) rfl (wpAny_bind (wpAny_field hos hds (x := .int (-1) tk) rfl (wpAny_pure ?_)))))))
    refine wpAny_bind (slicePart_int ?_)
    show wpAny _ _ (if (((-1 : Int)) == 0) = true then _ else _) _ _ s
    rw [if_neg (by decide)]
    refine wpAny_bind (slicePart_none (wpAny_bind (slicePart_none (wpAny_bind (wpAny_pure ?_)))))
    exact wpAny_pure hR
  refine wpAny_bind (ap ?_)
  first
    | exact wpAny_bind (m := Builtin.Tuple.tupleExact _) (wpAny_newObj_type (wpAny_pure ⟨_, rfl, wpAny_pure h⟩) hok)
    | exact wpAny_bind (m := Builtin.Tuple.tupleExact _) (wpAny_newObj_type (wpAny_bind (wpAny_pure (wpAny_pure ⟨_, rfl, wpAny_pure h⟩))) hok)
    | exact wpAny_bind (wpAny_bind (m := Builtin.Tuple.tupleExact _) (wpAny_newObj_type (wpAny_pure (wpAny_pure ⟨_, rfl, wpAny_pure h⟩)) hok))
    | exact wpAny_bind (wpAny_bind (m := Builtin.Tuple.tupleExact _) (wpAny_newObj_type (wpAny_pure ⟨_, rfl, wpAny_pure h⟩) hok))
end
end HT
namespace L2
open PySem PySem.Spec PyProof.Rows
section
variable {X : Cx} {e st : Expr} {te : TE} {ts : TO} {p2 pos : Pos}
/-- t[::-1], t of two -/
def tRev (K : PySem.W.Frag) (te : TE) (ts : TO) : TE := fun σ H Q => te σ H fun x H1 => ts σ H1 fun o H2 => ∃ a y z, x = .ref a ∧ o = some (-1) ∧ H2 a = some (.tup [y, z]) ∧ ∀ p, H2 p = none → Q (.ref p) (upd H2 p (.tup [z, y]))
theorem pe_rev (he : PE X e te) (hs : PO X (some st) ts) : PE X (.Subscript e (.Slice none none (some st) p2) pos) (tRev X.K te ts) := by
  intro pins s σ H Q I h
  refine Subscript_ (thn (he pins s σ H _ I h) fun v s1 ⟨x, H1, I1, r1, q1⟩ => ?_)
  refine wpAny_Slice ?_
  rw [evalPart_none]
  refine wpAny_pure ?_
  refine wpAny_pure (thn (hs pins s1 σ H1 _ I1 q1) fun vt s3 ⟨o, H3, I3, pu, q3⟩ => ?_)
  obtain ⟨a, y, z, rfl, rfl, ha, q⟩ := q3
  cases r1
  cases pu with
  | int i tk =>
    have I4 : Inv X pins σ H3 { s3 with heap := s3.heap.push { cls := .type "slice", data := .fields #[.none, .none, .int (-1) tk] } } := I3.kept (t' := s3.toks) fun b ob q => Heap.get?_push_of_some _ q
    obtain ⟨its, r, ht, hz⟩ := I4.tuple (SqT.of (K := X.K) ha)
    obtain ⟨u', v', rfl, e1, e2⟩ := Vals.two r
    show wpAny (model X.prog X.w) X.A (subscriptTail e (.Slice none none (some st) p2) (.ref a) (.ref s3.heap.objs.size)) (EP X pins σ Q) X.xe { s3 with heap := s3.heap.push { cls := .type "slice", data := .fields #[.none, .none, .int (-1) tk] } }
    refine tail_any (ops := [.ref a, .ref s3.heap.objs.size]) ht.typeIs PyProof.Rows.slot_tuple_getitem.lookup ?_ (by with_unfolding_all rfl)
    refine HT.getItem_rev2 ht (Heap.IsSliceOf.new ..) ?_
    refine ⟨.ref _, _, I4.laid (t' := s3.toks) (o := .tup [z, y]) (fun b ob q => Heap.get?_push_of_some _ q) (Nat.le_refl _) ?_, rfl, q _ (I4.hok.fresh (Nat.le_refl _))⟩
    exact ⟨by show 2 ≤ sizeLine; decide, [v', u'], .cons e2 (.cons e1 .nil), IsTupN.new _ _⟩
end
theorem Room.units80 {k : Nat} {A : Around} (r : Room k A) : A.units + 80 < cLine := by have := r.un; omega
end L2
set_option Elab.async false
set_option linter.all false
namespace Mth
structure Fr (n d n' d' : Int) : Prop where
  pos : 0 < d'
  co : Int.gcd n' d' = 1
  eq : n' * d = n * d'
  ln : n'.natAbs ≤ n.natAbs
  ld : d'.natAbs ≤ d.natAbs
theorem gcd_pos {n d : Int} (h : d ≠ 0) : 0 < (Int.gcd n d : Int) := by
  have : Int.gcd n d ≠ 0 := by
    intro e
    exact h (Int.gcd_eq_zero_iff.mp e).2
  omega
theorem natAbs_mul_le {a b c : Int} (h : a = b * c) (hc : c ≠ 0) : b.natAbs ≤ a.natAbs := by
  rw [h, Int.natAbs_mul]
  exact Nat.le_mul_of_pos_right _ (Int.natAbs_pos.mpr hc)
theorem fr_of {n d g : Int} (hd : d ≠ 0) (hg : g = (Int.gcd n d : Int) ∨ g = -(Int.gcd n d : Int)) (hs : 0 < d.fdiv g) : Fr n d (n.fdiv g) (d.fdiv g) := by
  have gp := gcd_pos (n := n) hd
  have g0 : g ≠ 0 := by rcases hg with e | e <;> omega
  have dn : g ∣ n := by
    rcases hg with e | e
    · rw [e]; exact Int.gcd_dvd_left _ _
    · rw [e]; exact Int.neg_dvd.mpr (Int.gcd_dvd_left _ _)
  have dd : g ∣ d := by
    rcases hg with e | e
    · rw [e]; exact Int.gcd_dvd_right _ _
    · rw [e]; exact Int.neg_dvd.mpr (Int.gcd_dvd_right _ _)
  have en : n = n.fdiv g * g := by rw [Int.fdiv_eq_ediv_of_dvd dn, Int.ediv_mul_cancel dn]
  have ed : d = d.fdiv g * g := by rw [Int.fdiv_eq_ediv_of_dvd dd, Int.ediv_mul_cancel dd]
  have gabs : g.natAbs = Int.gcd n d := by rcases hg with e | e <;> omega
  refine ⟨hs, ?_, ?_, natAbs_mul_le en g0, natAbs_mul_le ed g0⟩
  · have e1 : Int.gcd (n.fdiv g * g) (d.fdiv g * g) = Int.gcd n d := by rw [← en, ← ed]
    rw [Int.gcd_mul_right, gabs] at e1
    have : 0 < Int.gcd n d := by omega
    exact Nat.eq_of_mul_eq_mul_right this (by omega)
  · calc n.fdiv g * d = n.fdiv g * (d.fdiv g * g) := by rw [← ed]
      _ = (n.fdiv g * g) * d.fdiv g := by rw [Int.mul_comm (d.fdiv g) g, Int.mul_assoc]
      _ = n * d.fdiv g := by rw [← en]
/-- the divisor has the sign of d -/
theorem fdiv_pos_of {n d g : Int} (hd : d ≠ 0) (hg : (0 < d ∧ g = (Int.gcd n d : Int)) ∨ (d < 0 ∧ g = -(Int.gcd n d : Int))) : 0 < d.fdiv g := by
  have gp := gcd_pos (n := n) hd
  have dd : g ∣ d := by
    rcases hg with ⟨_, e⟩ | ⟨_, e⟩
    · rw [e]; exact Int.gcd_dvd_right _ _
    · rw [e]; exact Int.neg_dvd.mpr (Int.gcd_dvd_right _ _)
  have ed : d = d.fdiv g * g := by rw [Int.fdiv_eq_ediv_of_dvd dd, Int.ediv_mul_cancel dd]
  rcases hg with ⟨h, e⟩ | ⟨h, e⟩
  · have g1 : 0 < g := by omega
    rw [ed] at h
    refine Int.not_le.mp fun z => ?_
    have := Int.mul_nonpos_of_nonpos_of_nonneg z (Int.le_of_lt g1)
    omega
  · have g1 : g < 0 := by omega
    refine Int.not_le.mp fun z => ?_
    have := Int.mul_nonneg_of_nonpos_of_nonpos z (Int.le_of_lt g1)
    omega
theorem gcd_le {n d : Int} (h : d ≠ 0) : Int.gcd n d ≤ d.natAbs := Nat.le_of_dvd (Int.natAbs_pos.mpr h) (Int.gcd_dvd_natAbs_right n d)
/-- one turn of Euclid's way -/
theorem gcd_turn (a b : Nat) : Nat.gcd b (a % b) = Nat.gcd a b := by
  rw [Nat.gcd_comm a b, Nat.gcd_rec b a, Nat.gcd_comm]
theorem mul_lt_pow {a b : Int} {i j : Nat} (h : a.natAbs < 2 ^ i) (h' : b.natAbs < 2 ^ j) : (a * b).natAbs < 2 ^ (i + j) := by
  rw [Int.natAbs_mul, Nat.pow_add]
  exact Nat.mul_lt_mul'' h h'
theorem add_lt_pow {a b : Int} {i : Nat} (h : a.natAbs < 2 ^ i) (h' : b.natAbs < 2 ^ i) : (a + b).natAbs < 2 ^ (i + 1) := by
  have := Int.natAbs_add_le a b
  rw [Nat.pow_succ]
  omega
theorem sub_lt_pow {a b : Int} {i : Nat} (h : a.natAbs < 2 ^ i) (h' : b.natAbs < 2 ^ i) : (a - b).natAbs < 2 ^ (i + 1) := by
  have := Int.natAbs_sub_le a b
  rw [Nat.pow_succ]
  omega
theorem up {a : Int} {i j : Nat} (h : a.natAbs < 2 ^ i) (hij : i ≤ j) : a.natAbs < 2 ^ j := Nat.lt_of_lt_of_le h (Nat.pow_le_pow_right (by decide) hij)
end Mth
set_option Elab.async false
set_option linter.all false
namespace Mth
structure Pt where
  n : Int
  d : Int
  m : Int
  e : Int
def sgn (i : Int) : Int := if i < 0 then -1 else if 0 < i then 1 else 0
theorem sgn_mul_pos {x y : Int} (h : 0 < y) : sgn (x * y) = sgn x := by
  unfold sgn
  rcases Int.lt_trichotomy x 0 with c | c | c
  · have := Int.mul_neg_of_neg_of_pos c h
    rw [if_pos this, if_pos c]
  · subst c; simp
  · have := Int.mul_pos c h
    rw [if_neg (by omega), if_pos this, if_neg (by omega), if_pos c]
theorem sgn_neg (x : Int) : sgn (-x) = -sgn x := by
  unfold sgn
  rcases Int.lt_trichotomy x 0 with c | c | c
  · rw [if_neg (by omega), if_pos (by omega), if_pos c]; rfl
  · subst c; rfl
  · rw [if_pos (by omega), if_neg (by omega), if_pos c]
def det3 (a b c k m n x y z : Int) : Int := (b * n - c * m) * x + (c * k - a * n) * y + (a * m - b * k) * z
def det (P Q R : Pt) : Int := det3 (P.n * P.e) (P.m * P.d) (P.d * P.e) (Q.n * Q.e) (Q.m * Q.d) (Q.d * Q.e) (R.n * R.e) (R.m * R.d) (R.d * R.e)
def lawdet (P Q R : Pt) : Int := (Q.n * P.d - P.n * Q.d) * (R.m * P.e - P.m * R.e) * (P.e * Q.e) * (P.d * R.d) - (Q.m * P.e - P.m * Q.e) * (R.n * P.d - P.n * R.d) * (P.d * Q.d) * (P.e * R.e)
theorem lawdet_eq (P Q R : Pt) : lawdet P Q R = det P Q R * (P.d * P.e) := by
  unfold lawdet det det3
  grind
theorem det_swap (P Q R : Pt) : det Q P R = -det P Q R := by
  unfold det det3
  grind
theorem det3_scale (r s t a b c k m n x y z : Int) : det3 (r * a) (r * b) (r * c) (s * k) (s * m) (s * n) (t * x) (t * y) (t * z) = r * s * t * det3 a b c k m n x y z := by
  unfold det3
  grind
/-- P moved: stretched by s over t, and B added -/
structure Mv (B : Pt) (s t : Int) (P P' : Pt) : Prop where
  x : P'.n * (P.d * t * B.d) = (P.n * s * B.d + B.n * (P.d * t)) * P'.d
  y : P'.m * (P.e * t * B.e) = (P.m * s * B.e + B.m * (P.e * t)) * P'.e
theorem Mv.rows {B P P' : Pt} {s t : Int} (h : Mv B s t P P') :
    (P.d * t * B.d * (P.e * t * B.e)) * (P'.n * P'.e) = (P'.d * P'.e * t) * ((s * B.d * B.e) * (P.n * P.e) + (B.n * B.e * t) * (P.d * P.e)) ∧
    (P.d * t * B.d * (P.e * t * B.e)) * (P'.m * P'.d) = (P'.d * P'.e * t) * ((s * B.d * B.e) * (P.m * P.d) + (B.m * B.d * t) * (P.d * P.e)) ∧
    (P.d * t * B.d * (P.e * t * B.e)) * (P'.d * P'.e) = (P'.d * P'.e * t) * ((t * B.d * B.e) * (P.d * P.e)) := by
  obtain ⟨hx, hy⟩ := h
  refine ⟨?_, ?_, ?_⟩
  · have : (P.d * t * B.d * (P.e * t * B.e)) * (P'.n * P'.e) = (P'.n * (P.d * t * B.d)) * ((P.e * t * B.e) * P'.e) := by grind
    rw [this, hx]; grind
  · have : (P.d * t * B.d * (P.e * t * B.e)) * (P'.m * P'.d) = (P'.m * (P.e * t * B.e)) * ((P.d * t * B.d) * P'.d) := by grind
    rw [this, hy]; grind
  · grind
end Mth
set_option Elab.async false
set_option linter.all false
namespace Geo
@[ext] structure Z2 where
  x : Int
  y : Int
deriving DecidableEq
def O (p q r : Z2) : Int := (q.x - p.x) * (r.y - p.y) - (q.y - p.y) * (r.x - p.x)
def ahd (p q : Z2) : Prop := p.x < q.x ∨ (p.x = q.x ∧ p.y < q.y)
instance (p q : Z2) : Decidable (ahd p q) := inferInstanceAs (Decidable (_ ∨ _))
def dotN (c a b : Z2) : Int := (a.x - c.x) * (b.x - c.x) + (a.y - c.y) * (b.y - c.y)
def lo (p q : Z2) : Z2 := if ahd p q then p else q
def hi (p q : Z2) : Z2 := if ahd p q then q else p
def wth (r p q : Z2) : Prop := O (lo p q) (hi p q) r = 0 ∧ ahd (lo p q) r ∧ ahd r (hi p q)
theorem sq_pos {a : Int} (h : a ≠ 0) : 0 < a * a := by
  rcases Int.lt_or_gt_of_ne h with c | c
  · exact Int.mul_pos_of_neg_of_neg c c
  · exact Int.mul_pos c c
theorem neg_of_mul {a b c : Int} (h : a * b = c) (hb : 0 < b) : (a < 0 ↔ c < 0) := by
  constructor
  · intro z
    have := Int.mul_neg_of_neg_of_pos z hb
    omega
  · intro z
    refine Int.not_le.mp fun q => ?_
    have := Int.mul_nonneg q (Int.le_of_lt hb)
    omega
structure Line (p q : Z2) (k : Z2 → Int) : Prop where
  ne : k p ≠ k q
  ah : ∀ a b, O p q a = 0 → O p q b = 0 → (ahd a b ↔ k a < k b)
  eq : ∀ a b, O p q a = 0 → O p q b = 0 → k a = k b → a = b
  dot : ∀ a b c, O p q a = 0 → O p q b = 0 → O p q c = 0 → (dotN c a b < 0 ↔ (k a - k c) * (k b - k c) < 0)
  crs : ∀ r a s, O p q r = 0 → O p q a = 0 → O r s a * (k q - k p) = -(k a - k r) * O p q s
theorem mul0 {a b : Int} (h : a * b = 0) (ha : a ≠ 0) : b = 0 := by
  rcases Int.mul_eq_zero.mp h with z | z
  · exact absurd z ha
  · exact z
theorem line_x {p q : Z2} (h : p.x ≠ q.x) : Line p q Z2.x := by
  have w : q.x - p.x ≠ 0 := by omega
  have dif : ∀ a b, O p q a = 0 → O p q b = 0 → (q.x - p.x) * (a.y - b.y) = (q.y - p.y) * (a.x - b.x) := fun a b ha hb => by
    unfold O at ha hb
    grind
  have eqy : ∀ a b, O p q a = 0 → O p q b = 0 → a.x = b.x → a.y = b.y := fun a b ha hb e => by
    have d := dif a b ha hb
    rw [e, Int.sub_self, Int.mul_zero] at d
    have := mul0 d w
    omega
  refine ⟨h, fun a b ha hb => ⟨?_, fun z => .inl z⟩, fun a b ha hb e => Z2.ext e (eqy a b ha hb e), fun a b c ha hb hc => ?_, fun r a s hr ha => ?_⟩
  · rintro (z | ⟨z1, z2⟩)
    · exact z
    · have := eqy a b ha hb z1
      omega
  · have d1 := dif a c ha hc
    have d2 := dif b c hb hc
    have e : dotN c a b * ((q.x - p.x) * (q.x - p.x)) = ((a.x - c.x) * (b.x - c.x)) * ((q.x - p.x) * (q.x - p.x) + (q.y - p.y) * (q.y - p.y)) := by
      unfold dotN
      grind
    have w2 := sq_pos w
    have w3 : 0 < (q.x - p.x) * (q.x - p.x) + (q.y - p.y) * (q.y - p.y) := by
      have : 0 ≤ (q.y - p.y) * (q.y - p.y) := by
        by_cases z : q.y - p.y = 0
        · rw [z]; decide
        · exact Int.le_of_lt (sq_pos z)
      omega
    rw [neg_of_mul e w2]
    exact (neg_of_mul rfl w3).symm
  · have d1 := dif a r ha hr
    unfold O at *
    grind
theorem line_y {p q : Z2} (h : p.x = q.x) (h' : p.y ≠ q.y) : Line p q Z2.y := by
  have w : q.y - p.y ≠ 0 := by omega
  have on : ∀ a, O p q a = 0 → a.x = p.x := fun a ha => by
    unfold O at ha
    rw [h, Int.sub_self, Int.zero_mul, Int.zero_sub] at ha
    have := mul0 (Int.neg_eq_zero.mp ha) w
    omega
  refine ⟨h', fun a b ha hb => ⟨?_, fun z => .inr ⟨by rw [on a ha, on b hb], z⟩⟩, fun a b ha hb e => Z2.ext (by rw [on a ha, on b hb]) e, fun a b c ha hb hc => ?_, fun r a s hr ha => ?_⟩
  · rintro (z | ⟨z1, z2⟩)
    · have := on a ha; have := on b hb
      omega
    · exact z2
  · unfold dotN
    rw [on a ha, on b hb, on c hc, Int.sub_self, Int.mul_zero, Int.zero_add]
  · have e1 := on r hr
    have e2 := on a ha
    unfold O
    rw [e1, e2]
    grind
theorem line {p q : Z2} (h : p ≠ q) : ∃ k, Line p q k := by
  by_cases c : p.x = q.x
  · exact ⟨_, line_y c fun z => h (Z2.ext c z)⟩
  · exact ⟨_, line_x c⟩
theorem on_p (p q : Z2) : O p q p = 0 := by unfold O; grind
theorem on_q (p q : Z2) : O p q q = 0 := by unfold O; grind
theorem O_swap (p q r : Z2) : O q p r = -O p q r := by unfold O; grind
theorem wth_key {p q r : Z2} {k : Z2 → Int} (L : Line p q k) : wth r p q ↔ O p q r = 0 ∧ (k p - k r) * (k q - k r) < 0 := by
  have prod : ∀ {a b c : Int}, a < b → ((a - c) * (b - c) < 0 ↔ a < c ∧ c < b) := fun {a b c} h => by
    constructor
    · intro z
      refine ⟨Int.not_le.mp fun y => ?_, Int.not_le.mp fun y => ?_⟩
      · have := Int.mul_nonneg (show 0 ≤ a - c by omega) (show 0 ≤ b - c by omega)
        omega
      · have := Int.mul_nonneg_of_nonpos_of_nonpos (show a - c ≤ 0 by omega) (show b - c ≤ 0 by omega)
        omega
    · intro z
      exact Int.mul_neg_of_neg_of_pos (by omega) (by omega)
  unfold wth lo hi
  by_cases c : ahd p q
  · simp only [if_pos c]
    have c' := (L.ah p q (on_p p q) (on_q p q)).mp c
    constructor
    · rintro ⟨h1, h2, h3⟩
      exact ⟨h1, (prod c').mpr ⟨(L.ah p r (on_p p q) h1).mp h2, (L.ah r q h1 (on_q p q)).mp h3⟩⟩
    · rintro ⟨h1, h2⟩
      obtain ⟨a, b⟩ := (prod c').mp h2
      exact ⟨h1, (L.ah p r (on_p p q) h1).mpr a, (L.ah r q h1 (on_q p q)).mpr b⟩
  · simp only [if_neg c]
    have c' : k q < k p := by
      have n1 : ¬ k p < k q := fun z => c ((L.ah p q (on_p p q) (on_q p q)).mpr z)
      have n2 := L.ne
      omega
    rw [O_swap, Int.neg_eq_zero, Int.mul_comm]
    constructor
    · rintro ⟨h1, h2, h3⟩
      exact ⟨h1, (prod c').mpr ⟨(L.ah q r (on_q p q) h1).mp h2, (L.ah r p h1 (on_p p q)).mp h3⟩⟩
    · rintro ⟨h1, h2⟩
      obtain ⟨a, b⟩ := (prod c').mp h2
      exact ⟨h1, (L.ah q r (on_q p q) h1).mpr a, (L.ah r p h1 (on_p p q)).mpr b⟩
/-- r on the line, s beside it -/
theorem touch {p q r s : Z2} (pq : p ≠ q) (rp : r ≠ p) (rq : r ≠ q) (h : O p q r = 0) (h' : O p q s ≠ 0) : O r s p ≠ 0 ∧ O r s q ≠ 0 ∧ (wth r p q ↔ O r s p * O r s q < 0) := by
  obtain ⟨k, L⟩ := line pq
  have e1 := L.crs r p s h (on_p p q)
  have e2 := L.crs r q s h (on_q p q)
  have w : k q - k p ≠ 0 := by have := L.ne; omega
  have n1 : k p - k r ≠ 0 := fun z => rp (L.eq r p h (on_p p q) (by omega))
  have n2 : k q - k r ≠ 0 := fun z => rq (L.eq r q h (on_q p q) (by omega))
  have nz : ∀ {a b c d : Int}, a * b = -c * d → c ≠ 0 → d ≠ 0 → a ≠ 0 := fun {a b c d} e hc hd z => by
    rw [z, Int.zero_mul] at e
    rcases Int.mul_eq_zero.mp e.symm with y | y
    · exact hc (by omega)
    · exact hd y
  refine ⟨nz e1 n1 h', nz e2 n2 h', ?_⟩
  rw [wth_key L]
  have e : (O r s p * O r s q) * ((k q - k p) * (k q - k p)) = ((k p - k r) * (k q - k r)) * (O p q s * O p q s) := by
    generalize k q - k p = W at *
    generalize k p - k r = A at *
    generalize k q - k r = B at *
    generalize O r s p = U at *
    generalize O r s q = V at *
    generalize O p q s = T at *
    grind
  rw [neg_of_mul e (sq_pos w)]
  constructor
  · rintro ⟨_, z⟩
    exact Int.mul_neg_of_neg_of_pos z (sq_pos h')
  · intro z
    exact ⟨h, (neg_of_mul rfl (sq_pos h')).mpr z⟩
def over (p q r s : Z2) : Prop := O p q r = 0 ∧ O p q s = 0 ∧ ahd (hi (lo p q) (lo r s)) (lo (hi p q) (hi r s))
def lap (p q r s : Z2) : Prop := dotN p r s < 0 ∨ dotN q r s < 0 ∨ dotN r p q < 0 ∨ dotN s p q < 0
theorem all_line {p q r s : Z2} (pq : p ≠ q) (pr : p ≠ r) (ps : p ≠ s) (qr : q ≠ r) (qs : q ≠ s) (rs : r ≠ s) (h : O p q r = 0) (h' : O p q s = 0) :
    (lap p q r s ↔ over p q r s) ∧ (¬ over p q r s → ¬ wth r p q ∧ ¬ wth s p q ∧ ¬ wth p r s ∧ ¬ wth q r s) := by
  obtain ⟨k, L⟩ := line pq
  have op := on_p p q
  have oq := on_q p q
  have kn : ∀ {a b}, O p q a = 0 → O p q b = 0 → a ≠ b → k a ≠ k b := fun ha hb n e => n (L.eq _ _ ha hb e)
  have L2 : Line r s k := by
    have on2 : ∀ a, O r s a = 0 → O p q a = 0 := fun a ha => by
      have e := L.crs r s a h h'
      rw [show O r a s = -O r s a by unfold O; grind, ha] at e
      have w := kn h h' rs
      simp only [Int.neg_zero, Int.zero_mul] at e
      rcases Int.mul_eq_zero.mp e.symm with z | z
      · omega
      · exact z
    refine ⟨kn h h' rs, fun a b ha hb => L.ah a b (on2 a ha) (on2 b hb), fun a b ha hb => L.eq a b (on2 a ha) (on2 b hb), fun a b c ha hb hc => L.dot a b c (on2 a ha) (on2 b hb) (on2 c hc), fun u a t hu ha => ?_⟩
    have e1 := L.crs u a t (on2 u hu) (on2 a ha)
    have e2 : O r s t * (k q - k p) = (k s - k r) * O p q t := by
      have := L.crs r s t h h'
      rw [show O r t s = -O r s t by unfold O; grind] at this
      rw [Int.neg_mul, Int.neg_mul] at this
      omega
    have w : k q - k p ≠ 0 := by have := L.ne; omega
    have : (O u t a * (k s - k r) + (k a - k u) * O r s t) * (k q - k p) = 0 := by
      generalize k q - k p = W at *
      generalize k a - k u = A at *
      generalize k s - k r = B at *
      generalize O u t a = U at *
      generalize O r s t = V at *
      generalize O p q t = T at *
      grind
    have := mul0 (by rw [Int.mul_comm]; exact this) w
    rw [Int.neg_mul]
    omega
  have prod : ∀ {a b c : Int}, ((a - c) * (b - c) < 0 ↔ (a < c ∧ c < b) ∨ (b < c ∧ c < a)) := fun {a b c} => by
    constructor
    · intro z
      rcases Int.lt_trichotomy a c with y | y | y
      · exact .inl ⟨y, Int.not_le.mp fun x => by have := Int.mul_nonneg_of_nonpos_of_nonpos (show a - c ≤ 0 by omega) (show b - c ≤ 0 by omega); omega⟩
      · subst y; simp at z
      · exact .inr ⟨Int.not_le.mp fun x => by have := Int.mul_nonneg (show 0 ≤ a - c by omega) (show 0 ≤ b - c by omega); omega, y⟩
    · rintro (⟨x, y⟩ | ⟨x, y⟩)
      · exact Int.mul_neg_of_neg_of_pos (by omega) (by omega)
      · exact Int.mul_neg_of_pos_of_neg (by omega) (by omega)
  have n1 := kn op oq pq
  have n2 := kn op h pr
  have n3 := kn op h' ps
  have n4 := kn oq h qr
  have n5 := kn oq h' qs
  have n6 := kn h h' rs
  have eo : over p q r s ↔ (if (if k p < k q then k p else k q) < (if k r < k s then k r else k s) then (if k r < k s then k r else k s) else (if k p < k q then k p else k q)) < (if (if k p < k q then k q else k p) < (if k r < k s then k s else k r) then (if k p < k q then k q else k p) else (if k r < k s then k s else k r)) := by
    have klo : ∀ {a b}, O p q a = 0 → O p q b = 0 → O p q (lo a b) = 0 ∧ k (lo a b) = if k a < k b then k a else k b := fun {a b} ha hb => by
      unfold lo
      by_cases c : ahd a b
      · rw [if_pos c, if_pos ((L.ah a b ha hb).mp c)]; exact ⟨ha, rfl⟩
      · rw [if_neg c, if_neg fun z => c ((L.ah a b ha hb).mpr z)]; exact ⟨hb, rfl⟩
    have khi : ∀ {a b}, O p q a = 0 → O p q b = 0 → O p q (hi a b) = 0 ∧ k (hi a b) = if k a < k b then k b else k a := fun {a b} ha hb => by
      unfold hi
      by_cases c : ahd a b
      · rw [if_pos c, if_pos ((L.ah a b ha hb).mp c)]; exact ⟨hb, rfl⟩
      · rw [if_neg c, if_neg fun z => c ((L.ah a b ha hb).mpr z)]; exact ⟨ha, rfl⟩
    have a1 := klo op oq
    have a2 := klo h h'
    have a3 := khi op oq
    have a4 := khi h h'
    have a5 := khi a1.1 a2.1
    have a6 := klo a3.1 a4.1
    have e := L.ah _ _ a5.1 a6.1
    rw [a5.2, a6.2, a1.2, a2.2, a3.2, a4.2] at e
    unfold over
    rw [← e]
    exact ⟨fun z => z.2.2, fun z => ⟨h, h', z⟩⟩
  have el : lap p q r s ↔ ((k r < k p ∧ k p < k s) ∨ (k s < k p ∧ k p < k r)) ∨ ((k r < k q ∧ k q < k s) ∨ (k s < k q ∧ k q < k r)) ∨ ((k p < k r ∧ k r < k q) ∨ (k q < k r ∧ k r < k p)) ∨ ((k p < k s ∧ k s < k q) ∨ (k q < k s ∧ k s < k p)) := by
    unfold lap
    rw [L.dot r s p h h' op, L.dot r s q h h' oq, L.dot p q r op oq h, L.dot p q s op oq h', prod, prod, prod, prod]
  rw [el, eo, wth_key L, wth_key L, wth_key L2, wth_key L2, prod, prod, prod, prod]
  generalize k p = a at *
  generalize k q = b at *
  generalize k r = c at *
  generalize k s = d at *
  clear el eo L L2 kn
  constructor
  · constructor
    · intro z; split <;> split <;> split <;> split <;> omega
    · intro z; revert z; split <;> split <;> split <;> split <;> omega
  · intro z
    revert z
    split <;> split <;> split <;> split <;> omega
end Geo
set_option Elab.async false
set_option linter.all false
namespace Geo
open Mth
/-- c lies between a and b -/
theorem wth_of {a b c : Z2} {α β : Int} (ha : 0 < α) (hb : 0 < β) (ne : a ≠ b) (ex : (α + β) * c.x = α * a.x + β * b.x) (ey : (α + β) * c.y = α * a.y + β * b.y) : wth c a b := by
  obtain ⟨k, L⟩ := line ne
  have ab : 0 < α + β := by omega
  have on : O a b c = 0 := by
    have : (α + β) * O a b c = 0 := by
      unfold O
      grind
    exact mul0 this (by omega)
  rw [wth_key L]
  refine ⟨on, ?_⟩
  -- the key is linear on the line
  have e1 := L.crs c a
  by_cases cx : a.x = b.x
  · have L' := line_y cx fun z => ne (Z2.ext cx z)
    have := (wth_key (r := c) L').mpr ⟨on, ?_⟩
    · exact ((wth_key L).mp this).2
    · have d : a.y - b.y ≠ 0 := fun z => L'.ne (by omega)
      have e : ((a.y - c.y) * (b.y - c.y)) * ((α + β) * (α + β)) = -(α * β * ((a.y - b.y) * (a.y - b.y))) := by grind
      rw [neg_of_mul e (Int.mul_pos ab ab)]
      have := Int.mul_pos (Int.mul_pos ha hb) (sq_pos d)
      omega
  · have L' := line_x cx
    have := (wth_key (r := c) L').mpr ⟨on, ?_⟩
    · exact ((wth_key L).mp this).2
    · have d : a.x - b.x ≠ 0 := by omega
      have e : ((a.x - c.x) * (b.x - c.x)) * ((α + β) * (α + β)) = -(α * β * ((a.x - b.x) * (a.x - b.x))) := by grind
      rw [neg_of_mul e (Int.mul_pos ab ab)]
      have := Int.mul_pos (Int.mul_pos ha hb) (sq_pos d)
      omega
def mulZ (t : Int) (p : Z2) : Z2 := ⟨t * p.x, t * p.y⟩
theorem mulZ_ne {t : Int} (h : t ≠ 0) {p q : Z2} (n : p ≠ q) : mulZ t p ≠ mulZ t q := fun e => n (by
  have e1 : t * p.x = t * q.x := congrArg Z2.x e
  have e2 : t * p.y = t * q.y := congrArg Z2.y e
  exact Z2.ext (Int.eq_of_mul_eq_mul_left h e1) (Int.eq_of_mul_eq_mul_left h e2))
/-- where two ties cross, in the scale t = the difference's size -/
def crs (p q r s : Z2) : Z2 := if 0 < O p q s then ⟨O p q s * r.x - O p q r * s.x, O p q s * r.y - O p q r * s.y⟩ else ⟨-(O p q s * r.x - O p q r * s.x), -(O p q s * r.y - O p q r * s.y)⟩
def crT (p q r s : Z2) : Int := if 0 < O p q s then O p q s - O p q r else -(O p q s - O p q r)
theorem opp {a b : Int} (h : a * b < 0) : (0 < b ∧ a < 0) ∨ (b < 0 ∧ 0 < a) := by
  rcases Int.lt_trichotomy b 0 with c | c | c
  · refine .inr ⟨c, Int.not_le.mp fun z => ?_⟩
    have := Int.mul_nonneg_of_nonpos_of_nonpos z (Int.le_of_lt c)
    omega
  · subst c; simp at h
  · refine .inl ⟨c, Int.not_le.mp fun z => ?_⟩
    have := Int.mul_nonneg z (Int.le_of_lt c)
    omega
theorem cross_wth {p q r s : Z2} (pq : p ≠ q) (rs : r ≠ s) (h : O p q r * O p q s < 0) (h' : O r s p * O r s q < 0) :
    0 < crT p q r s ∧ wth (crs p q r s) (mulZ (crT p q r s) p) (mulZ (crT p q r s) q) ∧ wth (crs p q r s) (mulZ (crT p q r s) r) (mulZ (crT p q r s) s) := by
  have i0 : O p q s - O p q r = O r s p - O r s q := by unfold O; grind
  have ix : O p q s * r.x - O p q r * s.x = O r s p * q.x - O r s q * p.x := by unfold O; grind
  have iy : O p q s * r.y - O p q r * s.y = O r s p * q.y - O r s q * p.y := by unfold O; grind
  unfold crs crT
  generalize O p q r = a at *
  generalize O p q s = b at *
  generalize O r s p = a2 at *
  generalize O r s q = b2 at *
  have key : ∀ (c : Z2) (t : Int), 0 < t → (∃ α β, 0 < α ∧ 0 < β ∧ α + β = t ∧ c.x = α * p.x + β * q.x ∧ c.y = α * p.y + β * q.y) → (∃ α β, 0 < α ∧ 0 < β ∧ α + β = t ∧ c.x = α * r.x + β * s.x ∧ c.y = α * r.y + β * s.y) →
      0 < t ∧ wth c (mulZ t p) (mulZ t q) ∧ wth c (mulZ t r) (mulZ t s) := by
    rintro c t t0 ⟨α, β, h1, h2, h3, h4, h5⟩ ⟨γ, δ, k1, k2, k3, k4, k5⟩
    have tn : t ≠ 0 := by omega
    refine ⟨t0, wth_of h1 h2 (mulZ_ne tn pq) ?_ ?_, wth_of k1 k2 (mulZ_ne tn rs) ?_ ?_⟩
    · show (α + β) * c.x = α * (t * p.x) + β * (t * q.x); rw [h3, h4]; grind
    · show (α + β) * c.y = α * (t * p.y) + β * (t * q.y); rw [h3, h5]; grind
    · show (γ + δ) * c.x = γ * (t * r.x) + δ * (t * s.x); rw [k3, k4]; grind
    · show (γ + δ) * c.y = γ * (t * r.y) + δ * (t * s.y); rw [k3, k5]; grind
  rcases opp h with ⟨hb, ha⟩ | ⟨hb, ha⟩
  · simp only [if_pos hb]
    have g : b2 < 0 ∧ 0 < a2 := by rcases opp h' with z | z <;> omega
    refine key _ _ (by omega) ⟨-b2, a2, by omega, g.2, by omega, ?_, ?_⟩ ⟨b, -a, hb, by omega, by omega, ?_, ?_⟩
    · show b * r.x - a * s.x = _; rw [ix]; grind
    · show b * r.y - a * s.y = _; rw [iy]; grind
    · show b * r.x - a * s.x = _; grind
    · show b * r.y - a * s.y = _; grind
  · simp only [if_neg (show ¬ 0 < b by omega)]
    have g : 0 < b2 ∧ a2 < 0 := by rcases opp h' with z | z <;> omega
    refine key _ _ (by omega) ⟨b2, -a2, g.1, by omega, by omega, ?_, ?_⟩ ⟨-b, a, by omega, ha, by omega, ?_, ?_⟩
    · show -(b * r.x - a * s.x) = _; rw [ix]; grind
    · show -(b * r.y - a * s.y) = _; rw [iy]; grind
    · show -(b * r.x - a * s.x) = _; grind
    · show -(b * r.y - a * s.y) = _; grind
/-- P is z, in the scale N -/
structure Sc (N : Int) (P : Pt) (z : Z2) : Prop where
  x : P.n * N = z.x * P.d
  y : P.m * N = z.y * P.e
structure Lw (P : Pt) : Prop where
  d : 0 < P.d
  e : 0 < P.e
  cx : Int.gcd P.n P.d = 1
  cy : Int.gcd P.m P.e = 1
theorem Sc.mul {N : Int} {P : Pt} {z : Z2} (h : Sc N P z) (t : Int) : Sc (N * t) P (mulZ t z) := by
  obtain ⟨hx, hy⟩ := h
  constructor
  · show P.n * (N * t) = t * z.x * P.d; grind
  · show P.m * (N * t) = t * z.y * P.e; grind
theorem dvd_of {d n d' : Int} (h : d ∣ n * d') (c : Int.gcd n d = 1) : d ∣ d' := by
  refine Int.natAbs_dvd_natAbs.mp ?_
  have h1 := Int.natAbs_dvd_natAbs.mpr h
  rw [Int.natAbs_mul] at h1
  exact Nat.Coprime.dvd_of_dvd_mul_left (show Nat.gcd d.natAbs n.natAbs = 1 by rw [Nat.gcd_comm]; exact c) h1
theorem low_unique {n d n' d' : Int} (h : 0 < d) (h' : 0 < d') (c : Int.gcd n d = 1) (c' : Int.gcd n' d' = 1) (e : n * d' = n' * d) : n = n' ∧ d = d' := by
  have d1 : d ∣ d' := by
    have : d ∣ n * d' := ⟨n', by rw [e, Int.mul_comm]⟩
    exact dvd_of this c
  have d2 : d' ∣ d := by
    have : d' ∣ n' * d := ⟨n, by rw [← e, Int.mul_comm]⟩
    exact dvd_of this c'
  have ed : d = d' := Int.dvd_antisymm (Int.le_of_lt h) (Int.le_of_lt h') d1 d2
  subst ed
  exact ⟨Int.eq_of_mul_eq_mul_right (by omega) e, rfl⟩
section
variable {N : Int} {P Q R S : Pt} {p q r s : Z2}
theorem sgn_pos_mul {a b : Int} (h : 0 < a) : sgn (a * b) = sgn b := by rw [Int.mul_comm]; exact sgn_mul_pos h
theorem det_sgn (n0 : 0 < N) (hp : Sc N P p) (hq : Sc N Q q) (hr : Sc N R r) (lp : Lw P) (lq : Lw Q) (lr : Lw R) : sgn (det P Q R) = sgn (O p q r) := by
  obtain ⟨p1, p2⟩ := hp
  obtain ⟨q1, q2⟩ := hq
  obtain ⟨r1, r2⟩ := hr
  have e : (N * N * N) * det P Q R = (P.d * P.e * (Q.d * Q.e) * (R.d * R.e) * N) * O p q r := by
    have h := det3_scale N N N (P.n * P.e) (P.m * P.d) (P.d * P.e) (Q.n * Q.e) (Q.m * Q.d) (Q.d * Q.e) (R.n * R.e) (R.m * R.d) (R.d * R.e)
    rw [show N * (P.n * P.e) = (P.d * P.e) * p.x by grind, show N * (P.m * P.d) = (P.d * P.e) * p.y by grind, show N * (P.d * P.e) = (P.d * P.e) * N by grind,
      show N * (Q.n * Q.e) = (Q.d * Q.e) * q.x by grind, show N * (Q.m * Q.d) = (Q.d * Q.e) * q.y by grind, show N * (Q.d * Q.e) = (Q.d * Q.e) * N by grind,
      show N * (R.n * R.e) = (R.d * R.e) * r.x by grind, show N * (R.m * R.d) = (R.d * R.e) * r.y by grind, show N * (R.d * R.e) = (R.d * R.e) * N by grind, det3_scale] at h
    show N * N * N * det3 _ _ _ _ _ _ _ _ _ = _
    rw [← h]
    unfold det3 O
    grind
  have k1 : 0 < N * N * N := Int.mul_pos (Int.mul_pos n0 n0) n0
  have k2 : 0 < P.d * P.e * (Q.d * Q.e) * (R.d * R.e) * N := Int.mul_pos (Int.mul_pos (Int.mul_pos (Int.mul_pos lp.d lp.e) (Int.mul_pos lq.d lq.e)) (Int.mul_pos lr.d lr.e)) n0
  rw [← sgn_pos_mul k1, e, sgn_pos_mul k2]
theorem lt_of_scale {a b c d x y : Int} (n0 : 0 < N) (hb : 0 < b) (hd : 0 < d) (h1 : a * N = x * b) (h2 : c * N = y * d) : (a * d < c * b ↔ x < y) ∧ (a * d = c * b ↔ x = y) := by
  have e1 : N * (a * d) = (b * d) * x := by grind
  have e2 : N * (c * b) = (b * d) * y := by grind
  have bd := Int.mul_pos hb hd
  constructor
  · rw [← Int.mul_lt_mul_left n0, e1, e2, Int.mul_lt_mul_left bd]
  · constructor
    · intro z
      rw [z, e2] at e1
      exact (Int.eq_of_mul_eq_mul_left (by omega) e1).symm
    · intro z
      rw [z, ← e2] at e1
      exact Int.eq_of_mul_eq_mul_left (by omega) e1
def aheadP (P Q : Pt) : Bool := if P.n = Q.n ∧ P.d = Q.d then decide (P.m * Q.e < Q.m * P.e) else decide (P.n * Q.d < Q.n * P.d)
theorem ahead_iff (n0 : 0 < N) (hp : Sc N P p) (hq : Sc N Q q) (lp : Lw P) (lq : Lw Q) : aheadP P Q = decide (ahd p q) := by
  obtain ⟨x1, x2⟩ := lt_of_scale n0 lp.d lq.d hp.x hq.x
  obtain ⟨y1, y2⟩ := lt_of_scale n0 lp.e lq.e hp.y hq.y
  unfold aheadP ahd
  by_cases c : P.n = Q.n ∧ P.d = Q.d
  · have ex : p.x = q.x := x2.mp (by rw [c.1, c.2])
    rw [if_pos c]
    simp only [y1, ex, Int.lt_irrefl, true_and, false_or]
  · have ex : p.x ≠ q.x := fun z => c (low_unique lp.d lq.d lp.cx lq.cx (x2.mpr z))
    rw [if_neg c]
    simp only [x1, ex, false_and, or_false]
theorem eq_iff (n0 : 0 < N) (hp : Sc N P p) (hq : Sc N Q q) (lp : Lw P) (lq : Lw Q) : P = Q ↔ p = q := by
  obtain ⟨_, x2⟩ := lt_of_scale n0 lp.d lq.d hp.x hq.x
  obtain ⟨_, y2⟩ := lt_of_scale n0 lp.e lq.e hp.y hq.y
  constructor
  · intro z
    subst z
    exact Z2.ext (x2.mp rfl) (y2.mp rfl)
  · intro z
    subst z
    obtain ⟨a, b⟩ := low_unique lp.d lq.d lp.cx lq.cx (x2.mpr rfl)
    obtain ⟨c, d⟩ := low_unique lp.e lq.e lp.cy lq.cy (y2.mpr rfl)
    cases P; cases Q
    simp_all
theorem scale4 (lp : Lw P) (lq : Lw Q) (lr : Lw R) (ls : Lw S) : ∃ N p q r s, 0 < N ∧ Sc N P p ∧ Sc N Q q ∧ Sc N R r ∧ Sc N S s := by
  refine ⟨(P.d * P.e) * (Q.d * Q.e) * ((R.d * R.e) * (S.d * S.e)), ⟨P.n * P.e * (Q.d * Q.e) * ((R.d * R.e) * (S.d * S.e)), P.m * P.d * (Q.d * Q.e) * ((R.d * R.e) * (S.d * S.e))⟩,
    ⟨(P.d * P.e) * (Q.n * Q.e) * ((R.d * R.e) * (S.d * S.e)), (P.d * P.e) * (Q.m * Q.d) * ((R.d * R.e) * (S.d * S.e))⟩,
    ⟨(P.d * P.e) * (Q.d * Q.e) * ((R.n * R.e) * (S.d * S.e)), (P.d * P.e) * (Q.d * Q.e) * ((R.m * R.d) * (S.d * S.e))⟩,
    ⟨(P.d * P.e) * (Q.d * Q.e) * ((R.d * R.e) * (S.n * S.e)), (P.d * P.e) * (Q.d * Q.e) * ((R.d * R.e) * (S.m * S.d))⟩, ?_, ⟨?_, ?_⟩, ⟨?_, ?_⟩, ⟨?_, ?_⟩, ⟨?_, ?_⟩⟩
  · exact Int.mul_pos (Int.mul_pos (Int.mul_pos lp.d lp.e) (Int.mul_pos lq.d lq.e)) (Int.mul_pos (Int.mul_pos lr.d lr.e) (Int.mul_pos ls.d ls.e))
  all_goals (simp only; grind)
end
end Geo
set_option Elab.async false
set_option linter.all false
namespace Geo
open Mth
def firP (P Q : Pt) : Pt := if aheadP P Q then P else Q
def lasP (P Q : Pt) : Pt := if aheadP P Q then Q else P
def withinP (R A B : Pt) : Bool := decide (sgn (det (firP A B) (lasP A B) R) = 0) && (aheadP (firP A B) R && aheadP R (lasP A B))
def overP (P Q R S : Pt) : Bool := decide (sgn (det P Q R) = 0 ∧ sgn (det P Q S) = 0) && aheadP (lasP (firP P Q) (firP R S)) (firP (lasP P Q) (lasP R S))
def btwT (C A B : Pt) : Int := (A.n * C.d - C.n * A.d) * (B.n * C.d - C.n * B.d) * (A.e * C.e * (B.e * C.e)) + (A.m * C.e - C.m * A.e) * (B.m * C.e - C.m * B.e) * (A.d * C.d * (B.d * C.d))
def btwP (C A B : Pt) : Bool := decide (btwT C A B < 0)
def lapP (P Q R S : Pt) : Bool := btwP P R S || (btwP Q R S || (btwP R P Q || btwP S P Q))
inductive Out where
  | no | over | touch (X : Pt) | cross
def metO (P Q R S : Pt) : Out :=
  if sgn (det P Q R) = 0 ∧ sgn (det P Q S) = 0 then (if lapP P Q R S then .over else .no)
  else if 0 < sgn (det P Q R) * sgn (det P Q S) ∨ 0 < sgn (det R S P) * sgn (det R S Q) then .no
  else if sgn (det P Q R) = 0 then .touch R else if sgn (det P Q S) = 0 then .touch S else if sgn (det R S P) = 0 then .touch P else if sgn (det R S Q) = 0 then .touch Q else .cross
def dueO (P Q R S : Pt) : Out :=
  if overP P Q R S then .over else if withinP R P Q then .touch R else if withinP S P Q then .touch S else if withinP P R S then .touch P else if withinP Q R S then .touch Q
  else if sgn (det P Q R) * sgn (det P Q S) < 0 ∧ sgn (det R S P) * sgn (det R S Q) < 0 then .cross else .no
theorem sgn_zero {x : Int} : sgn x = 0 ↔ x = 0 := by unfold sgn; split <;> (try split) <;> omega
theorem sgn_mul_neg {x y : Int} : sgn x * sgn y < 0 ↔ x * y < 0 := by
  rcases Int.lt_trichotomy x 0 with a | a | a <;> rcases Int.lt_trichotomy y 0 with b | b | b
  · have := Int.mul_pos_of_neg_of_neg a b
    simp [sgn, a, b]; omega
  · subst b; simp [sgn]
  · have := Int.mul_neg_of_neg_of_pos a b
    simp [sgn, a, b, show ¬ y < 0 by omega]; omega
  · subst a; simp [sgn]
  · subst a; simp [sgn]
  · subst a; simp [sgn]
  · have := Int.mul_neg_of_pos_of_neg a b
    simp [sgn, a, b, show ¬ x < 0 by omega]; omega
  · subst b; simp [sgn]
  · have := Int.mul_pos a b
    simp [sgn, a, b, show ¬ y < 0 by omega, show ¬ x < 0 by omega]; omega
theorem sgn_range (x : Int) : sgn x = -1 ∨ sgn x = 0 ∨ sgn x = 1 := by unfold sgn; split <;> (try split) <;> simp
section
variable {N : Int} {P Q R S : Pt} {p q r s : Z2}
theorem Lw.fir (lp : Lw P) (lq : Lw Q) : Lw (firP P Q) := by unfold firP; split <;> assumption
theorem Lw.las (lp : Lw P) (lq : Lw Q) : Lw (lasP P Q) := by unfold lasP; split <;> assumption
theorem Sc.fir (n0 : 0 < N) (hp : Sc N P p) (hq : Sc N Q q) (lp : Lw P) (lq : Lw Q) : Sc N (firP P Q) (lo p q) ∧ Sc N (lasP P Q) (hi p q) := by
  unfold firP lasP lo hi
  rw [ahead_iff n0 hp hq lp lq]
  by_cases c : ahd p q
  · simp only [c, decide_true, if_true]; exact ⟨hp, hq⟩
  · simp only [c, decide_false, if_false, Bool.false_eq_true]; exact ⟨hq, hp⟩
theorem within_iff (n0 : 0 < N) (hp : Sc N P p) (hq : Sc N Q q) (hr : Sc N R r) (lp : Lw P) (lq : Lw Q) (lr : Lw R) : withinP R P Q = true ↔ wth r p q := by
  obtain ⟨f1, f2⟩ := Sc.fir n0 hp hq lp lq
  have l1 := Lw.fir lp lq
  have l2 := Lw.las lp lq
  unfold withinP wth
  rw [det_sgn n0 f1 f2 hr l1 l2 lr, ahead_iff n0 f1 hr l1 lr, ahead_iff n0 hr f2 lr l2]
  simp only [Bool.and_eq_true, decide_eq_true_eq, sgn_zero]
theorem over_iff (n0 : 0 < N) (hp : Sc N P p) (hq : Sc N Q q) (hr : Sc N R r) (hs : Sc N S s) (lp : Lw P) (lq : Lw Q) (lr : Lw R) (ls : Lw S) : overP P Q R S = true ↔ over p q r s := by
  obtain ⟨f1, f2⟩ := Sc.fir n0 hp hq lp lq
  obtain ⟨g1, g2⟩ := Sc.fir n0 hr hs lr ls
  obtain ⟨_, i2⟩ := Sc.fir n0 f1 g1 (Lw.fir lp lq) (Lw.fir lr ls)
  obtain ⟨j1, _⟩ := Sc.fir n0 f2 g2 (Lw.las lp lq) (Lw.las lr ls)
  unfold overP over
  rw [det_sgn n0 hp hq hr lp lq lr, det_sgn n0 hp hq hs lp lq ls, ahead_iff n0 i2 j1 (Lw.las (Lw.fir lp lq) (Lw.fir lr ls)) (Lw.fir (Lw.las lp lq) (Lw.las lr ls))]
  simp only [Bool.and_eq_true, decide_eq_true_eq, sgn_zero, and_assoc]
theorem btw_iff (n0 : 0 < N) (hp : Sc N P p) (hq : Sc N Q q) (hr : Sc N R r) (lp : Lw P) (lq : Lw Q) (lr : Lw R) : btwP R P Q = decide (dotN r p q < 0) := by
  obtain ⟨p1, p2⟩ := hp
  obtain ⟨q1, q2⟩ := hq
  obtain ⟨r1, r2⟩ := hr
  have e : btwT R P Q * (N * N) = dotN r p q * (P.d * R.d * (Q.d * R.d) * (P.e * R.e * (Q.e * R.e))) := by
    have x1 : N * (P.n * R.d - R.n * P.d) = (p.x - r.x) * (P.d * R.d) := by grind
    have x2 : N * (Q.n * R.d - R.n * Q.d) = (q.x - r.x) * (Q.d * R.d) := by grind
    have y1 : N * (P.m * R.e - R.m * P.e) = (p.y - r.y) * (P.e * R.e) := by grind
    have y2 : N * (Q.m * R.e - R.m * Q.e) = (q.y - r.y) * (Q.e * R.e) := by grind
    have : btwT R P Q * (N * N) = (N * (P.n * R.d - R.n * P.d)) * (N * (Q.n * R.d - R.n * Q.d)) * (P.e * R.e * (Q.e * R.e)) + (N * (P.m * R.e - R.m * P.e)) * (N * (Q.m * R.e - R.m * Q.e)) * (P.d * R.d * (Q.d * R.d)) := by
      unfold btwT
      generalize P.n * R.d - R.n * P.d = a
      generalize Q.n * R.d - R.n * Q.d = b
      generalize P.m * R.e - R.m * P.e = c
      generalize Q.m * R.e - R.m * Q.e = d
      grind
    rw [this, x1, x2, y1, y2]
    unfold dotN
    generalize p.x - r.x = a
    generalize q.x - r.x = b
    generalize p.y - r.y = c
    generalize q.y - r.y = d
    grind
  have pos := Int.mul_pos (Int.mul_pos (Int.mul_pos lp.d lr.d) (Int.mul_pos lq.d lr.d)) (Int.mul_pos (Int.mul_pos lp.e lr.e) (Int.mul_pos lq.e lr.e))
  unfold btwP
  have z := neg_of_mul e (Int.mul_pos n0 n0)
  have y := neg_of_mul (rfl : dotN r p q * (P.d * R.d * (Q.d * R.d) * (P.e * R.e * (Q.e * R.e))) = _) pos
  exact decide_eq_decide.mpr (z.trans y.symm)
structure Four (P Q R S : Pt) : Prop where
  lp : Lw P
  lq : Lw Q
  lr : Lw R
  ls : Lw S
  pq : P ≠ Q
  pr : P ≠ R
  ps : P ≠ S
  qr : Q ≠ R
  qs : Q ≠ S
  rs : R ≠ S
theorem Four.swap (F : Four P Q R S) : Four R S P Q := ⟨F.lr, F.ls, F.lp, F.lq, F.rs, F.pr.symm, F.qr.symm, F.ps.symm, F.qs.symm, F.pq⟩
theorem Four.rev (F : Four P Q R S) : Four Q P R S := ⟨F.lq, F.lp, F.lr, F.ls, F.pq.symm, F.qr, F.qs, F.pr, F.ps, F.rs⟩
theorem Four.col (F : Four P Q R S) (h : sgn (det P Q R) = 0) (h' : sgn (det P Q S) = 0) : sgn (det R S P) = 0 ∧ sgn (det R S Q) = 0 := by
  obtain ⟨N, p, q, r, s, n0, hp, hq, hr, hs⟩ := scale4 F.lp F.lq F.lr F.ls
  rw [det_sgn n0 hp hq hr F.lp F.lq F.lr, sgn_zero] at h
  rw [det_sgn n0 hp hq hs F.lp F.lq F.ls, sgn_zero] at h'
  rw [det_sgn n0 hr hs hp F.lr F.ls F.lp, det_sgn n0 hr hs hq F.lr F.ls F.lq, sgn_zero, sgn_zero]
  have ne : p ≠ q := fun z => F.pq ((eq_iff n0 hp hq F.lp F.lq).mpr z)
  obtain ⟨k, L⟩ := line ne
  have w : k q - k p ≠ 0 := by have := L.ne; omega
  have e1 := L.crs r p s h (on_p p q)
  have e2 := L.crs r q s h (on_q p q)
  rw [h', Int.mul_zero] at e1 e2
  exact ⟨mul0 (by rw [Int.mul_comm]; exact e1) w, mul0 (by rw [Int.mul_comm]; exact e2) w⟩
/-- one end on the other's line, the other one beside it -/
theorem Four.tip (F : Four P Q R S) (h : sgn (det P Q R) = 0) (h' : sgn (det P Q S) ≠ 0) : sgn (det R S P) ≠ 0 ∧ sgn (det R S Q) ≠ 0 ∧ (withinP R P Q = true ↔ sgn (det R S P) * sgn (det R S Q) < 0) := by
  obtain ⟨N, p, q, r, s, n0, hp, hq, hr, hs⟩ := scale4 F.lp F.lq F.lr F.ls
  rw [det_sgn n0 hp hq hr F.lp F.lq F.lr, sgn_zero] at h
  rw [det_sgn n0 hp hq hs F.lp F.lq F.ls, Ne, sgn_zero] at h'
  rw [det_sgn n0 hr hs hp F.lr F.ls F.lp, det_sgn n0 hr hs hq F.lr F.ls F.lq, sgn_mul_neg, Ne, sgn_zero, Ne, sgn_zero, within_iff n0 hp hq hr F.lp F.lq F.lr]
  exact touch (fun z => F.pq ((eq_iff n0 hp hq F.lp F.lq).mpr z)) (fun z => F.pr ((eq_iff n0 hp hr F.lp F.lr).mpr z.symm)) (fun z => F.qr ((eq_iff n0 hq hr F.lq F.lr).mpr z.symm)) h h'
theorem Four.tip2 (F : Four P Q R S) (h : sgn (det P Q S) = 0) (h' : sgn (det P Q R) ≠ 0) : sgn (det R S P) ≠ 0 ∧ sgn (det R S Q) ≠ 0 ∧ (withinP S P Q = true ↔ sgn (det R S P) * sgn (det R S Q) < 0) := by
  have F' : Four P Q S R := ⟨F.lp, F.lq, F.ls, F.lr, F.pq, F.ps, F.pr, F.qs, F.qr, F.rs.symm⟩
  have t := F'.tip h h'
  rw [det_swap R S P, det_swap R S Q, sgn_neg, sgn_neg] at t
  refine ⟨fun z => t.1 (by omega), fun z => t.2.1 (by omega), t.2.2.trans ?_⟩
  rw [Int.neg_mul_neg]
theorem within_on (lp : Lw P) (lq : Lw Q) (lr : Lw R) (h : sgn (det P Q R) ≠ 0) : withinP R P Q = false := by
  cases e : withinP R P Q with
  | false => rfl
  | true =>
    exfalso
    unfold withinP at e
    simp only [Bool.and_eq_true, decide_eq_true_eq] at e
    unfold firP lasP at e
    by_cases c : aheadP P Q = true
    · simp only [c, if_true] at e
      exact h e.1
    · simp only [c, if_false, Bool.false_eq_true] at e
      rw [det_swap, sgn_neg] at e
      exact h (by omega)
theorem over_on (h : ¬ (sgn (det P Q R) = 0 ∧ sgn (det P Q S) = 0)) : overP P Q R S = false := by
  unfold overP
  rw [decide_eq_false h]
  rfl
theorem Four.allOn (F : Four P Q R S) (h : sgn (det P Q R) = 0) (h' : sgn (det P Q S) = 0) : lapP P Q R S = overP P Q R S ∧ (overP P Q R S = false → withinP R P Q = false ∧ withinP S P Q = false ∧ withinP P R S = false ∧ withinP Q R S = false) := by
  obtain ⟨N, p, q, r, s, n0, hp, hq, hr, hs⟩ := scale4 F.lp F.lq F.lr F.ls
  rw [det_sgn n0 hp hq hr F.lp F.lq F.lr, sgn_zero] at h
  rw [det_sgn n0 hp hq hs F.lp F.lq F.ls, sgn_zero] at h'
  obtain ⟨a, b⟩ := all_line (fun z => F.pq ((eq_iff n0 hp hq F.lp F.lq).mpr z)) (fun z => F.pr ((eq_iff n0 hp hr F.lp F.lr).mpr z)) (fun z => F.ps ((eq_iff n0 hp hs F.lp F.ls).mpr z))
    (fun z => F.qr ((eq_iff n0 hq hr F.lq F.lr).mpr z)) (fun z => F.qs ((eq_iff n0 hq hs F.lq F.ls).mpr z)) (fun z => F.rs ((eq_iff n0 hr hs F.lr F.ls).mpr z)) h h'
  have o := over_iff n0 hp hq hr hs F.lp F.lq F.lr F.ls
  constructor
  · rw [Bool.eq_iff_iff, o, ← a]
    unfold lapP lap
    rw [btw_iff n0 hr hs hp F.lr F.ls F.lp, btw_iff n0 hr hs hq F.lr F.ls F.lq, btw_iff n0 hp hq hr F.lp F.lq F.lr, btw_iff n0 hp hq hs F.lp F.lq F.ls]
    simp only [Bool.or_eq_true, decide_eq_true_eq]
  · intro z
    obtain ⟨w1, w2, w3, w4⟩ := b (fun y => by rw [o.mpr y] at z; cases z)
    refine ⟨?_, ?_, ?_, ?_⟩ <;> rw [Bool.eq_false_iff, Ne]
    · rw [within_iff n0 hp hq hr F.lp F.lq F.lr]; exact w1
    · rw [within_iff n0 hp hq hs F.lp F.lq F.ls]; exact w2
    · rw [within_iff n0 hr hs hp F.lr F.ls F.lp]; exact w3
    · rw [within_iff n0 hr hs hq F.lr F.ls F.lq]; exact w4
theorem met_due (F : Four P Q R S) : metO P Q R S = dueO P Q R S := by
  unfold metO dueO
  by_cases c : sgn (det P Q R) = 0 ∧ sgn (det P Q S) = 0
  · obtain ⟨a, b⟩ := F.allOn c.1 c.2
    rw [if_pos c, a]
    cases e : overP P Q R S with
    | true => rfl
    | false =>
      obtain ⟨w1, w2, w3, w4⟩ := b e
      rw [w1, w2, w3, w4]
      simp [c.1]
  · rw [if_neg c, over_on c]
    simp only [Bool.false_eq_true, if_false]
    by_cases h0 : sgn (det P Q R) = 0
    · have h1 : sgn (det P Q S) ≠ 0 := fun z => c ⟨h0, z⟩
      obtain ⟨g0, g1, w⟩ := F.tip h0 h1
      rw [within_on F.lp F.lq F.ls h1, within_on F.lr F.ls F.lp g0, within_on F.lr F.ls F.lq g1]
      by_cases x : sgn (det R S P) * sgn (det R S Q) < 0
      · rw [if_neg (by rw [h0]; omega), if_pos h0, if_pos (w.mpr x)]
      · have x' : 0 < sgn (det R S P) * sgn (det R S Q) := by
          have := mt Int.mul_eq_zero.mp (not_or.mpr ⟨g0, g1⟩)
          omega
        rw [if_pos (.inr x'), if_neg (fun z => x (w.mp z))]
        simp [h0]
    · by_cases h1 : sgn (det P Q S) = 0
      · obtain ⟨g0, g1, w⟩ := F.tip2 h1 h0
        rw [within_on F.lp F.lq F.lr h0, within_on F.lr F.ls F.lp g0, within_on F.lr F.ls F.lq g1]
        by_cases x : sgn (det R S P) * sgn (det R S Q) < 0
        · rw [if_neg (by rw [h1]; omega), if_neg h0, if_pos h1, if_neg Bool.false_ne_true, if_pos (w.mpr x)]
        · have x' : 0 < sgn (det R S P) * sgn (det R S Q) := by
            have := mt Int.mul_eq_zero.mp (not_or.mpr ⟨g0, g1⟩)
            omega
          rw [if_pos (.inr x'), if_neg Bool.false_ne_true, if_neg (fun z => x (w.mp z))]
          simp [h1]
      · rw [within_on F.lp F.lq F.lr h0, within_on F.lp F.lq F.ls h1]
        have nz := mt Int.mul_eq_zero.mp (not_or.mpr ⟨h0, h1⟩)
        have Fs := F.swap
        by_cases g0 : sgn (det R S P) = 0
        · have g1 : sgn (det R S Q) ≠ 0 := fun z => h0 (Fs.col g0 z).1
          obtain ⟨_, _, w⟩ := Fs.tip g0 g1
          rw [within_on F.lr F.ls F.lq g1]
          by_cases x : sgn (det P Q R) * sgn (det P Q S) < 0
          · rw [if_neg (by rw [g0]; omega), if_neg h0, if_neg h1, if_pos g0, if_pos (w.mpr x)]
            simp
          · rw [if_pos (.inl (by omega)), if_neg (fun z => x (w.mp z))]
            simp [x]
        · by_cases g1 : sgn (det R S Q) = 0
          · obtain ⟨_, _, w⟩ := Fs.tip2 g1 g0
            rw [within_on F.lr F.ls F.lp g0]
            by_cases x : sgn (det P Q R) * sgn (det P Q S) < 0
            · rw [if_neg (by rw [g1]; omega), if_neg h0, if_neg h1, if_neg g0, if_pos g1, if_pos (w.mpr x)]
              simp
            · rw [if_pos (.inl (by omega)), if_neg (fun z => x (w.mp z))]
              simp [x]
          · have nz2 := mt Int.mul_eq_zero.mp (not_or.mpr ⟨g0, g1⟩)
            rw [within_on F.lr F.ls F.lp g0, within_on F.lr F.ls F.lq g1]
            by_cases x : 0 < sgn (det P Q R) * sgn (det P Q S) ∨ 0 < sgn (det R S P) * sgn (det R S Q)
            · rw [if_pos x]
              simp
              omega
            · rw [if_neg x, if_neg h0, if_neg h1, if_neg g0, if_neg g1]
              simp
              omega
end
end Geo
set_option Elab.async false
set_option linter.all false
namespace Geo
open Mth
section
variable {P Q R S : Pt}
theorem lap_swap : lapP R S P Q = lapP P Q R S := by
  unfold lapP
  generalize btwP P R S = a
  generalize btwP Q R S = b
  generalize btwP R P Q = c
  generalize btwP S P Q = d
  cases a <;> cases b <;> cases c <;> cases d <;> rfl
theorem btw_swap : btwP R P Q = btwP R Q P := by
  unfold btwP
  congr 2
  unfold btwT
  grind
theorem lap_rev : lapP Q P R S = lapP P Q R S := by
  unfold lapP
  rw [btw_swap (R := R) (P := Q) (Q := P), btw_swap (R := S) (P := Q) (Q := P)]
  generalize btwP P R S = a
  generalize btwP Q R S = b
  generalize btwP R P Q = c
  generalize btwP S P Q = d
  cases a <;> cases b <;> cases c <;> cases d <;> rfl
theorem met_swap (F : Four P Q R S) : metO R S P Q = metO P Q R S := by
  unfold metO
  rw [lap_swap]
  by_cases c : sgn (det P Q R) = 0 ∧ sgn (det P Q S) = 0
  · rw [if_pos c, if_pos (F.col c.1 c.2)]
  · have c' : ¬ (sgn (det R S P) = 0 ∧ sgn (det R S Q) = 0) := fun z => c (F.swap.col z.1 z.2)
    rw [if_neg c, if_neg c']
    by_cases x : 0 < sgn (det P Q R) * sgn (det P Q S) ∨ 0 < sgn (det R S P) * sgn (det R S Q)
    · rw [if_pos x, if_pos x.symm]
    · rw [if_neg x, if_neg fun z => x z.symm]
      by_cases h0 : sgn (det P Q R) = 0
      · obtain ⟨g0, g1, _⟩ := F.tip h0 fun z => c ⟨h0, z⟩
        rw [if_neg g0, if_neg g1, if_pos h0, if_pos h0]
      · by_cases h1 : sgn (det P Q S) = 0
        · obtain ⟨g0, g1, _⟩ := F.tip2 h1 h0
          rw [if_neg g0, if_neg g1, if_neg h0, if_pos h1, if_neg h0, if_pos h1]
        · rw [if_neg h0, if_neg h1, if_neg h0, if_neg h1]
theorem met_rev (F : Four P Q R S) : metO Q P R S = metO P Q R S := by
  unfold metO
  rw [lap_rev, det_swap P Q R, det_swap P Q S, sgn_neg, sgn_neg, Int.neg_mul_neg, Int.mul_comm (sgn (det R S Q))]
  simp only [Int.neg_eq_zero]
  by_cases c : sgn (det P Q R) = 0 ∧ sgn (det P Q S) = 0
  · rw [if_pos c, if_pos c]
  · rw [if_neg c, if_neg c]
    have c' : ¬ (sgn (det R S P) = 0 ∧ sgn (det R S Q) = 0) := fun z => c (F.swap.col z.1 z.2)
    by_cases g0 : sgn (det R S P) = 0
    · have g1 : sgn (det R S Q) ≠ 0 := fun z => c' ⟨g0, z⟩
      simp [g0, g1]
    · by_cases g1 : sgn (det R S Q) = 0
      · simp [g0, g1]
      · simp [g0, g1]
/-- the crossing's three numbers -/
def c3 (P : Pt) : Int × Int × Int := (P.n * P.e, P.m * P.d, P.d * P.e)
def cr (u v : Int × Int × Int) : Int × Int × Int := (u.2.1 * v.2.2 - u.2.2 * v.2.1, u.2.2 * v.1 - u.1 * v.2.2, u.1 * v.2.1 - u.2.1 * v.1)
def xyz (P Q R S : Pt) : Int × Int × Int := cr (cr (c3 P) (c3 Q)) (cr (c3 R) (c3 S))
structure CrP (P Q R S X : Pt) : Prop where
  x : Fr (xyz P Q R S).1 (xyz P Q R S).2.2 X.n X.d
  y : Fr (xyz P Q R S).2.1 (xyz P Q R S).2.2 X.m X.e
theorem CrP.lw {X : Pt} (h : CrP P Q R S X) : Lw X := ⟨h.x.pos, h.y.pos, h.x.co, h.y.co⟩
theorem xyz_swap : xyz R S P Q = (-(xyz P Q R S).1, -(xyz P Q R S).2.1, -(xyz P Q R S).2.2) := by
  unfold xyz
  generalize cr (c3 P) (c3 Q) = u
  generalize cr (c3 R) (c3 S) = v
  obtain ⟨u1, u2, u3⟩ := u
  obtain ⟨v1, v2, v3⟩ := v
  simp only [cr, Prod.mk.injEq]
  refine ⟨?_, ?_, ?_⟩ <;> grind
theorem xyz_rev : xyz Q P R S = (-(xyz P Q R S).1, -(xyz P Q R S).2.1, -(xyz P Q R S).2.2) := by
  have e : cr (c3 Q) (c3 P) = (-(cr (c3 P) (c3 Q)).1, -(cr (c3 P) (c3 Q)).2.1, -(cr (c3 P) (c3 Q)).2.2) := by
    generalize c3 P = u
    generalize c3 Q = v
    obtain ⟨u1, u2, u3⟩ := u
    obtain ⟨v1, v2, v3⟩ := v
    simp only [cr, Prod.mk.injEq]
    refine ⟨?_, ?_, ?_⟩ <;> grind
  unfold xyz
  rw [e]
  generalize cr (c3 P) (c3 Q) = u
  generalize cr (c3 R) (c3 S) = v
  obtain ⟨u1, u2, u3⟩ := u
  obtain ⟨v1, v2, v3⟩ := v
  simp only [cr, Prod.mk.injEq]
  refine ⟨?_, ?_, ?_⟩ <;> grind
theorem fr_same {n d n1 d1 n2 d2 : Int} (hd : d ≠ 0) (h1 : Fr n d n1 d1) (h2 : Fr n d n2 d2 ∨ Fr (-n) (-d) n2 d2) : n1 = n2 ∧ d1 = d2 := by
  have e1 := h1.eq
  have p2 : 0 < d2 ∧ Int.gcd n2 d2 = 1 ∧ n2 * d = n * d2 := by
    rcases h2 with h2 | h2
    · exact ⟨h2.pos, h2.co, h2.eq⟩
    · have := h2.eq
      rw [Int.mul_neg, Int.neg_mul] at this
      exact ⟨h2.pos, h2.co, by omega⟩
  refine low_unique h1.pos p2.1 h1.co p2.2.1 ?_
  have : d * (n1 * d2) = d * (n2 * d1) := by
    have e2 := p2.2.2
    grind
  exact Int.eq_of_mul_eq_mul_left hd this
theorem CrP.same {X Y : Pt} (hz : (xyz P Q R S).2.2 ≠ 0) (h : CrP P Q R S X) {P' Q' R' S' : Pt} (e : xyz P' Q' R' S' = xyz P Q R S ∨ xyz P' Q' R' S' = (-(xyz P Q R S).1, -(xyz P Q R S).2.1, -(xyz P Q R S).2.2)) (h' : CrP P' Q' R' S' Y) : X = Y := by
  obtain ⟨x1, y1⟩ := h
  obtain ⟨x2, y2⟩ := h'
  have a : X.n = Y.n ∧ X.d = Y.d := by
    refine fr_same hz x1 ?_
    rcases e with e | e
    · rw [e] at x2; exact .inl x2
    · rw [e] at x2; exact .inr x2
  have b : X.m = Y.m ∧ X.e = Y.e := by
    refine fr_same hz y1 ?_
    rcases e with e | e
    · rw [e] at y2; exact .inl y2
    · rw [e] at y2; exact .inr y2
  cases X; cases Y
  simp_all
theorem cr_scale {N k l A1 A2 A3 B1 B2 B3 a1 a2 b1 b2 : Int} (x1 : N * A1 = k * a1) (x2 : N * A2 = k * a2) (x3 : N * A3 = k * N) (y1 : N * B1 = l * b1) (y2 : N * B2 = l * b2) (y3 : N * B3 = l * N) :
    N * N * (A2 * B3 - A3 * B2) = k * l * N * (a2 - b2) ∧ N * N * (A3 * B1 - A1 * B3) = k * l * N * (b1 - a1) ∧ N * N * (A1 * B2 - A2 * B1) = k * l * (a1 * b2 - a2 * b1) := by
  refine ⟨?_, ?_, ?_⟩
  · have : N * N * (A2 * B3 - A3 * B2) = (N * A2) * (N * B3) - (N * A3) * (N * B2) := by grind
    rw [this, x2, x3, y2, y3]; grind
  · have : N * N * (A3 * B1 - A1 * B3) = (N * A3) * (N * B1) - (N * A1) * (N * B3) := by grind
    rw [this, x1, x3, y1, y3]; grind
  · have : N * N * (A1 * B2 - A2 * B1) = (N * A1) * (N * B2) - (N * A2) * (N * B1) := by grind
    rw [this, x1, x2, y1, y2]; grind
theorem cr_cr {M u1 u2 u3 v1 v2 v3 U1 U2 U3 V1 V2 V3 : Int} (a1 : M * u1 = U1) (a2 : M * u2 = U2) (a3 : M * u3 = U3) (b1 : M * v1 = V1) (b2 : M * v2 = V2) (b3 : M * v3 = V3) :
    M * M * (u2 * v3 - u3 * v2) = U2 * V3 - U3 * V2 ∧ M * M * (u3 * v1 - u1 * v3) = U3 * V1 - U1 * V3 ∧ M * M * (u1 * v2 - u2 * v1) = U1 * V2 - U2 * V1 := by
  subst a1 a2 a3 b1 b2 b3
  refine ⟨?_, ?_, ?_⟩ <;> grind
/-- the crossing of two that cross -/
theorem Four.crossing (F : Four P Q R S) (h : metO P Q R S = .cross) : (xyz P Q R S).2.2 ≠ 0 ∧ ∀ X, CrP P Q R S X → withinP X P Q = true ∧ withinP X R S = true := by
  obtain ⟨N, p, q, r, s, n0, hp, hq, hr, hs⟩ := scale4 F.lp F.lq F.lr F.ls
  have sg : sgn (det P Q R) * sgn (det P Q S) < 0 ∧ sgn (det R S P) * sgn (det R S Q) < 0 := by
    rw [met_due F] at h
    unfold dueO at h
    by_cases c : sgn (det P Q R) * sgn (det P Q S) < 0 ∧ sgn (det R S P) * sgn (det R S Q) < 0
    · exact c
    · rw [if_neg c] at h
      exfalso
      revert h
      split
      · simp
      · split
        · simp
        · split
          · simp
          · split
            · simp
            · split <;> simp
  rw [det_sgn n0 hp hq hr F.lp F.lq F.lr, det_sgn n0 hp hq hs F.lp F.lq F.ls, det_sgn n0 hr hs hp F.lr F.ls F.lp, det_sgn n0 hr hs hq F.lr F.ls F.lq, sgn_mul_neg, sgn_mul_neg] at sg
  obtain ⟨t0, w1, w2⟩ := cross_wth (fun z => F.pq ((eq_iff n0 hp hq F.lp F.lq).mpr z)) (fun z => F.rs ((eq_iff n0 hr hs F.lr F.ls).mpr z)) sg.1 sg.2
  -- the three numbers in the scale
  have one : ∀ {A : Pt} {a : Z2}, Sc N A a → ∃ k, k = A.d * A.e ∧ N * (A.n * A.e) = k * a.x ∧ N * (A.m * A.d) = k * a.y ∧ N * (A.d * A.e) = k * N := fun {A a} ha => by
    obtain ⟨x, y⟩ := ha
    exact ⟨_, rfl, by grind, by grind, by grind⟩
  obtain ⟨kp, ep, p1, p2, p3⟩ := one hp
  obtain ⟨kq, eq, q1, q2, q3⟩ := one hq
  obtain ⟨kr, er, r1, r2, r3⟩ := one hr
  obtain ⟨ks, es, s1, s2, s3⟩ := one hs
  obtain ⟨u1, u2, u3⟩ := cr_scale p1 p2 p3 q1 q2 q3
  obtain ⟨v1, v2, v3⟩ := cr_scale r1 r2 r3 s1 s2 s3
  obtain ⟨X1, X2, X3⟩ := cr_cr u1 u2 u3 v1 v2 v3
  have fx : (xyz P Q R S).1 = (P.d * P.e * (Q.n * Q.e) - P.n * P.e * (Q.d * Q.e)) * (R.n * R.e * (S.m * S.d) - R.m * R.d * (S.n * S.e)) - (P.n * P.e * (Q.m * Q.d) - P.m * P.d * (Q.n * Q.e)) * (R.d * R.e * (S.n * S.e) - R.n * R.e * (S.d * S.e)) := rfl
  have fy : (xyz P Q R S).2.1 = (P.n * P.e * (Q.m * Q.d) - P.m * P.d * (Q.n * Q.e)) * (R.m * R.d * (S.d * S.e) - R.d * R.e * (S.m * S.d)) - (P.m * P.d * (Q.d * Q.e) - P.d * P.e * (Q.m * Q.d)) * (R.n * R.e * (S.m * S.d) - R.m * R.d * (S.n * S.e)) := rfl
  have fz : (xyz P Q R S).2.2 = (P.m * P.d * (Q.d * Q.e) - P.d * P.e * (Q.m * Q.d)) * (R.d * R.e * (S.n * S.e) - R.n * R.e * (S.d * S.e)) - (P.d * P.e * (Q.n * Q.e) - P.n * P.e * (Q.d * Q.e)) * (R.m * R.d * (S.d * S.e) - R.d * R.e * (S.m * S.d)) := rfl
  rw [← fx] at X1
  rw [← fy] at X2
  rw [← fz] at X3
  clear fx fy fz u1 u2 u3 v1 v2 v3 p1 p2 p3 q1 q2 q3 r1 r2 r3 s1 s2 s3
  have kp0 : 0 < kp := by rw [ep]; exact Int.mul_pos F.lp.d F.lp.e
  have kq0 : 0 < kq := by rw [eq]; exact Int.mul_pos F.lq.d F.lq.e
  have kr0 : 0 < kr := by rw [er]; exact Int.mul_pos F.lr.d F.lr.e
  have ks0 : 0 < ks := by rw [es]; exact Int.mul_pos F.ls.d F.ls.e
  have K0 : 0 < kp * kq * (kr * ks) := Int.mul_pos (Int.mul_pos kp0 kq0) (Int.mul_pos kr0 ks0)
  have ix : (q.x - p.x) * (r.x * s.y - r.y * s.x) - (p.x * q.y - p.y * q.x) * (s.x - r.x) = O p q s * r.x - O p q r * s.x := by unfold O; grind
  have iy : (p.x * q.y - p.y * q.x) * (r.y - s.y) - (p.y - q.y) * (r.x * s.y - r.y * s.x) = O p q s * r.y - O p q r * s.y := by unfold O; grind
  have iz : (p.y - q.y) * (s.x - r.x) - (q.x - p.x) * (r.y - s.y) = O p q s - O p q r := by unfold O; grind
  have Y1 : N * N * (N * N) * (xyz P Q R S).1 = kp * kq * (kr * ks) * N * (O p q s * r.x - O p q r * s.x) := by rw [X1, ← ix]; grind
  have Y2 : N * N * (N * N) * (xyz P Q R S).2.1 = kp * kq * (kr * ks) * N * (O p q s * r.y - O p q r * s.y) := by rw [X2, ← iy]; grind
  have Y3 : N * N * (N * N) * (xyz P Q R S).2.2 = kp * kq * (kr * ks) * N * (N * (O p q s - O p q r)) := by rw [X3, ← iz]; grind
  clear X1 X2 X3 ix iy iz
  have tt : ∃ ε : Int, crT p q r s = ε * (O p q s - O p q r) ∧ (crs p q r s).x = ε * (O p q s * r.x - O p q r * s.x) ∧ (crs p q r s).y = ε * (O p q s * r.y - O p q r * s.y) := by
    unfold crT crs
    by_cases c : 0 < O p q s
    · exact ⟨1, by simp [c], by simp [c], by simp [c]⟩
    · refine ⟨-1, by rw [if_neg c]; omega, ?_, ?_⟩
      · rw [if_neg c]; show -(O p q s * r.x - O p q r * s.x) = _; omega
      · rw [if_neg c]; show -(O p q s * r.y - O p q r * s.y) = _; omega
  obtain ⟨ε, t1, t2, t3⟩ := tt
  have d0 : O p q s - O p q r ≠ 0 := fun z => by rw [z, Int.mul_zero] at t1; omega
  generalize O p q s - O p q r = D at *
  generalize O p q s * r.x - O p q r * s.x = A at *
  generalize O p q s * r.y - O p q r * s.y = B at *
  generalize kp * kq * (kr * ks) = K at *
  generalize crT p q r s = T at *
  have N4 : 0 < N * N * (N * N) := Int.mul_pos (Int.mul_pos n0 n0) (Int.mul_pos n0 n0)
  have z0 : (xyz P Q R S).2.2 ≠ 0 := fun z => by
    rw [z, Int.mul_zero] at Y3
    rcases Int.mul_eq_zero.mp Y3.symm with y | y
    · rcases Int.mul_eq_zero.mp y with y | y <;> omega
    · rcases Int.mul_eq_zero.mp y with y | y
      · omega
      · exact d0 y
  refine ⟨z0, fun X hX => ?_⟩
  have lx := hX.lw
  have sc : Sc (N * T) X (crs p q r s) := by
    have gen : ∀ {f g n' d' : Int}, N * N * (N * N) * f = K * N * g → Fr f (xyz P Q R S).2.2 n' d' → n' * (N * T) = ε * g * d' := fun {f g n' d'} hf hF => by
      have e := hF.eq
      generalize (xyz P Q R S).2.2 = z at *
      have m1 : N * N * (N * N) * (f * (N * D)) = N * N * (N * N) * (g * z) := by
        have : N * N * (N * N) * (f * (N * D)) = (N * N * (N * N) * f) * (N * D) := by grind
        rw [this, hf]
        have : N * N * (N * N) * (g * z) = g * (N * N * (N * N) * z) := by grind
        rw [this, Y3]
        grind
      have m2 := Int.eq_of_mul_eq_mul_left (by omega) m1
      have m3 : z * (n' * (N * D)) = z * (g * d') := by
        have : z * (n' * (N * D)) = (n' * z) * (N * D) := by grind
        rw [this, e]
        have : f * d' * (N * D) = (f * (N * D)) * d' := by grind
        rw [this, m2]
        grind
      have m4 := Int.eq_of_mul_eq_mul_left z0 m3
      rw [t1]
      have : n' * (N * (ε * D)) = ε * (n' * (N * D)) := by grind
      rw [this, m4]
      grind
    exact ⟨by rw [t2]; exact gen Y1 hX.x, by rw [t3]; exact gen Y2 hX.y⟩
  have nt : 0 < N * T := Int.mul_pos n0 t0
  exact ⟨(within_iff nt (hp.mul T) (hq.mul T) sc F.lp F.lq lx).mpr w1, (within_iff nt (hr.mul T) (hs.mul T) sc F.lr F.ls lx).mpr w2⟩
end
end Geo
set_option Elab.async false
set_option linter.all false
set_option maxRecDepth 100000
set_option maxHeartbeats 4000000
namespace Prf
open PySem L2 Own Mth Geo
def top (i : Nat) : Stmt := PySem.Challenge.pw_restdraw_k42_two_ties.main.body.getD i (.Pass ⟨0, 0, 0, 0⟩)
abbrev s_greatest_divisor : Stmt := top 1
theorem sc_greatest_divisor : FnScope ["one", "other"] ["one", "other"] (defScope s_greatest_divisor) := ⟨rfl, rfl, rfl, by decide +kernel, rfl, by decide +kernel, by decide +kernel⟩
abbrev s_fraction : Stmt := top 2
theorem sc_fraction : FnScope ["n", "d", "divisor"] ["n", "d"] (defScope s_fraction) := ⟨rfl, rfl, rfl, by decide +kernel, rfl, by decide +kernel, by decide +kernel⟩
abbrev s_plus : Stmt := top 3
theorem sc_plus : FnScope ["one", "other"] ["one", "other"] (defScope s_plus) := ⟨rfl, rfl, rfl, by decide +kernel, rfl, by decide +kernel, by decide +kernel⟩
abbrev s_less : Stmt := top 4
theorem sc_less : FnScope ["one", "other"] ["one", "other"] (defScope s_less) := ⟨rfl, rfl, rfl, by decide +kernel, rfl, by decide +kernel, by decide +kernel⟩
abbrev s_times : Stmt := top 5
theorem sc_times : FnScope ["one", "other"] ["one", "other"] (defScope s_times) := ⟨rfl, rfl, rfl, by decide +kernel, rfl, by decide +kernel, by decide +kernel⟩
abbrev s_sign : Stmt := top 6
theorem sc_sign : FnScope ["one"] ["one"] (defScope s_sign) := ⟨rfl, rfl, rfl, by decide +kernel, rfl, by decide +kernel, by decide +kernel⟩
abbrev s_spread : Stmt := top 8
theorem sc_spread : FnScope ["point", "n", "d", "m", "e"] ["point"] (defScope s_spread) := ⟨rfl, rfl, rfl, by decide +kernel, rfl, by decide +kernel, by decide +kernel⟩
abbrev s_across : Stmt := top 9
theorem sc_across : FnScope ["one", "other", "a", "b", "c", "k", "m", "n"] ["one", "other"] (defScope s_across) := ⟨rfl, rfl, rfl, by decide +kernel, rfl, by decide +kernel, by decide +kernel⟩
abbrev s_hand : Stmt := top 10
theorem sc_hand : FnScope ["p", "q", "r", "a", "b", "c", "x", "y", "z"] ["p", "q", "r"] (defScope s_hand) := ⟨rfl, rfl, rfl, by decide +kernel, rfl, by decide +kernel, by decide +kernel⟩
abbrev s_hands : Stmt := top 11
theorem sc_hands : FnScope ["one", "other"] ["one", "other"] (defScope s_hands) := ⟨rfl, rfl, rfl, by decide +kernel, rfl, by decide +kernel, by decide +kernel⟩
abbrev s_lies_between : Stmt := top 12
theorem sc_lies_between : FnScope ["point", "one", "x", "y", "start", "end", "wide", "high"] ["point", "one"] (defScope s_lies_between) := ⟨rfl, rfl, rfl, by decide +kernel, rfl, by decide +kernel, by decide +kernel⟩
abbrev s_overlap : Stmt := top 13
theorem sc_overlap : FnScope ["one", "other"] ["one", "other"] (defScope s_overlap) := ⟨rfl, rfl, rfl, by decide +kernel, rfl, by decide +kernel, by decide +kernel⟩
abbrev s_crossing : Stmt := top 14
theorem sc_crossing : FnScope ["one", "other", "first", "second", "x", "y", "z"] ["one", "other"] (defScope s_crossing) := ⟨rfl, rfl, rfl, by decide +kernel, rfl, by decide +kernel, by decide +kernel⟩
abbrev s_met : Stmt := top 15
theorem sc_met : FnScope ["one", "other", "here", "there"] ["one", "other"] (defScope s_met) := ⟨rfl, rfl, rfl, by decide +kernel, rfl, by decide +kernel, by decide +kernel⟩
abbrev s_law_pot : Stmt := top 17
theorem sc_law_pot : FnScope ["_law_script", "_law_k", "_law_cell"] ["_law_script", "_law_k"] (defScope s_law_pot) := ⟨rfl, rfl, rfl, by decide +kernel, rfl, by decide +kernel, by decide +kernel⟩
abbrev s_law_digit : Stmt := top 18
theorem sc_law_digit : FnScope ["_law_pot_here", "_law_many", "_law_digit_here"] ["_law_pot_here", "_law_many"] (defScope s_law_digit) := ⟨rfl, rfl, rfl, by decide +kernel, rfl, by decide +kernel, by decide +kernel⟩
abbrev s_law_low : Stmt := top 19
theorem sc_law_low : FnScope ["_law_n", "_law_d", "_law_one", "_law_other"] ["_law_n", "_law_d"] (defScope s_law_low) := ⟨rfl, rfl, rfl, by decide +kernel, rfl, by decide +kernel, by decide +kernel⟩
abbrev s_law_plus : Stmt := top 20
theorem sc_law_plus : FnScope ["_law_one", "_law_other"] ["_law_one", "_law_other"] (defScope s_law_plus) := ⟨rfl, rfl, rfl, by decide +kernel, rfl, by decide +kernel, by decide +kernel⟩
abbrev s_law_less : Stmt := top 21
theorem sc_law_less : FnScope ["_law_one", "_law_other"] ["_law_one", "_law_other"] (defScope s_law_less) := ⟨rfl, rfl, rfl, by decide +kernel, rfl, by decide +kernel, by decide +kernel⟩
abbrev s_law_times : Stmt := top 22
theorem sc_law_times : FnScope ["_law_one", "_law_other"] ["_law_one", "_law_other"] (defScope s_law_times) := ⟨rfl, rfl, rfl, by decide +kernel, rfl, by decide +kernel, by decide +kernel⟩
abbrev s_law_sign : Stmt := top 23
theorem sc_law_sign : FnScope ["_law_one"] ["_law_one"] (defScope s_law_sign) := ⟨rfl, rfl, rfl, by decide +kernel, rfl, by decide +kernel, by decide +kernel⟩
abbrev s_law_number : Stmt := top 24
theorem sc_law_number : FnScope ["_law_pot_here", "_law_mode", "_law_far"] ["_law_pot_here", "_law_mode"] (defScope s_law_number) := ⟨rfl, rfl, rfl, by decide +kernel, rfl, by decide +kernel, by decide +kernel⟩
abbrev s_law_between : Stmt := top 25
theorem sc_law_between : FnScope ["_law_one", "_law_other", "_law_part"] ["_law_one", "_law_other", "_law_part"] (defScope s_law_between) := ⟨rfl, rfl, rfl, by decide +kernel, rfl, by decide +kernel, by decide +kernel⟩
abbrev s_law_point : Stmt := top 26
theorem sc_law_point : FnScope ["_law_pot_here", "_law_points_here", "_law_mode", "_law_p", "_law_q", "_law_part"] ["_law_pot_here", "_law_points_here", "_law_mode"] (defScope s_law_point) := ⟨rfl, rfl, rfl, by decide +kernel, rfl, by decide +kernel, by decide +kernel⟩
abbrev s_law_points : Stmt := top 27
theorem sc_law_points : FnScope ["_law_pot_here", "_law_many", "_law_mode", "_law_found", "_law_k", "_law_point_here"] ["_law_pot_here", "_law_many"] (defScope s_law_points) := ⟨rfl, rfl, rfl, by decide +kernel, rfl, by decide +kernel, by decide +kernel⟩
abbrev s_law_apart : Stmt := top 28
theorem sc_law_apart : FnScope ["_law_one", "_law_other"] ["_law_one", "_law_other"] (defScope s_law_apart) := ⟨rfl, rfl, rfl, by decide +kernel, rfl, by decide +kernel, by decide +kernel⟩
abbrev s_law_hand : Stmt := top 29
theorem sc_law_hand : FnScope ["_law_p", "_law_q", "_law_r", "_law_a", "_law_b", "_law_c", "_law_d"] ["_law_p", "_law_q", "_law_r"] (defScope s_law_hand) := ⟨rfl, rfl, rfl, by decide +kernel, rfl, by decide +kernel, by decide +kernel⟩
abbrev s_law_is_ahead : Stmt := top 30
theorem sc_law_is_ahead : FnScope ["_law_p", "_law_q"] ["_law_p", "_law_q"] (defScope s_law_is_ahead) := ⟨rfl, rfl, rfl, by decide +kernel, rfl, by decide +kernel, by decide +kernel⟩
abbrev s_law_first : Stmt := top 31
theorem sc_law_first : FnScope ["_law_p", "_law_q"] ["_law_p", "_law_q"] (defScope s_law_first) := ⟨rfl, rfl, rfl, by decide +kernel, rfl, by decide +kernel, by decide +kernel⟩
abbrev s_law_last : Stmt := top 32
theorem sc_law_last : FnScope ["_law_p", "_law_q"] ["_law_p", "_law_q"] (defScope s_law_last) := ⟨rfl, rfl, rfl, by decide +kernel, rfl, by decide +kernel, by decide +kernel⟩
abbrev s_law_is_within : Stmt := top 33
theorem sc_law_is_within : FnScope ["_law_r", "_law_tie", "_law_low_here", "_law_high"] ["_law_r", "_law_tie"] (defScope s_law_is_within) := ⟨rfl, rfl, rfl, by decide +kernel, rfl, by decide +kernel, by decide +kernel⟩
abbrev s_law_are_over : Stmt := top 34
theorem sc_law_are_over : FnScope ["_law_one", "_law_other", "_law_low_here"] ["_law_one", "_law_other"] (defScope s_law_are_over) := ⟨rfl, rfl, rfl, by decide +kernel, rfl, by decide +kernel, by decide +kernel⟩
abbrev s_law_are_crossed : Stmt := top 35
theorem sc_law_are_crossed : FnScope ["_law_one", "_law_other"] ["_law_one", "_law_other"] (defScope s_law_are_crossed) := ⟨rfl, rfl, rfl, by decide +kernel, rfl, by decide +kernel, by decide +kernel⟩
abbrev s_law_due : Stmt := top 36
theorem sc_law_due : FnScope ["_law_one", "_law_other", "_law_ends"] ["_law_one", "_law_other"] (defScope s_law_due) := ⟨rfl, rfl, rfl, by decide +kernel, rfl, by decide +kernel, by decide +kernel⟩
abbrev s_law_is_fraction : Stmt := top 37
theorem sc_law_is_fraction : FnScope ["_law_one"] ["_law_one"] (defScope s_law_is_fraction) := ⟨rfl, rfl, rfl, by decide +kernel, rfl, by decide +kernel, by decide +kernel⟩
abbrev s_law_right : Stmt := top 38
theorem sc_law_right : FnScope ["_law_one", "_law_other", "_law_due_here", "_law_found"] ["_law_one", "_law_other", "_law_due_here", "_law_found"] (defScope s_law_right) := ⟨rfl, rfl, rfl, by decide +kernel, rfl, by decide +kernel, by decide +kernel⟩
abbrev s_law : Stmt := top 39
theorem sc_law : FnScope ["_law_script", "_law_k", "_law_points_here", "_law_one", "_law_other", "_law_due_here", "_law_found", "_law_again"] ["_law_script"] (defScope s_law) := ⟨rfl, rfl, rfl, by decide +kernel, rfl, by decide +kernel, by decide +kernel⟩
theorem same_new {H : Hp} {p : Addr} (h : H p = none) (o : HO) : Same H (upd H p o) := fun b u q => by rw [upd_ne (ne_of_none q h)]; exact q
def SameBut (a : Addr) (H H' : Hp) : Prop := ∀ b o, b ≠ a → H b = some o → H' b = some o
theorem abs_eq (i : Int) : (if i < 0 then -i else i) = (i.natAbs : Int) := by split <;> omega
def Gets (n d : Int) (H : Hp) (Q : VK) : Prop := ∀ (n' d' : Int) (p : Addr) (H' : Hp), Fr n d n' d' → Same H H' → H' p = some (.tup [.int n', .int d']) → Q (.ref p) H'
def spFr : Sp := fun vs H Q _ => ∃ n d : Int, vs = [.int n, .int d] ∧ d ≠ 0 ∧ d.natAbs < 2 ^ 9000 ∧ Gets n d H Q
def spBin (top bot : Int → Int → Int → Int → Int) : Sp := fun vs H Q _ => ∃ (a b : Addr) (a0 a1 b0 b1 : Int), vs = [.ref a, .ref b] ∧ H a = some (.tup [.int a0, .int a1]) ∧ H b = some (.tup [.int b0, .int b1]) ∧
  (a0.natAbs < 2 ^ 1000 ∧ a1.natAbs < 2 ^ 1000 ∧ b0.natAbs < 2 ^ 1000 ∧ b1.natAbs < 2 ^ 1000) ∧ bot a0 a1 b0 b1 ≠ 0 ∧ Gets (top a0 a1 b0 b1) (bot a0 a1 b0 b1) H Q
def spSign : Sp := fun vs H Q _ => ∃ (a : Addr) (a0 a1 : Int), vs = [.ref a] ∧ H a = some (.tup [.int a0, .int a1]) ∧ Q (.int (sgn a0)) H
def spPot (K : PySem.W.Frag) : Sp := fun vs H Q _ => ∃ (a : Addr) (ns : List Int) (k : Int), vs = [.ref a, .int k] ∧ SqL K H a (ns.map V.int) ∧ ns.length ≤ 63 ∧ 0 ≤ k ∧ k ≤ 63 ∧
  ∀ (p : Addr) (x y : Int) (H' : Hp), 0 ≤ x → Same H H' → H p = none → H' p = some (.lst [.int x, .int y]) → Q (.ref p) H'
def PotAt (H : Hp) (a : Addr) : Prop := ∃ x y : Int, H a = some (.lst [.int x, .int y]) ∧ 0 ≤ x
def spDigit : Sp := fun vs H Q _ => ∃ (a : Addr) (m : Int), vs = [.ref a, .int m] ∧ PotAt H a ∧ 0 < m ∧ m.natAbs < 2 ^ 9000 ∧
  ∀ (d : Int) (H' : Hp), 0 ≤ d → d < m → SameBut a H H' → PotAt H' a → Q (.int d) H'
/-- points on the heap -/
def Sz (B : Nat) (P : Pt) : Prop := 0 < P.d ∧ 0 < P.e ∧ P.n.natAbs < 2 ^ B ∧ P.d.natAbs < 2 ^ B ∧ P.m.natAbs < 2 ^ B ∧ P.e.natAbs < 2 ^ B
def PtAt (H : Hp) (p : Addr) (P : Pt) : Prop := ∃ x y, H p = some (.tup [.ref x, .ref y]) ∧ H x = some (.tup [.int P.n, .int P.d]) ∧ H y = some (.tup [.int P.m, .int P.e])
def Fz (B : Nat) (n d : Int) : Prop := 0 < d ∧ n.natAbs < 2 ^ B ∧ d.natAbs < 2 ^ B
def spSpread : Sp := fun vs H Q _ => ∃ (p : Addr) (P : Pt), vs = [.ref p] ∧ PtAt H p P ∧ Sz 1000 P ∧ ∀ q, H q = none → Q (.ref q) (upd H q (.tup [.int (P.n * P.e), .int (P.m * P.d), .int (P.d * P.e)]))
def spAcross : Sp := fun vs H Q _ => ∃ (p q : Addr) (a b c k m n : Int), vs = [.ref p, .ref q] ∧ H p = some (.tup [.int a, .int b, .int c]) ∧ H q = some (.tup [.int k, .int m, .int n]) ∧
  (a.natAbs < 2 ^ 4000 ∧ b.natAbs < 2 ^ 4000 ∧ c.natAbs < 2 ^ 4000 ∧ k.natAbs < 2 ^ 4000 ∧ m.natAbs < 2 ^ 4000 ∧ n.natAbs < 2 ^ 4000) ∧
  ∀ t, H t = none → Q (.ref t) (upd H t (.tup [.int (b * n - c * m), .int (c * k - a * n), .int (a * m - b * k)]))
def spHand (f : Pt → Pt → Pt → Int) : Sp := fun vs H Q _ => ∃ (p q r : Addr) (P P' R : Pt), vs = [.ref p, .ref q, .ref r] ∧ PtAt H p P ∧ PtAt H q P' ∧ PtAt H r R ∧ Sz 1000 P ∧ Sz 1000 P' ∧ Sz 1000 R ∧ ∀ H', Same H H' → Q (.int (sgn (f P P' R))) H'
def spNumber : Sp := fun vs H Q _ => ∃ (a : Addr) (mode : Int), vs = [.ref a, .int mode] ∧ PotAt H a ∧ 0 ≤ mode ∧
  ∀ (n d : Int) (p : Addr) (H' : Hp), Fz (if mode < 2 then 10 else 200) n d → Int.gcd n d = 1 → SameBut a H H' → PotAt H' a → H' p = some (.tup [.int n, .int d]) → Q (.ref p) H'
def spBetween : Sp := fun vs H Q _ => ∃ (a b c : Addr) (a0 a1 b0 b1 c0 c1 : Int) (B : Nat), vs = [.ref a, .ref b, .ref c] ∧ H a = some (.tup [.int a0, .int a1]) ∧ H b = some (.tup [.int b0, .int b1]) ∧ H c = some (.tup [.int c0, .int c1]) ∧
  Fz B a0 a1 ∧ Fz B b0 b1 ∧ Fz 2 c0 c1 ∧ B ≤ 300 ∧ ∀ (n d : Int) (p : Addr) (H' : Hp), Fz (3 * B + 4) n d → Int.gcd n d = 1 → Same H H' → H' p = some (.tup [.int n, .int d]) → Q (.ref p) H'
def ListAt (H : Hp) (l : Addr) (B n : Nat) : Prop := ∃ ps : List Addr, H l = some (.lst (ps.map V.ref)) ∧ ps.length = n ∧ ∀ p ∈ ps, ∃ P, PtAt H p P ∧ Sz B P ∧ Lw P
def spPoint : Sp := fun vs H Q _ => ∃ (a l : Addr) (mode : Int) (B n : Nat), vs = [.ref a, .ref l, .int mode] ∧ PotAt H a ∧ ListAt H l B n ∧ a ≠ l ∧ 0 ≤ mode ∧ 10 ≤ B ∧ B ≤ 300 ∧ n ≤ 4 ∧
  ∀ (P : Pt) (p : Addr) (H' : Hp), Sz (if mode < 2 then (if n ≤ 1 then 10 else 3 * B + 4) else 200) P → Lw P → SameBut a H H' → PotAt H' a → PtAt H' p P → Q (.ref p) H'
def spPoints : Sp := fun vs H Q _ => ∃ (a : Addr), vs = [.ref a, .int 4] ∧ PotAt H a ∧
  ∀ (t : Addr) (ps : List Addr) (H' : Hp), SameBut a H H' → PotAt H' a → H' t = some (.tup (ps.map V.ref)) → ps.length = 4 → (∀ p ∈ ps, ∃ P, PtAt H' p P ∧ Sz 205 P ∧ Lw P) → Q (.ref t) H'
def spApart : Sp := fun vs H Q _ => ∃ (a b : Addr) (a0 a1 b0 b1 : Int), vs = [.ref a, .ref b] ∧ H a = some (.tup [.int a0, .int a1]) ∧ H b = some (.tup [.int b0, .int b1]) ∧
  (a0.natAbs < 2 ^ 1700 ∧ a1.natAbs < 2 ^ 1700 ∧ b0.natAbs < 2 ^ 1700 ∧ b1.natAbs < 2 ^ 1700) ∧ ∀ t, H t = none → Q (.ref t) (upd H t (.tup [.int (b0 * a1 - a0 * b1), .int (a1 * b1)]))
def spHandL : Sp := fun vs H Q _ => ∃ (p q r : Addr) (P P' R : Pt), vs = [.ref p, .ref q, .ref r] ∧ PtAt H p P ∧ PtAt H q P' ∧ PtAt H r R ∧ Sz 210 P ∧ Sz 210 P' ∧ Sz 1700 R ∧ ∀ H', Same H H' → Q (.int (sgn (lawdet P P' R))) H'
def spGcd : Sp := fun vs H Q _ => ∃ i j : Int, vs = [.int i, .int j] ∧ Q (.int (Int.gcd i j : Int)) H
def spLaw (K : PySem.W.Frag) : Sp := fun vs H Q _ => ∃ (a : Addr) (ns : List Int), vs = [.ref a] ∧ SqL K H a (ns.map V.int) ∧ ns.length ≤ 63 ∧ ∀ H', Q (.bl true) H'
section
variable {P : Program} {w : World} {K : PySem.W.Frag} {mg : Str → Option Value} {base : Heap}
theorem at0 {x y : V} : atI [x, y] 0 = some x := rfl
theorem at1 {x y : V} : atI [x, y] 1 = some y := rfl
theorem w9 {a : Int} (h : a.natAbs < 2 ^ 1000) : a.natAbs < 2 ^ 9000 := up h (by decide)
theorem m9 {a b : Int} (h : a.natAbs < 2 ^ 1000) (h' : b.natAbs < 2 ^ 1000) : (a * b).natAbs < 2 ^ 9000 := up (mul_lt_pow h h') (by decide)
theorem cut_ints (ns : List Int) (lo hi : Option Int) : ∃ ms : List Int, cutV (ns.map V.int) lo hi = ms.map V.int ∧ ms.length ≤ ns.length := by
  refine ⟨(ns.drop (HT.sIx (ns.map V.int).length 0 lo)).take (HT.sIx (ns.map V.int).length (ns.map V.int).length hi - HT.sIx (ns.map V.int).length 0 lo), ?_, ?_⟩
  · unfold cutV
    rw [List.map_take, List.map_drop]
  · rw [List.length_take, List.length_drop]
    omega
theorem first_int (ms : List Int) : ∃ c : Int, atI (ms.map V.int ++ [V.int 0]) 0 = some (V.int c) := by
  cases ms with
  | nil => exact ⟨0, rfl⟩
  | cons x r => exact ⟨x, atI_nat (j := 0) rfl⟩
theorem small {n : Nat} (h : n ≤ 1000) : n ≤ sizeLine := Nat.le_of_lt (small1000 h)
theorem ok_law_pot {f : Addr} {fd : FuncData} (F : Fun K "_law_pot" "_law_pot" s_law_pot f fd) (z_abs : mg "abs" = none) (z_max : mg "max" = none) : FnOk P w K mg base CX0 1 f fd ["_law_script", "_law_k"] (spPot K) := by
  refine F.ok sc_law_pot (fun vs H Q E h => ?_) (fun cdv A outer s H vs Q E hr h => ?_)
  · obtain ⟨a, ns, k, rfl, _⟩ := h
    rfl
  obtain ⟨a, ns, k, rfl, hS, h63, k0, k1, q⟩ := h
  refine ⟨_, (pss_cons (ps_set (i := 2) sc_law_pot.nd rfl (Or.inl rfl) (pe_ix ix_list (pe_op op_cat (pe_slice sl_list (pv 0) (po_some (pv 1)) (po_some (pe_op op_add (pv 1) pe_int))) (pe_lst (pa_cons pe_int pa_nil))) pe_int (fun _ _ => rfl)))
      (pss_one (ps_ret (pe_lst (pa_cons (pe_callB (call_max2 rfl) rfl z_max PyProof.Rows.boot_max (pa_cons pe_int (pa_cons (pe_op op_sub (pv 2) (pe_op op_pow pe_int pe_int)) pa_nil))) (pa_cons (pe_op op_add (pe_op op_mod (pe_op op_add (pe_op op_add (pe_callB call_abs rfl z_abs PyProof.Rows.boot_abs (pa_cons (pv 2) pa_nil)) (pe_op op_mul pe_int (pv 1))) pe_int) pe_int) pe_int) pa_nil)))))), ?_⟩
  obtain ⟨ms, em, lm⟩ := cut_ints ns (some k) (some (k + 1))
  obtain ⟨c, hc⟩ := first_int ms
  refine ⟨_, rfl, _, rfl, k, rfl, _, rfl, _, _, rfl, rfl, k + 1, rfl, a, _, rfl, hS, fun p1 h1 => ?_⟩
  refine ⟨(by show 1 ≤ sizeLine; decide), fun p2 h2 => ?_⟩
  have n12 : p1 ≠ p2 := ne_of_none upd_same h2
  refine ⟨p1, p2, _, _, rfl, rfl, (by rw [upd_ne n12]; exact upd_same), upd_same, (by rw [em, List.length_map, List.length_singleton]; exact small (by omega)), fun p3 h3 => ?_⟩
  refine ⟨p3, _, _, _, rfl, rfl, SqL.of upd_same, (by rw [em]; exact hc), ?_⟩
  have g1 : Same H (upd H p1 (.lst (cutV (ns.map V.int) (some k) (some (k + 1))))) := same_new h1 _
  have g2 := same_new h2 (.lst [V.int 0])
  have g3 := same_new h3 (.lst (cutV (ns.map V.int) (some k) (some (k + 1)) ++ [V.int 0]))
  have g := g1.trans (g2.trans g3)
  refine ⟨_, rfl, _, _, rfl, rfl, ⟨by decide, by decide, by decide⟩, _, _, rfl, rfl, _, _, rfl, _, rfl, c, rfl, _, rfl, _, _, rfl, rfl, .inl ⟨by decide, by decide⟩, _, _, rfl, rfl, _, _, rfl, rfl, _, _, rfl, rfl, (by show (0 : Int) < 2147483629; decide), _, _, rfl, rfl, (by show 2 ≤ sizeLine; decide), fun p4 h4 => ?_⟩
  refine q p4 _ _ _ ?_ (g.trans (same_new h4 _)) (g.free h4) upd_same
  split <;> omega
theorem SameBut.refl (a : Addr) (H : Hp) : SameBut a H H := fun _ _ _ h => h
theorem SameBut.trans {a : Addr} {H H1 H2 : Hp} (x : SameBut a H H1) (y : SameBut a H1 H2) : SameBut a H H2 := fun b o n h => y b o n (x b o n h)
theorem SameBut.of {a : Addr} {H H' : Hp} (h : Same H H') : SameBut a H H' := fun b o _ e => h b o e
theorem but_upd {a : Addr} {H : Hp} {o : HO} : SameBut a H (upd H a o) := fun b u n h => by rw [upd_ne n]; exact h
theorem ok_law_digit {f : Addr} {fd : FuncData} (F : Fun K "_law_digit" "_law_digit" s_law_digit f fd) (z_divmod : mg "divmod" = none) : FnOk P w K mg base CX0 1 f fd ["_law_pot_here", "_law_many"] (spDigit) := by
  refine F.ok sc_law_digit (fun vs H Q E h => ?_) (fun cdv A outer s H vs Q E hr h => ?_)
  · obtain ⟨a, m, rfl, _⟩ := h
    rfl
  obtain ⟨a, m, rfl, ⟨x, y, ha, hx⟩, m0, m1, q⟩ := h
  refine ⟨_, (pss_cons (ps_if (pt_cmpR op_gt (pe_ix ix_list (pv 0) pe_int (fun _ _ => rfl)) pe_int (nomark _)) (pss_cons (ps_asg (pe_callB call_divmodW rfl z_divmod PyProof.Rows.boot_divmod (pa_cons (pe_ix ix_list (pv 0) pe_int (fun _ _ => rfl)) (pa_cons (pv 1) pa_nil))) (pg_tup rfl (pgs_cons (pg_sub (pv 0) pe_int set_list) (pgs_cons (pg_name (i := 2) sc_law_digit.nd rfl (Or.inl rfl)) pgs_nil))))
      (pss_one (ps_ret (pv 2)))) pss_nil)
      (pss_cons (ps_asg (pe_op op_mod (pe_op op_add (pe_op op_mul (pe_ix ix_list (pv 0) pe_int (fun _ _ => rfl)) pe_int) pe_int) pe_int) (pg_sub (pv 0) pe_int set_list))
      (pss_one (ps_ret (pe_op op_mod (pe_op op_fdiv (pe_op op_mod (pe_op op_mul (pe_ix ix_list (pv 0) pe_int (fun _ _ => rfl)) (pe_ix ix_list (pv 0) pe_int (fun _ _ => rfl))) pe_int) pe_int) (pv 1)))))), ?_⟩
  refine ⟨_, rfl, a, _, _, _, rfl, rfl, SqL.of ha, at0, _, _, rfl, rfl, _, rfl, ?_⟩
  refine ite2 (fun c => ?_) (fun c => ?_)
  · refine ⟨_, rfl, a, _, _, _, rfl, rfl, SqL.of ha, at0, _, rfl, x, m, rfl, ⟨m0, m1⟩, fun p hp => ?_⟩
    have nap : a ≠ p := ne_of_none ha hp
    refine ⟨p, _, rfl, SqT.of upd_same, rfl, _, _, rfl, _, rfl, a, _, _, 0, rfl, rfl, (by rw [upd_ne nap]; exact ha), rfl, _, _, rfl, rfl, ?_⟩
    refine ⟨_, rfl, ?_⟩
    refine q _ _ (Int.emod_nonneg _ (by omega)) (Int.emod_lt_of_pos _ m0) ((SameBut.of (same_new hp _)).trans but_upd) ⟨_, _, upd_same, ?_⟩
    exact Int.ediv_nonneg hx (by omega)
  · refine ⟨_, rfl, a, _, _, _, rfl, rfl, SqL.of ha, at1, _, _, rfl, rfl, .inr ⟨by decide, by decide⟩, _, _, rfl, rfl, _, _, rfl, rfl, (by show (0 : Int) < 2147483647; decide), ?_⟩
    refine ⟨_, rfl, a, _, _, 1, rfl, rfl, ha, rfl, ?_⟩
    have b1 : 0 ≤ (y * 48271 + 39373) % 2147483647 := Int.emod_nonneg _ (by decide)
    have b2 : (y * 48271 + 39373) % 2147483647 < 2147483647 := Int.emod_lt_of_pos _ (by decide)
    refine ⟨_, rfl, a, _, _, _, rfl, rfl, SqL.of upd_same, at1, _, rfl, a, _, _, _, rfl, rfl, SqL.of upd_same, at1, _, _, rfl, rfl, .inl ⟨?_, ?_⟩, _, _, rfl, rfl, (by show (0 : Int) < 2147483629; decide), _, _, rfl, rfl, ⟨by decide, by decide⟩, _, rfl, _, _, rfl, rfl, m0, ?_⟩
    · show -(2 ^ 64) < (y * 48271 + 39373) % 2147483647
      omega
    · show (y * 48271 + 39373) % 2147483647 < 2 ^ 64
      omega
    · exact q _ _ (Int.emod_nonneg _ (by omega)) (Int.emod_lt_of_pos _ m0) but_upd ⟨_, _, upd_same, hx⟩
theorem keep {H H1 H2 : Hp} {p : Addr} (g : Same H H1) (n : H p = none) (b : SameBut p H1 H2) : Same H H2 := fun c o e => b c o (ne_of_none e n) (g c o e)
theorem PotAt.kept {H H' : Hp} {p : Addr} (h : PotAt H p) (g : Same H H') : PotAt H' p := by
  obtain ⟨x, y, e, z⟩ := h
  exact ⟨x, y, g _ _ e, z⟩
theorem ok_sign {f : Addr} {fd : FuncData} (F : Fun K "sign" "sign" s_sign f fd) : FnOk P w K mg base CX0 1 f fd ["one"] (spSign) := by
  refine F.ok sc_sign (fun vs H Q E h => ?_) (fun cdv A outer s H vs Q E hr h => ?_)
  · obtain ⟨a, a0, a1, rfl, _⟩ := h
    rfl
  obtain ⟨a, a0, a1, rfl, ha, q⟩ := h
  refine ⟨_, (pss_cons (ps_if (pt_cmpR op_lt (pe_ix ix_tup (pv 0) pe_int (fun _ _ => rfl)) pe_int (nomark _)) (pss_one (ps_ret (pe_un un_neg pe_int))) pss_nil)
      (pss_one (ps_ret (pe_ifExp (pt_cmpR op_gt (pe_ix ix_tup (pv 0) pe_int (fun _ _ => rfl)) pe_int (nomark _)) pe_int pe_int)))), ?_⟩
  refine ⟨_, rfl, a, _, _, _, rfl, rfl, SqT.of ha, at0, _, _, rfl, rfl, _, rfl, ?_⟩
  refine ite2 (fun c => ?_) (fun c => ?_)
  · have c' : a0 < 0 := of_decide_eq_true c
    refine ⟨_, rfl, ?_⟩
    rw [show sgn a0 = -1 by unfold sgn; rw [if_pos c']] at q
    exact q
  · have c' : ¬ a0 < 0 := of_decide_eq_false (Bool.eq_false_iff.mpr c)
    refine ⟨_, rfl, a, _, _, _, rfl, rfl, SqT.of ha, at0, _, _, rfl, rfl, _, rfl, ?_⟩
    refine ite2 (fun c => ?_) (fun c => ?_)
    · have c2 : 0 < a0 := of_decide_eq_true c
      rw [show sgn a0 = 1 by unfold sgn; rw [if_neg c', if_pos c2]] at q
      exact q
    · have c2 : ¬ 0 < a0 := of_decide_eq_false (Bool.eq_false_iff.mpr c)
      rw [show sgn a0 = 0 by unfold sgn; rw [if_neg c', if_neg c2]] at q
      exact q
theorem ok_law_low {f : Addr} {fd : FuncData} (F : Fun K "_law_low" "_law_low" s_law_low f fd) (z_abs : mg "abs" = none) : FnOk P w K mg base CX0 1 f fd ["_law_n", "_law_d"] (spFr) := by
  refine F.ok sc_law_low (fun vs H Q E h => ?_) (fun cdv A outer s H vs Q E hr h => ?_)
  · obtain ⟨n, d, rfl, _⟩ := h
    rfl
  obtain ⟨n, d, rfl, d0, hz, q⟩ := h
  refine ⟨_, (pss_cons (ps_par (i := 2) (j := 3) rfl sc_law_low.nd rfl rfl (by decide) rfl rfl (pa_cons (pe_callB call_abs rfl z_abs PyProof.Rows.boot_abs (pa_cons (pv 0) pa_nil)) (pa_cons (pe_callB call_abs rfl z_abs PyProof.Rows.boot_abs (pa_cons (pv 1) pa_nil)) pa_nil)) rfl)
      (pss_cons (ps_while PassesOwn.never (pt_cmpR op_gt (pv 3) pe_int (nomark _)) (pss_one (ps_par (i := 2) (j := 3) rfl sc_law_low.nd rfl rfl (by decide) rfl rfl (pa_cons (pv 3) (pa_cons (pe_op op_mod (pv 2) (pv 3)) pa_nil)) rfl)))
      (pss_cons (ps_if (pt_cmpR op_lt (pv 1) pe_int (nomark _)) (pss_one (ps_set (i := 2) sc_law_low.nd rfl (Or.inl rfl) (pe_un un_neg (pv 2)))) pss_nil)
      (pss_one (ps_ret (pe_tup (pa_cons (pe_op Own.op_fdivW (pv 0) (pv 2)) (pa_cons (pe_op Own.op_fdivW (pv 1) (pv 2)) pa_nil)))))))), ?_⟩
  have gl := gcd_le (n := n) d0
  have gp := gcd_pos (n := n) d0
  refine ⟨_, rfl, n, rfl, _, rfl, d, rfl, _, _, rfl, ?_⟩
  refine while_by (fun σ H1 => H1 = H ∧ ∃ a b : Nat, σ = [some (.int n), some (.int d), some (.int a), some (.int b)] ∧ Nat.gcd a b = Int.gcd n d) (fun σ _ => match σ with | [_, _, _, some (.int b)] => b.toNat | _ => 0) ⟨rfl, n.natAbs, d.natAbs, ?_, rfl⟩ ?_ ?_
  · show [some (V.int n), some (V.int d), some (V.int (if n < 0 then -n else n)), some (V.int (if d < 0 then -d else d))] = _
    rw [abs_eq, abs_eq]
  · rintro σ H1 ⟨rfl, a, b, rfl, e⟩
    refine ⟨_, rfl, _, _, rfl, rfl, _, rfl, ?_⟩
    refine ite2 (fun c => ?_) (fun c => ?_)
    · have hb : (0 : Int) < b := of_decide_eq_true c
      refine ⟨_, rfl, _, rfl, _, rfl, _, _, rfl, rfl, (by omega), _, _, rfl, ⟨rfl, b, a % b, ?_, ?_⟩, ?_⟩
      · rw [Int.natCast_emod] <;> rfl
      · rw [gcd_turn]; exact e
      · show ((a : Int) % (b : Int)).toNat < ((b : Nat) : Int).toNat
        rw [← Int.natCast_emod, Int.toNat_natCast, Int.toNat_natCast]
        exact Nat.mod_lt _ (by omega)
    · have hb : ¬ (0 : Int) < b := of_decide_eq_false (Bool.eq_false_iff.mpr c)
      have hb : b = 0 := by omega
      subst hb
      rw [Nat.gcd_zero_right] at e
      subst e
      refine ⟨_, rfl, _, _, rfl, rfl, _, rfl, ?_⟩
      refine ite2 (fun c => ?_) (fun c => ?_)
      · have c' : d < 0 := of_decide_eq_true c
        refine ⟨_, rfl, _, rfl, ?_⟩
        have hd : CDivW n (-(Int.gcd n d : Int)) := ⟨by omega, by omega⟩
        refine ⟨_, rfl, _, rfl, _, _, rfl, rfl, hd, _, rfl, _, rfl, _, _, rfl, rfl, hd, (by show 2 ≤ sizeLine; decide), fun p hp => ?_⟩
        exact q _ _ p _ (fr_of d0 (.inr rfl) (fdiv_pos_of d0 (.inr ⟨c', rfl⟩))) (same_new hp _) upd_same
      · have c' : ¬ d < 0 := of_decide_eq_false (Bool.eq_false_iff.mpr c)
        have hd : CDivW n (Int.gcd n d : Int) := ⟨by omega, by omega⟩
        refine ⟨_, rfl, _, rfl, _, _, rfl, rfl, hd, _, rfl, _, rfl, _, _, rfl, rfl, hd, (by show 2 ≤ sizeLine; decide), fun p hp => ?_⟩
        exact q _ _ p _ (fr_of d0 (.inl rfl) (fdiv_pos_of d0 (.inl ⟨by omega, rfl⟩))) (same_new hp _) upd_same
  · rintro σ H1 Q1 Q2 m ⟨v, e1, i1, j1, e3, e4, k, e2, q1⟩
    exact ⟨v, e1, i1, j1, e3, e4, k, e2, m _ _ q1⟩
theorem ok_law_plus {f : Addr} {fd : FuncData} (F : Fun K "_law_plus" "_law_plus" s_law_plus f fd) (h_law_low : Own.Has P w K mg base "_law_low" ["_law_n", "_law_d"] 1 (spFr)) : FnOk P w K mg base CX0 2 f fd ["_law_one", "_law_other"] (spBin (fun a0 a1 b0 b1 => a0 * b1 + b0 * a1) (fun _ a1 _ b1 => a1 * b1)) := by
  refine F.ok sc_law_plus (fun vs H Q E h => ?_) (fun cdv A outer s H vs Q E hr h => ?_)
  · obtain ⟨a, b, a0, a1, b0, b1, rfl, _⟩ := h
    rfl
  obtain ⟨a, b, a0, a1, b0, b1, rfl, ha, hb, ⟨z1, z2, z3, z4⟩, nz, q⟩ := h
  refine ⟨_, (pss_one (ps_ret (Own.pe_has h_law_low (hr.mono (by decide)) rfl (pa_cons (pe_op op_add (pe_op Own.op_mulW (pe_ix ix_tup (pv 0) pe_int (fun _ _ => rfl)) (pe_ix ix_tup (pv 1) pe_int (fun _ _ => rfl))) (pe_op Own.op_mulW (pe_ix ix_tup (pv 1) pe_int (fun _ _ => rfl)) (pe_ix ix_tup (pv 0) pe_int (fun _ _ => rfl)))) (pa_cons (pe_op Own.op_mulW (pe_ix ix_tup (pv 0) pe_int (fun _ _ => rfl)) (pe_ix ix_tup (pv 1) pe_int (fun _ _ => rfl))) pa_nil))))), ?_⟩
  refine ⟨_, rfl, a, _, _, _, rfl, rfl, SqT.of ha, at0, _, rfl, b, _, _, _, rfl, rfl, SqT.of hb, at1, _, _, rfl, rfl, ⟨w9 z1, w9 z4⟩, ?_⟩
  refine ⟨_, rfl, b, _, _, _, rfl, rfl, SqT.of hb, at0, _, rfl, a, _, _, _, rfl, rfl, SqT.of ha, at1, _, _, rfl, rfl, ⟨w9 z3, w9 z2⟩, _, _, rfl, rfl, ?_⟩
  refine ⟨_, rfl, a, _, _, _, rfl, rfl, SqT.of ha, at1, _, rfl, b, _, _, _, rfl, rfl, SqT.of hb, at1, _, _, rfl, rfl, ⟨w9 z2, w9 z4⟩, ?_⟩
  exact ⟨_, _, rfl, nz, m9 z2 z4, q⟩
theorem ok_law_less {f : Addr} {fd : FuncData} (F : Fun K "_law_less" "_law_less" s_law_less f fd) (h_law_low : Own.Has P w K mg base "_law_low" ["_law_n", "_law_d"] 1 (spFr)) : FnOk P w K mg base CX0 2 f fd ["_law_one", "_law_other"] (spBin (fun a0 a1 b0 b1 => a0 * b1 - b0 * a1) (fun _ a1 _ b1 => a1 * b1)) := by
  refine F.ok sc_law_less (fun vs H Q E h => ?_) (fun cdv A outer s H vs Q E hr h => ?_)
  · obtain ⟨a, b, a0, a1, b0, b1, rfl, _⟩ := h
    rfl
  obtain ⟨a, b, a0, a1, b0, b1, rfl, ha, hb, ⟨z1, z2, z3, z4⟩, nz, q⟩ := h
  refine ⟨_, (pss_one (ps_ret (Own.pe_has h_law_low (hr.mono (by decide)) rfl (pa_cons (pe_op op_sub (pe_op Own.op_mulW (pe_ix ix_tup (pv 0) pe_int (fun _ _ => rfl)) (pe_ix ix_tup (pv 1) pe_int (fun _ _ => rfl))) (pe_op Own.op_mulW (pe_ix ix_tup (pv 1) pe_int (fun _ _ => rfl)) (pe_ix ix_tup (pv 0) pe_int (fun _ _ => rfl)))) (pa_cons (pe_op Own.op_mulW (pe_ix ix_tup (pv 0) pe_int (fun _ _ => rfl)) (pe_ix ix_tup (pv 1) pe_int (fun _ _ => rfl))) pa_nil))))), ?_⟩
  refine ⟨_, rfl, a, _, _, _, rfl, rfl, SqT.of ha, at0, _, rfl, b, _, _, _, rfl, rfl, SqT.of hb, at1, _, _, rfl, rfl, ⟨w9 z1, w9 z4⟩, ?_⟩
  refine ⟨_, rfl, b, _, _, _, rfl, rfl, SqT.of hb, at0, _, rfl, a, _, _, _, rfl, rfl, SqT.of ha, at1, _, _, rfl, rfl, ⟨w9 z3, w9 z2⟩, _, _, rfl, rfl, ?_⟩
  refine ⟨_, rfl, a, _, _, _, rfl, rfl, SqT.of ha, at1, _, rfl, b, _, _, _, rfl, rfl, SqT.of hb, at1, _, _, rfl, rfl, ⟨w9 z2, w9 z4⟩, ?_⟩
  exact ⟨_, _, rfl, nz, m9 z2 z4, q⟩
theorem ok_law_times {f : Addr} {fd : FuncData} (F : Fun K "_law_times" "_law_times" s_law_times f fd) (h_law_low : Own.Has P w K mg base "_law_low" ["_law_n", "_law_d"] 1 (spFr)) : FnOk P w K mg base CX0 2 f fd ["_law_one", "_law_other"] (spBin (fun a0 a1 b0 b1 => a0 * b0) (fun _ a1 _ b1 => a1 * b1)) := by
  refine F.ok sc_law_times (fun vs H Q E h => ?_) (fun cdv A outer s H vs Q E hr h => ?_)
  · obtain ⟨a, b, a0, a1, b0, b1, rfl, _⟩ := h
    rfl
  obtain ⟨a, b, a0, a1, b0, b1, rfl, ha, hb, ⟨z1, z2, z3, z4⟩, nz, q⟩ := h
  refine ⟨_, (pss_one (ps_ret (Own.pe_has h_law_low (hr.mono (by decide)) rfl (pa_cons (pe_op Own.op_mulW (pe_ix ix_tup (pv 0) pe_int (fun _ _ => rfl)) (pe_ix ix_tup (pv 1) pe_int (fun _ _ => rfl))) (pa_cons (pe_op Own.op_mulW (pe_ix ix_tup (pv 0) pe_int (fun _ _ => rfl)) (pe_ix ix_tup (pv 1) pe_int (fun _ _ => rfl))) pa_nil))))), ?_⟩
  refine ⟨_, rfl, a, _, _, _, rfl, rfl, SqT.of ha, at0, _, rfl, b, _, _, _, rfl, rfl, SqT.of hb, at0, _, _, rfl, rfl, ⟨w9 z1, w9 z3⟩, ?_⟩
  refine ⟨_, rfl, a, _, _, _, rfl, rfl, SqT.of ha, at1, _, rfl, b, _, _, _, rfl, rfl, SqT.of hb, at1, _, _, rfl, rfl, ⟨w9 z2, w9 z4⟩, ?_⟩
  exact ⟨_, _, rfl, nz, m9 z2 z4, q⟩
theorem ok_law_sign {f : Addr} {fd : FuncData} (F : Fun K "_law_sign" "_law_sign" s_law_sign f fd) (z_int : mg "int" = none) : FnOk P w K mg base CX0 1 f fd ["_law_one"] (spSign) := by
  refine F.ok sc_law_sign (fun vs H Q E h => ?_) (fun cdv A outer s H vs Q E hr h => ?_)
  · obtain ⟨a, a0, a1, rfl, _⟩ := h
    rfl
  obtain ⟨a, a0, a1, rfl, ha, q⟩ := h
  refine ⟨_, (pss_one (ps_ret (pe_op op_sub (pe_callTy call_int1 rfl z_int PyProof.Rows.boot_int (pa_cons (pe_cmpR op_gt (pe_ix ix_tup (pv 0) pe_int (fun _ _ => rfl)) pe_int (nomark _)) pa_nil)) (pe_callTy call_int1 rfl z_int PyProof.Rows.boot_int (pa_cons (pe_cmpR op_lt (pe_ix ix_tup (pv 0) pe_int (fun _ _ => rfl)) pe_int (nomark _)) pa_nil))))), ?_⟩
  refine ⟨_, rfl, a, _, _, _, rfl, rfl, SqT.of ha, at0, _, _, rfl, rfl, .inr ⟨_, rfl, ?_⟩⟩
  refine ⟨_, rfl, a, _, _, _, rfl, rfl, SqT.of ha, at0, _, _, rfl, rfl, .inr ⟨_, rfl, _, _, rfl, rfl, ?_⟩⟩
  have e : sgn a0 = (if decide (0 < a0) = true then (1 : Int) else 0) - (if decide (a0 < 0) = true then 1 else 0) := by
    unfold sgn
    by_cases h1 : a0 < 0
    · have h2 : ¬ 0 < a0 := by omega
      simp [h1, h2]
    · by_cases h2 : 0 < a0 <;> simp [h1, h2]
  rw [e] at q
  exact q
theorem ok_spread {f : Addr} {fd : FuncData} (F : Fun K "spread" "spread" s_spread f fd) : FnOk P w K mg base CX0 1 f fd ["point"] (spSpread) := by
  refine F.ok sc_spread (fun vs H Q E h => ?_) (fun cdv A outer s H vs Q E hr h => ?_)
  · obtain ⟨p, P, rfl, _⟩ := h
    rfl
  obtain ⟨p, P, rfl, ⟨x, y, hp, hx, hy⟩, ⟨_, _, z1, z2, z3, z4⟩, q⟩ := h
  refine ⟨_, (pss_cons (ps_asg (pv 0) (pg_tup rfl (pgs_cons (pg_tup rfl (pgs_cons (pg_name (i := 1) sc_spread.nd rfl (Or.inl rfl)) (pgs_cons (pg_name (i := 2) sc_spread.nd rfl (Or.inl rfl)) pgs_nil))) (pgs_cons (pg_tup rfl (pgs_cons (pg_name (i := 3) sc_spread.nd rfl (Or.inl rfl)) (pgs_cons (pg_name (i := 4) sc_spread.nd rfl (Or.inl rfl)) pgs_nil))) pgs_nil))))
      (pss_one (ps_ret (pe_tup (pa_cons (pe_op Own.op_mulW (pv 1) (pv 4)) (pa_cons (pe_op Own.op_mulW (pv 3) (pv 2)) (pa_cons (pe_op Own.op_mulW (pv 2) (pv 4)) pa_nil))))))), ?_⟩
  refine ⟨_, rfl, p, _, rfl, SqT.of hp, rfl, _, _, rfl, x, _, rfl, SqT.of hx, rfl, _, _, rfl, _, _, rfl, rfl, _, _, rfl, y, _, rfl, SqT.of hy, rfl, _, _, rfl, _, _, rfl, rfl, rfl, ?_⟩
  exact ⟨_, rfl, _, rfl, _, _, rfl, rfl, ⟨w9 z1, w9 z4⟩, _, rfl, _, rfl, _, _, rfl, rfl, ⟨w9 z3, w9 z2⟩, _, rfl, _, rfl, _, _, rfl, rfl, ⟨w9 z2, w9 z4⟩, (by show 3 ≤ sizeLine; decide), q⟩
theorem ok_across {f : Addr} {fd : FuncData} (F : Fun K "across" "across" s_across f fd) : FnOk P w K mg base CX0 1 f fd ["one", "other"] (spAcross) := by
  refine F.ok sc_across (fun vs H Q E h => ?_) (fun cdv A outer s H vs Q E hr h => ?_)
  · obtain ⟨p, q', a, b, c, k, m, n, rfl, _⟩ := h
    rfl
  obtain ⟨p, q', a, b, c, k, m, n, rfl, hp, hq, ⟨z1, z2, z3, z4, z5, z6⟩, q⟩ := h
  refine ⟨_, (pss_cons (ps_asg (pv 0) (pg_tup rfl (pgs_cons (pg_name (i := 2) sc_across.nd rfl (Or.inl rfl)) (pgs_cons (pg_name (i := 3) sc_across.nd rfl (Or.inl rfl)) (pgs_cons (pg_name (i := 4) sc_across.nd rfl (Or.inl rfl)) pgs_nil)))))
      (pss_cons (ps_asg (pv 1) (pg_tup rfl (pgs_cons (pg_name (i := 5) sc_across.nd rfl (Or.inl rfl)) (pgs_cons (pg_name (i := 6) sc_across.nd rfl (Or.inl rfl)) (pgs_cons (pg_name (i := 7) sc_across.nd rfl (Or.inl rfl)) pgs_nil)))))
      (pss_one (ps_ret (pe_tup (pa_cons (pe_op op_sub (pe_op Own.op_mulW (pv 3) (pv 7)) (pe_op Own.op_mulW (pv 4) (pv 6))) (pa_cons (pe_op op_sub (pe_op Own.op_mulW (pv 4) (pv 5)) (pe_op Own.op_mulW (pv 2) (pv 7))) (pa_cons (pe_op op_sub (pe_op Own.op_mulW (pv 2) (pv 6)) (pe_op Own.op_mulW (pv 3) (pv 5))) pa_nil)))))))), ?_⟩
  have u : ∀ {i : Int}, i.natAbs < 2 ^ 4000 → i.natAbs < 2 ^ 9000 := fun h => up h (by decide)
  refine ⟨_, rfl, p, _, rfl, SqT.of hp, rfl, _, _, rfl, _, _, rfl, _, _, rfl, rfl, ?_⟩
  refine ⟨_, rfl, q', _, rfl, SqT.of hq, rfl, _, _, rfl, _, _, rfl, _, _, rfl, rfl, ?_⟩
  refine ⟨_, rfl, _, rfl, _, _, rfl, rfl, ⟨u z2, u z6⟩, _, rfl, _, rfl, _, _, rfl, rfl, ⟨u z3, u z5⟩, _, _, rfl, rfl, ?_⟩
  refine ⟨_, rfl, _, rfl, _, _, rfl, rfl, ⟨u z3, u z4⟩, _, rfl, _, rfl, _, _, rfl, rfl, ⟨u z1, u z6⟩, _, _, rfl, rfl, ?_⟩
  exact ⟨_, rfl, _, rfl, _, _, rfl, rfl, ⟨u z1, u z5⟩, _, rfl, _, rfl, _, _, rfl, rfl, ⟨u z2, u z4⟩, _, _, rfl, rfl, (by show 3 ≤ sizeLine; decide), q⟩
theorem ok_law_apart {f : Addr} {fd : FuncData} (F : Fun K "_law_apart" "_law_apart" s_law_apart f fd) : FnOk P w K mg base CX0 1 f fd ["_law_one", "_law_other"] (spApart) := by
  refine F.ok sc_law_apart (fun vs H Q E h => ?_) (fun cdv A outer s H vs Q E hr h => ?_)
  · obtain ⟨a, b, a0, a1, b0, b1, rfl, _⟩ := h
    rfl
  obtain ⟨a, b, a0, a1, b0, b1, rfl, ha, hb, ⟨z1, z2, z3, z4⟩, q⟩ := h
  refine ⟨_, (pss_one (ps_ret (pe_tup (pa_cons (pe_op op_sub (pe_op Own.op_mulW (pe_ix ix_tup (pv 1) pe_int (fun _ _ => rfl)) (pe_ix ix_tup (pv 0) pe_int (fun _ _ => rfl))) (pe_op Own.op_mulW (pe_ix ix_tup (pv 0) pe_int (fun _ _ => rfl)) (pe_ix ix_tup (pv 1) pe_int (fun _ _ => rfl)))) (pa_cons (pe_op Own.op_mulW (pe_ix ix_tup (pv 0) pe_int (fun _ _ => rfl)) (pe_ix ix_tup (pv 1) pe_int (fun _ _ => rfl))) pa_nil))))), ?_⟩
  have w9 : ∀ {i : Int}, i.natAbs < 2 ^ 1700 → i.natAbs < 2 ^ 9000 := fun h => up h (by decide)
  refine ⟨_, rfl, b, _, _, _, rfl, rfl, SqT.of hb, at0, _, rfl, a, _, _, _, rfl, rfl, SqT.of ha, at1, _, _, rfl, rfl, ⟨w9 z3, w9 z2⟩, ?_⟩
  refine ⟨_, rfl, a, _, _, _, rfl, rfl, SqT.of ha, at0, _, rfl, b, _, _, _, rfl, rfl, SqT.of hb, at1, _, _, rfl, rfl, ⟨w9 z1, w9 z4⟩, _, _, rfl, rfl, ?_⟩
  exact ⟨_, rfl, a, _, _, _, rfl, rfl, SqT.of ha, at1, _, rfl, b, _, _, _, rfl, rfl, SqT.of hb, at1, _, _, rfl, rfl, ⟨w9 z2, w9 z4⟩, (by show 2 ≤ sizeLine; decide), q⟩
theorem ok_greatest_divisor {f : Addr} {fd : FuncData} (F : Fun K "greatest_divisor" "greatest_divisor" s_greatest_divisor f fd) (z_abs : mg "abs" = none) : FnOk P w K mg base CX0 1 f fd ["one", "other"] (spGcd) := by
  refine F.ok sc_greatest_divisor (fun vs H Q E h => ?_) (fun cdv A outer s H vs Q E hr h => ?_)
  · obtain ⟨i, j, rfl, _⟩ := h
    rfl
  obtain ⟨i, j, rfl, q⟩ := h
  refine ⟨_, (pss_cons (ps_set (i := 0) sc_greatest_divisor.nd rfl (Or.inl rfl) (pe_callB call_abs rfl z_abs PyProof.Rows.boot_abs (pa_cons (pv 0) pa_nil)))
      (pss_cons (ps_set (i := 1) sc_greatest_divisor.nd rfl (Or.inl rfl) (pe_callB call_abs rfl z_abs PyProof.Rows.boot_abs (pa_cons (pv 1) pa_nil)))
      (pss_cons (ps_while PassesOwn.never (pt_cmpR op_ne (pv 1) pe_int (nomark _)) (pss_one (ps_par (i := 0) (j := 1) rfl sc_greatest_divisor.nd rfl rfl (by decide) rfl rfl (pa_cons (pv 1) (pa_cons (pe_op op_mod (pv 0) (pv 1)) pa_nil)) rfl)))
      (pss_one (ps_ret (pv 0)))))), ?_⟩
  refine ⟨_, rfl, i, rfl, _, rfl, j, rfl, ?_⟩
  refine while_by (fun σ H1 => H1 = H ∧ ∃ a b : Nat, σ = [some (.int a), some (.int b)] ∧ Nat.gcd a b = Int.gcd i j) (fun σ _ => match σ with | [_, some (.int b)] => b.toNat | _ => 0) ⟨rfl, i.natAbs, j.natAbs, ?_, rfl⟩ ?_ ?_
  · show [some (V.int (if i < 0 then -i else i)), some (V.int (if j < 0 then -j else j))] = _
    rw [abs_eq, abs_eq]
  · rintro σ H1 ⟨rfl, a, b, rfl, e⟩
    refine ⟨_, rfl, rfl, _, rfl, ?_⟩
    refine ite2 (fun c => ?_) (fun c => ?_)
    · have hb : b ≠ 0 := fun z => by subst z; simp at c
      refine ⟨_, rfl, _, rfl, _, rfl, _, _, rfl, rfl, (by omega), _, _, rfl, ⟨rfl, b, a % b, ?_, ?_⟩, ?_⟩
      · rw [Int.natCast_emod] <;> rfl
      · rw [gcd_turn]; exact e
      · show ((a : Int) % (b : Int)).toNat < ((b : Nat) : Int).toNat
        rw [← Int.natCast_emod, Int.toNat_natCast, Int.toNat_natCast]
        exact Nat.mod_lt _ (by omega)
    · have hb : b = 0 := by
        simp at c
        omega
      subst hb
      refine ⟨_, rfl, ?_⟩
      rw [Nat.gcd_zero_right] at e
      rw [← e] at q
      exact q
  · rintro σ H1 Q1 Q2 m ⟨v, e1, s1, k, e2, q1⟩
    exact ⟨v, e1, s1, k, e2, m _ _ q1⟩
theorem ok_fraction {f : Addr} {fd : FuncData} (F : Fun K "fraction" "fraction" s_fraction f fd) (h_greatest_divisor : Own.Has P w K mg base "greatest_divisor" ["one", "other"] 1 (spGcd)) : FnOk P w K mg base CX0 2 f fd ["n", "d"] (spFr) := by
  refine F.ok sc_fraction (fun vs H Q E h => ?_) (fun cdv A outer s H vs Q E hr h => ?_)
  · obtain ⟨n, d, rfl, _⟩ := h
    rfl
  obtain ⟨n, d, rfl, d0, hz, q⟩ := h
  refine ⟨_, (pss_cons (ps_set (i := 2) sc_fraction.nd rfl (Or.inl rfl) (Own.pe_has h_greatest_divisor (hr.mono (by decide)) rfl (pa_cons (pv 0) (pa_cons (pv 1) pa_nil))))
      (pss_cons (ps_if (pt_cmpR op_lt (pv 1) pe_int (nomark _)) (pss_one (ps_set (i := 2) sc_fraction.nd rfl (Or.inl rfl) (pe_un un_neg (pv 2)))) pss_nil)
      (pss_one (ps_ret (pe_tup (pa_cons (pe_op Own.op_fdivW (pv 0) (pv 2)) (pa_cons (pe_op Own.op_fdivW (pv 1) (pv 2)) pa_nil))))))), ?_⟩
  have gl := gcd_le (n := n) d0
  have gp := gcd_pos (n := n) d0
  refine ⟨_, rfl, _, rfl, n, d, rfl, ?_⟩
  refine ⟨_, rfl, _, _, rfl, rfl, _, rfl, ?_⟩
  refine ite2 (fun c => ?_) (fun c => ?_)
  · have c' : d < 0 := of_decide_eq_true c
    refine ⟨_, rfl, _, rfl, ?_⟩
    have hd : CDivW n (-(Int.gcd n d : Int)) := ⟨by omega, by omega⟩
    refine ⟨_, rfl, _, rfl, _, _, rfl, rfl, hd, _, rfl, _, rfl, _, _, rfl, rfl, hd, (by show 2 ≤ sizeLine; decide), fun p hp => ?_⟩
    exact q _ _ p _ (fr_of d0 (.inr rfl) (fdiv_pos_of d0 (.inr ⟨c', rfl⟩))) (same_new hp _) upd_same
  · have c' : ¬ d < 0 := of_decide_eq_false (Bool.eq_false_iff.mpr c)
    have hd : CDivW n (Int.gcd n d : Int) := ⟨by omega, by omega⟩
    refine ⟨_, rfl, _, rfl, _, _, rfl, rfl, hd, _, rfl, _, rfl, _, _, rfl, rfl, hd, (by show 2 ≤ sizeLine; decide), fun p hp => ?_⟩
    exact q _ _ p _ (fr_of d0 (.inl rfl) (fdiv_pos_of d0 (.inl ⟨by omega, rfl⟩))) (same_new hp _) upd_same
theorem ok_plus {f : Addr} {fd : FuncData} (F : Fun K "plus" "plus" s_plus f fd) (h_fraction : Own.Has P w K mg base "fraction" ["n", "d"] 2 (spFr)) : FnOk P w K mg base CX0 3 f fd ["one", "other"] (spBin (fun a0 a1 b0 b1 => a0 * b1 + b0 * a1) (fun _ a1 _ b1 => a1 * b1)) := by
  refine F.ok sc_plus (fun vs H Q E h => ?_) (fun cdv A outer s H vs Q E hr h => ?_)
  · obtain ⟨a, b, a0, a1, b0, b1, rfl, _⟩ := h
    rfl
  obtain ⟨a, b, a0, a1, b0, b1, rfl, ha, hb, ⟨z1, z2, z3, z4⟩, nz, q⟩ := h
  refine ⟨_, (pss_one (ps_ret (Own.pe_has h_fraction (hr.mono (by decide)) rfl (pa_cons (pe_op op_add (pe_op Own.op_mulW (pe_ix ix_tup (pv 0) pe_int (fun _ _ => rfl)) (pe_ix ix_tup (pv 1) pe_int (fun _ _ => rfl))) (pe_op Own.op_mulW (pe_ix ix_tup (pv 1) pe_int (fun _ _ => rfl)) (pe_ix ix_tup (pv 0) pe_int (fun _ _ => rfl)))) (pa_cons (pe_op Own.op_mulW (pe_ix ix_tup (pv 0) pe_int (fun _ _ => rfl)) (pe_ix ix_tup (pv 1) pe_int (fun _ _ => rfl))) pa_nil))))), ?_⟩
  refine ⟨_, rfl, a, _, _, _, rfl, rfl, SqT.of ha, at0, _, rfl, b, _, _, _, rfl, rfl, SqT.of hb, at1, _, _, rfl, rfl, ⟨w9 z1, w9 z4⟩, ?_⟩
  refine ⟨_, rfl, b, _, _, _, rfl, rfl, SqT.of hb, at0, _, rfl, a, _, _, _, rfl, rfl, SqT.of ha, at1, _, _, rfl, rfl, ⟨w9 z3, w9 z2⟩, _, _, rfl, rfl, ?_⟩
  refine ⟨_, rfl, a, _, _, _, rfl, rfl, SqT.of ha, at1, _, rfl, b, _, _, _, rfl, rfl, SqT.of hb, at1, _, _, rfl, rfl, ⟨w9 z2, w9 z4⟩, ?_⟩
  exact ⟨_, _, rfl, nz, m9 z2 z4, q⟩
theorem ok_less {f : Addr} {fd : FuncData} (F : Fun K "less" "less" s_less f fd) (h_fraction : Own.Has P w K mg base "fraction" ["n", "d"] 2 (spFr)) : FnOk P w K mg base CX0 3 f fd ["one", "other"] (spBin (fun a0 a1 b0 b1 => a0 * b1 - b0 * a1) (fun _ a1 _ b1 => a1 * b1)) := by
  refine F.ok sc_less (fun vs H Q E h => ?_) (fun cdv A outer s H vs Q E hr h => ?_)
  · obtain ⟨a, b, a0, a1, b0, b1, rfl, _⟩ := h
    rfl
  obtain ⟨a, b, a0, a1, b0, b1, rfl, ha, hb, ⟨z1, z2, z3, z4⟩, nz, q⟩ := h
  refine ⟨_, (pss_one (ps_ret (Own.pe_has h_fraction (hr.mono (by decide)) rfl (pa_cons (pe_op op_sub (pe_op Own.op_mulW (pe_ix ix_tup (pv 0) pe_int (fun _ _ => rfl)) (pe_ix ix_tup (pv 1) pe_int (fun _ _ => rfl))) (pe_op Own.op_mulW (pe_ix ix_tup (pv 1) pe_int (fun _ _ => rfl)) (pe_ix ix_tup (pv 0) pe_int (fun _ _ => rfl)))) (pa_cons (pe_op Own.op_mulW (pe_ix ix_tup (pv 0) pe_int (fun _ _ => rfl)) (pe_ix ix_tup (pv 1) pe_int (fun _ _ => rfl))) pa_nil))))), ?_⟩
  refine ⟨_, rfl, a, _, _, _, rfl, rfl, SqT.of ha, at0, _, rfl, b, _, _, _, rfl, rfl, SqT.of hb, at1, _, _, rfl, rfl, ⟨w9 z1, w9 z4⟩, ?_⟩
  refine ⟨_, rfl, b, _, _, _, rfl, rfl, SqT.of hb, at0, _, rfl, a, _, _, _, rfl, rfl, SqT.of ha, at1, _, _, rfl, rfl, ⟨w9 z3, w9 z2⟩, _, _, rfl, rfl, ?_⟩
  refine ⟨_, rfl, a, _, _, _, rfl, rfl, SqT.of ha, at1, _, rfl, b, _, _, _, rfl, rfl, SqT.of hb, at1, _, _, rfl, rfl, ⟨w9 z2, w9 z4⟩, ?_⟩
  exact ⟨_, _, rfl, nz, m9 z2 z4, q⟩
theorem ok_times {f : Addr} {fd : FuncData} (F : Fun K "times" "times" s_times f fd) (h_fraction : Own.Has P w K mg base "fraction" ["n", "d"] 2 (spFr)) : FnOk P w K mg base CX0 3 f fd ["one", "other"] (spBin (fun a0 a1 b0 b1 => a0 * b0) (fun _ a1 _ b1 => a1 * b1)) := by
  refine F.ok sc_times (fun vs H Q E h => ?_) (fun cdv A outer s H vs Q E hr h => ?_)
  · obtain ⟨a, b, a0, a1, b0, b1, rfl, _⟩ := h
    rfl
  obtain ⟨a, b, a0, a1, b0, b1, rfl, ha, hb, ⟨z1, z2, z3, z4⟩, nz, q⟩ := h
  refine ⟨_, (pss_one (ps_ret (Own.pe_has h_fraction (hr.mono (by decide)) rfl (pa_cons (pe_op Own.op_mulW (pe_ix ix_tup (pv 0) pe_int (fun _ _ => rfl)) (pe_ix ix_tup (pv 1) pe_int (fun _ _ => rfl))) (pa_cons (pe_op Own.op_mulW (pe_ix ix_tup (pv 0) pe_int (fun _ _ => rfl)) (pe_ix ix_tup (pv 1) pe_int (fun _ _ => rfl))) pa_nil))))), ?_⟩
  refine ⟨_, rfl, a, _, _, _, rfl, rfl, SqT.of ha, at0, _, rfl, b, _, _, _, rfl, rfl, SqT.of hb, at0, _, _, rfl, rfl, ⟨w9 z1, w9 z3⟩, ?_⟩
  refine ⟨_, rfl, a, _, _, _, rfl, rfl, SqT.of ha, at1, _, rfl, b, _, _, _, rfl, rfl, SqT.of hb, at1, _, _, rfl, rfl, ⟨w9 z2, w9 z4⟩, ?_⟩
  exact ⟨_, _, rfl, nz, m9 z2 z4, q⟩
theorem PtAt.kept {H H' : Hp} {p : Addr} {P : Pt} (h : PtAt H p P) (g : Same H H') : PtAt H' p P := by
  obtain ⟨x, y, h1, h2, h3⟩ := h
  exact ⟨x, y, g _ _ h1, g _ _ h2, g _ _ h3⟩
theorem PtAt.but {H H' : Hp} {p a : Addr} {P : Pt} {xs : List V} (h : PtAt H p P) (ha : H a = some (.lst xs)) (g : SameBut a H H') : PtAt H' p P := by
  obtain ⟨x, y, h1, h2, h3⟩ := h
  exact ⟨x, y, g _ _ (ne_of h1 ha (by intro z; cases z)) h1, g _ _ (ne_of h2 ha (by intro z; cases z)) h2, g _ _ (ne_of h3 ha (by intro z; cases z)) h3⟩
theorem sp_lt {P : Pt} (z : Sz 1000 P) : (P.n * P.e).natAbs < 2 ^ 2000 ∧ (P.m * P.d).natAbs < 2 ^ 2000 ∧ (P.d * P.e).natAbs < 2 ^ 2000 := by
  obtain ⟨_, _, z1, z2, z3, z4⟩ := z
  exact ⟨mul_lt_pow z1 z4, mul_lt_pow z3 z2, mul_lt_pow z2 z4⟩
theorem ok_hand {f : Addr} {fd : FuncData} (F : Fun K "hand" "hand" s_hand f fd) (h_across : Own.Has P w K mg base "across" ["one", "other"] 1 (spAcross)) (h_spread : Own.Has P w K mg base "spread" ["point"] 1 (spSpread)) (h_sign : Own.Has P w K mg base "sign" ["one"] 1 (spSign)) : FnOk P w K mg base CX0 2 f fd ["p", "q", "r"] (spHand det) := by
  refine F.ok sc_hand (fun vs H Q E h => ?_) (fun cdv A outer s H vs Q E hr h => ?_)
  · obtain ⟨p, q', r, P, P', R, rfl, _⟩ := h
    rfl
  obtain ⟨p, q', r, P, P', R, rfl, hp, hq, hR, zp, zq, zr, q⟩ := h
  refine ⟨_, (pss_cons (ps_asg (Own.pe_has h_across (hr.mono (by decide)) rfl (pa_cons (Own.pe_has h_spread (hr.mono (by decide)) rfl (pa_cons (pv 0) pa_nil)) (pa_cons (Own.pe_has h_spread (hr.mono (by decide)) rfl (pa_cons (pv 1) pa_nil)) pa_nil))) (pg_tup rfl (pgs_cons (pg_name (i := 3) sc_hand.nd rfl (Or.inl rfl)) (pgs_cons (pg_name (i := 4) sc_hand.nd rfl (Or.inl rfl)) (pgs_cons (pg_name (i := 5) sc_hand.nd rfl (Or.inl rfl)) pgs_nil)))))
      (pss_cons (ps_asg (Own.pe_has h_spread (hr.mono (by decide)) rfl (pa_cons (pv 2) pa_nil)) (pg_tup rfl (pgs_cons (pg_name (i := 6) sc_hand.nd rfl (Or.inl rfl)) (pgs_cons (pg_name (i := 7) sc_hand.nd rfl (Or.inl rfl)) (pgs_cons (pg_name (i := 8) sc_hand.nd rfl (Or.inl rfl)) pgs_nil)))))
      (pss_one (ps_ret (Own.pe_has h_sign (hr.mono (by decide)) rfl (pa_cons (pe_tup (pa_cons (pe_op op_add (pe_op op_add (pe_op Own.op_mulW (pv 3) (pv 6)) (pe_op Own.op_mulW (pv 4) (pv 7))) (pe_op Own.op_mulW (pv 5) (pv 8))) (pa_cons pe_int pa_nil))) pa_nil)))))), ?_⟩
  obtain ⟨s1, s2, s3⟩ := sp_lt zp
  obtain ⟨t1, t2, t3⟩ := sp_lt zq
  obtain ⟨u1, u2, u3⟩ := sp_lt zr
  have v : ∀ {i : Int}, i.natAbs < 2 ^ 2000 → i.natAbs < 2 ^ 4000 := fun h => up h (by decide)
  have v9 : ∀ {i : Int}, i.natAbs < 2 ^ 2000 → i.natAbs < 2 ^ 9000 := fun h => up h (by decide)
  refine ⟨_, rfl, p, P, rfl, hp, zp, fun a1 n1 => ?_⟩
  have g1 := same_new n1 (.tup [.int (P.n * P.e), .int (P.m * P.d), .int (P.d * P.e)])
  refine ⟨_, rfl, q', P', rfl, hq.kept g1, zq, fun a2 n2 => ?_⟩
  have g2 := same_new n2 (.tup [.int (P'.n * P'.e), .int (P'.m * P'.d), .int (P'.d * P'.e)])
  refine ⟨a1, a2, _, _, _, _, _, _, rfl, g2 _ _ upd_same, upd_same, ⟨v s1, v s2, v s3, v t1, v t2, v t3⟩, fun a3 n3 => ?_⟩
  refine ⟨a3, _, rfl, SqT.of upd_same, rfl, _, _, rfl, _, _, rfl, _, _, rfl, rfl, ?_⟩
  have g3 := (g1.trans g2).trans (same_new n3 (.tup [.int (P.m * P.d * (P'.d * P'.e) - P.d * P.e * (P'.m * P'.d)), .int (P.d * P.e * (P'.n * P'.e) - P.n * P.e * (P'.d * P'.e)), .int (P.n * P.e * (P'.m * P'.d) - P.m * P.d * (P'.n * P'.e))]))
  refine ⟨_, rfl, r, R, rfl, hR.kept g3, zr, fun a4 n4 => ?_⟩
  have g4 := g3.trans (same_new n4 (.tup [.int (R.n * R.e), .int (R.m * R.d), .int (R.d * R.e)]))
  refine ⟨a4, _, rfl, SqT.of upd_same, rfl, _, _, rfl, _, _, rfl, _, _, rfl, rfl, ?_⟩
  have w : ∀ {i j k l : Int}, i.natAbs < 2 ^ 2000 → j.natAbs < 2 ^ 2000 → k.natAbs < 2 ^ 2000 → l.natAbs < 2 ^ 2000 → (i * j - k * l).natAbs < 2 ^ 9000 := fun h1 h2 h3 h4 => up (sub_lt_pow (mul_lt_pow h1 h2) (mul_lt_pow h3 h4)) (by decide)
  refine ⟨_, rfl, _, rfl, _, _, rfl, rfl, ⟨w s2 t3 s3 t2, v9 u1⟩, _, rfl, _, rfl, _, _, rfl, rfl, ⟨w s3 t1 s1 t3, v9 u2⟩, _, _, rfl, rfl, _, rfl, _, rfl, _, _, rfl, rfl, ⟨w s1 t2 s2 t1, v9 u3⟩, _, _, rfl, rfl, (by show 2 ≤ sizeLine; decide), fun a5 n5 => ?_⟩
  refine ⟨a5, _, _, rfl, upd_same, ?_⟩
  exact q _ (g4.trans (same_new n5 _))
theorem ok_law_hand {f : Addr} {fd : FuncData} (F : Fun K "_law_hand" "_law_hand" s_law_hand f fd) (h_law_apart : Own.Has P w K mg base "_law_apart" ["_law_one", "_law_other"] 1 (spApart)) (h_law_sign : Own.Has P w K mg base "_law_sign" ["_law_one"] 1 (spSign)) : FnOk P w K mg base CX0 2 f fd ["_law_p", "_law_q", "_law_r"] (spHandL) := by
  refine F.ok sc_law_hand (fun vs H Q E h => ?_) (fun cdv A outer s H vs Q E hr h => ?_)
  · obtain ⟨p, q', r, P, P', R, rfl, _⟩ := h
    rfl
  obtain ⟨p, q', r, P, P', R, rfl, ⟨px, py, hp, hpx, hpy⟩, ⟨qx, qy, hq, hqx, hqy⟩, ⟨rx, ry, hR, hrx, hry⟩, ⟨_, _, p1, p2, p3, p4⟩, ⟨_, _, q1, q2, q3, q4⟩, ⟨_, _, r1, r2, r3, r4⟩, q⟩ := h
  refine ⟨_, (pss_cons (ps_par (i := 3) (j := 4) rfl sc_law_hand.nd rfl rfl (by decide) rfl rfl (pa_cons (Own.pe_has h_law_apart (hr.mono (by decide)) rfl (pa_cons (pe_ix ix_tup (pv 0) pe_int (fun _ _ => rfl)) (pa_cons (pe_ix ix_tup (pv 1) pe_int (fun _ _ => rfl)) pa_nil))) (pa_cons (Own.pe_has h_law_apart (hr.mono (by decide)) rfl (pa_cons (pe_ix ix_tup (pv 0) pe_int (fun _ _ => rfl)) (pa_cons (pe_ix ix_tup (pv 1) pe_int (fun _ _ => rfl)) pa_nil))) pa_nil)) rfl)
      (pss_cons (ps_par (i := 5) (j := 6) rfl sc_law_hand.nd rfl rfl (by decide) rfl rfl (pa_cons (Own.pe_has h_law_apart (hr.mono (by decide)) rfl (pa_cons (pe_ix ix_tup (pv 0) pe_int (fun _ _ => rfl)) (pa_cons (pe_ix ix_tup (pv 2) pe_int (fun _ _ => rfl)) pa_nil))) (pa_cons (Own.pe_has h_law_apart (hr.mono (by decide)) rfl (pa_cons (pe_ix ix_tup (pv 0) pe_int (fun _ _ => rfl)) (pa_cons (pe_ix ix_tup (pv 2) pe_int (fun _ _ => rfl)) pa_nil))) pa_nil)) rfl)
      (pss_one (ps_ret (Own.pe_has h_law_sign (hr.mono (by decide)) rfl (pa_cons (pe_tup (pa_cons (pe_op op_sub (pe_op Own.op_mulW (pe_op Own.op_mulW (pe_op Own.op_mulW (pe_ix ix_tup (pv 3) pe_int (fun _ _ => rfl)) (pe_ix ix_tup (pv 6) pe_int (fun _ _ => rfl))) (pe_ix ix_tup (pv 4) pe_int (fun _ _ => rfl))) (pe_ix ix_tup (pv 5) pe_int (fun _ _ => rfl))) (pe_op Own.op_mulW (pe_op Own.op_mulW (pe_op Own.op_mulW (pe_ix ix_tup (pv 4) pe_int (fun _ _ => rfl)) (pe_ix ix_tup (pv 5) pe_int (fun _ _ => rfl))) (pe_ix ix_tup (pv 3) pe_int (fun _ _ => rfl))) (pe_ix ix_tup (pv 6) pe_int (fun _ _ => rfl)))) (pa_cons pe_int pa_nil))) pa_nil)))))), ?_⟩
  have ul : ∀ {i : Int}, i.natAbs < 2 ^ 210 → i.natAbs < 2 ^ 1700 := fun h => up h (by decide)
  -- a, b
  refine ⟨_, rfl, p, _, _, _, rfl, rfl, SqT.of hp, at0, _, rfl, q', _, _, _, rfl, rfl, SqT.of hq, at0, px, qx, _, _, _, _, rfl, hpx, hqx, ⟨ul p1, ul p2, ul q1, ul q2⟩, fun t1 n1 => ?_⟩
  have g1 := same_new n1 (.tup [.int (P'.n * P.d - P.n * P'.d), .int (P.d * P'.d)])
  refine ⟨_, rfl, p, _, _, _, rfl, rfl, SqT.of (g1 _ _ hp), at1, _, rfl, q', _, _, _, rfl, rfl, SqT.of (g1 _ _ hq), at1, py, qy, _, _, _, _, rfl, g1 _ _ hpy, g1 _ _ hqy, ⟨ul p3, ul p4, ul q3, ul q4⟩, fun t2 n2 => ?_⟩
  refine ⟨_, _, rfl, ?_⟩
  have g2 := g1.trans (same_new n2 (.tup [.int (P'.m * P.e - P.m * P'.e), .int (P.e * P'.e)]))
  have b1 := (same_new n2 (.tup [.int (P'.m * P.e - P.m * P'.e), .int (P.e * P'.e)])) _ _ (upd_same (H := H) (a := t1) (o := .tup [.int (P'.n * P.d - P.n * P'.d), .int (P.d * P'.d)]))
  have b2 := upd_same (H := upd H t1 (.tup [.int (P'.n * P.d - P.n * P'.d), .int (P.d * P'.d)])) (a := t2) (o := .tup [.int (P'.m * P.e - P.m * P'.e), .int (P.e * P'.e)])
  generalize upd (upd H t1 (.tup [.int (P'.n * P.d - P.n * P'.d), .int (P.d * P'.d)])) t2 (.tup [.int (P'.m * P.e - P.m * P'.e), .int (P.e * P'.e)]) = H2 at *
  -- c, d
  refine ⟨_, rfl, p, _, _, _, rfl, rfl, SqT.of (g2 _ _ hp), at0, _, rfl, r, _, _, _, rfl, rfl, SqT.of (g2 _ _ hR), at0, px, rx, _, _, _, _, rfl, g2 _ _ hpx, g2 _ _ hrx, ⟨ul p1, ul p2, r1, r2⟩, fun t3 n3 => ?_⟩
  have g3 := same_new n3 (.tup [.int (R.n * P.d - P.n * R.d), .int (P.d * R.d)])
  have h3 := g2.trans g3
  refine ⟨_, rfl, p, _, _, _, rfl, rfl, SqT.of (h3 _ _ hp), at1, _, rfl, r, _, _, _, rfl, rfl, SqT.of (h3 _ _ hR), at1, py, ry, _, _, _, _, rfl, h3 _ _ hpy, h3 _ _ hry, ⟨ul p3, ul p4, r3, r4⟩, fun t4 n4 => ?_⟩
  refine ⟨_, _, rfl, ?_⟩
  have g4 := same_new n4 (.tup [.int (R.m * P.e - P.m * R.e), .int (P.e * R.e)])
  have h4 := h3.trans g4
  have b3 := g4 _ _ (upd_same (H := H2) (a := t3) (o := .tup [.int (R.n * P.d - P.n * R.d), .int (P.d * R.d)]))
  have b4 := upd_same (H := upd H2 t3 (.tup [.int (R.n * P.d - P.n * R.d), .int (P.d * R.d)])) (a := t4) (o := .tup [.int (R.m * P.e - P.m * R.e), .int (P.e * R.e)])
  have b1 := (g3.trans g4) _ _ b1
  have b2 := (g3.trans g4) _ _ b2
  generalize upd (upd H2 t3 (.tup [.int (R.n * P.d - P.n * R.d), .int (P.d * R.d)])) t4 (.tup [.int (R.m * P.e - P.m * R.e), .int (P.e * R.e)]) = H4 at *
  have c1 : (P'.n * P.d - P.n * P'.d).natAbs < 2 ^ 421 := sub_lt_pow (mul_lt_pow q1 p2) (mul_lt_pow p1 q2)
  have c3 : (P'.m * P.e - P.m * P'.e).natAbs < 2 ^ 421 := sub_lt_pow (mul_lt_pow q3 p4) (mul_lt_pow p3 q4)
  have c2 : (R.m * P.e - P.m * R.e).natAbs < 2 ^ 1911 := sub_lt_pow (up (mul_lt_pow r3 p4) (by decide)) (up (mul_lt_pow p3 r4) (by decide))
  have c4 : (R.n * P.d - P.n * R.d).natAbs < 2 ^ 1911 := sub_lt_pow (up (mul_lt_pow r1 p2) (by decide)) (up (mul_lt_pow p1 r2) (by decide))
  have v1 : ∀ {i : Int}, i.natAbs < 2 ^ 421 → i.natAbs < 2 ^ 9000 := fun h => up h (by decide)
  have v2 : ∀ {i : Int}, i.natAbs < 2 ^ 1911 → i.natAbs < 2 ^ 9000 := fun h => up h (by decide)
  have m2 : ∀ {i j : Int}, i.natAbs < 2 ^ 210 → j.natAbs < 2 ^ 210 → (i * j).natAbs < 2 ^ 9000 := fun h1 h2 => up (mul_lt_pow h1 h2) (by decide)
  have m3 : ∀ {i j : Int}, i.natAbs < 2 ^ 210 → j.natAbs < 2 ^ 1700 → (i * j).natAbs < 2 ^ 9000 := fun h1 h2 => up (mul_lt_pow h1 h2) (by decide)
  have u4 : ∀ {i j : Int}, i.natAbs < 2 ^ 421 → j.natAbs < 2 ^ 1911 → (i * j).natAbs < 2 ^ 9000 := fun h h' => up (mul_lt_pow h h') (by decide)
  have u6 : ∀ {i j k l : Int}, i.natAbs < 2 ^ 421 → j.natAbs < 2 ^ 1911 → k.natAbs < 2 ^ 210 → l.natAbs < 2 ^ 210 → (i * j * (k * l)).natAbs < 2 ^ 9000 := fun h h' h2 h3 => up (mul_lt_pow (mul_lt_pow h h') (mul_lt_pow h2 h3)) (by decide)
  refine ⟨_, rfl, t1, _, _, _, rfl, rfl, SqT.of b1, at0, _, rfl, t4, _, _, _, rfl, rfl, SqT.of b4, at0, _, _, rfl, rfl, ⟨v1 c1, v2 c2⟩, _, rfl, t2, _, _, _, rfl, rfl, SqT.of b2, at1, _, _, rfl, rfl, ⟨u4 c1 c2, m2 p4 q4⟩, _, rfl, t3, _, _, _, rfl, rfl, SqT.of b3, at1, _, _, rfl, rfl, ⟨u6 c1 c2 p4 q4, m3 p2 r2⟩, ?_⟩
  refine ⟨_, rfl, t2, _, _, _, rfl, rfl, SqT.of b2, at0, _, rfl, t3, _, _, _, rfl, rfl, SqT.of b3, at0, _, _, rfl, rfl, ⟨v1 c3, v2 c4⟩, _, rfl, t1, _, _, _, rfl, rfl, SqT.of b1, at1, _, _, rfl, rfl, ⟨u4 c3 c4, m2 p2 q2⟩, _, rfl, t4, _, _, _, rfl, rfl, SqT.of b4, at1, _, _, rfl, rfl, ⟨u6 c3 c4 p2 q2, m3 p4 r4⟩, _, _, rfl, rfl, (by show 2 ≤ sizeLine; decide), fun t5 n5 => ?_⟩
  refine ⟨t5, _, _, rfl, upd_same, ?_⟩
  exact q _ (h4.trans (same_new n5 _))
theorem lit9 {i : Int} (h : i.natAbs < 2 ^ 200) : i.natAbs < 2 ^ 9000 := up h (by decide)
theorem Fz.of_fr {B : Nat} {n d n' d' : Int} (fr : Fr n d n' d') (hn : n.natAbs < 2 ^ B) (hd : d.natAbs < 2 ^ B) : Fz B n' d' := ⟨fr.pos, Nat.lt_of_le_of_lt fr.ln hn, Nat.lt_of_le_of_lt fr.ld hd⟩
theorem fars {d : Int} (h0 : 0 ≤ d) (h1 : d < 3) : ∃ f : Int, atI [V.int (10 ^ (3 : Int).toNat), V.int (10 ^ (12 : Int).toNat), V.int (10 ^ (57 : Int).toNat)] d = some (.int f) ∧ 0 < f ∧ f.natAbs < 2 ^ 190 := by
  have : d = 0 ∨ d = 1 ∨ d = 2 := by omega
  rcases this with rfl | rfl | rfl
  · exact ⟨_, rfl, by decide, by decide⟩
  · exact ⟨_, rfl, by decide, by decide⟩
  · exact ⟨_, rfl, by decide, by decide⟩
theorem ok_law_number {f : Addr} {fd : FuncData} (F : Fun K "_law_number" "_law_number" s_law_number f fd) (h_law_low : Own.Has P w K mg base "_law_low" ["_law_n", "_law_d"] 1 (spFr)) (h_law_digit : Own.Has P w K mg base "_law_digit" ["_law_pot_here", "_law_many"] 1 (spDigit)) : FnOk P w K mg base CX0 2 f fd ["_law_pot_here", "_law_mode"] (spNumber) := by
  refine F.ok sc_law_number (fun vs H Q E h => ?_) (fun cdv A outer s H vs Q E hr h => ?_)
  · obtain ⟨a, mode, rfl, _⟩ := h
    rfl
  obtain ⟨a, mode, rfl, ha, m0, q⟩ := h
  refine ⟨_, (pss_cons (ps_if (pt_cmpR op_eq (pv 1) pe_int (nomark _)) (pss_one (ps_ret (Own.pe_has h_law_low (hr.mono (by decide)) rfl (pa_cons (pe_op op_sub (Own.pe_has h_law_digit (hr.mono (by decide)) rfl (pa_cons (pv 0) (pa_cons pe_int pa_nil))) pe_int) (pa_cons (pe_op op_add pe_int (Own.pe_has h_law_digit (hr.mono (by decide)) rfl (pa_cons (pv 0) (pa_cons pe_int pa_nil)))) pa_nil))))) pss_nil)
      (pss_cons (ps_if (pt_cmpR op_eq (pv 1) pe_int (nomark _)) (pss_one (ps_ret (pe_tup (pa_cons (pe_op op_sub (Own.pe_has h_law_digit (hr.mono (by decide)) rfl (pa_cons (pv 0) (pa_cons pe_int pa_nil))) pe_int) (pa_cons pe_int pa_nil))))) pss_nil)
      (pss_cons (ps_set (i := 2) sc_law_number.nd rfl (Or.inl rfl) (pe_ix ix_list (pe_lst (pa_cons (pe_op op_pow pe_int pe_int) (pa_cons (pe_op op_pow pe_int pe_int) (pa_cons (pe_op op_pow pe_int pe_int) pa_nil)))) (Own.pe_has h_law_digit (hr.mono (by decide)) rfl (pa_cons (pv 0) (pa_cons pe_int pa_nil))) (fun _ _ => rfl)))
      (pss_one (ps_ret (Own.pe_has h_law_low (hr.mono (by decide)) rfl (pa_cons (pe_op op_sub (Own.pe_has h_law_digit (hr.mono (by decide)) rfl (pa_cons (pv 0) (pa_cons (pe_op Own.op_mulW pe_int (pv 2)) pa_nil))) (pv 2)) (pa_cons (pe_op op_add pe_int (Own.pe_has h_law_digit (hr.mono (by decide)) rfl (pa_cons (pv 0) (pa_cons (pv 2) pa_nil)))) pa_nil)))))))), ?_⟩
  refine ⟨_, rfl, rfl, _, rfl, ?_⟩
  refine ite2 (fun e => ?_) (fun e => ?_)
  · have e' : mode = 0 := by simpa using e
    rw [if_pos (by omega)] at q
    refine ⟨_, rfl, a, 9, rfl, ha, by decide, lit9 (by decide), fun c H1 c0 c1 s1 p1 => ⟨_, _, rfl, rfl, ?_⟩⟩
    refine ⟨_, rfl, a, 3, rfl, p1, by decide, lit9 (by decide), fun d H2 d0 d1 s2 p2 => ⟨_, _, rfl, rfl, ?_⟩⟩
    refine ⟨_, _, rfl, (by omega), lit9 (Nat.lt_trans (m := 10) (by omega) (by decide)), fun n' d' p H3 fr g hp => ?_⟩
    exact q n' d' p H3 (Fz.of_fr fr (Nat.lt_trans (m := 10) (by omega) (by decide)) (Nat.lt_trans (m := 10) (by omega) (by decide))) fr.co (s1.trans (s2.trans (.of g))) (p2.kept g) hp
  refine ⟨_, rfl, rfl, _, rfl, ?_⟩
  refine ite2 (fun e => ?_) (fun e2 => ?_)
  · have e' : mode = 1 := by simpa using e
    rw [if_pos (by omega)] at q
    refine ⟨_, rfl, a, 7, rfl, ha, by decide, lit9 (by decide), fun c H1 c0 c1 s1 p1 => ⟨_, _, rfl, rfl, (by show 2 ≤ sizeLine; decide), fun p hp => ?_⟩⟩
    exact q _ _ p _ ⟨by decide, Nat.lt_trans (m := 10) (by omega) (by decide), by decide⟩ (Int.gcd_one_right ..) (s1.trans (.of (same_new hp _))) (p1.kept (same_new hp _)) upd_same
  have e' : mode ≠ 0 := fun z => e (by subst z; rfl)
  have e2' : mode ≠ 1 := fun z => e2 (by subst z; rfl)
  rw [if_neg (by omega)] at q
  refine ⟨_, _, rfl, rfl, ⟨by decide, by decide, by decide⟩, _, _, rfl, rfl, ⟨by decide, by decide, by decide⟩, _, _, rfl, rfl, ⟨by decide, by decide, by decide⟩, (by show 3 ≤ sizeLine; decide), fun l hl => ?_⟩
  have g0 := same_new hl (.lst [V.int (10 ^ (3 : Int).toNat), V.int (10 ^ (12 : Int).toNat), V.int (10 ^ (57 : Int).toNat)])
  have la : l ≠ a := by
    obtain ⟨x, y, z, _⟩ := ha
    exact (ne_of_none z hl).symm
  refine ⟨_, rfl, a, 3, rfl, ha.kept g0, by decide, lit9 (by decide), fun c H1 c0 c1 s1 p1 => ?_⟩
  obtain ⟨f, hf, f0, f1⟩ := fars c0 c1
  refine ⟨l, _, _, _, rfl, rfl, SqL.of (s1 _ _ la upd_same), hf, ?_⟩
  have k1 := (SameBut.of (a := a) g0).trans s1
  have f9 : f.natAbs < 2 ^ 9000 := up f1 (by decide)
  have f2 : (2 * f).natAbs < 2 ^ 191 := by
    rw [show (2 : Nat) ^ 191 = 2 ^ 190 * 2 by decide]
    omega
  refine ⟨_, rfl, _, rfl, _, _, rfl, rfl, ⟨lit9 (by decide), f9⟩, a, _, rfl, p1, (by omega), up f2 (by decide), fun d H2 d0 d1 s2 p2 => ⟨_, rfl, _, _, rfl, rfl, ?_⟩⟩
  refine ⟨_, rfl, _, rfl, a, _, rfl, p2, f0, f9, fun d' H3 d0' d1' s3 p3 => ⟨_, _, rfl, rfl, ?_⟩⟩
  have b1 : (d - f).natAbs < 2 ^ 200 := Nat.lt_of_le_of_lt (m := (2 * f).natAbs) (by omega) (up f2 (by decide))
  have b2 : (1 + d').natAbs < 2 ^ 200 := Nat.lt_of_le_of_lt (m := (2 * f).natAbs) (by omega) (up f2 (by decide))
  refine ⟨_, _, rfl, (by omega), lit9 b2, fun n' d' p H4 fr g hp => ?_⟩
  exact q n' d' p H4 (Fz.of_fr fr b1 b2) fr.co (k1.trans (s2.trans (s3.trans (.of g)))) (p3.kept g) hp
theorem mul_ne {a b : Int} (h : a ≠ 0) (h' : b ≠ 0) : a * b ≠ 0 := fun e => by
  rcases Int.mul_eq_zero.mp e with z | z
  · exact h z
  · exact h' z
theorem pos_ne {a : Int} (h : 0 < a) : a ≠ 0 := by omega
theorem ok_law_between {f : Addr} {fd : FuncData} (F : Fun K "_law_between" "_law_between" s_law_between f fd) (h_law_plus : Own.Has P w K mg base "_law_plus" ["_law_one", "_law_other"] 2 (spBin (fun a0 a1 b0 b1 => a0 * b1 + b0 * a1) (fun _ a1 _ b1 => a1 * b1))) (h_law_times : Own.Has P w K mg base "_law_times" ["_law_one", "_law_other"] 2 (spBin (fun a0 a1 b0 b1 => a0 * b0) (fun _ a1 _ b1 => a1 * b1))) (h_law_less : Own.Has P w K mg base "_law_less" ["_law_one", "_law_other"] 2 (spBin (fun a0 a1 b0 b1 => a0 * b1 - b0 * a1) (fun _ a1 _ b1 => a1 * b1))) : FnOk P w K mg base CX0 3 f fd ["_law_one", "_law_other", "_law_part"] (spBetween) := by
  refine F.ok sc_law_between (fun vs H Q E h => ?_) (fun cdv A outer s H vs Q E hr h => ?_)
  · obtain ⟨a, b, c, a0, a1, b0, b1, c0, c1, B, rfl, _⟩ := h
    rfl
  obtain ⟨a, b, c, a0, a1, b0, b1, c0, c1, B, rfl, ha, hb, hc, ⟨ap, az, ay⟩, ⟨bp, bz, bY⟩, ⟨cp, cz, cy⟩, hB, q⟩ := h
  refine ⟨_, (pss_one (ps_ret (Own.pe_has h_law_plus (hr.mono (by decide)) rfl (pa_cons (pv 0) (pa_cons (Own.pe_has h_law_times (hr.mono (by decide)) rfl (pa_cons (pv 2) (pa_cons (Own.pe_has h_law_less (hr.mono (by decide)) rfl (pa_cons (pv 1) (pa_cons (pv 0) pa_nil))) pa_nil))) pa_nil))))), ?_⟩
  have u : ∀ {i : Int}, i.natAbs < 2 ^ B → i.natAbs < 2 ^ 1000 := fun h => up h (by omega)
  have u2 : ∀ {i : Int}, i.natAbs < 2 ^ 2 → i.natAbs < 2 ^ 1000 := fun h => up h (by omega)
  refine ⟨_, rfl, _, rfl, _, rfl, _, rfl, b, a, b0, b1, a0, a1, rfl, hb, ha, ⟨u bz, u bY, u az, u ay⟩, mul_ne (pos_ne bp) (pos_ne ap), fun n1 d1 p1 H1 fr1 g1 hp1 => ?_⟩
  have x1 : n1.natAbs < 2 ^ (B + B + 1) := Nat.lt_of_le_of_lt fr1.ln (sub_lt_pow (mul_lt_pow bz ay) (mul_lt_pow az bY))
  have x2 : d1.natAbs < 2 ^ (B + B) := Nat.lt_of_le_of_lt fr1.ld (mul_lt_pow bY ay)
  refine ⟨c, p1, c0, c1, n1, d1, rfl, g1 _ _ hc, hp1, ⟨u2 cz, u2 cy, up x1 (by omega), up x2 (by omega)⟩, mul_ne (pos_ne cp) (pos_ne fr1.pos), fun n2 d2 p2 H2 fr2 g2 hp2 => ?_⟩
  have y1 : n2.natAbs < 2 ^ (2 + (B + B + 1)) := Nat.lt_of_le_of_lt fr2.ln (mul_lt_pow cz x1)
  have y2 : d2.natAbs < 2 ^ (2 + (B + B)) := Nat.lt_of_le_of_lt fr2.ld (mul_lt_pow cy x2)
  refine ⟨a, p2, a0, a1, n2, d2, rfl, (g1.trans g2) _ _ ha, hp2, ⟨u az, u ay, up y1 (by omega), up y2 (by omega)⟩, mul_ne (pos_ne ap) (pos_ne fr2.pos), fun n3 d3 p3 H3 fr3 g3 hp3 => ?_⟩
  refine q n3 d3 p3 H3 (Fz.of_fr fr3 (up (i := 3 * B + 3 + 1) (add_lt_pow (up (mul_lt_pow az y2) (by omega)) (up (mul_lt_pow y1 ay) (by omega))) (by omega)) (up (mul_lt_pow ay y2) (by omega))) fr3.co (g1.trans (g2.trans g3)) hp3
theorem Sz.up {B C : Nat} {P : Pt} (h : Sz B P) (hbc : B ≤ C) : Sz C P := by
  obtain ⟨z1, z2, z3, z4, z5, z6⟩ := h
  exact ⟨z1, z2, Mth.up z3 hbc, Mth.up z4 hbc, Mth.up z5 hbc, Mth.up z6 hbc⟩
theorem ListAt.but {H H' : Hp} {l a : Addr} {B n : Nat} (h : ListAt H l B n) (ha : PotAt H a) (ne : l ≠ a) (g : SameBut a H H') : ListAt H' l B n := by
  obtain ⟨ps, h1, h2, h3⟩ := h
  obtain ⟨x, y, e, _⟩ := ha
  refine ⟨ps, g _ _ ne h1, h2, fun p hp => ?_⟩
  obtain ⟨P, k1, k2⟩ := h3 p hp
  exact ⟨P, k1.but e g, k2⟩
theorem ListAt.pick {H : Hp} {l : Addr} {B n : Nat} (h : ListAt H l B n) {d : Int} (d0 : 0 ≤ d) (d1 : d < n) : ∃ (ps : List Addr) (p : Addr) (P : Pt), H l = some (.lst (ps.map V.ref)) ∧ atI (ps.map V.ref) d = some (.ref p) ∧ PtAt H p P ∧ Sz B P ∧ Lw P := by
  obtain ⟨ps, h1, h2, h3⟩ := h
  obtain ⟨j, rfl⟩ := Int.eq_ofNat_of_zero_le d0
  have hj : j < ps.length := by omega
  obtain ⟨P, k1, k2⟩ := h3 ps[j] (List.getElem_mem hj)
  refine ⟨ps, ps[j], P, h1, atI_nat ?_, k1, k2⟩
  rw [List.getElem?_map, List.getElem?_eq_getElem hj]
  rfl
theorem parts {d : Int} (h0 : 0 ≤ d) (h1 : d < 4) {a b c e : V} : ∃ v, atI [a, b, c, e] d = some v ∧ (v = a ∨ v = b ∨ v = c ∨ v = e) := by
  have : d = 0 ∨ d = 1 ∨ d = 2 ∨ d = 3 := by omega
  rcases this with rfl | rfl | rfl | rfl
  · exact ⟨_, rfl, .inl rfl⟩
  · exact ⟨_, rfl, .inr (.inl rfl)⟩
  · exact ⟨_, rfl, .inr (.inr (.inl rfl))⟩
  · exact ⟨_, rfl, .inr (.inr (.inr rfl))⟩
theorem Fz.sz {B : Nat} {n d m e : Int} (h : Fz B n d) (h' : Fz B m e) : Sz B ⟨n, d, m, e⟩ := ⟨h.1, h'.1, h.2.1, h.2.2, h'.2.1, h'.2.2⟩
theorem Fz.up {B C : Nat} {n d : Int} (h : Fz B n d) (hbc : B ≤ C) : Fz C n d := ⟨h.1, Mth.up h.2.1 hbc, Mth.up h.2.2 hbc⟩
theorem ok_law_point {f : Addr} {fd : FuncData} (F : Fun K "_law_point" "_law_point" s_law_point f fd) (h_law_digit : Own.Has P w K mg base "_law_digit" ["_law_pot_here", "_law_many"] 1 (spDigit)) (h_law_between : Own.Has P w K mg base "_law_between" ["_law_one", "_law_other", "_law_part"] 3 (spBetween)) (h_law_number : Own.Has P w K mg base "_law_number" ["_law_pot_here", "_law_mode"] 2 (spNumber)) (z_len : mg "len" = none) : FnOk P w K mg base CX0 4 f fd ["_law_pot_here", "_law_points_here", "_law_mode"] (spPoint) := by
  refine F.ok sc_law_point (fun vs H Q E h => ?_) (fun cdv A outer s H vs Q E hr h => ?_)
  · obtain ⟨a, l, mode, B, n, rfl, _⟩ := h
    rfl
  obtain ⟨a, l, mode, B, n, rfl, ha, hl, nal, m0, B0, B1, hn, q⟩ := h
  refine ⟨_, (pss_cons (ps_if (PW.pt (pw_and (pt_cmpR op_lt (pv 2) pe_int (nomark _)) (pw_and (pt_cmpR op_gt (pe_callB call_len_seq rfl z_len PySem.boot_len (pa_cons (pv 1) pa_nil)) pe_int (nomark _)) (pw_and1 (pt_cmpR op_eq (Own.pe_has h_law_digit (hr.mono (by decide)) rfl (pa_cons (pv 0) (pa_cons pe_int pa_nil))) pe_int (nomark _)))))) (pss_cons (ps_set (i := 3) sc_law_point.nd rfl (Or.inl rfl) (pe_ix ix_list (pv 1) (Own.pe_has h_law_digit (hr.mono (by decide)) rfl (pa_cons (pv 0) (pa_cons (pe_callB call_len_seq rfl z_len PySem.boot_len (pa_cons (pv 1) pa_nil)) pa_nil))) (fun _ _ => rfl)))
      (pss_cons (ps_set (i := 4) sc_law_point.nd rfl (Or.inl rfl) (pe_ix ix_list (pv 1) (Own.pe_has h_law_digit (hr.mono (by decide)) rfl (pa_cons (pv 0) (pa_cons (pe_callB call_len_seq rfl z_len PySem.boot_len (pa_cons (pv 1) pa_nil)) pa_nil))) (fun _ _ => rfl)))
      (pss_cons (ps_set (i := 5) sc_law_point.nd rfl (Or.inl rfl) (pe_ix ix_list (pe_lst (pa_cons (pe_tup (pa_cons pe_int (pa_cons pe_int pa_nil))) (pa_cons (pe_tup (pa_cons pe_int (pa_cons pe_int pa_nil))) (pa_cons (pe_tup (pa_cons (pe_un un_neg pe_int) (pa_cons pe_int pa_nil))) (pa_cons (pe_tup (pa_cons pe_int (pa_cons pe_int pa_nil))) pa_nil))))) (Own.pe_has h_law_digit (hr.mono (by decide)) rfl (pa_cons (pv 0) (pa_cons pe_int pa_nil))) (fun _ _ => rfl)))
      (pss_one (ps_ret (pe_tup (pa_cons (Own.pe_has h_law_between (hr.mono (by decide)) rfl (pa_cons (pe_ix ix_tup (pv 3) pe_int (fun _ _ => rfl)) (pa_cons (pe_ix ix_tup (pv 4) pe_int (fun _ _ => rfl)) (pa_cons (pv 5) pa_nil)))) (pa_cons (Own.pe_has h_law_between (hr.mono (by decide)) rfl (pa_cons (pe_ix ix_tup (pv 3) pe_int (fun _ _ => rfl)) (pa_cons (pe_ix ix_tup (pv 4) pe_int (fun _ _ => rfl)) (pa_cons (pv 5) pa_nil)))) pa_nil)))))))) pss_nil)
      (pss_one (ps_ret (pe_tup (pa_cons (Own.pe_has h_law_number (hr.mono (by decide)) rfl (pa_cons (pv 0) (pa_cons (pv 2) pa_nil))) (pa_cons (Own.pe_has h_law_number (hr.mono (by decide)) rfl (pa_cons (pv 0) (pa_cons (pv 2) pa_nil))) pa_nil)))))), ?_⟩
  have last : ∀ H4, SameBut a H H4 → PotAt H4 a → (tRet (tTup (tCons (tCall spNumber [] E0 (tCons (tVar 0) (tCons (tVar 2) tNil))) (tCons (tCall spNumber [] E0 (tCons (tVar 0) (tCons (tVar 2) tNil))) tNil))))
      { nx := fun _ H' => Q .non H', rt := Q } [some (.ref a), some (.ref l), some (.int mode), none, none, none] H4 := fun H4 g p4 => by
    refine ⟨_, rfl, _, rfl, a, mode, rfl, p4, m0, fun n1 d1 r1 H5 z1 co1 s5 p5 h1 => ?_⟩
    refine ⟨_, rfl, _, rfl, a, mode, rfl, p5, m0, fun n2 d2 r2 H6 z2 co2 s6 p6 h2 => ⟨(by show 2 ≤ sizeLine; decide), fun p hp => ?_⟩⟩
    have g7 := same_new hp (.tup [.ref r1, .ref r2])
    have h1' : H6 r1 = some (.tup [.int n1, .int d1]) := by
      obtain ⟨x, y, e, _⟩ := p5
      exact s6 _ _ (ne_of h1 e (by intro z; cases z)) h1
    refine q ⟨n1, d1, n2, d2⟩ p _ ?_ ⟨z1.1, z2.1, co1, co2⟩ (g.trans (s5.trans (s6.trans (.of g7)))) (p6.kept g7) ⟨r1, r2, upd_same, g7 _ _ h1', g7 _ _ h2⟩
    have z := z1.sz z2
    by_cases c : mode < 2
    · rw [if_pos c] at z ⊢
      refine z.up ?_
      split <;> omega
    · rw [if_neg c] at z ⊢
      exact z
  obtain ⟨ps, hps, hlen, hpt⟩ := id hl
  refine ⟨_, rfl, _, _, rfl, rfl, _, rfl, ?_⟩
  refine ite2 (fun c => ?_) (fun c => last H (SameBut.refl a H) ha)
  have c' : mode < 2 := of_decide_eq_true c
  refine ⟨_, rfl, l, _, rfl, .inl (SqL.of hps), _, _, rfl, rfl, _, rfl, ?_⟩
  refine ite2 (fun c2 => ?_) (fun c2 => last H (SameBut.refl a H) ha)
  have c2' : 1 < n := by
    have := of_decide_eq_true c2
    rw [List.length_map] at this
    omega
  rw [if_pos c', if_neg (by omega)] at q
  have hl4 : ((ps.map V.ref).length : Int) = n := by rw [List.length_map, hlen]
  have n9 : ((n : Int)).natAbs < 2 ^ 9000 := lit9 (Nat.lt_trans (m := 10) (by omega) (by decide))
  refine ⟨_, rfl, a, 4, rfl, ha, by decide, lit9 (by decide), fun d1 H1 _ _ s1 p1 => ?_⟩
  have l1 := hl.but ha nal.symm s1
  refine ⟨rfl, _, rfl, ?_⟩
  refine ite2 (fun c3 => ?_) (fun c3 => last H1 s1 p1)
  -- p
  obtain ⟨ps1, e1, _⟩ := id l1
  have ps1e : H1 l = some (.lst (ps.map V.ref)) := s1 _ _ nal.symm hps
  refine ⟨_, rfl, _, rfl, _, rfl, l, _, rfl, .inl (SqL.of ps1e), a, _, rfl, p1, (by rw [hl4]; omega), (by rw [hl4]; exact n9), fun d2 H2 x0 x1 s2 p2 => ?_⟩
  rw [hl4] at x1
  have l2 := l1.but p1 nal.symm s2
  obtain ⟨ps2, pa, PA, hp2, at2, kA, zA, _⟩ := l2.pick x0 x1
  refine ⟨l, _, _, _, rfl, rfl, SqL.of hp2, at2, ?_⟩
  -- q
  have ps2e : H2 l = some (.lst (ps.map V.ref)) := s2 _ _ nal.symm ps1e
  refine ⟨_, rfl, _, rfl, _, rfl, l, _, rfl, .inl (SqL.of ps2e), a, _, rfl, p2, (by rw [hl4]; omega), (by rw [hl4]; exact n9), fun d3 H3 y0 y1 s3 p3 => ?_⟩
  rw [hl4] at y1
  have l3 := l2.but p2 nal.symm s3
  obtain ⟨ps3, pb, PB, hp3, at3, kB, zB, _⟩ := l3.pick y0 y1
  refine ⟨l, _, _, _, rfl, rfl, SqL.of hp3, at3, ?_⟩
  obtain ⟨xx, yy, potA, _⟩ := id p2
  have kA := kA.but potA s3
  -- part
  refine ⟨(by show 2 ≤ sizeLine; decide), fun t1 n1 => ⟨(by show 2 ≤ sizeLine; decide), fun t2 n2 => ⟨_, rfl, (by show 2 ≤ sizeLine; decide), fun t3 n3 => ⟨(by show 2 ≤ sizeLine; decide), fun t4 n4 => ⟨(by show 4 ≤ sizeLine; decide), fun lp nlp => ?_⟩⟩⟩⟩⟩
  have g1 := same_new n1 (.tup [.int 1, .int 2])
  have g2 := same_new n2 (.tup [.int 2, .int 1])
  have g3 := same_new n3 (.tup [.int (-1), .int 1])
  have g4 := same_new n4 (.tup [.int 1, .int 3])
  have g5 := same_new nlp (.lst [.ref t1, .ref t2, .ref t3, .ref t4])
  have b1 := g5 _ _ (g4 _ _ (g3 _ _ (g2 _ _ (upd_same (H := H3) (a := t1) (o := .tup [.int 1, .int 2])))))
  have b2 := g5 _ _ (g4 _ _ (g3 _ _ (upd_same (H := upd H3 t1 (.tup [.int 1, .int 2])) (a := t2) (o := .tup [.int 2, .int 1]))))
  have b3 := g5 _ _ (g4 _ _ (upd_same (H := upd (upd H3 t1 (.tup [.int 1, .int 2])) t2 (.tup [.int 2, .int 1])) (a := t3) (o := .tup [.int (-1), .int 1])))
  have b4 := g5 _ _ (upd_same (H := upd (upd (upd H3 t1 (.tup [.int 1, .int 2])) t2 (.tup [.int 2, .int 1])) t3 (.tup [.int (-1), .int 1])) (a := t4) (o := .tup [.int 1, .int 3]))
  have bl := upd_same (H := upd (upd (upd (upd H3 t1 (.tup [.int 1, .int 2])) t2 (.tup [.int 2, .int 1])) t3 (.tup [.int (-1), .int 1])) t4 (.tup [.int 1, .int 3])) (a := lp) (o := .lst [.ref t1, .ref t2, .ref t3, .ref t4])
  have gg : Same H3 _ := g1.trans (g2.trans (g3.trans (g4.trans g5)))
  generalize upd (upd (upd (upd (upd H3 t1 (.tup [.int 1, .int 2])) t2 (.tup [.int 2, .int 1])) t3 (.tup [.int (-1), .int 1])) t4 (.tup [.int 1, .int 3])) lp (.lst [.ref t1, .ref t2, .ref t3, .ref t4]) = H4 at *
  have p4 := p3.kept gg
  obtain ⟨x4, y4, pot4, _⟩ := id p4
  have lpa : lp ≠ a := by
    intro z
    subst z
    rw [bl] at pot4
    cases pot4
  refine ⟨_, rfl, a, 4, rfl, p4, by decide, lit9 (by decide), fun d4 H5 z0 z1 s5 p5 => ?_⟩
  obtain ⟨v, hv, ev⟩ := parts z0 z1 (a := .ref t1) (b := .ref t2) (c := .ref t3) (e := .ref t4)
  refine ⟨lp, _, _, _, rfl, rfl, SqL.of (s5 _ _ lpa bl), hv, ?_⟩
  have nt : ∀ {t : Addr} {xs : List V}, H4 t = some (.tup xs) → H5 t = some (.tup xs) := fun h => s5 _ _ (ne_of h pot4 (by intro z; cases z)) h
  have hc : ∃ (t : Addr) (c0 c1 : Int), v = .ref t ∧ H5 t = some (.tup [.int c0, .int c1]) ∧ Fz 2 c0 c1 := by
    rcases ev with rfl | rfl | rfl | rfl
    · exact ⟨_, _, _, rfl, nt b1, by decide, by decide, by decide⟩
    · exact ⟨_, _, _, rfl, nt b2, by decide, by decide, by decide⟩
    · exact ⟨_, _, _, rfl, nt b3, by decide, by decide, by decide⟩
    · exact ⟨_, _, _, rfl, nt b4, by decide, by decide, by decide⟩
  obtain ⟨t, c0, c1, rfl, ht, zt⟩ := hc
  have kA := (kA.kept gg).but pot4 s5
  have kB := (kB.kept gg).but pot4 s5
  have sAll : SameBut a H H5 := s1.trans (s2.trans (s3.trans ((SameBut.of gg).trans s5)))
  obtain ⟨ax, ay, hA, hAx, hAy⟩ := kA
  obtain ⟨bx, bY, hB, hBx, hBy⟩ := kB
  obtain ⟨a1, a2, a3, a4, a5, a6⟩ := zA
  obtain ⟨b1, b2, b3, b4, b5, b6⟩ := zB
  refine ⟨_, rfl, pa, _, _, _, rfl, rfl, SqT.of hA, at0, _, rfl, pb, _, _, _, rfl, rfl, SqT.of hB, at0, _, rfl, ax, bx, t, _, _, _, _, _, _, B, rfl, hAx, hBx, ht, ⟨a1, a3, a4⟩, ⟨b1, b3, b4⟩, zt, B1, fun n1 d1 r1 H6 z1 co1 g6 h1 => ?_⟩
  refine ⟨_, rfl, pa, _, _, _, rfl, rfl, SqT.of (g6 _ _ hA), at1, _, rfl, pb, _, _, _, rfl, rfl, SqT.of (g6 _ _ hB), at1, _, rfl, ay, bY, t, _, _, _, _, _, _, B, rfl, g6 _ _ hAy, g6 _ _ hBy, g6 _ _ ht, ⟨a2, a5, a6⟩, ⟨b2, b5, b6⟩, zt, B1, fun n2 d2 r2 H7 z2 co2 g7 h2 => ⟨(by show 2 ≤ sizeLine; decide), fun p hp => ?_⟩⟩
  have g8 := same_new hp (.tup [.ref r1, .ref r2])
  have gx := g6.trans (g7.trans g8)
  exact q ⟨n1, d1, n2, d2⟩ p _ (z1.sz z2) ⟨z1.1, z2.1, co1, co2⟩ (sAll.trans (.of gx)) (p5.kept gx) ⟨r1, r2, upd_same, g8 _ _ (g7 _ _ h1), g8 _ _ h2⟩
def beta (mode : Int) (i : Nat) : Nat := if mode < 2 then (if i ≤ 2 then 15 else if i = 3 then 54 else 171) else 205
theorem beta_lo (mode : Int) (i : Nat) : 10 ≤ beta mode i := by unfold beta; split <;> (try split) <;> (try split) <;> omega
theorem beta_hi (mode : Int) (i : Nat) : beta mode i ≤ 205 := by unfold beta; split <;> (try split) <;> (try split) <;> omega
theorem beta_up (mode : Int) (i : Nat) : beta mode i ≤ beta mode (i + 1) := by
  unfold beta
  by_cases c : mode < 2
  · simp only [if_pos c]
    (repeat' split) <;> omega
  · simp only [if_neg c]; omega
theorem beta_step (mode : Int) (i : Nat) (h : i < 4) : (if mode < 2 then (if i ≤ 1 then 10 else 3 * beta mode i + 4) else 200) + 5 ≤ beta mode (i + 1) := by
  unfold beta
  by_cases c : mode < 2
  · simp only [if_pos c]
    (repeat' split) <;> omega
  · simp only [if_neg c]; omega
def ptD (P : Pt) : PyData := .tuple [.tuple [.int P.n, .int P.d], .tuple [.int P.m, .int P.e]]
theorem ptD_ok (P : Pt) : SeqAt.shaped (ptD P) = true := by
  unfold ptD SeqAt.shaped
  simp [PyData.canLay0, PyData.canLayAll0, PyData.depth, PyData.depthAll]
theorem PtAt.dt {K : PySem.W.Frag} {H : Hp} {p : Addr} {P : Pt} (h : PtAt H p P) : Dt K H (ptD P) (.ref p) := by
  obtain ⟨x, y, h1, h2, h3⟩ := h
  have two : ∀ {z : Addr} {i j : Int}, H z = some (.tup [.int i, .int j]) → Dt K H (.tuple [.int i, .int j]) (.ref z) := fun {z i j} e => by
    unfold Dt
    refine ⟨z, _, rfl, SqT.of e, ?_⟩
    unfold DtAll
    refine ⟨_, _, rfl, (by unfold Dt; rfl), ?_⟩
    unfold DtAll
    refine ⟨_, _, rfl, (by unfold Dt; rfl), ?_⟩
    unfold DtAll
    rfl
  unfold ptD Dt
  refine ⟨p, _, rfl, SqT.of h1, ?_⟩
  unfold DtAll
  refine ⟨_, _, rfl, two h2, ?_⟩
  unfold DtAll
  refine ⟨_, _, rfl, two h3, ?_⟩
  unfold DtAll
  rfl
theorem pts_dt {K : PySem.W.Frag} {H : Hp} : ∀ {ps : List Addr}, (∀ p ∈ ps, ∃ P, PtAt H p P) → ∃ es, DtAll K H es (ps.map V.ref) ∧ ∀ e ∈ es, SeqAt.shaped e = true
  | [], _ => ⟨[], (by unfold DtAll; rfl), fun e he => by cases he⟩
  | p :: ps, h => by
    obtain ⟨P, hP⟩ := h p List.mem_cons_self
    obtain ⟨es, h1, h2⟩ := pts_dt (K := K) (ps := ps) fun p' hp' => h p' (List.mem_cons_of_mem _ hp')
    refine ⟨ptD P :: es, ?_, fun e he => ?_⟩
    · unfold DtAll
      exact ⟨_, _, rfl, hP.dt, h1⟩
    · rcases List.mem_cons.mp he with rfl | he
      · exact ptD_ok P
      · exact h2 e he
theorem PtAt.upd {H : Hp} {p l : Addr} {P : Pt} {xs : List V} {o : HO} (h : PtAt H p P) (hl : H l = some (.lst xs)) : PtAt (upd H l o) p P := h.but hl but_upd
theorem PotAt.other {H : Hp} {a l : Addr} {o : HO} (h : PotAt H a) (n : a ≠ l) : PotAt (upd H l o) a := by
  obtain ⟨x, y, e, z⟩ := h
  exact ⟨x, y, by rw [upd_ne n]; exact e, z⟩
theorem ok_law_points {f : Addr} {fd : FuncData} (F : Fun K "_law_points" "_law_points" s_law_points f fd) (h_law_digit : Own.Has P w K mg base "_law_digit" ["_law_pot_here", "_law_many"] 1 (spDigit)) (h_law_point : Own.Has P w K mg base "_law_point" ["_law_pot_here", "_law_points_here", "_law_mode"] 4 (spPoint)) (h_law_plus : Own.Has P w K mg base "_law_plus" ["_law_one", "_law_other"] 2 (spBin (fun a0 a1 b0 b1 => a0 * b1 + b0 * a1) (fun _ a1 _ b1 => a1 * b1))) (z_range : mg "range" = none) (z_tuple : mg "tuple" = none) : FnOk P w K mg base CX0 5 f fd ["_law_pot_here", "_law_many"] (spPoints) := by
  refine F.ok sc_law_points (fun vs H Q E h => ?_) (fun cdv A outer s H vs Q E hr h => ?_)
  · obtain ⟨a, rfl, _⟩ := h
    rfl
  obtain ⟨a, rfl, ha, q⟩ := h
  refine ⟨_, (pss_cons (ps_set (i := 2) sc_law_points.nd rfl (Or.inl rfl) (Own.pe_has h_law_digit (hr.mono (by decide)) rfl (pa_cons (pv 0) (pa_cons pe_int pa_nil))))
      (pss_cons (ps_set (i := 3) sc_law_points.nd rfl (Or.inl rfl) (pe_lst pa_nil))
      (pss_cons (ps_for PassesOwn.never rfl (pi_range1 rfl z_range (pa_cons (pv 1) pa_nil)) (pg_name (i := 4) sc_law_points.nd rfl (Or.inl rfl)) (pss_cons (ps_set (i := 5) sc_law_points.nd rfl (Or.inl rfl) (Own.pe_has h_law_point (hr.mono (by decide)) rfl (pa_cons (pv 0) (pa_cons (pv 3) (pa_cons (pv 2) pa_nil)))))
      (pss_cons (ps_if (PW.pt (pw_and (pt_cmpR (op_inD (Room.units65 hr)) (pv 5) (pv 3) rfl) (pw_and1 (pt_cmpR op_gt (Own.pe_has h_law_digit (hr.mono (by decide)) rfl (pa_cons (pv 0) (pa_cons pe_int pa_nil))) pe_int (nomark _))))) (pss_one (ps_set (i := 5) sc_law_points.nd rfl (Or.inl rfl) (pe_tup (pa_cons (Own.pe_has h_law_plus (hr.mono (by decide)) rfl (pa_cons (pe_ix ix_tup (pv 5) pe_int (fun _ _ => rfl)) (pa_cons (pe_tup (pa_cons (pe_op op_add (pv 4) pe_int) (pa_cons (pe_op op_add pe_int (pv 4)) pa_nil))) pa_nil))) (pa_cons (Own.pe_has h_law_plus (hr.mono (by decide)) rfl (pa_cons (pe_ix ix_tup (pv 5) pe_int (fun _ _ => rfl)) (pa_cons (pe_tup (pa_cons pe_int (pa_cons (pe_op op_add pe_int (pv 4)) pa_nil))) pa_nil))) pa_nil))))) pss_nil)
      (pss_one (ps_expr (pe_bm PySem.F.plainAttrs_list PySem.F.slot_list_append PySem.F.type_list_append mt_append (pv 3) (pa_cons (pv 5) pa_nil)))))))
      (pss_one (ps_ret (pe_callTy call_tuple_of rfl z_tuple PyProof.Rows.boot_tuple (pa_cons (pv 3) pa_nil))))))), ?_⟩
  refine ⟨_, rfl, a, 3, rfl, ha, by decide, lit9 (by decide), fun mode H1 m0 m1 s1 p1 => ?_⟩
  refine ⟨(by show 0 ≤ sizeLine; decide), fun l nl => ?_⟩
  have la : l ≠ a := by
    obtain ⟨x, y, z, _⟩ := p1
    exact (ne_of_none z nl).symm
  have g0 := same_new nl (.lst [])
  refine ⟨_, rfl, 4, rfl, by decide, by decide, for_range (lo := 0) (n := 4) (fun i σ H2 => ∃ (x y : Option V), σ = [some (.ref a), some (.int 4), some (.int mode), some (.ref l), x, y] ∧ SameBut a H1 H2 ∧ PotAt H2 a ∧ ListAt H2 l (beta mode i) i)
    ⟨none, none, rfl, .of g0, p1.kept g0, [], upd_same, rfl, fun p hp => by cases hp⟩ ?_ ?_⟩
  · rintro i σ H2 hi ⟨x, y, rfl, s2, p2, l2⟩
    refine ⟨_, rfl, _, rfl, _, rfl, a, l, mode, beta mode i, i, rfl, p2, l2, la.symm, m0, beta_lo _ _, Nat.le_trans (beta_hi _ _) (by decide), by omega, fun P p H3 zP lwP s3 p3 hP => ?_⟩
    have l3 := l2.but p2 la s3
    have step := beta_step mode i hi
    generalize (if mode < 2 then (if i ≤ 1 then 10 else 3 * beta mode i + 4) else 200) = C at zP step
    have fin : ∀ (H5 : Hp) (p' : Addr) (P' : Pt), SameBut a H3 H5 → PotAt H5 a → PtAt H5 p' P' → Sz (beta mode (i + 1)) P' → Lw P' → ∃ xs, H5 l = some (.lst xs) ∧ xs.length < sizeLine ∧ SameBut a H1 (upd H5 l (.lst (xs ++ [.ref p']))) ∧ PotAt (upd H5 l (.lst (xs ++ [.ref p']))) a ∧ ListAt (upd H5 l (.lst (xs ++ [.ref p']))) l (beta mode (i + 1)) (i + 1) := fun H5 p' P' s5 p5 hP' zP' lwP' => by
      obtain ⟨ps, h1, h2, h3⟩ := l3.but p3 la s5
      refine ⟨_, h1, (by rw [List.length_map, h2]; exact small1000 (by omega)), fun b o nb e => ?_, p5.other la.symm, ps ++ [p'], (by rw [List.map_append]; exact upd_same), (by rw [List.length_append, h2]; rfl), fun r hr' => ?_⟩
      · have e5 := s5 b o nb (s3 b o nb (s2 b o nb e))
        rw [upd_ne (ne_of_none e nl)]
        exact e5
      · rcases List.mem_append.mp hr' with z | z
        · obtain ⟨R, k1, k2, k3⟩ := h3 r z
          exact ⟨R, k1.upd h1, k2.up (beta_up _ _), k3⟩
        · have : r = p' := by simpa using z
          subst this
          exact ⟨P', hP'.upd h1, zP', lwP'⟩
    obtain ⟨ps3, e3, len3, pts3⟩ := id l3
    obtain ⟨es, des, ses⟩ := pts_dt (K := K) (H := H3) (ps := ps3) fun r hr' => let ⟨R, k, _⟩ := pts3 r hr'; ⟨R, k⟩
    refine ⟨_, rfl, _, rfl, ptD P, es, l, _, rfl, .inl (SqL.of e3), hP.dt, des, ptD_ok P, ses, _, rfl, ?_⟩
    have go : ∀ (H5 : Hp), SameBut a H3 H5 → PotAt H5 a → ∃ xs, H5 l = some (.lst xs) ∧ xs.length < sizeLine ∧ SameBut a H1 (upd H5 l (.lst (xs ++ [.ref p]))) ∧ PotAt (upd H5 l (.lst (xs ++ [.ref p]))) a ∧ ListAt (upd H5 l (.lst (xs ++ [.ref p]))) l (beta mode (i + 1)) (i + 1) := fun H5 s5 p5 => by
      obtain ⟨x, y, e, _⟩ := id p3
      exact fin H5 p P s5 p5 (hP.but e s5) (zP.up (by omega)) lwP
    refine ite2 (fun c => ?_) (fun c => ?_)
    · refine ⟨_, rfl, a, 8, rfl, p3, by decide, lit9 (by decide), fun d H4 _ _ s4 p4 => ⟨_, _, rfl, rfl, _, rfl, ?_⟩⟩
      refine ite2 (fun c2 => ?_) (fun c2 => ?_)
      · obtain ⟨x3, y3, e3', _⟩ := id p3
        obtain ⟨px, py, h1, h2, h3⟩ := hP.but e3' s4
        obtain ⟨z1, z2, z3, z4, z5, z6⟩ := zP
        have hC : C ≤ 200 := by have := beta_hi mode (i + 1); omega
        have u : ∀ {j : Int}, j.natAbs < 2 ^ C → j.natAbs < 2 ^ 1000 := fun h => Mth.up h (by omega)
        have u4 : ∀ {j : Int}, j.natAbs < 2 ^ 4 → j.natAbs < 2 ^ 1000 := fun h => Mth.up h (by decide)
        refine ⟨_, rfl, p, _, _, _, rfl, rfl, SqT.of h1, at0, _, rfl, _, _, rfl, rfl, _, rfl, _, _, rfl, rfl, (by show 2 ≤ sizeLine; decide), fun t1 n1 => ?_⟩
        have g1 := same_new n1 (.tup [.int (0 + ↑i + 1), .int (7 + (0 + ↑i))])
        have k1 : (0 + (i : Int) + 1).natAbs < 2 ^ 4 := Nat.lt_of_lt_of_le (m := 15) (by omega) (by decide)
        have k2 : (7 + (0 + (i : Int))).natAbs < 2 ^ 4 := Nat.lt_of_lt_of_le (m := 15) (by omega) (by decide)
        have k3 : (1 : Int).natAbs < 2 ^ 4 := by decide
        have k4 : (11 + (0 + (i : Int))).natAbs < 2 ^ 4 := Nat.lt_of_lt_of_le (m := 15) (by omega) (by decide)
        refine ⟨px, t1, _, _, _, _, rfl, g1 _ _ h2, upd_same, ⟨u z3, u z4, u4 k1, u4 k2⟩, mul_ne (pos_ne z1) (by omega), fun n2 d2 r2 H6 f2 g2 hr2 => ?_⟩
        have g12 := g1.trans g2
        refine ⟨_, rfl, p, _, _, _, rfl, rfl, SqT.of (g12 _ _ h1), at1, _, rfl, _, _, rfl, rfl, (by show 2 ≤ sizeLine; decide), fun t3 n3 => ?_⟩
        have g3 := same_new n3 (.tup [.int 1, .int (11 + (0 + ↑i))])
        have g13 := g12.trans g3
        refine ⟨py, t3, _, _, _, _, rfl, g13 _ _ h3, upd_same, ⟨u z5, u z6, u4 k3, u4 k4⟩, mul_ne (pos_ne z2) (by omega), fun n4 d4 r4 H7 f4 g4 hr4 => ?_⟩
        refine ⟨(by show 2 ≤ sizeLine; decide), fun t5 n5 => ?_⟩
        have g5 := same_new n5 (.tup [.ref r2, .ref r4])
        have gg := g13.trans (g4.trans g5)
        have fz2 : Fz (C + 5) n2 d2 := Fz.of_fr f2 (Mth.up (i := C + 4 + 1) (add_lt_pow (mul_lt_pow z3 k2) (Mth.up (mul_lt_pow k1 z4) (by omega))) (by omega)) (Mth.up (mul_lt_pow z4 k2) (by omega))
        have fz4 : Fz (C + 5) n4 d4 := Fz.of_fr f4 (Mth.up (i := C + 4 + 1) (add_lt_pow (mul_lt_pow z5 k4) (Mth.up (mul_lt_pow k3 z6) (by omega))) (by omega)) (Mth.up (mul_lt_pow z6 k4) (by omega))
        obtain ⟨xs, w1, w2, w3, w4, w5⟩ := fin _ t5 ⟨n2, d2, n4, d4⟩ (s4.trans (.of gg)) (p4.kept gg) ⟨r2, r4, upd_same, g5 _ _ (g4 _ _ (g3 _ _ hr2)), g5 _ _ hr4⟩ ((fz2.sz fz4).up step) ⟨f2.pos, f4.pos, f2.co, f4.co⟩
        exact ⟨_, rfl, .inl ⟨rfl, _, SqL.of w1⟩, _, rfl, l, _, _, rfl, rfl, w1, w2, _, _, rfl, w3, w4, w5⟩
      · obtain ⟨xs, w1, w2, w3, w4, w5⟩ := go H4 s4 p4
        exact ⟨_, rfl, .inl ⟨rfl, _, SqL.of w1⟩, _, rfl, l, _, _, rfl, rfl, w1, w2, _, _, rfl, w3, w4, w5⟩
    · obtain ⟨xs, w1, w2, w3, w4, w5⟩ := go H3 (SameBut.refl a H3) p3
      exact ⟨_, rfl, .inl ⟨rfl, _, SqL.of w1⟩, _, rfl, l, _, _, rfl, rfl, w1, w2, _, _, rfl, w3, w4, w5⟩
  · rintro σ H2 ⟨x, y, rfl, s2, p2, ps, h1, h2, h3⟩
    refine ⟨_, rfl, l, _, rfl, .inl ⟨SqL.of h1, fun t nt => ?_⟩⟩
    have gt := same_new nt (.tup (ps.map V.ref))
    refine q t ps _ (s1.trans (s2.trans (.of gt))) (p2.kept gt) upd_same h2 fun p hp => ?_
    obtain ⟨P, k1, k2, k3⟩ := h3 p hp
    exact ⟨P, k1.kept gt, k2.up (beta_hi _ _), k3⟩
--SPLIT
structure TieAt (H : Hp) (t p q : Addr) (P Q : Pt) : Prop where
  at_ : H t = some (.tup [.ref p, .ref q])
  p : PtAt H p P
  q : PtAt H q Q
  zp : Sz 205 P
  zq : Sz 205 Q
  lp : Lw P
  lq : Lw Q
theorem TieAt.kept {H H' : Hp} {t p q : Addr} {P Q : Pt} (h : TieAt H t p q P Q) (g : Same H H') : TieAt H' t p q P Q := ⟨g _ _ h.at_, h.p.kept g, h.q.kept g, h.zp, h.zq, h.lp, h.lq⟩
def spHands : Sp := fun vs H Q' _ => ∃ (t u p q r s : Addr) (P Q R S : Pt), vs = [.ref t, .ref u] ∧ TieAt H t p q P Q ∧ TieAt H u r s R S ∧
  ∀ (x : Addr) (H' : Hp), Same H H' → H' x = some (.tup [.int (sgn (det P Q R)), .int (sgn (det P Q S))]) → Q' (.ref x) H'
theorem ok_hands {f : Addr} {fd : FuncData} (F : Fun K "hands" "hands" s_hands f fd) (h_hand : Own.Has P w K mg base "hand" ["p", "q", "r"] 2 (spHand det)) : FnOk P w K mg base CX0 3 f fd ["one", "other"] (spHands) := by
  refine F.ok sc_hands (fun vs H Q E h => ?_) (fun cdv A outer s H vs Q E hr h => ?_)
  · obtain ⟨t, u, p, q, r, s, P, Q, R, S, rfl, _⟩ := h
    rfl
  obtain ⟨t, u, p, q, r, s, P, Q, R, S, rfl, T, U, k⟩ := h
  refine ⟨_, (pss_one (ps_ret (pe_tup (pa_cons (Own.pe_has h_hand (hr.mono (by decide)) rfl (pa_cons (pe_ix ix_tup (pv 0) pe_int (fun _ _ => rfl)) (pa_cons (pe_ix ix_tup (pv 0) pe_int (fun _ _ => rfl)) (pa_cons (pe_ix ix_tup (pv 1) pe_int (fun _ _ => rfl)) pa_nil)))) (pa_cons (Own.pe_has h_hand (hr.mono (by decide)) rfl (pa_cons (pe_ix ix_tup (pv 0) pe_int (fun _ _ => rfl)) (pa_cons (pe_ix ix_tup (pv 0) pe_int (fun _ _ => rfl)) (pa_cons (pe_ix ix_tup (pv 1) pe_int (fun _ _ => rfl)) pa_nil)))) pa_nil))))), ?_⟩
  have z1 := T.zp.up (C := 1000) (by decide)
  have z2 := T.zq.up (C := 1000) (by decide)
  have z3 := U.zp.up (C := 1000) (by decide)
  have z4 := U.zq.up (C := 1000) (by decide)
  refine ⟨_, rfl, t, _, _, _, rfl, rfl, SqT.of T.at_, at0, _, rfl, t, _, _, _, rfl, rfl, SqT.of T.at_, at1, _, rfl, u, _, _, _, rfl, rfl, SqT.of U.at_, at0, p, q, r, P, Q, R, rfl, T.p, T.q, U.p, z1, z2, z3, fun H1 g1 => ?_⟩
  have T1 := T.kept g1
  have U1 := U.kept g1
  refine ⟨_, rfl, t, _, _, _, rfl, rfl, SqT.of T1.at_, at0, _, rfl, t, _, _, _, rfl, rfl, SqT.of T1.at_, at1, _, rfl, u, _, _, _, rfl, rfl, SqT.of U1.at_, at1, p, q, s, P, Q, S, rfl, T1.p, T1.q, U1.q, z1, z2, z4, fun H2 g2 => ?_⟩
  exact ⟨(by show 2 ≤ sizeLine; decide), fun x nx => k x _ (g1.trans (g2.trans (same_new nx _))) upd_same⟩
theorem btw_of {A B C : Pt} (la : Lw A) (lb : Lw B) (lc : Lw C) {a0 a1 b0 b1 w0 w1 c0 c1 d0 d1 h0 h1 r0 r1 : Int} (f1 : Fr (A.n * C.d - C.n * A.d) (A.d * C.d) a0 a1) (f2 : Fr (B.n * C.d - C.n * B.d) (B.d * C.d) b0 b1) (f3 : Fr (a0 * b0) (a1 * b1) w0 w1)
    (g1 : Fr (A.m * C.e - C.m * A.e) (A.e * C.e) c0 c1) (g2 : Fr (B.m * C.e - C.m * B.e) (B.e * C.e) d0 d1) (g3 : Fr (c0 * d0) (c1 * d1) h0 h1) (f7 : Fr (w0 * h1 + h0 * w1) (w1 * h1) r0 r1) : decide (sgn r0 < 0) = btwP C A B := by
  have two : ∀ {X1 X2 D1 D2 a0 a1 b0 b1 w0 w1 : Int}, Fr X1 D1 a0 a1 → Fr X2 D2 b0 b1 → Fr (a0 * b0) (a1 * b1) w0 w1 → w0 * (D1 * D2) = X1 * X2 * w1 := fun {X1 X2 D1 D2 a0 a1 b0 b1 w0 w1} x y z => by
    have e1 := x.eq
    have e2 := y.eq
    have e3 := z.eq
    have p1 := x.pos
    have p2 := y.pos
    have : (a1 * b1) * (w0 * (D1 * D2)) = (a1 * b1) * (X1 * X2 * w1) := by
      have q : (a1 * b1) * (w0 * (D1 * D2)) = (w0 * (a1 * b1)) * (D1 * D2) := by grind
      rw [q, e3]
      have q : a0 * b0 * w1 * (D1 * D2) = (a0 * D1) * (b0 * D2) * w1 := by grind
      rw [q, e1, e2]
      grind
    exact Int.eq_of_mul_eq_mul_left (pos_ne (Int.mul_pos p1 p2)) this
  have e1 := two f1 f2 f3
  have e2 := two g1 g2 g3
  have e3 := f7.eq
  have wp := f3.pos
  have hp := g3.pos
  have rp := f7.pos
  have D1 : 0 < A.d * C.d * (B.d * C.d) := Int.mul_pos (Int.mul_pos la.d lc.d) (Int.mul_pos lb.d lc.d)
  have D2 : 0 < A.e * C.e * (B.e * C.e) := Int.mul_pos (Int.mul_pos la.e lc.e) (Int.mul_pos lb.e lc.e)
  have key : r0 * (A.d * C.d * (B.d * C.d) * (A.e * C.e * (B.e * C.e))) = btwT C A B * r1 := by
    unfold btwT
    generalize (A.n * C.d - C.n * A.d) * (B.n * C.d - C.n * B.d) = X at *
    generalize (A.m * C.e - C.m * A.e) * (B.m * C.e - C.m * B.e) = Y at *
    generalize A.d * C.d * (B.d * C.d) = U at *
    generalize A.e * C.e * (B.e * C.e) = V at *
    have : (w1 * h1) * (r0 * (U * V)) = (w1 * h1) * ((X * V + Y * U) * r1) := by
      have q : (w1 * h1) * (r0 * (U * V)) = (r0 * (w1 * h1)) * (U * V) := by grind
      rw [q, e3]
      have q : (w0 * h1 + h0 * w1) * r1 * (U * V) = ((w0 * U) * h1 * V + (h0 * V) * w1 * U) * r1 := by grind
      rw [q, e1, e2]
      grind
    exact Int.eq_of_mul_eq_mul_left (pos_ne (Int.mul_pos wp hp)) this
  unfold btwP
  refine decide_eq_decide.mpr ?_
  have s0 : sgn r0 < 0 ↔ r0 < 0 := by unfold sgn; split <;> (try split) <;> omega
  rw [s0, neg_of_mul key (Int.mul_pos D1 D2)]
  exact (neg_of_mul rfl rp).symm
def spBtw : Sp := fun vs H Q' _ => ∃ (c t p q : Addr) (C P Q : Pt), vs = [.ref c, .ref t] ∧ PtAt H c C ∧ Sz 205 C ∧ Lw C ∧ TieAt H t p q P Q ∧ ∀ H' : Hp, Same H H' → Q' (.bl (btwP C P Q)) H'
theorem ok_lies_between {f : Addr} {fd : FuncData} (F : Fun K "lies_between" "lies_between" s_lies_between f fd) (h_times : Own.Has P w K mg base "times" ["one", "other"] 3 (spBin (fun a0 a1 b0 b1 => a0 * b0) (fun _ a1 _ b1 => a1 * b1))) (h_less : Own.Has P w K mg base "less" ["one", "other"] 3 (spBin (fun a0 a1 b0 b1 => a0 * b1 - b0 * a1) (fun _ a1 _ b1 => a1 * b1))) (h_sign : Own.Has P w K mg base "sign" ["one"] 1 (spSign)) (h_plus : Own.Has P w K mg base "plus" ["one", "other"] 3 (spBin (fun a0 a1 b0 b1 => a0 * b1 + b0 * a1) (fun _ a1 _ b1 => a1 * b1))) : FnOk P w K mg base CX0 4 f fd ["point", "one"] (spBtw) := by
  refine F.ok sc_lies_between (fun vs H Q E h => ?_) (fun cdv A outer s H vs Q E hr h => ?_)
  · obtain ⟨c, t, p, q, C, P, Q, rfl, _⟩ := h
    rfl
  obtain ⟨c, t, p, q, C, P, Q, rfl, ⟨cx, cy, hc, hcx, hcy⟩, ⟨_, _, c1, c2, c3, c4⟩, lc, ⟨ht, ⟨px, py, hp, hpx, hpy⟩, ⟨qx, qy, hq, hqx, hqy⟩, ⟨pd, pe, p1, p2, p3, p4⟩, ⟨qd, qe, q1, q2, q3, q4⟩, lp, lq⟩, k⟩ := h
  refine ⟨_, (pss_cons (ps_asg (pv 0) (pg_tup rfl (pgs_cons (pg_name (i := 2) sc_lies_between.nd rfl (Or.inl rfl)) (pgs_cons (pg_name (i := 3) sc_lies_between.nd rfl (Or.inl rfl)) pgs_nil))))
      (pss_cons (ps_asg (pv 1) (pg_tup rfl (pgs_cons (pg_name (i := 4) sc_lies_between.nd rfl (Or.inl rfl)) (pgs_cons (pg_name (i := 5) sc_lies_between.nd rfl (Or.inl rfl)) pgs_nil))))
      (pss_cons (ps_set (i := 6) sc_lies_between.nd rfl (Or.inl rfl) (Own.pe_has h_times (hr.mono (by decide)) rfl (pa_cons (Own.pe_has h_less (hr.mono (by decide)) rfl (pa_cons (pe_ix ix_tup (pv 4) pe_int (fun _ _ => rfl)) (pa_cons (pv 2) pa_nil))) (pa_cons (Own.pe_has h_less (hr.mono (by decide)) rfl (pa_cons (pe_ix ix_tup (pv 5) pe_int (fun _ _ => rfl)) (pa_cons (pv 2) pa_nil))) pa_nil))))
      (pss_cons (ps_set (i := 7) sc_lies_between.nd rfl (Or.inl rfl) (Own.pe_has h_times (hr.mono (by decide)) rfl (pa_cons (Own.pe_has h_less (hr.mono (by decide)) rfl (pa_cons (pe_ix ix_tup (pv 4) pe_int (fun _ _ => rfl)) (pa_cons (pv 3) pa_nil))) (pa_cons (Own.pe_has h_less (hr.mono (by decide)) rfl (pa_cons (pe_ix ix_tup (pv 5) pe_int (fun _ _ => rfl)) (pa_cons (pv 3) pa_nil))) pa_nil))))
      (pss_one (ps_ret (pe_cmpR op_lt (Own.pe_has h_sign (hr.mono (by decide)) rfl (pa_cons (Own.pe_has h_plus (hr.mono (by decide)) rfl (pa_cons (pv 6) (pa_cons (pv 7) pa_nil))) pa_nil)) pe_int (nomark _)))))))), ?_⟩
  have u : ∀ {i : Int}, i.natAbs < 2 ^ 205 → i.natAbs < 2 ^ 1000 := fun h => up h (by decide)
  refine ⟨_, rfl, c, _, rfl, SqT.of hc, rfl, _, _, rfl, _, _, rfl, rfl, ?_⟩
  refine ⟨_, rfl, t, _, rfl, SqT.of ht, rfl, _, _, rfl, _, _, rfl, rfl, ?_⟩
  have nz : ∀ {i j : Int}, 0 < i → 0 < j → i * j ≠ 0 := fun h1 h2 => pos_ne (Int.mul_pos h1 h2)
  have bn : ∀ {i j k l n d n' d' : Int}, Fr (i * j - k * l) (n * d) n' d' → i.natAbs < 2 ^ 205 → j.natAbs < 2 ^ 205 → k.natAbs < 2 ^ 205 → l.natAbs < 2 ^ 205 → n.natAbs < 2 ^ 205 → d.natAbs < 2 ^ 205 → n'.natAbs < 2 ^ 411 ∧ d'.natAbs < 2 ^ 411 := fun f h1 h2 h3 h4 h5 h6 =>
    ⟨Nat.lt_of_le_of_lt f.ln (sub_lt_pow (mul_lt_pow h1 h2) (mul_lt_pow h3 h4)), Nat.lt_of_le_of_lt f.ld (up (mul_lt_pow h5 h6) (by decide))⟩
  have b4 : ∀ {i : Int}, i.natAbs < 2 ^ 411 → i.natAbs < 2 ^ 1000 := fun h => up h (by decide)
  have b8 : ∀ {i j n d n' d' : Int}, Fr (i * j) (n * d) n' d' → i.natAbs < 2 ^ 411 → j.natAbs < 2 ^ 411 → n.natAbs < 2 ^ 411 → d.natAbs < 2 ^ 411 → n'.natAbs < 2 ^ 1000 ∧ d'.natAbs < 2 ^ 1000 := fun f h1 h2 h3 h4 =>
    ⟨Nat.lt_of_le_of_lt f.ln (up (mul_lt_pow h1 h2) (by decide)), Nat.lt_of_le_of_lt f.ld (up (mul_lt_pow h3 h4) (by decide))⟩
  -- wide
  refine ⟨_, rfl, p, _, _, _, rfl, rfl, SqT.of hp, at0, _, rfl, px, cx, _, _, _, _, rfl, hpx, hcx, ⟨u p1, u p2, u c1, u c2⟩, nz lp.d lc.d, fun a0 a1 ra H1 f1 g1 e1 => ?_⟩
  refine ⟨_, rfl, q, _, _, _, rfl, rfl, SqT.of (g1 _ _ hq), at0, _, rfl, qx, cx, _, _, _, _, rfl, g1 _ _ hqx, g1 _ _ hcx, ⟨u q1, u q2, u c1, u c2⟩, nz lq.d lc.d, fun b0 b1 rb H2 f2 g2 e2 => ?_⟩
  obtain ⟨m1, m2⟩ := bn f1 p1 c2 c1 p2 p2 c2
  obtain ⟨m3, m4⟩ := bn f2 q1 c2 c1 q2 q2 c2
  refine ⟨ra, rb, _, _, _, _, rfl, g2 _ _ e1, e2, ⟨b4 m1, b4 m2, b4 m3, b4 m4⟩, nz f1.pos f2.pos, fun w0 w1 rw H3 f3 g3 e3 => ?_⟩
  have gA := g1.trans (g2.trans g3)
  -- high
  refine ⟨_, rfl, p, _, _, _, rfl, rfl, SqT.of (gA _ _ hp), at1, _, rfl, py, cy, _, _, _, _, rfl, gA _ _ hpy, gA _ _ hcy, ⟨u p3, u p4, u c3, u c4⟩, nz lp.e lc.e, fun c0 c1' rc H4 f4 g4 e4 => ?_⟩
  have gB := gA.trans g4
  refine ⟨_, rfl, q, _, _, _, rfl, rfl, SqT.of (gB _ _ hq), at1, _, rfl, qy, cy, _, _, _, _, rfl, gB _ _ hqy, gB _ _ hcy, ⟨u q3, u q4, u c3, u c4⟩, nz lq.e lc.e, fun d0 d1 rd H5 f5 g5 e5 => ?_⟩
  obtain ⟨m5, m6⟩ := bn f4 p3 c4 c3 p4 p4 c4
  obtain ⟨m7, m8⟩ := bn f5 q3 c4 c3 q4 q4 c4
  refine ⟨rc, rd, _, _, _, _, rfl, g5 _ _ e4, e5, ⟨b4 m5, b4 m6, b4 m7, b4 m8⟩, nz f4.pos f5.pos, fun h0 h1 rh H6 f6 g6 e6 => ?_⟩
  obtain ⟨n1, n2⟩ := b8 f3 m1 m3 m2 m4
  obtain ⟨n3, n4⟩ := b8 f6 m5 m7 m6 m8
  refine ⟨_, rfl, _, rfl, rw, rh, _, _, _, _, rfl, (g4.trans (g5.trans g6)) _ _ e3, e6, ⟨n1, n2, n3, n4⟩, nz f3.pos f6.pos, fun r0 r1 rr H7 f7 g7 e7 => ?_⟩
  refine ⟨rr, _, _, rfl, e7, _, _, rfl, rfl, ?_⟩
  have fin := k _ (gB.trans (g5.trans (g6.trans g7)))
  rw [← btw_of lp lq lc f1 f2 f3 f4 f5 f6 f7] at fin
  exact fin
--SPLIT
theorem same_at {H H1 : Hp} {D : Addr} {o : HO} (n : H D = none) (g : Same H H1) : Same H (upd H1 D o) := fun b u e => by
  rw [upd_ne (ne_of_none e n)]
  exact g b u e
theorem ix2 {α : Type} {x y z : α} {i : Nat} (h : [x, y][i]? = some z) : (i = 0 ∧ z = x) ∨ (i = 1 ∧ z = y) := by
  match i, h with
  | 0, h => exact .inl ⟨rfl, by simpa using h.symm⟩
  | 1, h => exact .inr ⟨rfl, by simpa using h.symm⟩
  | n + 2, h => simp at h
def spLap : Sp := fun vs H Q' _ => ∃ (t u p q r s : Addr) (P Q R S : Pt), vs = [.ref t, .ref u] ∧ TieAt H t p q P Q ∧ TieAt H u r s R S ∧ ∀ H' : Hp, Same H H' → Q' (.bl (lapP P Q R S)) H'
theorem ok_overlap {f : Addr} {fd : FuncData} (F : Fun K "overlap" "overlap" s_overlap f fd) (h_lies_between : Own.Has P w K mg base "lies_between" ["point", "one"] 4 (spBtw)) (z_any : mg "any" = none) : FnOk P w K mg base CX0 5 f fd ["one", "other"] (spLap) := by
  refine F.ok sc_overlap (fun vs H Q E h => ?_) (fun cdv A outer s H vs Q E hr h => ?_)
  · obtain ⟨t, u, p, q, r, s, P, Q, R, S, rfl, _⟩ := h
    rfl
  obtain ⟨t, u, p, q, r, s, P, Q, R, S, rfl, T, U, k⟩ := h
  refine ⟨_, (pss_one (ps_ret (pe_callB (call_anyL rfl) rfl z_any PyProof.Rows.boot_any (pa_cons (pe_op op_cat (pe_lc1x (Nc := ["end", "other"]) (js := [none, some 1]) rfl rfl (pi_tup (pv 0)) (CS.of rfl rfl) rfl (fun C s₂ H₂ fp pins => (pg_name (i := 0) (show List.Nodup (α := Str) ["end", "other"] by decide +kernel) rfl (Or.inl rfl))) (fun C s₂ H₂ fp pins D L => (pt_tail0 (pb_app (Own.pe_has h_lies_between (hr.mono (by decide)) rfl (pa_cons (pv 0) (pa_cons (pv 1) pa_nil))))))) (pe_lc1x (Nc := ["end", "one"]) (js := [none, some 0]) rfl rfl (pi_tup (pv 1)) (CS.of rfl rfl) rfl (fun C s₂ H₂ fp pins => (pg_name (i := 0) (show List.Nodup (α := Str) ["end", "one"] by decide +kernel) rfl (Or.inl rfl))) (fun C s₂ H₂ fp pins D L => (pt_tail0 (pb_app (Own.pe_has h_lies_between (hr.mono (by decide)) rfl (pa_cons (pv 0) (pa_cons (pv 1) pa_nil)))))))) pa_nil)))), ?_⟩
  refine ⟨_, rfl, t, rfl, ⟨_, SqT.of T.at_⟩, fun D nD => ?_⟩
  refine walk_tup (xs := [.ref p, .ref q]) (fun n σ H1 => ∃ (x : Option V), σ = [x, some (.ref u)] ∧ H1 D = some (.lst (([btwP P R S, btwP Q R S].take n).map V.bl)) ∧ Same H H1) ⟨none, rfl, upd_same, same_new nD _⟩ ?_ ?_ ?_
  · rintro n σ H1 _ ⟨x, rfl, hD, g⟩
    exact SqT.of (g _ _ T.at_)
  · rintro n x σ H1 hx ⟨y, rfl, hD, g⟩
    rcases ix2 hx with ⟨rfl, rfl⟩ | ⟨rfl, rfl⟩
    · refine ⟨_, rfl, _, rfl, p, u, r, s, P, R, S, rfl, T.p.kept g, T.zp, T.lp, U.kept g, fun H2 g2 => ⟨_, g2 _ _ hD, (by show 0 < sizeLine; decide), _, rfl, upd_same, same_at nD (g.trans g2)⟩⟩
    · refine ⟨_, rfl, _, rfl, q, u, r, s, Q, R, S, rfl, T.q.kept g, T.zq, T.lq, U.kept g, fun H2 g2 => ⟨_, g2 _ _ hD, (by show 1 < sizeLine; decide), _, rfl, upd_same, same_at nD (g.trans g2)⟩⟩
  · rintro σ H1 ⟨x, rfl, hD, g⟩
    have U1 := U.kept g
    have T1 := T.kept g
    refine ⟨_, rfl, u, rfl, ⟨_, SqT.of U1.at_⟩, fun D' nD' => ?_⟩
    refine walk_tup (xs := [.ref r, .ref s]) (fun n σ H2 => ∃ (x : Option V), σ = [x, some (.ref t)] ∧ H2 D' = some (.lst (([btwP R P Q, btwP S P Q].take n).map V.bl)) ∧ Same H1 H2) ⟨none, rfl, upd_same, same_new nD' _⟩ ?_ ?_ ?_
    · rintro n σ H2 _ ⟨x, rfl, hD', g'⟩
      exact SqT.of (g' _ _ U1.at_)
    · rintro n x σ H2 hx ⟨y, rfl, hD', g'⟩
      rcases ix2 hx with ⟨rfl, rfl⟩ | ⟨rfl, rfl⟩
      · refine ⟨_, rfl, _, rfl, r, t, p, q, R, P, Q, rfl, U1.p.kept g', U.zp, U.lp, T1.kept g', fun H3 g3 => ⟨_, g3 _ _ hD', (by show 0 < sizeLine; decide), _, rfl, upd_same, same_at nD' (g'.trans g3)⟩⟩
      · refine ⟨_, rfl, _, rfl, s, t, p, q, S, P, Q, rfl, U1.q.kept g', U.zq, U.lq, T1.kept g', fun H3 g3 => ⟨_, g3 _ _ hD', (by show 1 < sizeLine; decide), _, rfl, upd_same, same_at nD' (g'.trans g3)⟩⟩
    · rintro σ H2 ⟨x, rfl, hD', g'⟩
      refine ⟨D, D', _, _, rfl, rfl, g' _ _ hD, hD', (by show 4 ≤ sizeLine; decide), fun l nl => ?_⟩
      refine ⟨l, [btwP P R S, btwP Q R S, btwP R P Q, btwP S P Q], rfl, SqL.of upd_same, ?_⟩
      have fin := k _ (g.trans (g'.trans (same_new nl (.lst ([V.bl (btwP P R S), V.bl (btwP Q R S)] ++ [V.bl (btwP R P Q), V.bl (btwP S P Q)])))))
      rw [show lapP P Q R S = [btwP P R S, btwP Q R S, btwP R P Q, btwP S P Q].any id by simp [lapP]] at fin
      exact fin
theorem c3_lt {P : Pt} (z : Sz 205 P) : (P.n * P.e).natAbs < 2 ^ 410 ∧ (P.m * P.d).natAbs < 2 ^ 410 ∧ (P.d * P.e).natAbs < 2 ^ 410 := by
  obtain ⟨_, _, z1, z2, z3, z4⟩ := z
  exact ⟨mul_lt_pow z1 z4, mul_lt_pow z3 z2, mul_lt_pow z2 z4⟩
theorem cr_lt {i : Nat} {u v : Int × Int × Int} (h1 : u.1.natAbs < 2 ^ i) (h2 : u.2.1.natAbs < 2 ^ i) (h3 : u.2.2.natAbs < 2 ^ i) (k1 : v.1.natAbs < 2 ^ i) (k2 : v.2.1.natAbs < 2 ^ i) (k3 : v.2.2.natAbs < 2 ^ i) :
    (cr u v).1.natAbs < 2 ^ (i + i + 1) ∧ (cr u v).2.1.natAbs < 2 ^ (i + i + 1) ∧ (cr u v).2.2.natAbs < 2 ^ (i + i + 1) :=
  ⟨sub_lt_pow (mul_lt_pow h2 k3) (mul_lt_pow h3 k2), sub_lt_pow (mul_lt_pow h3 k1) (mul_lt_pow h1 k3), sub_lt_pow (mul_lt_pow h1 k2) (mul_lt_pow h2 k1)⟩
def spCrossing : Sp := fun vs H Q' _ => ∃ (t u p q r s : Addr) (P Q R S : Pt), vs = [.ref t, .ref u] ∧ TieAt H t p q P Q ∧ TieAt H u r s R S ∧ (xyz P Q R S).2.2 ≠ 0 ∧
  ∀ (x : Addr) (X : Pt) (H' : Hp), CrP P Q R S X → Sz 1700 X → Same H H' → PtAt H' x X → Q' (.ref x) H'
theorem ok_crossing {f : Addr} {fd : FuncData} (F : Fun K "crossing" "crossing" s_crossing f fd) (h_across : Own.Has P w K mg base "across" ["one", "other"] 1 (spAcross)) (h_spread : Own.Has P w K mg base "spread" ["point"] 1 (spSpread)) (h_fraction : Own.Has P w K mg base "fraction" ["n", "d"] 2 (spFr)) : FnOk P w K mg base CX0 3 f fd ["one", "other"] (spCrossing) := by
  refine F.ok sc_crossing (fun vs H Q E h => ?_) (fun cdv A outer s H vs Q E hr h => ?_)
  · obtain ⟨t, u, p, q, r, s, P, Q, R, S, rfl, _⟩ := h
    rfl
  obtain ⟨t, u, p, q, r, s, P, Q, R, S, rfl, T, U, z0, k⟩ := h
  refine ⟨_, (pss_cons (ps_set (i := 2) sc_crossing.nd rfl (Or.inl rfl) (Own.pe_has h_across (hr.mono (by decide)) rfl (pa_cons (Own.pe_has h_spread (hr.mono (by decide)) rfl (pa_cons (pe_ix ix_tup (pv 0) pe_int (fun _ _ => rfl)) pa_nil)) (pa_cons (Own.pe_has h_spread (hr.mono (by decide)) rfl (pa_cons (pe_ix ix_tup (pv 0) pe_int (fun _ _ => rfl)) pa_nil)) pa_nil))))
      (pss_cons (ps_set (i := 3) sc_crossing.nd rfl (Or.inl rfl) (Own.pe_has h_across (hr.mono (by decide)) rfl (pa_cons (Own.pe_has h_spread (hr.mono (by decide)) rfl (pa_cons (pe_ix ix_tup (pv 1) pe_int (fun _ _ => rfl)) pa_nil)) (pa_cons (Own.pe_has h_spread (hr.mono (by decide)) rfl (pa_cons (pe_ix ix_tup (pv 1) pe_int (fun _ _ => rfl)) pa_nil)) pa_nil))))
      (pss_cons (ps_asg (Own.pe_has h_across (hr.mono (by decide)) rfl (pa_cons (pv 2) (pa_cons (pv 3) pa_nil))) (pg_tup rfl (pgs_cons (pg_name (i := 4) sc_crossing.nd rfl (Or.inl rfl)) (pgs_cons (pg_name (i := 5) sc_crossing.nd rfl (Or.inl rfl)) (pgs_cons (pg_name (i := 6) sc_crossing.nd rfl (Or.inl rfl)) pgs_nil)))))
      (pss_one (ps_ret (pe_tup (pa_cons (Own.pe_has h_fraction (hr.mono (by decide)) rfl (pa_cons (pv 4) (pa_cons (pv 6) pa_nil))) (pa_cons (Own.pe_has h_fraction (hr.mono (by decide)) rfl (pa_cons (pv 5) (pa_cons (pv 6) pa_nil))) pa_nil)))))))), ?_⟩
  have z1 := T.zp.up (C := 1000) (by decide)
  have z2 := T.zq.up (C := 1000) (by decide)
  have z3 := U.zp.up (C := 1000) (by decide)
  have z4 := U.zq.up (C := 1000) (by decide)
  obtain ⟨p1, p2, p3⟩ := c3_lt T.zp
  obtain ⟨q1, q2, q3⟩ := c3_lt T.zq
  obtain ⟨r1, r2, r3⟩ := c3_lt U.zp
  obtain ⟨s1, s2, s3⟩ := c3_lt U.zq
  have v4 : ∀ {i : Int}, i.natAbs < 2 ^ 410 → i.natAbs < 2 ^ 4000 := fun h => up h (by decide)
  have v8 : ∀ {i : Int}, i.natAbs < 2 ^ (410 + 410 + 1) → i.natAbs < 2 ^ 4000 := fun h => up h (by decide)
  -- the first line
  refine ⟨_, rfl, t, _, _, _, rfl, rfl, SqT.of T.at_, at0, p, P, rfl, T.p, z1, fun a1 n1 => ?_⟩
  have g1 := same_new n1 (.tup [.int (P.n * P.e), .int (P.m * P.d), .int (P.d * P.e)])
  refine ⟨_, rfl, t, _, _, _, rfl, rfl, SqT.of (g1 _ _ T.at_), at1, q, Q, rfl, T.q.kept g1, z2, fun a2 n2 => ?_⟩
  have g2 := same_new n2 (.tup [.int (Q.n * Q.e), .int (Q.m * Q.d), .int (Q.d * Q.e)])
  refine ⟨a1, a2, _, _, _, _, _, _, rfl, g2 _ _ upd_same, upd_same, ⟨v4 p1, v4 p2, v4 p3, v4 q1, v4 q2, v4 q3⟩, fun b1 m1 => ?_⟩
  have g3 := same_new m1 (.tup [.int (P.m * P.d * (Q.d * Q.e) - P.d * P.e * (Q.m * Q.d)), .int (P.d * P.e * (Q.n * Q.e) - P.n * P.e * (Q.d * Q.e)), .int (P.n * P.e * (Q.m * Q.d) - P.m * P.d * (Q.n * Q.e))])
  have gA := (g1.trans g2).trans g3
  have hb1 := upd_same (H := upd (upd H a1 (.tup [.int (P.n * P.e), .int (P.m * P.d), .int (P.d * P.e)])) a2 (.tup [.int (Q.n * Q.e), .int (Q.m * Q.d), .int (Q.d * Q.e)])) (a := b1) (o := .tup [.int (P.m * P.d * (Q.d * Q.e) - P.d * P.e * (Q.m * Q.d)), .int (P.d * P.e * (Q.n * Q.e) - P.n * P.e * (Q.d * Q.e)), .int (P.n * P.e * (Q.m * Q.d) - P.m * P.d * (Q.n * Q.e))])
  generalize upd (upd (upd H a1 (.tup [.int (P.n * P.e), .int (P.m * P.d), .int (P.d * P.e)])) a2 (.tup [.int (Q.n * Q.e), .int (Q.m * Q.d), .int (Q.d * Q.e)])) b1 (.tup [.int (P.m * P.d * (Q.d * Q.e) - P.d * P.e * (Q.m * Q.d)), .int (P.d * P.e * (Q.n * Q.e) - P.n * P.e * (Q.d * Q.e)), .int (P.n * P.e * (Q.m * Q.d) - P.m * P.d * (Q.n * Q.e))]) = HA at *
  clear g1 g2 g3 n1 n2 m1
  have U1 := U.kept gA
  -- the second one
  refine ⟨_, rfl, u, _, _, _, rfl, rfl, SqT.of U1.at_, at0, r, R, rfl, U1.p, z3, fun a3 n3 => ?_⟩
  have g4 := same_new n3 (.tup [.int (R.n * R.e), .int (R.m * R.d), .int (R.d * R.e)])
  refine ⟨_, rfl, u, _, _, _, rfl, rfl, SqT.of (g4 _ _ U1.at_), at1, s, S, rfl, U1.q.kept g4, z4, fun a4 n4 => ?_⟩
  have g5 := same_new n4 (.tup [.int (S.n * S.e), .int (S.m * S.d), .int (S.d * S.e)])
  refine ⟨a3, a4, _, _, _, _, _, _, rfl, g5 _ _ upd_same, upd_same, ⟨v4 r1, v4 r2, v4 r3, v4 s1, v4 s2, v4 s3⟩, fun b2 m2 => ?_⟩
  have g6 := same_new m2 (.tup [.int (R.m * R.d * (S.d * S.e) - R.d * R.e * (S.m * S.d)), .int (R.d * R.e * (S.n * S.e) - R.n * R.e * (S.d * S.e)), .int (R.n * R.e * (S.m * S.d) - R.m * R.d * (S.n * S.e))])
  have gB := (g4.trans g5).trans g6
  have hb2 := upd_same (H := upd (upd HA a3 (.tup [.int (R.n * R.e), .int (R.m * R.d), .int (R.d * R.e)])) a4 (.tup [.int (S.n * S.e), .int (S.m * S.d), .int (S.d * S.e)])) (a := b2) (o := .tup [.int (R.m * R.d * (S.d * S.e) - R.d * R.e * (S.m * S.d)), .int (R.d * R.e * (S.n * S.e) - R.n * R.e * (S.d * S.e)), .int (R.n * R.e * (S.m * S.d) - R.m * R.d * (S.n * S.e))])
  generalize upd (upd (upd HA a3 (.tup [.int (R.n * R.e), .int (R.m * R.d), .int (R.d * R.e)])) a4 (.tup [.int (S.n * S.e), .int (S.m * S.d), .int (S.d * S.e)])) b2 (.tup [.int (R.m * R.d * (S.d * S.e) - R.d * R.e * (S.m * S.d)), .int (R.d * R.e * (S.n * S.e) - R.n * R.e * (S.d * S.e)), .int (R.n * R.e * (S.m * S.d) - R.m * R.d * (S.n * S.e))]) = HB at *
  clear g4 g5 g6 n3 n4 m2
  obtain ⟨w1, w2, w3⟩ := cr_lt (u := c3 P) (v := c3 Q) p1 p2 p3 q1 q2 q3
  obtain ⟨x1, x2, x3⟩ := cr_lt (u := c3 R) (v := c3 S) r1 r2 r3 s1 s2 s3
  refine ⟨_, rfl, _, rfl, b1, b2, _, _, _, _, _, _, rfl, gB _ _ hb1, hb2, ⟨v8 w1, v8 w2, v8 w3, v8 x1, v8 x2, v8 x3⟩, fun b3 m3 => ?_⟩
  have g7 := same_new m3 (.tup [.int (xyz P Q R S).1, .int (xyz P Q R S).2.1, .int (xyz P Q R S).2.2])
  refine ⟨b3, _, rfl, SqT.of upd_same, rfl, _, _, rfl, _, _, rfl, _, _, rfl, rfl, ?_⟩
  obtain ⟨y1, y2, y3⟩ := cr_lt (u := cr (c3 P) (c3 Q)) (v := cr (c3 R) (c3 S)) w1 w2 w3 x1 x2 x3
  have v9 : ∀ {i : Int}, i.natAbs < 2 ^ (410 + 410 + 1 + (410 + 410 + 1) + 1) → i.natAbs < 2 ^ 9000 := fun h => up h (by decide)
  have v17 : ∀ {i : Int}, i.natAbs < 2 ^ (410 + 410 + 1 + (410 + 410 + 1) + 1) → i.natAbs < 2 ^ 1700 := fun h => up h (by decide)
  refine ⟨_, rfl, _, rfl, (xyz P Q R S).1, (xyz P Q R S).2.2, rfl, z0, v9 y3, fun n1 d1 o1 H8 f1 g8 e1 => ?_⟩
  refine ⟨_, rfl, _, rfl, (xyz P Q R S).2.1, (xyz P Q R S).2.2, rfl, z0, v9 y3, fun n2 d2 o2 H9 f2 g9 e2 => ⟨(by show 2 ≤ sizeLine; decide), fun x nx => ?_⟩⟩
  have g10 := same_new nx (.tup [.ref o1, .ref o2])
  refine k x ⟨n1, d1, n2, d2⟩ _ ⟨f1, f2⟩ ⟨f1.pos, f2.pos, Nat.lt_of_le_of_lt f1.ln (v17 y1), Nat.lt_of_le_of_lt f1.ld (v17 y3), Nat.lt_of_le_of_lt f2.ln (v17 y2), Nat.lt_of_le_of_lt f2.ld (v17 y3)⟩ (gA.trans (gB.trans (g7.trans (g8.trans (g9.trans g10))))) ⟨o1, o2, upd_same, g10 _ _ (g9 _ _ e1), g10 _ _ e2⟩
--SPLIT
theorem dt2 {K : PySem.W.Frag} {H : Hp} {z : Addr} {i j : Int} (e : H z = some (.tup [.int i, .int j])) : Dt K H (.tuple [.int i, .int j]) (.ref z) := by
  unfold Dt
  refine ⟨z, _, rfl, SqT.of e, ?_⟩
  unfold DtAll
  refine ⟨_, _, rfl, (by unfold Dt; rfl), ?_⟩
  unfold DtAll
  refine ⟨_, _, rfl, (by unfold Dt; rfl), ?_⟩
  unfold DtAll
  rfl
theorem sh2 (i j : Int) : SeqAt.shaped (.tuple [.int i, .int j]) = true := by
  simp [SeqAt.shaped, PyData.canLay0, PyData.canLayAll0, PyData.depth, PyData.depthAll]
theorem eqv2 (a b c d : Int) : PyData.eqv (.tuple [.int a, .int b]) (.tuple [.int c, .int d]) = decide (a = c ∧ b = d) := by
  rw [Bool.eq_iff_iff]
  simp [PyData.eqv, PyData.eqvAll]
theorem inV0 (a b : Int) : inV (.int 0) [.int a, .int b] = decide (a = 0 ∨ b = 0) := by
  rw [Bool.eq_iff_iff]
  simp [inV, eqV]
theorem first0 (a b : Int) (h : a = 0 ∨ b = 0) : FirstAt [a, b] 0 (if a = 0 then 0 else 1) := by
  by_cases c : a = 0
  · rw [if_pos c]
    refine ⟨by simp [c], fun i hi => absurd hi (by omega)⟩
  · rw [if_neg c]
    have hb : b = 0 := h.elim (fun z => absurd z c) id
    refine ⟨by simp [hb], fun i hi => ?_⟩
    obtain rfl : i = 0 := by omega
    simpa using c
theorem sgn64 (x y : Int) : (-(2 ^ 64) < sgn x ∧ sgn x < 2 ^ 64) := by
  rcases sgn_range x with e | e | e <;> rw [e] <;> decide
def MetV (H : Hp) (v : V) (P Q R S : Pt) : Prop :=
  match metO P Q R S with
  | .no => v = .non
  | .over => ∃ a, v = .ref a ∧ H a = some (.tup [.str "over", .non])
  | .touch X => ∃ a x, v = .ref a ∧ H a = some (.tup [.str "touch", .ref x]) ∧ PtAt H x X
  | .cross => ∃ a x X, v = .ref a ∧ H a = some (.tup [.str "cross", .ref x]) ∧ PtAt H x X ∧ CrP P Q R S X ∧ Sz 1700 X
def spMet : Sp := fun vs H Q' _ => ∃ (t u p q r s : Addr) (P Q R S : Pt), vs = [.ref t, .ref u] ∧ TieAt H t p q P Q ∧ TieAt H u r s R S ∧ Four P Q R S ∧ ∀ (v : V) (H' : Hp), Same H H' → MetV H' v P Q R S → Q' v H'
theorem ok_met {f : Addr} {fd : FuncData} (F : Fun K "met" "met" s_met f fd) (h_hands : Own.Has P w K mg base "hands" ["one", "other"] 3 (spHands)) (h_overlap : Own.Has P w K mg base "overlap" ["one", "other"] 5 (spLap)) (h_crossing : Own.Has P w K mg base "crossing" ["one", "other"] 3 (spCrossing)) : FnOk P w K mg base CX0 6 f fd ["one", "other"] (spMet) := by
  refine F.ok sc_met (fun vs H Q E h => ?_) (fun cdv A outer s H vs Q_ E hr h => ?_)
  · obtain ⟨t, u, p, q, r, s, P, Q, R, S, rfl, _⟩ := h
    rfl
  obtain ⟨t, u, p, q, r, s, P, Q, R, S, rfl, T, U, F4, k⟩ := h
  refine ⟨_, (pss_cons (ps_set (i := 2) sc_met.nd rfl (Or.inl rfl) (Own.pe_has h_hands (hr.mono (by decide)) rfl (pa_cons (pv 0) (pa_cons (pv 1) pa_nil))))
      (pss_cons (ps_if (pt_cmpR (op_eqD hr.units) (pv 2) (pe_tup (pa_cons pe_int (pa_cons pe_int pa_nil))) (nomark _)) (pss_one (ps_ret (pe_ifExp (pt_val (Own.pe_has h_overlap (hr.mono (by decide)) rfl (pa_cons (pv 0) (pa_cons (pv 1) pa_nil)))) (pe_tup (pa_cons pe_str (pa_cons pe_non pa_nil))) pe_non))) pss_nil)
      (pss_cons (ps_set (i := 3) sc_met.nd rfl (Or.inl rfl) (Own.pe_has h_hands (hr.mono (by decide)) rfl (pa_cons (pv 1) (pa_cons (pv 0) pa_nil))))
      (pss_cons (ps_if (PW.pt (pw_or (pt_cmpR op_gt (pe_op op_mul (pe_ix ix_tup (pv 2) pe_int (fun _ _ => rfl)) (pe_ix ix_tup (pv 2) pe_int (fun _ _ => rfl))) pe_int (nomark _)) (pw_or1 (pt_cmpR op_gt (pe_op op_mul (pe_ix ix_tup (pv 3) pe_int (fun _ _ => rfl)) (pe_ix ix_tup (pv 3) pe_int (fun _ _ => rfl))) pe_int (nomark _))))) (pss_one (ps_ret pe_non)) pss_nil)
      (pss_cons (ps_if (pt_cmpR op_in_seq pe_int (pv 2) rfl) (pss_one (ps_ret (pe_tup (pa_cons pe_str (pa_cons (pe_ix ix_tup (pv 1) (pe_bm PySem.F.plainAttrs_tuple PySem.F.slot_tuple_index PySem.F.type_tuple_index mt_indexT (pv 2) (pa_cons pe_int pa_nil)) (fun _ _ => rfl)) pa_nil))))) pss_nil)
      (pss_cons (ps_if (pt_cmpR op_in_seq pe_int (pv 3) rfl) (pss_one (ps_ret (pe_tup (pa_cons pe_str (pa_cons (pe_ix ix_tup (pv 0) (pe_bm PySem.F.plainAttrs_tuple PySem.F.slot_tuple_index PySem.F.type_tuple_index mt_indexT (pv 3) (pa_cons pe_int pa_nil)) (fun _ _ => rfl)) pa_nil))))) pss_nil)
      (pss_one (ps_ret (pe_tup (pa_cons pe_str (pa_cons (Own.pe_has h_crossing (hr.mono (by decide)) rfl (pa_cons (pv 0) (pa_cons (pv 1) pa_nil))) pa_nil))))))))))), ?_⟩
  refine ⟨_, rfl, _, rfl, t, u, p, q, r, s, P, Q, R, S, rfl, T, U, fun hh H1 g1 eh => ?_⟩
  refine ⟨_, rfl, (by show 2 ≤ sizeLine; decide), fun z nz => ⟨_, _, dt2 ((same_new nz _) _ _ eh), dt2 upd_same, sh2 _ _, sh2 _ _, _, rfl, ?_⟩⟩
  have g2 := g1.trans (same_new nz (.tup [.int 0, .int 0]))
  have eh2 := (same_new nz (.tup [.int 0, .int 0])) _ _ eh
  generalize upd H1 z (.tup [.int 0, .int 0]) = H2 at *
  have T2 := T.kept g2
  have U2 := U.kept g2
  rw [if_neg (show ¬ (false = true) by decide), eqv2]
  refine ite2 (fun c => ?_) (fun c => ?_)
  · have c' := of_decide_eq_true c
    refine ⟨_, rfl, _, rfl, t, u, p, q, r, s, P, Q, R, S, rfl, T2, U2, fun H3 g3 => ⟨_, rfl, ?_⟩⟩
    refine ite2 (fun l => ?_) (fun l => ?_)
    · refine ⟨(by show 2 ≤ sizeLine; decide), fun a na => k _ _ (g2.trans (g3.trans (same_new na _))) ?_⟩
      unfold MetV metO
      rw [if_pos c', if_pos l]
      exact ⟨a, rfl, upd_same⟩
    · refine k _ _ (g2.trans g3) ?_
      unfold MetV metO
      rw [if_pos c', if_neg l]
  · have c' : ¬ (sgn (det P Q R) = 0 ∧ sgn (det P Q S) = 0) := fun z => c (decide_eq_true z)
    refine ⟨_, rfl, _, rfl, u, t, r, s, p, q, R, S, P, Q, rfl, U2, T2, fun th H3 g3 et => ?_⟩
    have eh3 := g3 _ _ eh2
    have g13 := g2.trans g3
    have T3 := T2.kept g3
    have U3 := U2.kept g3
    have stop : 0 < sgn (det P Q R) * sgn (det P Q S) ∨ 0 < sgn (det R S P) * sgn (det R S Q) → Q_ .non H3 := fun z => by
      refine k _ _ g13 ?_
      unfold MetV metO
      rw [if_neg c', if_pos z]
    refine ⟨_, rfl, hh, _, _, _, rfl, rfl, SqT.of eh3, at0, _, rfl, hh, _, _, _, rfl, rfl, SqT.of eh3, at1, _, _, rfl, rfl, .inl (sgn64 _ 0), _, _, rfl, rfl, _, rfl, ?_⟩
    refine ite2 (fun c1 => stop (.inl (of_decide_eq_true c1))) (fun c1 => ?_)
    refine ⟨_, rfl, th, _, _, _, rfl, rfl, SqT.of et, at0, _, rfl, th, _, _, _, rfl, rfl, SqT.of et, at1, _, _, rfl, rfl, .inl (sgn64 _ 0), _, _, rfl, rfl, _, rfl, ?_⟩
    refine ite2 (fun c2 => stop (.inr (of_decide_eq_true c2))) (fun c2 => ?_)
    have c3 : ¬ (0 < sgn (det P Q R) * sgn (det P Q S) ∨ 0 < sgn (det R S P) * sgn (det R S Q)) := fun z => z.elim (fun z => c1 (decide_eq_true z)) fun z => c2 (decide_eq_true z)
    refine ⟨_, rfl, hh, _, rfl, .inr (SqT.of eh3), rfl, rfl, _, rfl, ?_⟩
    rw [if_neg (show ¬ (false = true) by decide), inV0]
    have pick : ∀ {a b : Addr} {m n : Int} {w : Addr} {H4 : Hp}, H4 w = some (.tup [.ref a, .ref b]) → atI [V.ref a, V.ref b] ((if m = 0 then 0 else 1 : Nat) : Int) = some (.ref (if m = 0 then a else b)) := fun {a b m n w H4} e => by
      by_cases z : m = 0
      · simp only [if_pos z]; rfl
      · simp only [if_neg z]; rfl
    refine ite2 (fun d1 => ?_) (fun d1 => ?_)
    · have d1' := of_decide_eq_true d1
      refine ⟨_, rfl, _, rfl, .inr (.inl ⟨rfl, .inr ⟨_, eh3⟩⟩), hh, [sgn (det P Q R), sgn (det P Q S)], 0, _, rfl, rfl, SqT.of eh3, first0 _ _ d1', u, _, _, _, rfl, rfl, SqT.of U3.at_, pick (n := 0) U3.at_, (by show 2 ≤ sizeLine; decide), fun a na => k _ _ (g13.trans (same_new na _)) ?_⟩
      unfold MetV metO
      rw [if_neg c', if_neg c3]
      by_cases z : sgn (det P Q R) = 0
      · rw [if_pos z]
        simp only [if_pos z]
        exact ⟨a, r, rfl, upd_same, U3.p.kept (same_new na _)⟩
      · rw [if_neg z, if_pos (d1'.elim (fun y => absurd y z) id)]
        simp only [if_neg z]
        exact ⟨a, s, rfl, upd_same, U3.q.kept (same_new na _)⟩
    · have h0 : sgn (det P Q R) ≠ 0 := fun z => d1 (decide_eq_true (.inl z))
      have h1 : sgn (det P Q S) ≠ 0 := fun z => d1 (decide_eq_true (.inr z))
      refine ⟨_, rfl, th, _, rfl, .inr (SqT.of et), rfl, rfl, _, rfl, ?_⟩
      rw [if_neg (show ¬ (false = true) by decide), inV0]
      refine ite2 (fun d2 => ?_) (fun d2 => ?_)
      · have d2' := of_decide_eq_true d2
        refine ⟨_, rfl, _, rfl, .inr (.inl ⟨rfl, .inr ⟨_, et⟩⟩), th, [sgn (det R S P), sgn (det R S Q)], 0, _, rfl, rfl, SqT.of et, first0 _ _ d2', t, _, _, _, rfl, rfl, SqT.of T3.at_, pick (n := 0) T3.at_, (by show 2 ≤ sizeLine; decide), fun a na => k _ _ (g13.trans (same_new na _)) ?_⟩
        unfold MetV metO
        rw [if_neg c', if_neg c3, if_neg h0, if_neg h1]
        by_cases z : sgn (det R S P) = 0
        · rw [if_pos z]
          simp only [if_pos z]
          exact ⟨a, p, rfl, upd_same, T3.p.kept (same_new na _)⟩
        · rw [if_neg z, if_pos (d2'.elim (fun y => absurd y z) id)]
          simp only [if_neg z]
          exact ⟨a, q, rfl, upd_same, T3.q.kept (same_new na _)⟩
      · have k0 : sgn (det R S P) ≠ 0 := fun z => d2 (decide_eq_true (.inl z))
        have k1 : sgn (det R S Q) ≠ 0 := fun z => d2 (decide_eq_true (.inr z))
        have em : metO P Q R S = .cross := by
          unfold metO
          rw [if_neg c', if_neg c3, if_neg h0, if_neg h1, if_neg k0, if_neg k1]
        refine ⟨_, rfl, _, rfl, t, u, p, q, r, s, P, Q, R, S, rfl, T3, U3, (F4.crossing em).1, fun x X H4 cX zX g4 hX => ⟨(by show 2 ≤ sizeLine; decide), fun a na => k _ _ (g13.trans (g4.trans (same_new na _))) ?_⟩⟩
        unfold MetV
        rw [em]
        exact ⟨a, x, X, rfl, upd_same, hX.kept (same_new na _), cX, zX⟩
--SPLIT
def spAhead : Sp := fun vs H Q' _ => ∃ (p q : Addr) (P Q : Pt), vs = [.ref p, .ref q] ∧ PtAt H p P ∧ PtAt H q Q ∧ Sz 1700 P ∧ Sz 1700 Q ∧ Q' (.bl (aheadP P Q)) H
theorem ok_law_is_ahead {f : Addr} {fd : FuncData} (F : Fun K "_law_is_ahead" "_law_is_ahead" s_law_is_ahead f fd) : FnOk P w K mg base CX0 1 f fd ["_law_p", "_law_q"] (spAhead) := by
  refine F.ok sc_law_is_ahead (fun vs H Q E h => ?_) (fun cdv A outer s H vs Q_ E hr h => ?_)
  · obtain ⟨p, q, P, Q, rfl, _⟩ := h
    rfl
  obtain ⟨p, q, P, Q, rfl, ⟨px, py, hp, hpx, hpy⟩, ⟨qx, qy, hq, hqx, hqy⟩, ⟨_, _, p1, p2, p3, p4⟩, ⟨_, _, q1, q2, q3, q4⟩, k⟩ := h
  refine ⟨_, (pss_cons (ps_if (pt_cmpR (op_neD hr.units) (pe_ix ix_tup (pv 0) pe_int (fun _ _ => rfl)) (pe_ix ix_tup (pv 1) pe_int (fun _ _ => rfl)) (nomark _)) (pss_one (ps_ret (pe_cmpR op_lt (pe_op Own.op_mulW (pe_ix ix_tup (pe_ix ix_tup (pv 0) pe_int (fun _ _ => rfl)) pe_int (fun _ _ => rfl)) (pe_ix ix_tup (pe_ix ix_tup (pv 1) pe_int (fun _ _ => rfl)) pe_int (fun _ _ => rfl))) (pe_op Own.op_mulW (pe_ix ix_tup (pe_ix ix_tup (pv 1) pe_int (fun _ _ => rfl)) pe_int (fun _ _ => rfl)) (pe_ix ix_tup (pe_ix ix_tup (pv 0) pe_int (fun _ _ => rfl)) pe_int (fun _ _ => rfl))) (nomark _)))) pss_nil)
      (pss_one (ps_ret (pe_cmpR op_lt (pe_op Own.op_mulW (pe_ix ix_tup (pe_ix ix_tup (pv 0) pe_int (fun _ _ => rfl)) pe_int (fun _ _ => rfl)) (pe_ix ix_tup (pe_ix ix_tup (pv 1) pe_int (fun _ _ => rfl)) pe_int (fun _ _ => rfl))) (pe_op Own.op_mulW (pe_ix ix_tup (pe_ix ix_tup (pv 1) pe_int (fun _ _ => rfl)) pe_int (fun _ _ => rfl)) (pe_ix ix_tup (pe_ix ix_tup (pv 0) pe_int (fun _ _ => rfl)) pe_int (fun _ _ => rfl))) (nomark _))))), ?_⟩
  have w : ∀ {i : Int}, i.natAbs < 2 ^ 1700 → i.natAbs < 2 ^ 9000 := fun h => up h (by decide)
  refine ⟨_, rfl, p, _, _, _, rfl, rfl, SqT.of hp, at0, _, rfl, q, _, _, _, rfl, rfl, SqT.of hq, at0, _, _, dt2 hpx, dt2 hqx, sh2 _ _, sh2 _ _, _, rfl, ?_⟩
  rw [if_pos (show (true = true) from rfl), eqv2]
  unfold aheadP at k
  by_cases c : P.n = Q.n ∧ P.d = Q.d
  · rw [if_pos c] at k
    rw [decide_eq_true c]
    refine iteF ⟨_, rfl, p, _, _, _, rfl, rfl, SqT.of hp, at1, py, _, _, _, rfl, rfl, SqT.of hpy, at0, _, rfl, q, _, _, _, rfl, rfl, SqT.of hq, at1, qy, _, _, _, rfl, rfl, SqT.of hqy, at1, _, _, rfl, rfl, ⟨w p3, w q4⟩, ?_⟩
    exact ⟨_, rfl, q, _, _, _, rfl, rfl, SqT.of hq, at1, qy, _, _, _, rfl, rfl, SqT.of hqy, at0, _, rfl, p, _, _, _, rfl, rfl, SqT.of hp, at1, py, _, _, _, rfl, rfl, SqT.of hpy, at1, _, _, rfl, rfl, ⟨w q3, w p4⟩, _, _, rfl, rfl, k⟩
  · rw [if_neg c] at k
    rw [decide_eq_false c]
    refine iteT ⟨_, rfl, p, _, _, _, rfl, rfl, SqT.of hp, at0, px, _, _, _, rfl, rfl, SqT.of hpx, at0, _, rfl, q, _, _, _, rfl, rfl, SqT.of hq, at0, qx, _, _, _, rfl, rfl, SqT.of hqx, at1, _, _, rfl, rfl, ⟨w p1, w q2⟩, ?_⟩
    exact ⟨_, rfl, q, _, _, _, rfl, rfl, SqT.of hq, at0, qx, _, _, _, rfl, rfl, SqT.of hqx, at0, _, rfl, p, _, _, _, rfl, rfl, SqT.of hp, at0, px, _, _, _, rfl, rfl, SqT.of hpx, at1, _, _, rfl, rfl, ⟨w q1, w p2⟩, _, _, rfl, rfl, k⟩
def spPick (f : Pt → Pt → Pt) : Sp := fun vs H Q' _ => ∃ (p q : Addr) (P Q : Pt), vs = [.ref p, .ref q] ∧ PtAt H p P ∧ PtAt H q Q ∧ Sz 205 P ∧ Sz 205 Q ∧ ∀ x : Addr, PtAt H x (f P Q) → Q' (.ref x) H
theorem ok_law_first {f : Addr} {fd : FuncData} (F : Fun K "_law_first" "_law_first" s_law_first f fd) (h_law_is_ahead : Own.Has P w K mg base "_law_is_ahead" ["_law_p", "_law_q"] 1 (spAhead)) : FnOk P w K mg base CX0 2 f fd ["_law_p", "_law_q"] (spPick firP) := by
  refine F.ok sc_law_first (fun vs H Q E h => ?_) (fun cdv A outer s H vs Q_ E hr h => ?_)
  · obtain ⟨p, q, P, Q, rfl, _⟩ := h
    rfl
  obtain ⟨p, q, P, Q, rfl, hp, hq, zp, zq, k⟩ := h
  refine ⟨_, (pss_one (ps_ret (pe_ifExp (pt_val (Own.pe_has h_law_is_ahead (hr.mono (by decide)) rfl (pa_cons (pv 0) (pa_cons (pv 1) pa_nil)))) (pv 0) (pv 1)))), ?_⟩
  refine ⟨_, rfl, _, rfl, p, q, P, Q, rfl, hp, hq, zp.up (by decide), zq.up (by decide), _, rfl, ?_⟩
  unfold firP at k
  refine ite2 (fun c => ⟨_, rfl, k p (by rw [if_pos c]; exact hp)⟩) (fun c => ⟨_, rfl, k q (by rw [if_neg c]; exact hq)⟩)
theorem ok_law_last {f : Addr} {fd : FuncData} (F : Fun K "_law_last" "_law_last" s_law_last f fd) (h_law_is_ahead : Own.Has P w K mg base "_law_is_ahead" ["_law_p", "_law_q"] 1 (spAhead)) : FnOk P w K mg base CX0 2 f fd ["_law_p", "_law_q"] (spPick lasP) := by
  refine F.ok sc_law_last (fun vs H Q E h => ?_) (fun cdv A outer s H vs Q_ E hr h => ?_)
  · obtain ⟨p, q, P, Q, rfl, _⟩ := h
    rfl
  obtain ⟨p, q, P, Q, rfl, hp, hq, zp, zq, k⟩ := h
  refine ⟨_, (pss_one (ps_ret (pe_ifExp (pt_val (Own.pe_has h_law_is_ahead (hr.mono (by decide)) rfl (pa_cons (pv 0) (pa_cons (pv 1) pa_nil)))) (pv 1) (pv 0)))), ?_⟩
  refine ⟨_, rfl, _, rfl, p, q, P, Q, rfl, hp, hq, zp.up (by decide), zq.up (by decide), _, rfl, ?_⟩
  unfold lasP at k
  refine ite2 (fun c => ⟨_, rfl, k q (by rw [if_pos c]; exact hq)⟩) (fun c => ⟨_, rfl, k p (by rw [if_neg c]; exact hp)⟩)
theorem Sz.fir {B : Nat} {P Q : Pt} (h : Sz B P) (h' : Sz B Q) : Sz B (firP P Q) := by unfold firP; split <;> assumption
theorem Sz.las {B : Nat} {P Q : Pt} (h : Sz B P) (h' : Sz B Q) : Sz B (lasP P Q) := by unfold lasP; split <;> assumption
theorem lawsgn {P Q R : Pt} (h : Lw P) : sgn (lawdet P Q R) = sgn (det P Q R) := by rw [lawdet_eq]; exact sgn_mul_pos (Int.mul_pos h.d h.e)
theorem dV (i j : Int) : decide (V.int i = V.int j) = decide (i = j) := by simp
def spWithin : Sp := fun vs H Q' _ => ∃ (r t p q : Addr) (R P Q : Pt), vs = [.ref r, .ref t] ∧ PtAt H r R ∧ Sz 1700 R ∧ TieAt H t p q P Q ∧ ∀ H' : Hp, Same H H' → Q' (.bl (withinP R P Q)) H'
theorem ok_law_is_within {f : Addr} {fd : FuncData} (F : Fun K "_law_is_within" "_law_is_within" s_law_is_within f fd) (h_law_last : Own.Has P w K mg base "_law_last" ["_law_p", "_law_q"] 2 (spPick lasP)) (h_law_first : Own.Has P w K mg base "_law_first" ["_law_p", "_law_q"] 2 (spPick firP)) (h_law_is_ahead : Own.Has P w K mg base "_law_is_ahead" ["_law_p", "_law_q"] 1 (spAhead)) (h_law_hand : Own.Has P w K mg base "_law_hand" ["_law_p", "_law_q", "_law_r"] 2 (spHandL)) : FnOk P w K mg base CX0 3 f fd ["_law_r", "_law_tie"] (spWithin) := by
  refine F.ok sc_law_is_within (fun vs H Q E h => ?_) (fun cdv A outer s H vs Q_ E hr h => ?_)
  · obtain ⟨r, t, p, q, R, P, Q, rfl, _⟩ := h
    rfl
  obtain ⟨r, t, p, q, R, P, Q, rfl, hr', zr, T, k⟩ := h
  refine ⟨_, (pss_cons (ps_par (i := 2) (j := 3) rfl sc_law_is_within.nd rfl rfl (by decide) rfl rfl (pa_cons (Own.pe_has h_law_first (hr.mono (by decide)) rfl (pa_cons (pe_ix ix_tup (pv 1) pe_int (fun _ _ => rfl)) (pa_cons (pe_ix ix_tup (pv 1) pe_int (fun _ _ => rfl)) pa_nil))) (pa_cons (Own.pe_has h_law_last (hr.mono (by decide)) rfl (pa_cons (pe_ix ix_tup (pv 1) pe_int (fun _ _ => rfl)) (pa_cons (pe_ix ix_tup (pv 1) pe_int (fun _ _ => rfl)) pa_nil))) pa_nil)) rfl)
      (pss_one (ps_ret (pe_and (pe_cmpR op_eq (Own.pe_has h_law_hand (hr.mono (by decide)) rfl (pa_cons (pv 2) (pa_cons (pv 3) (pa_cons (pv 0) pa_nil)))) pe_int (nomark _)) (pe_and (Own.pe_has h_law_is_ahead (hr.mono (by decide)) rfl (pa_cons (pv 2) (pa_cons (pv 0) pa_nil))) (pe_one (Own.pe_has h_law_is_ahead (hr.mono (by decide)) rfl (pa_cons (pv 0) (pa_cons (pv 3) pa_nil))))))))), ?_⟩
  refine ⟨_, rfl, t, _, _, _, rfl, rfl, SqT.of T.at_, at0, _, rfl, t, _, _, _, rfl, rfl, SqT.of T.at_, at1, p, q, P, Q, rfl, T.p, T.q, T.zp, T.zq, fun a ha => ?_⟩
  refine ⟨_, rfl, t, _, _, _, rfl, rfl, SqT.of T.at_, at0, _, rfl, t, _, _, _, rfl, rfl, SqT.of T.at_, at1, p, q, P, Q, rfl, T.p, T.q, T.zp, T.zq, fun b hb => ?_⟩
  have zf := Sz.fir T.zp T.zq
  have zl := Sz.las T.zp T.zq
  refine ⟨_, _, rfl, _, rfl, _, rfl, _, rfl, a, b, r, _, _, R, rfl, ha, hb, hr', zf.up (by decide), zl.up (by decide), zr, fun H1 g1 => ?_⟩
  rw [lawsgn (Lw.fir T.lp T.lq)]
  refine ⟨rfl, _, rfl, ?_⟩
  unfold withinP at k
  rw [dV]
  refine ite2 (fun c => ?_) (fun c => ?_)
  · rw [c, Bool.true_and] at k
    refine ⟨_, rfl, _, rfl, a, r, _, R, rfl, ha.kept g1, hr'.kept g1, zf.up (by decide), zr, _, rfl, ?_⟩
    refine ite2 (fun c2 => ?_) (fun c2 => ?_)
    · rw [c2, Bool.true_and] at k
      exact ⟨_, rfl, _, rfl, r, b, R, _, rfl, hr'.kept g1, hb.kept g1, zr, zl.up (by decide), k _ g1⟩
    · rw [Bool.eq_false_iff.mpr c2, Bool.false_and] at k
      exact k _ g1
  · rw [Bool.eq_false_iff.mpr c, Bool.false_and] at k
    exact k _ g1
--SPLIT
theorem dtL2 {K : PySem.W.Frag} {H : Hp} {z : Addr} {i j : Int} (e : H z = some (.lst [.int i, .int j])) : Dt K H (.list [.int i, .int j]) (.ref z) := by
  unfold Dt
  refine ⟨z, _, rfl, SqL.of e, ?_⟩
  unfold DtAll
  refine ⟨_, _, rfl, (by unfold Dt; rfl), ?_⟩
  unfold DtAll
  refine ⟨_, _, rfl, (by unfold Dt; rfl), ?_⟩
  unfold DtAll
  rfl
theorem shL2 (i j : Int) : SeqAt.shaped (.list [.int i, .int j]) = true := by
  simp [SeqAt.shaped, PyData.canLay0, PyData.canLayAll0, PyData.depth, PyData.depthAll]
theorem eqvL2 (a b c d : Int) : PyData.eqv (.list [.int a, .int b]) (.list [.int c, .int d]) = decide (a = c ∧ b = d) := by
  rw [Bool.eq_iff_iff]
  simp [PyData.eqv, PyData.eqvAll]
def spOver : Sp := fun vs H Q' _ => ∃ (t u p q r s : Addr) (P Q R S : Pt), vs = [.ref t, .ref u] ∧ TieAt H t p q P Q ∧ TieAt H u r s R S ∧ ∀ H' : Hp, Same H H' → Q' (.bl (overP P Q R S)) H'
theorem ok_law_are_over {f : Addr} {fd : FuncData} (F : Fun K "_law_are_over" "_law_are_over" s_law_are_over f fd) (h_law_hand : Own.Has P w K mg base "_law_hand" ["_law_p", "_law_q", "_law_r"] 2 (spHandL)) (h_law_last : Own.Has P w K mg base "_law_last" ["_law_p", "_law_q"] 2 (spPick lasP)) (h_law_first : Own.Has P w K mg base "_law_first" ["_law_p", "_law_q"] 2 (spPick firP)) (h_law_is_ahead : Own.Has P w K mg base "_law_is_ahead" ["_law_p", "_law_q"] 1 (spAhead)) : FnOk P w K mg base CX0 3 f fd ["_law_one", "_law_other"] (spOver) := by
  refine F.ok sc_law_are_over (fun vs H Q E h => ?_) (fun cdv A outer s H vs Q_ E hr h => ?_)
  · obtain ⟨t, u, p, q, r, s, P, Q, R, S, rfl, _⟩ := h
    rfl
  obtain ⟨t, u, p, q, r, s, P, Q, R, S, rfl, T, U, k⟩ := h
  refine ⟨_, (pss_cons (ps_if (pt_cmpR (op_neD hr.units) (pe_lc1x (Nc := ["_law_r", "_law_one"]) (js := [none, some 0]) rfl rfl (pi_tup (pv 1)) (CS.of rfl rfl) rfl (fun C s₂ H₂ fp pins => (pg_name (i := 0) (show List.Nodup (α := Str) ["_law_r", "_law_one"] by decide +kernel) rfl (Or.inl rfl))) (fun C s₂ H₂ fp pins D L => (pt_tail0 (pb_app (Own.pe_has h_law_hand (hr.mono (by decide)) rfl (pa_cons (pe_ix (show IxR _ (rIxT K) from ix_tup) (pv 1) pe_int (fun _ _ => rfl)) (pa_cons (pe_ix (show IxR _ (rIxT K) from ix_tup) (pv 1) pe_int (fun _ _ => rfl)) (pa_cons (pv 0) pa_nil)))))))) (pe_lst (pa_cons pe_int (pa_cons pe_int pa_nil))) (nomark _)) (pss_one (ps_ret pe_bl)) pss_nil)
      (pss_cons (ps_set (i := 2) sc_law_are_over.nd rfl (Or.inl rfl) (Own.pe_has h_law_last (hr.mono (by decide)) rfl (pa_cons (Own.pe_has h_law_first (hr.mono (by decide)) rfl (pa_cons (pe_ix ix_tup (pv 0) pe_int (fun _ _ => rfl)) (pa_cons (pe_ix ix_tup (pv 0) pe_int (fun _ _ => rfl)) pa_nil))) (pa_cons (Own.pe_has h_law_first (hr.mono (by decide)) rfl (pa_cons (pe_ix ix_tup (pv 1) pe_int (fun _ _ => rfl)) (pa_cons (pe_ix ix_tup (pv 1) pe_int (fun _ _ => rfl)) pa_nil))) pa_nil))))
      (pss_one (ps_ret (Own.pe_has h_law_is_ahead (hr.mono (by decide)) rfl (pa_cons (pv 2) (pa_cons (Own.pe_has h_law_first (hr.mono (by decide)) rfl (pa_cons (Own.pe_has h_law_last (hr.mono (by decide)) rfl (pa_cons (pe_ix ix_tup (pv 0) pe_int (fun _ _ => rfl)) (pa_cons (pe_ix ix_tup (pv 0) pe_int (fun _ _ => rfl)) pa_nil))) (pa_cons (Own.pe_has h_law_last (hr.mono (by decide)) rfl (pa_cons (pe_ix ix_tup (pv 1) pe_int (fun _ _ => rfl)) (pa_cons (pe_ix ix_tup (pv 1) pe_int (fun _ _ => rfl)) pa_nil))) pa_nil))) pa_nil))))))), ?_⟩
  have z1 := T.zp.up (C := 210) (by decide)
  have z2 := T.zq.up (C := 210) (by decide)
  have z3 := U.zp.up (C := 1700) (by decide)
  have z4 := U.zq.up (C := 1700) (by decide)
  refine ⟨_, rfl, u, rfl, ⟨_, SqT.of U.at_⟩, fun D nD => ?_⟩
  refine walk_tup (xs := [.ref r, .ref s]) (fun n σ H1 => ∃ (x : Option V), σ = [x, some (.ref t)] ∧ H1 D = some (.lst (([sgn (det P Q R), sgn (det P Q S)].take n).map V.int)) ∧ Same H H1) ⟨none, rfl, upd_same, same_new nD _⟩ ?_ ?_ ?_
  · rintro n σ H1 _ ⟨x, rfl, hD, g⟩
    exact SqT.of (g _ _ U.at_)
  · rintro n x σ H1 hx ⟨y, rfl, hD, g⟩
    have T1 := T.kept g
    have U1 := U.kept g
    rcases ix2 hx with ⟨rfl, rfl⟩ | ⟨rfl, rfl⟩
    · refine ⟨_, rfl, t, _, _, _, rfl, rfl, SqT.of T1.at_, at0, _, rfl, t, _, _, _, rfl, rfl, SqT.of T1.at_, at1, _, rfl, p, q, r, P, Q, R, rfl, T1.p, T1.q, U1.p, z1, z2, z3, fun H2 g2 => ?_⟩
      rw [lawsgn T.lp]
      exact ⟨_, g2 _ _ hD, (by show 0 < sizeLine; decide), _, rfl, upd_same, same_at nD (g.trans g2)⟩
    · refine ⟨_, rfl, t, _, _, _, rfl, rfl, SqT.of T1.at_, at0, _, rfl, t, _, _, _, rfl, rfl, SqT.of T1.at_, at1, _, rfl, p, q, s, P, Q, S, rfl, T1.p, T1.q, U1.q, z1, z2, z4, fun H2 g2 => ?_⟩
      rw [lawsgn T.lp]
      exact ⟨_, g2 _ _ hD, (by show 1 < sizeLine; decide), _, rfl, upd_same, same_at nD (g.trans g2)⟩
  · rintro σ H1 ⟨x, rfl, hD, g⟩
    refine ⟨(by show 2 ≤ sizeLine; decide), fun l nl => ⟨_, _, dtL2 ((same_new nl _) _ _ hD), dtL2 upd_same, shL2 _ _, shL2 _ _, _, rfl, ?_⟩⟩
    have g2 := g.trans (same_new nl (.lst [.int 0, .int 0]))
    generalize upd H1 l (.lst [.int 0, .int 0]) = H2 at *
    rw [if_pos (show (true = true) from rfl), eqvL2]
    unfold overP at k
    by_cases c : sgn (det P Q R) = 0 ∧ sgn (det P Q S) = 0
    · rw [decide_eq_true c]
      rw [decide_eq_true c, Bool.true_and] at k
      have T2 := T.kept g2
      have U2 := U.kept g2
      refine iteF ⟨_, rfl, t, _, _, _, rfl, rfl, SqT.of T2.at_, at0, _, rfl, t, _, _, _, rfl, rfl, SqT.of T2.at_, at1, p, q, P, Q, rfl, T2.p, T2.q, T.zp, T.zq, fun a1 e1 => ?_⟩
      refine ⟨_, rfl, u, _, _, _, rfl, rfl, SqT.of U2.at_, at0, _, rfl, u, _, _, _, rfl, rfl, SqT.of U2.at_, at1, r, s, R, S, rfl, U2.p, U2.q, U.zp, U.zq, fun a2 e2 => ?_⟩
      refine ⟨a1, a2, _, _, rfl, e1, e2, Sz.fir T.zp T.zq, Sz.fir U.zp U.zq, fun a3 e3 => ?_⟩
      refine ⟨_, rfl, _, rfl, t, _, _, _, rfl, rfl, SqT.of T2.at_, at0, _, rfl, t, _, _, _, rfl, rfl, SqT.of T2.at_, at1, p, q, P, Q, rfl, T2.p, T2.q, T.zp, T.zq, fun a4 e4 => ?_⟩
      refine ⟨_, rfl, u, _, _, _, rfl, rfl, SqT.of U2.at_, at0, _, rfl, u, _, _, _, rfl, rfl, SqT.of U2.at_, at1, r, s, R, S, rfl, U2.p, U2.q, U.zp, U.zq, fun a5 e5 => ?_⟩
      refine ⟨a4, a5, _, _, rfl, e4, e5, Sz.las T.zp T.zq, Sz.las U.zp U.zq, fun a6 e6 => ?_⟩
      exact ⟨a3, a6, _, _, rfl, e3, e6, (Sz.las (Sz.fir T.zp T.zq) (Sz.fir U.zp U.zq)).up (by decide), (Sz.fir (Sz.las T.zp T.zq) (Sz.las U.zp U.zq)).up (by decide), k _ g2⟩
    · rw [decide_eq_false c]
      rw [decide_eq_false c, Bool.false_and] at k
      exact iteT (k _ g2)
def spCrossed : Sp := fun vs H Q' _ => ∃ (t u p q r s : Addr) (P Q R S : Pt), vs = [.ref t, .ref u] ∧ TieAt H t p q P Q ∧ TieAt H u r s R S ∧
  ∀ H' : Hp, Same H H' → Q' (.bl (decide (sgn (det P Q R) * sgn (det P Q S) < 0 ∧ sgn (det R S P) * sgn (det R S Q) < 0))) H'
theorem ok_law_are_crossed {f : Addr} {fd : FuncData} (F : Fun K "_law_are_crossed" "_law_are_crossed" s_law_are_crossed f fd) (h_law_hand : Own.Has P w K mg base "_law_hand" ["_law_p", "_law_q", "_law_r"] 2 (spHandL)) : FnOk P w K mg base CX0 3 f fd ["_law_one", "_law_other"] (spCrossed) := by
  refine F.ok sc_law_are_crossed (fun vs H Q E h => ?_) (fun cdv A outer s H vs Q_ E hr h => ?_)
  · obtain ⟨t, u, p, q, r, s, P, Q, R, S, rfl, _⟩ := h
    rfl
  obtain ⟨t, u, p, q, r, s, P, Q, R, S, rfl, T, U, k⟩ := h
  refine ⟨_, (pss_cons (ps_if (pt_cmpR op_ge (pe_op op_mul (Own.pe_has h_law_hand (hr.mono (by decide)) rfl (pa_cons (pe_ix ix_tup (pv 0) pe_int (fun _ _ => rfl)) (pa_cons (pe_ix ix_tup (pv 0) pe_int (fun _ _ => rfl)) (pa_cons (pe_ix ix_tup (pv 1) pe_int (fun _ _ => rfl)) pa_nil)))) (Own.pe_has h_law_hand (hr.mono (by decide)) rfl (pa_cons (pe_ix ix_tup (pv 0) pe_int (fun _ _ => rfl)) (pa_cons (pe_ix ix_tup (pv 0) pe_int (fun _ _ => rfl)) (pa_cons (pe_ix ix_tup (pv 1) pe_int (fun _ _ => rfl)) pa_nil))))) pe_int (nomark _)) (pss_one (ps_ret pe_bl)) pss_nil)
      (pss_one (ps_ret (pe_cmpR op_lt (pe_op op_mul (Own.pe_has h_law_hand (hr.mono (by decide)) rfl (pa_cons (pe_ix ix_tup (pv 1) pe_int (fun _ _ => rfl)) (pa_cons (pe_ix ix_tup (pv 1) pe_int (fun _ _ => rfl)) (pa_cons (pe_ix ix_tup (pv 0) pe_int (fun _ _ => rfl)) pa_nil)))) (Own.pe_has h_law_hand (hr.mono (by decide)) rfl (pa_cons (pe_ix ix_tup (pv 1) pe_int (fun _ _ => rfl)) (pa_cons (pe_ix ix_tup (pv 1) pe_int (fun _ _ => rfl)) (pa_cons (pe_ix ix_tup (pv 0) pe_int (fun _ _ => rfl)) pa_nil))))) pe_int (nomark _))))), ?_⟩
  have y1 := T.zp.up (C := 210) (by decide)
  have y2 := T.zq.up (C := 210) (by decide)
  have y3 := U.zp.up (C := 210) (by decide)
  have y4 := U.zq.up (C := 210) (by decide)
  have z1 := T.zp.up (C := 1700) (by decide)
  have z2 := T.zq.up (C := 1700) (by decide)
  have z3 := U.zp.up (C := 1700) (by decide)
  have z4 := U.zq.up (C := 1700) (by decide)
  refine ⟨_, rfl, t, _, _, _, rfl, rfl, SqT.of T.at_, at0, _, rfl, t, _, _, _, rfl, rfl, SqT.of T.at_, at1, _, rfl, u, _, _, _, rfl, rfl, SqT.of U.at_, at0, p, q, r, P, Q, R, rfl, T.p, T.q, U.p, y1, y2, z3, fun H1 g1 => ?_⟩
  have T1 := T.kept g1
  have U1 := U.kept g1
  refine ⟨_, rfl, t, _, _, _, rfl, rfl, SqT.of T1.at_, at0, _, rfl, t, _, _, _, rfl, rfl, SqT.of T1.at_, at1, _, rfl, u, _, _, _, rfl, rfl, SqT.of U1.at_, at1, p, q, s, P, Q, S, rfl, T1.p, T1.q, U1.q, y1, y2, z4, fun H2 g2 => ?_⟩
  rw [lawsgn T.lp, lawsgn T.lp]
  have gA := g1.trans g2
  have T2 := T.kept gA
  have U2 := U.kept gA
  refine ⟨_, _, rfl, rfl, .inl (sgn64 _ 0), _, _, rfl, rfl, _, rfl, ?_⟩
  refine ite2 (fun c => ?_) (fun c => ?_)
  · have c' : ¬ (sgn (det P Q R) * sgn (det P Q S) < 0) := by have := of_decide_eq_true c; omega
    have fin := k _ gA
    rw [decide_eq_false (fun z => c' z.1)] at fin
    exact fin
  · have c' : sgn (det P Q R) * sgn (det P Q S) < 0 := Int.not_le.mp fun z => c (decide_eq_true z)
    refine ⟨_, rfl, u, _, _, _, rfl, rfl, SqT.of U2.at_, at0, _, rfl, u, _, _, _, rfl, rfl, SqT.of U2.at_, at1, _, rfl, t, _, _, _, rfl, rfl, SqT.of T2.at_, at0, r, s, p, R, S, P, rfl, U2.p, U2.q, T2.p, y3, y4, z1, fun H3 g3 => ?_⟩
    have T3 := T2.kept g3
    have U3 := U2.kept g3
    refine ⟨_, rfl, u, _, _, _, rfl, rfl, SqT.of U3.at_, at0, _, rfl, u, _, _, _, rfl, rfl, SqT.of U3.at_, at1, _, rfl, t, _, _, _, rfl, rfl, SqT.of T3.at_, at1, r, s, q, R, S, Q, rfl, U3.p, U3.q, T3.q, y3, y4, z2, fun H4 g4 => ?_⟩
    rw [lawsgn U.lp, lawsgn U.lp]
    refine ⟨_, _, rfl, rfl, .inl (sgn64 _ 0), _, _, rfl, rfl, ?_⟩
    have fin := k _ (gA.trans (g3.trans g4))
    rw [show decide (sgn (det P Q R) * sgn (det P Q S) < 0 ∧ sgn (det R S P) * sgn (det R S Q) < 0) = decide (sgn (det R S P) * sgn (det R S Q) < 0) by simp [c']] at fin
    exact fin
theorem pts_lay (E : List Pt) : PyData.canLayAll0 (E.map ptD) = true ∧ PyData.depthAll (E.map ptD) ≤ 2 := by
  induction E with
  | nil => exact ⟨rfl, by decide⟩
  | cons x l ih =>
    have h1 : PyData.canLay0 (ptD x) = true := by simp [ptD, PyData.canLay0, PyData.canLayAll0]
    have h2 : PyData.depth (ptD x) ≤ 2 := by simp [ptD, PyData.depth, PyData.depthAll]
    simp only [List.map_cons, PyData.canLayAll0, PyData.depthAll, h1, ih.1]
    have := ih.2
    refine ⟨rfl, ?_⟩
    omega
theorem ptsL_ok (E : List Pt) : SeqAt.shaped (.list (E.map ptD)) = true := by
  obtain ⟨h1, h2⟩ := pts_lay E
  unfold SeqAt.shaped
  simp only [PyData.canLay0, PyData.depth, h1]
  first | (simp; omega) | (rw [Bool.and_eq_true]; exact ⟨rfl, decide_eq_true (by omega)⟩) | simp_all
theorem ptsL_nil (E : List Pt) : PyData.eqv (.list (E.map ptD)) (.list []) = decide (E = []) := by
  cases E with
  | nil => simp [PyData.eqv, PyData.eqvAll]
  | cons x r => simp [PyData.eqv, PyData.eqvAll]
theorem ptsL_dt {K : PySem.W.Frag} {H : Hp} : ∀ {E : List (Addr × Pt)}, (∀ e ∈ E, PtAt H e.1 e.2) → DtAll K H ((E.map Prod.snd).map ptD) ((E.map Prod.fst).map V.ref)
  | [], _ => by unfold DtAll; rfl
  | e :: E, h => by
    show DtAll K H (ptD e.2 :: _) (V.ref e.1 :: _)
    unfold DtAll
    exact ⟨_, _, rfl, (h e List.mem_cons_self).dt, ptsL_dt fun e' he => h e' (List.mem_cons_of_mem _ he)⟩
def DueV (H : Hp) (v : V) (P Q R S : Pt) : Prop :=
  match dueO P Q R S with
  | .no => v = .non
  | .over => ∃ a, v = .ref a ∧ H a = some (.tup [.str "over", .non])
  | .touch X => ∃ a x, v = .ref a ∧ H a = some (.tup [.str "touch", .ref x]) ∧ PtAt H x X
  | .cross => v = .str "cross"
def pick2 (b c : Bool) (x y : Addr × Pt) : List (Addr × Pt) := (if b then [x] else []) ++ (if c then [y] else [])
def upto (b c : Bool) (x y : Addr × Pt) (n : Nat) : List (Addr × Pt) := match n with
  | 0 => []
  | 1 => if b then [x] else []
  | _ => pick2 b c x y
theorem upto1 (b c : Bool) (x y : Addr × Pt) : upto b c x y 1 = upto b c x y 0 ++ (if b then [x] else []) := rfl
theorem upto2 (b c : Bool) (x y : Addr × Pt) : upto b c x y 2 = upto b c x y 1 ++ (if c then [y] else []) := rfl
def spDue : Sp := fun vs H Q' _ => ∃ (t u p q r s : Addr) (P Q R S : Pt), vs = [.ref t, .ref u] ∧ TieAt H t p q P Q ∧ TieAt H u r s R S ∧ ∀ (v : V) (H' : Hp), Same H H' → DueV H' v P Q R S → Q' v H'
theorem ok_law_due {f : Addr} {fd : FuncData} (F : Fun K "_law_due" "_law_due" s_law_due f fd) (h_law_are_over : Own.Has P w K mg base "_law_are_over" ["_law_one", "_law_other"] 3 (spOver)) (h_law_is_within : Own.Has P w K mg base "_law_is_within" ["_law_r", "_law_tie"] 3 (spWithin)) (h_law_are_crossed : Own.Has P w K mg base "_law_are_crossed" ["_law_one", "_law_other"] 3 (spCrossed)) : FnOk P w K mg base CX0 4 f fd ["_law_one", "_law_other"] (spDue) := by
  refine F.ok sc_law_due (fun vs H Q E h => ?_) (fun cdv A outer s H vs Q_ E hr h => ?_)
  · obtain ⟨t, u, p, q, r, s, P, Q, R, S, rfl, _⟩ := h
    rfl
  obtain ⟨t, u, p, q, r, s, P, Q, R, S, rfl, T, U, k⟩ := h
  refine ⟨_, (pss_cons (ps_if (pt_val (Own.pe_has h_law_are_over (hr.mono (by decide)) rfl (pa_cons (pv 0) (pa_cons (pv 1) pa_nil)))) (pss_one (ps_ret (pe_tup (pa_cons pe_str (pa_cons pe_non pa_nil))))) pss_nil)
      (pss_cons (ps_set (i := 2) sc_law_due.nd rfl (Or.inl rfl) (pe_op op_cat (pe_lc1x (Nc := ["_law_r", "_law_one"]) (js := [none, some 0]) rfl rfl (pi_tup (pv 1)) (CS.of rfl rfl) rfl (fun C s₂ H₂ fp pins => (pg_name (i := 0) (show List.Nodup (α := Str) ["_law_r", "_law_one"] by decide +kernel) rfl (Or.inl rfl))) (fun C s₂ H₂ fp pins D L => (pt_tail1 (pt_val (Own.pe_has h_law_is_within (hr.mono (by decide)) rfl (pa_cons (pv 0) (pa_cons (pv 1) pa_nil)))) (pb_app (pv 0))))) (pe_lc1x (Nc := ["_law_r", "_law_other"]) (js := [none, some 1]) rfl rfl (pi_tup (pv 0)) (CS.of rfl rfl) rfl (fun C s₂ H₂ fp pins => (pg_name (i := 0) (show List.Nodup (α := Str) ["_law_r", "_law_other"] by decide +kernel) rfl (Or.inl rfl))) (fun C s₂ H₂ fp pins D L => (pt_tail1 (pt_val (Own.pe_has h_law_is_within (hr.mono (by decide)) rfl (pa_cons (pv 0) (pa_cons (pv 1) pa_nil)))) (pb_app (pv 0)))))))
      (pss_cons (ps_if (pt_cmpR (op_neD hr.units) (pv 2) (pe_lst pa_nil) (nomark _)) (pss_one (ps_ret (pe_tup (pa_cons pe_str (pa_cons (pe_ix ix_list (pv 2) pe_int (fun _ _ => rfl)) pa_nil))))) pss_nil)
      (pss_cons (ps_if (pt_val (Own.pe_has h_law_are_crossed (hr.mono (by decide)) rfl (pa_cons (pv 0) (pa_cons (pv 1) pa_nil)))) (pss_one (ps_ret pe_str)) pss_nil)
      (pss_one (ps_ret pe_non)))))), ?_⟩
  refine ⟨_, rfl, _, rfl, t, u, p, q, r, s, P, Q, R, S, rfl, T, U, fun H1 g1 => ⟨_, rfl, ?_⟩⟩
  unfold DueV dueO at k
  refine ite2 (fun c => ?_) (fun c => ?_)
  · refine ⟨(by show 2 ≤ sizeLine; decide), fun a na => k _ _ (g1.trans (same_new na _)) ?_⟩
    rw [if_pos c]
    exact ⟨a, rfl, upd_same⟩
  rw [if_neg c] at k
  have T1 := T.kept g1
  have U1 := U.kept g1
  have z1 := T.zp.up (C := 1700) (by decide)
  have z2 := T.zq.up (C := 1700) (by decide)
  have z3 := U.zp.up (C := 1700) (by decide)
  have z4 := U.zq.up (C := 1700) (by decide)
  refine ⟨_, rfl, u, rfl, ⟨_, SqT.of U1.at_⟩, fun D nD => ?_⟩
  refine walk_tup (xs := [.ref r, .ref s]) (fun n σ H2 => ∃ (x : Option V), σ = [x, some (.ref t)] ∧ H2 D = some (.lst (((upto (withinP R P Q) (withinP S P Q) (r, R) (s, S) n).map Prod.fst).map V.ref)) ∧ Same H1 H2) ⟨none, rfl, upd_same, same_new nD _⟩ ?_ ?_ ?_
  · rintro n σ H2 _ ⟨x, rfl, hD, g⟩
    exact SqT.of (g _ _ U1.at_)
  · rintro n x σ H2 hx ⟨y, rfl, hD, g⟩
    have T2 := T1.kept g
    have U2 := U1.kept g
    rcases ix2 hx with ⟨rfl, rfl⟩ | ⟨rfl, rfl⟩
    · refine ⟨_, rfl, _, rfl, r, t, p, q, R, P, Q, rfl, U2.p, z3, T2, fun H3 g3 => ⟨_, rfl, ?_⟩⟩
      refine ite2 (fun c1 => ?_) (fun c1 => ?_)
      · refine ⟨_, rfl, _, g3 _ _ hD, (by show 0 < sizeLine; decide), _, rfl, ?_, same_at nD (g.trans g3)⟩
        rw [upto1, c1]
        exact upd_same
      · refine ⟨_, rfl, ?_, g.trans g3⟩
        rw [upto1, if_neg c1, List.append_nil]
        exact g3 _ _ hD
    · refine ⟨_, rfl, _, rfl, s, t, p, q, S, P, Q, rfl, U2.q, z4, T2, fun H3 g3 => ⟨_, rfl, ?_⟩⟩
      have lu : ((upto (withinP R P Q) (withinP S P Q) (r, R) (s, S) 1).map Prod.fst).length ≤ 1 := by
        show ((if withinP R P Q = true then [(r, R)] else []).map Prod.fst).length ≤ 1
        split <;> simp
      refine ite2 (fun c1 => ?_) (fun c1 => ?_)
      · refine ⟨_, rfl, _, g3 _ _ hD, (by rw [List.length_map]; exact small1000 (by omega)), _, rfl, ?_, same_at nD (g.trans g3)⟩
        rw [upto2, if_pos c1, List.map_append, List.map_append]
        exact upd_same
      · refine ⟨_, rfl, ?_, g.trans g3⟩
        rw [upto2, if_neg c1, List.append_nil]
        exact g3 _ _ hD
  · rintro σ H2 ⟨x, rfl, hD, g⟩
    change H2 D = some (.lst (((pick2 (withinP R P Q) (withinP S P Q) (r, R) (s, S)).map Prod.fst).map V.ref)) at hD
    have T2 := T1.kept g
    have U2 := U1.kept g
    refine ⟨_, rfl, t, rfl, ⟨_, SqT.of T2.at_⟩, fun D' nD' => ?_⟩
    refine walk_tup (xs := [.ref p, .ref q]) (fun n σ H3 => ∃ (x : Option V), σ = [x, some (.ref u)] ∧ H3 D' = some (.lst (((upto (withinP P R S) (withinP Q R S) (p, P) (q, Q) n).map Prod.fst).map V.ref)) ∧ Same H2 H3) ⟨none, rfl, upd_same, same_new nD' _⟩ ?_ ?_ ?_
    · rintro n σ H3 _ ⟨x, rfl, hD', g'⟩
      exact SqT.of (g' _ _ T2.at_)
    · rintro n x σ H3 hx ⟨y, rfl, hD', g'⟩
      have T3 := T2.kept g'
      have U3 := U2.kept g'
      rcases ix2 hx with ⟨rfl, rfl⟩ | ⟨rfl, rfl⟩
      · refine ⟨_, rfl, _, rfl, p, u, r, s, P, R, S, rfl, T3.p, z1, U3, fun H4 g4 => ⟨_, rfl, ?_⟩⟩
        refine ite2 (fun c1 => ?_) (fun c1 => ?_)
        · refine ⟨_, rfl, _, g4 _ _ hD', (by show 0 < sizeLine; decide), _, rfl, ?_, same_at nD' (g'.trans g4)⟩
          rw [upto1, c1]
          exact upd_same
        · refine ⟨_, rfl, ?_, g'.trans g4⟩
          rw [upto1, if_neg c1, List.append_nil]
          exact g4 _ _ hD'
      · refine ⟨_, rfl, _, rfl, q, u, r, s, Q, R, S, rfl, T3.q, z2, U3, fun H4 g4 => ⟨_, rfl, ?_⟩⟩
        have lu : ((upto (withinP P R S) (withinP Q R S) (p, P) (q, Q) 1).map Prod.fst).length ≤ 1 := by
          show ((if withinP P R S = true then [(p, P)] else []).map Prod.fst).length ≤ 1
          split <;> simp
        refine ite2 (fun c1 => ?_) (fun c1 => ?_)
        · refine ⟨_, rfl, _, g4 _ _ hD', (by rw [List.length_map]; exact small1000 (by omega)), _, rfl, ?_, same_at nD' (g'.trans g4)⟩
          rw [upto2, if_pos c1, List.map_append, List.map_append]
          exact upd_same
        · refine ⟨_, rfl, ?_, g'.trans g4⟩
          rw [upto2, if_neg c1, List.append_nil]
          exact g4 _ _ hD'
    · rintro σ H3 ⟨x, rfl, hD', g'⟩
      change H3 D' = some (.lst (((pick2 (withinP P R S) (withinP Q R S) (p, P) (q, Q)).map Prod.fst).map V.ref)) at hD'
      have T3 := T2.kept g'
      have U3 := U2.kept g'
      have g13 := g1.trans (g.trans g')
      have hD3 := g' _ _ hD
      have lp2 : ∀ (b c : Bool) (x y : Addr × Pt), (pick2 b c x y).length ≤ 2 := fun b c x y => by cases b <;> cases c <;> simp [pick2]
      refine ⟨D, D', _, _, rfl, rfl, hD3, hD', (by
        have a1 := lp2 (withinP R P Q) (withinP S P Q) (r, R) (s, S)
        have a2 := lp2 (withinP P R S) (withinP Q R S) (p, P) (q, Q)
        show (((pick2 (withinP R P Q) (withinP S P Q) (r, R) (s, S)).map Prod.fst).map V.ref).length + (((pick2 (withinP P R S) (withinP Q R S) (p, P) (q, Q)).map Prod.fst).map V.ref).length ≤ sizeLine
        simp only [List.length_map]
        exact small (by omega)), fun l nl => ?_⟩
      have gl := same_new nl (.lst (((pick2 (withinP R P Q) (withinP S P Q) (r, R) (s, S)).map Prod.fst).map V.ref ++ ((pick2 (withinP P R S) (withinP Q R S) (p, P) (q, Q)).map Prod.fst).map V.ref))
      have hl : upd H3 l (.lst (((pick2 (withinP R P Q) (withinP S P Q) (r, R) (s, S)).map Prod.fst).map V.ref ++ ((pick2 (withinP P R S) (withinP Q R S) (p, P) (q, Q)).map Prod.fst).map V.ref)) l = some (.lst (((pick2 (withinP R P Q) (withinP S P Q) (r, R) (s, S) ++ pick2 (withinP P R S) (withinP Q R S) (p, P) (q, Q)).map Prod.fst).map V.ref)) := by
        rw [upd_same, List.map_append, List.map_append]
      refine ⟨_, rfl, (by show 0 ≤ sizeLine; decide), fun m nm => ?_⟩
      have gm := same_new nm (.lst [])
      have hl2 := gm _ _ hl
      have g14 := g13.trans (gl.trans gm)
      have hm : upd (upd H3 l (.lst (((pick2 (withinP R P Q) (withinP S P Q) (r, R) (s, S)).map Prod.fst).map V.ref ++ ((pick2 (withinP P R S) (withinP Q R S) (p, P) (q, Q)).map Prod.fst).map V.ref))) m (.lst []) m = some (.lst []) := upd_same
      have T4 := T3.kept (gl.trans gm)
      have U4 := U3.kept (gl.trans gm)
      have all : ∀ e ∈ pick2 (withinP R P Q) (withinP S P Q) (r, R) (s, S) ++ pick2 (withinP P R S) (withinP Q R S) (p, P) (q, Q), PtAt (upd (upd H3 l (.lst (((pick2 (withinP R P Q) (withinP S P Q) (r, R) (s, S)).map Prod.fst).map V.ref ++ ((pick2 (withinP P R S) (withinP Q R S) (p, P) (q, Q)).map Prod.fst).map V.ref))) m (.lst [])) e.1 e.2 := fun e he => by
        have one : ∀ {b c : Bool} {x y e : Addr × Pt}, e ∈ pick2 b c x y → e = x ∨ e = y := fun {b c x y e} h => by cases b <;> cases c <;> simp [pick2] at h <;> first | exact .inl h | exact .inr h | exact h
        rcases List.mem_append.mp he with h | h
        · rcases one h with rfl | rfl
          · exact U4.p
          · exact U4.q
        · rcases one h with rfl | rfl
          · exact T4.p
          · exact T4.q
      generalize upd (upd H3 l (.lst (((pick2 (withinP R P Q) (withinP S P Q) (r, R) (s, S)).map Prod.fst).map V.ref ++ ((pick2 (withinP P R S) (withinP Q R S) (p, P) (q, Q)).map Prod.fst).map V.ref))) m (.lst []) = H4 at *
      generalize hE : pick2 (withinP R P Q) (withinP S P Q) (r, R) (s, S) ++ pick2 (withinP P R S) (withinP Q R S) (p, P) (q, Q) = EE at *
      refine ⟨.list ((EE.map Prod.snd).map ptD), .list [], (by unfold Dt; exact ⟨l, _, rfl, SqL.of hl2, ptsL_dt all⟩), (by unfold Dt; exact ⟨m, _, rfl, SqL.of hm, by unfold DtAll; rfl⟩), ptsL_ok _, (by rfl), _, rfl, ?_⟩
      rw [if_pos (show (true = true) from rfl), ptsL_nil]
      have tch : ∀ (e : Addr × Pt) (E' : List (Addr × Pt)), EE = e :: E' → (∀ (v : V) (H' : Hp), Same H H' → (∃ a x, v = .ref a ∧ H' a = some (.tup [.str "touch", .ref x]) ∧ PtAt H' x e.2) → Q_ v H') → decide (EE.map Prod.snd = []) = false ∧ atI ((EE.map Prod.fst).map V.ref) 0 = some (.ref e.1) ∧
          ∀ a, H4 a = none → Q_ (.ref a) (upd H4 a (.tup [.str "touch", .ref e.1])) := fun e E' h1 h2 => by
        subst h1
        refine ⟨by simp, atI_nat (j := 0) rfl, fun a na => h2 _ _ (g14.trans (same_new na _)) ⟨a, e.1, rfl, upd_same, (all e List.mem_cons_self).kept (same_new na _)⟩⟩
      by_cases hR : withinP R P Q = true
      · rw [if_pos hR] at k
        obtain ⟨t1, t2, t3⟩ := tch (r, R) _ (by rw [← hE, hR]; rfl) k
        rw [t1]
        exact iteT ⟨_, rfl, l, _, _, _, rfl, rfl, SqL.of hl2, t2, (by show 2 ≤ sizeLine; decide), t3⟩
      · rw [if_neg hR] at k
        by_cases hS : withinP S P Q = true
        · rw [if_pos hS] at k
          obtain ⟨t1, t2, t3⟩ := tch (s, S) _ (by rw [← hE, Bool.eq_false_iff.mpr hR, hS]; rfl) k
          rw [t1]
          exact iteT ⟨_, rfl, l, _, _, _, rfl, rfl, SqL.of hl2, t2, (by show 2 ≤ sizeLine; decide), t3⟩
        · rw [if_neg hS] at k
          by_cases hP : withinP P R S = true
          · rw [if_pos hP] at k
            obtain ⟨t1, t2, t3⟩ := tch (p, P) _ (by rw [← hE, Bool.eq_false_iff.mpr hR, Bool.eq_false_iff.mpr hS, hP]; rfl) k
            rw [t1]
            exact iteT ⟨_, rfl, l, _, _, _, rfl, rfl, SqL.of hl2, t2, (by show 2 ≤ sizeLine; decide), t3⟩
          · rw [if_neg hP] at k
            by_cases hQ : withinP Q R S = true
            · rw [if_pos hQ] at k
              obtain ⟨t1, t2, t3⟩ := tch (q, Q) _ (by rw [← hE, Bool.eq_false_iff.mpr hR, Bool.eq_false_iff.mpr hS, Bool.eq_false_iff.mpr hP, hQ]; rfl) k
              rw [t1]
              exact iteT ⟨_, rfl, l, _, _, _, rfl, rfl, SqL.of hl2, t2, (by show 2 ≤ sizeLine; decide), t3⟩
            · rw [if_neg hQ] at k
              have e0 : EE = [] := by rw [← hE, Bool.eq_false_iff.mpr hR, Bool.eq_false_iff.mpr hS, Bool.eq_false_iff.mpr hP, Bool.eq_false_iff.mpr hQ]; rfl
              rw [show decide (EE.map Prod.snd = []) = true by rw [e0]; rfl]
              refine iteF ⟨_, rfl, _, rfl, t, u, p, q, r, s, P, Q, R, S, rfl, T4, U4, fun H5 g5 => ⟨_, rfl, ?_⟩⟩
              refine ite2 (fun c5 => ?_) (fun c5 => ?_)
              · rw [if_pos (of_decide_eq_true c5)] at k
                exact k _ _ (g14.trans g5) rfl
              · rw [if_neg (fun z => c5 (decide_eq_true z))] at k
                exact k _ _ (g14.trans g5) rfl
--SPLIT
theorem nil_dt {K : PySem.W.Frag} {H : Hp} {z : Addr} (e : H z = some (.lst [])) : Dt K H (.list []) (.ref z) := by
  unfold Dt
  exact ⟨z, _, rfl, SqL.of e, by unfold DtAll; rfl⟩
def spIsFr : Sp := fun vs H Q' _ => ∃ (x : Addr) (n d : Int), vs = [.ref x] ∧ H x = some (.tup [.int n, .int d]) ∧ 0 < d ∧ Int.gcd n d = 1 ∧ d.natAbs < 2 ^ 1700 ∧ ∀ H' : Hp, Same H H' → Q' (.bl true) H'
theorem ok_law_is_fraction {f : Addr} {fd : FuncData} (F : Fun K "_law_is_fraction" "_law_is_fraction" s_law_is_fraction f fd) (h_law_low : Own.Has P w K mg base "_law_low" ["_law_n", "_law_d"] 1 (spFr)) (z_isinstance : mg "isinstance" = none) (z_bool : mg "bool" = none) (z_len : mg "len" = none) (z_tuple : mg "tuple" = none) (z_int : mg "int" = none) : FnOk P w K mg base CX0 2 f fd ["_law_one"] (spIsFr) := by
  refine F.ok sc_law_is_fraction (fun vs H Q E h => ?_) (fun cdv A outer s H vs Q_ E hr h => ?_)
  · obtain ⟨x, n, d, rfl, _⟩ := h
    rfl
  obtain ⟨x, n, d, rfl, hx, d0, co, zd, k⟩ := h
  refine ⟨_, (pss_cons (ps_if (PW.pt (pw_or (pt_not (pt_val (pe_callB Own.call_isi rfl z_isinstance PyProof.Rows.boot_isinstance (pa_cons (pv 0) (pa_cons (pe_bltn (v := .ty "tuple") rfl z_tuple PyProof.Rows.boot_tuple rfl) pa_nil))))) (pw_or (pt_cmpR op_ne (pe_callB call_len_seq rfl z_len PySem.boot_len (pa_cons (pv 0) pa_nil)) pe_int (nomark _)) (pw_or1 (pt_cmpR (op_neD hr.units) (pe_lc1x (Nc := ["_law_n"]) (js := [none]) rfl rfl (pi_tup (pv 0)) (CS.of rfl rfl) rfl (fun C s₂ H₂ fp pins => (pg_name (i := 0) (show List.Nodup (α := Str) ["_law_n"] by decide +kernel) rfl (Or.inl rfl))) (fun C s₂ H₂ fp pins D L => (pt_tail1 (pt_val (pe_callB (show CallR _ _ (fun xs H Q => ∃ x t T b, xs = [x, .ty T] ∧ TyOf K H x t ∧ PySem.W.kitOne K t (.type T) = some b ∧ Q (.bl b) H) from Own.call_isi) rfl z_isinstance PyProof.Rows.boot_isinstance (pa_cons (pv 0) (pa_cons (pe_bltn (v := .ty "bool") rfl z_bool PyProof.Rows.boot_bool rfl) pa_nil)))) (pb_app (pv 0))))) (pe_lst pa_nil) (nomark _)))))) (pss_one (ps_ret pe_bl)) pss_nil)
      (pss_one (ps_ret (pe_and (pe_callB Own.call_isi rfl z_isinstance PyProof.Rows.boot_isinstance (pa_cons (pe_ix ix_tup (pv 0) pe_int (fun _ _ => rfl)) (pa_cons (pe_bltn (v := .ty "int") rfl z_int PyProof.Rows.boot_int rfl) pa_nil))) (pe_and (pe_callB Own.call_isi rfl z_isinstance PyProof.Rows.boot_isinstance (pa_cons (pe_ix ix_tup (pv 0) pe_int (fun _ _ => rfl)) (pa_cons (pe_bltn (v := .ty "int") rfl z_int PyProof.Rows.boot_int rfl) pa_nil))) (pe_and (pe_cmpR op_gt (pe_ix ix_tup (pv 0) pe_int (fun _ _ => rfl)) pe_int (nomark _)) (pe_one (pe_cmpR (op_eqD hr.units) (Own.pe_has h_law_low (hr.mono (by decide)) rfl (pa_cons (pe_ix ix_tup (pv 0) pe_int (fun _ _ => rfl)) (pa_cons (pe_ix ix_tup (pv 0) pe_int (fun _ _ => rfl)) pa_nil))) (pv 0) (nomark _))))))))), ?_⟩
  refine ⟨_, rfl, _, _, _, _, rfl, .tup hx, rfl, _, rfl, iteF ?_⟩
  refine ⟨_, rfl, x, _, rfl, .inr (SqT.of hx), rfl, _, rfl, iteF ?_⟩
  refine ⟨_, rfl, x, rfl, ⟨_, SqT.of hx⟩, fun D nD => ?_⟩
  refine walk_tup (xs := [.int n, .int d]) (fun m σ H1 => ∃ (u : Option V), σ = [u] ∧ H1 D = some (.lst []) ∧ Same H H1) ⟨none, rfl, upd_same, same_new nD _⟩ ?_ ?_ ?_
  · rintro m σ H1 _ ⟨u, rfl, hD, g⟩
    exact SqT.of (g _ _ hx)
  · rintro m y σ H1 hy ⟨u, rfl, hD, g⟩
    obtain ⟨i, rfl⟩ : ∃ i : Int, y = .int i := by rcases ix2 hy with ⟨_, rfl⟩ | ⟨_, rfl⟩ <;> exact ⟨_, rfl⟩
    exact ⟨_, rfl, _, _, _, _, rfl, .int _, rfl, _, rfl, iteF ⟨_, rfl, hD, g⟩⟩
  · rintro σ H1 ⟨u, rfl, hD, g⟩
    refine ⟨(by show 0 ≤ sizeLine; decide), fun e ne => ?_⟩
    have ge := same_new ne (.lst [])
    refine ⟨.list [], .list [], nil_dt (ge _ _ hD), nil_dt upd_same, rfl, rfl, _, rfl, iteF ?_⟩
    have g2 := g.trans ge
    have hx2 := g2 _ _ hx
    refine ⟨_, rfl, x, _, _, _, rfl, rfl, SqT.of hx2, at0, _, _, _, _, rfl, .int _, rfl, _, rfl, iteT ?_⟩
    refine ⟨_, rfl, x, _, _, _, rfl, rfl, SqT.of hx2, at1, _, _, _, _, rfl, .int _, rfl, _, rfl, iteT ?_⟩
    refine ⟨_, rfl, x, _, _, _, rfl, rfl, SqT.of hx2, at1, _, _, rfl, rfl, _, rfl, ?_⟩
    rw [decide_eq_true (show d > 0 from d0)]
    refine iteT ⟨_, rfl, x, _, _, _, rfl, rfl, SqT.of hx2, at0, _, rfl, x, _, _, _, rfl, rfl, SqT.of hx2, at1, n, d, rfl, pos_ne d0, up zd (by decide), fun n' d' p H3 fr g3 hp => ?_⟩
    obtain ⟨e1, e2⟩ := low_unique fr.pos d0 fr.co co fr.eq
    refine ⟨_, rfl, _, _, dt2 hp, dt2 (g3 _ _ hx2), sh2 _ _, sh2 _ _, ?_⟩
    rw [if_neg (show ¬ (false = true) by decide), eqv2, decide_eq_true ⟨e1, e2⟩]
    exact k _ (g2.trans g3)
def dM (o : Out) (X : Pt) : PyData := match o with
  | .no => .none
  | .over => .tuple [.str "over", .none]
  | .touch Y => .tuple [.str "touch", ptD Y]
  | .cross => .tuple [.str "cross", ptD X]
theorem so1 : PyData.strOk "over" = true := by decide +kernel
theorem so2 : PyData.strOk "touch" = true := by decide +kernel
theorem so3 : PyData.strOk "cross" = true := by decide +kernel
theorem so4 : SeqAt.shaped (.str "cross") = true := by decide +kernel
theorem dM_ok (o : Out) (X : Pt) : SeqAt.shaped (dM o X) = true := by
  cases o <;> simp [dM, ptD, SeqAt.shaped, PyData.canLay0, PyData.canLayAll0, PyData.depth, PyData.depthAll, so1, so2, so3]
theorem dM_eqv (o : Out) (X : Pt) : PyData.eqv (dM o X) (dM o X) = true := by
  cases o <;> simp [dM, ptD, PyData.eqv, PyData.eqvAll]
theorem dM_str (o : Out) (X : Pt) : PyData.eqv (dM o X) (.str "cross") = false := by
  cases o <;> rfl
theorem dtS {K : PySem.W.Frag} {H : Hp} {a x : Addr} {z : Str} {X : Pt} (e : H a = some (.tup [.str z, .ref x])) (h : PtAt H x X) : Dt K H (.tuple [.str z, ptD X]) (.ref a) := by
  unfold Dt
  refine ⟨a, _, rfl, SqT.of e, ?_⟩
  unfold DtAll
  refine ⟨_, _, rfl, (by unfold Dt; rfl), ?_⟩
  unfold DtAll
  refine ⟨_, _, rfl, h.dt, ?_⟩
  unfold DtAll
  rfl
theorem dtN {K : PySem.W.Frag} {H : Hp} {a : Addr} {z : Str} (e : H a = some (.tup [.str z, .non])) : Dt K H (.tuple [.str z, .none]) (.ref a) := by
  unfold Dt
  refine ⟨a, _, rfl, SqT.of e, ?_⟩
  unfold DtAll
  refine ⟨_, _, rfl, (by unfold Dt; rfl), ?_⟩
  unfold DtAll
  refine ⟨_, _, rfl, (by unfold Dt; rfl), ?_⟩
  unfold DtAll
  rfl
theorem MetV.dt {K : PySem.W.Frag} {H : Hp} {v : V} {P Q R S : Pt} (h : MetV H v P Q R S) : ∃ X, Dt K H (dM (metO P Q R S) X) v ∧ (metO P Q R S = .cross → CrP P Q R S X) := by
  unfold MetV at h
  cases e : metO P Q R S with
  | no => rw [e] at h; exact ⟨P, (by subst h; unfold dM Dt; rfl), fun z => by cases z⟩
  | over => rw [e] at h; obtain ⟨a, rfl, ha⟩ := h; exact ⟨P, dtN ha, fun z => by cases z⟩
  | touch Y => rw [e] at h; obtain ⟨a, x, rfl, ha, hx⟩ := h; exact ⟨P, dtS ha hx, fun z => by cases z⟩
  | cross => rw [e] at h; obtain ⟨a, x, X, rfl, ha, hx, cX, _⟩ := h; exact ⟨X, dtS ha hx, fun _ => cX⟩
theorem DueV.dt {K : PySem.W.Frag} {H : Hp} {v : V} {P Q R S : Pt} (h : DueV H v P Q R S) (n : dueO P Q R S ≠ .cross) (X : Pt) : Dt K H (dM (dueO P Q R S) X) v := by
  unfold DueV at h
  cases e : dueO P Q R S with
  | no => rw [e] at h; subst h; unfold dM Dt; rfl
  | over => rw [e] at h; obtain ⟨a, rfl, ha⟩ := h; exact dtN ha
  | touch Y => rw [e] at h; obtain ⟨a, x, rfl, ha, hx⟩ := h; exact dtS ha hx
  | cross => exact absurd e n
def spRight : Sp := fun vs H Q' _ => ∃ (t u p q r s : Addr) (P Q R S : Pt) (v f : V), vs = [.ref t, .ref u, v, f] ∧ TieAt H t p q P Q ∧ TieAt H u r s R S ∧ Four P Q R S ∧ DueV H v P Q R S ∧ MetV H f P Q R S ∧ ∀ H' : Hp, Same H H' → Q' (.bl true) H'
theorem ok_law_right {f : Addr} {fd : FuncData} (F : Fun K "_law_right" "_law_right" s_law_right f fd) (h_law_is_fraction : Own.Has P w K mg base "_law_is_fraction" ["_law_one"] 2 (spIsFr)) (h_law_is_within : Own.Has P w K mg base "_law_is_within" ["_law_r", "_law_tie"] 3 (spWithin)) (z_isinstance : mg "isinstance" = none) (z_tuple : mg "tuple" = none) (z_len : mg "len" = none) : FnOk P w K mg base CX0 4 f fd ["_law_one", "_law_other", "_law_due_here", "_law_found"] (spRight) := by
  refine F.ok sc_law_right (fun vs H Q E h => ?_) (fun cdv A outer s H vs Q_ E hr h => ?_)
  · obtain ⟨t, u, p, q, r, s, P, Q, R, S, v, f, rfl, _⟩ := h
    rfl
  obtain ⟨t, u, p, q, r, s, P, Q, R, S, v, f', rfl, T, U, F4, hv, hf, k⟩ := h
  refine ⟨_, (pss_cons (ps_if (pt_cmpR (op_neD hr.units) (pv 2) pe_str (nomark _)) (pss_one (ps_ret (pe_cmpR (op_eqD hr.units) (pv 3) (pv 2) (nomark _)))) pss_nil)
      (pss_cons (ps_if (PW.pt (pw_or (pt_not (pt_val (pe_callB Own.call_isi rfl z_isinstance PyProof.Rows.boot_isinstance (pa_cons (pv 3) (pa_cons (pe_bltn (v := .ty "tuple") rfl z_tuple PyProof.Rows.boot_tuple rfl) pa_nil))))) (pw_or (pt_cmpR op_ne (pe_callB call_len_seq rfl z_len PySem.boot_len (pa_cons (pv 3) pa_nil)) pe_int (nomark _)) (pw_or (pt_cmpR op_ne (pe_ix ix_tup (pv 3) pe_int (fun _ _ => rfl)) pe_str (nomark _)) (pw_or1 (pt_not (pt_val (pe_callB Own.call_isi rfl z_isinstance PyProof.Rows.boot_isinstance (pa_cons (pe_ix ix_tup (pv 3) pe_int (fun _ _ => rfl)) (pa_cons (pe_bltn (v := .ty "tuple") rfl z_tuple PyProof.Rows.boot_tuple rfl) pa_nil)))))))))) (pss_one (ps_ret pe_bl)) pss_nil)
      (pss_cons (ps_if (PW.pt (pw_or (pt_cmpR op_ne (pe_callB call_len_seq rfl z_len PySem.boot_len (pa_cons (pe_ix ix_tup (pv 3) pe_int (fun _ _ => rfl)) pa_nil)) pe_int (nomark _)) (pw_or (pt_not (pt_val (Own.pe_has h_law_is_fraction (hr.mono (by decide)) rfl (pa_cons (pe_ix ix_tup (pe_ix ix_tup (pv 3) pe_int (fun _ _ => rfl)) pe_int (fun _ _ => rfl)) pa_nil)))) (pw_or1 (pt_not (pt_val (Own.pe_has h_law_is_fraction (hr.mono (by decide)) rfl (pa_cons (pe_ix ix_tup (pe_ix ix_tup (pv 3) pe_int (fun _ _ => rfl)) pe_int (fun _ _ => rfl)) pa_nil)))))))) (pss_one (ps_ret pe_bl)) pss_nil)
      (pss_one (ps_ret (pe_and (Own.pe_has h_law_is_within (hr.mono (by decide)) rfl (pa_cons (pe_ix ix_tup (pv 3) pe_int (fun _ _ => rfl)) (pa_cons (pv 0) pa_nil))) (pe_one (Own.pe_has h_law_is_within (hr.mono (by decide)) rfl (pa_cons (pe_ix ix_tup (pv 3) pe_int (fun _ _ => rfl)) (pa_cons (pv 1) pa_nil)))))))))), ?_⟩
  have md := met_due F4
  have dS : Dt K H (.str "cross") (.str "cross") := by unfold Dt; rfl
  by_cases c : dueO P Q R S = .cross
  · have hv' : v = .str "cross" := by unfold DueV at hv; rw [c] at hv; exact hv
    subst hv'
    unfold MetV at hf
    rw [md, c] at hf
    obtain ⟨a, x, X, rfl, ha, hx, cX, zX⟩ := hf
    obtain ⟨w1, w2⟩ := (F4.crossing (md.trans c)).2 X cX
    obtain ⟨ox, oy, hx0, hx1, hx2⟩ := id hx
    refine ⟨_, rfl, .str "cross", .str "cross", dS, dS, so4, so4, _, rfl, ?_⟩
    rw [if_pos (show (true = true) from rfl), show PyData.eqv (.str "cross") (.str "cross") = true by simp [PyData.eqv]]
    refine iteF ?_
    refine ⟨_, rfl, _, _, _, _, rfl, .tup ha, rfl, _, rfl, iteF ?_⟩
    refine ⟨_, rfl, a, _, rfl, .inr (SqT.of ha), rfl, _, rfl, iteF ?_⟩
    refine ⟨_, rfl, a, _, _, _, rfl, rfl, SqT.of ha, at0, rfl, _, rfl, iteF ?_⟩
    refine ⟨_, rfl, a, _, _, _, rfl, rfl, SqT.of ha, at1, _, _, _, _, rfl, .tup hx0, rfl, _, rfl, iteF ?_⟩
    refine ⟨_, rfl, a, _, _, _, rfl, rfl, SqT.of ha, at1, x, _, rfl, .inr (SqT.of hx0), rfl, _, rfl, iteF ?_⟩
    refine ⟨_, rfl, a, _, _, _, rfl, rfl, SqT.of ha, at1, x, _, _, _, rfl, rfl, SqT.of hx0, at0, ox, _, _, rfl, hx1, cX.x.pos, cX.x.co, zX.2.2.2.1, fun H1 g1 => ⟨_, rfl, iteF ?_⟩⟩
    refine ⟨_, rfl, a, _, _, _, rfl, rfl, SqT.of (g1 _ _ ha), at1, x, _, _, _, rfl, rfl, SqT.of (g1 _ _ hx0), at1, oy, _, _, rfl, g1 _ _ hx2, cX.y.pos, cX.y.co, zX.2.2.2.2.2, fun H2 g2 => ⟨_, rfl, iteF ?_⟩⟩
    have gA := g1.trans g2
    refine ⟨_, rfl, a, _, _, _, rfl, rfl, SqT.of (gA _ _ ha), at1, _, rfl, x, t, p, q, X, P, Q, rfl, hx.kept gA, zX, T.kept gA, fun H3 g3 => ⟨_, rfl, ?_⟩⟩
    rw [w1]
    have gB := gA.trans g3
    refine iteT ⟨_, rfl, a, _, _, _, rfl, rfl, SqT.of (gB _ _ ha), at1, _, rfl, x, u, r, s, X, R, S, rfl, hx.kept gB, zX, U.kept gB, fun H4 g4 => ?_⟩
    rw [w2]
    exact k _ (gB.trans g4)
  · obtain ⟨X, dX, _⟩ := hf.dt (K := K)
    rw [md] at dX
    have dv := hv.dt (K := K) c X
    refine ⟨_, rfl, _, _, dv, dS, dM_ok _ _, so4, _, rfl, ?_⟩
    rw [if_pos (show (true = true) from rfl), dM_str]
    refine iteT ⟨_, rfl, _, rfl, _, _, dX, dv, dM_ok _ _, dM_ok _ _, ?_⟩
    rw [if_neg (show ¬ (false = true) by decide), dM_eqv]
    exact k _ (Same.refl H)
--SPLIT
def p4 (P : Pt) : SetP.P4 := (P.n, P.d, P.m, P.e)
theorem PtAt.ptv {H : Hp} {p : Addr} {P : Pt} (h : PtAt H p P) : PtV H p (p4 P) := h
theorem four {α : Type} {xs : List α} (h : xs.length = 4) : ∃ a b c d, xs = [a, b, c, d] := by
  match xs, h with
  | [a, b, c, d], _ => exact ⟨a, b, c, d, rfl⟩
theorem again_eq {P Q R S P' Q' R' S' : Pt} (F : Four P Q R S) (h : metO P' Q' R' S' = metO P Q R S) (e : xyz P' Q' R' S' = xyz P Q R S ∨ xyz P' Q' R' S' = (-(xyz P Q R S).1, -(xyz P Q R S).2.1, -(xyz P Q R S).2.2)) {H : Hp} {v f : V}
    (hv : MetV H v P' Q' R' S') (hf : MetV H f P Q R S) {K : PySem.W.Frag} : ∃ X, Dt K H (dM (metO P Q R S) X) v ∧ Dt K H (dM (metO P Q R S) X) f := by
  obtain ⟨X, d1, c1⟩ := hf.dt (K := K)
  obtain ⟨Y, d2, c2⟩ := hv.dt (K := K)
  rw [h] at d2 c2
  by_cases c : metO P Q R S = .cross
  · have : X = Y := (c1 c).same (F.crossing c).1 e (c2 c)
    subst this
    exact ⟨X, d2, d1⟩
  · refine ⟨X, ?_, d1⟩
    have : dM (metO P Q R S) Y = dM (metO P Q R S) X := by
      cases e : metO P Q R S <;> first | rfl | exact absurd e c
    rw [this] at d2
    exact d2
theorem MetV.kept {H H' : Hp} {v : V} {P Q R S : Pt} (h : MetV H v P Q R S) (g : Same H H') : MetV H' v P Q R S := by
  unfold MetV at h ⊢
  cases e : metO P Q R S with
  | no => rw [e] at h; exact h
  | over => rw [e] at h; obtain ⟨a, e1, ha⟩ := h; exact ⟨a, e1, g _ _ ha⟩
  | touch Y => rw [e] at h; obtain ⟨a, x, e1, ha, hx⟩ := h; exact ⟨a, x, e1, g _ _ ha, hx.kept g⟩
  | cross => rw [e] at h; obtain ⟨a, x, X, e1, ha, hx, r⟩ := h; exact ⟨a, x, X, e1, g _ _ ha, hx.kept g, r⟩
theorem DueV.kept {H H' : Hp} {v : V} {P Q R S : Pt} (h : DueV H v P Q R S) (g : Same H H') : DueV H' v P Q R S := by
  unfold DueV at h ⊢
  cases e : dueO P Q R S with
  | no => rw [e] at h; exact h
  | over => rw [e] at h; obtain ⟨a, e1, ha⟩ := h; exact ⟨a, e1, g _ _ ha⟩
  | touch Y => rw [e] at h; obtain ⟨a, x, e1, ha, hx⟩ := h; exact ⟨a, x, e1, g _ _ ha, hx.kept g⟩
  | cross => rw [e] at h; exact h
theorem ix3 {α : Type} {x y z u : α} {i : Nat} (h : [x, y, z][i]? = some u) : u = x ∨ u = y ∨ u = z := by
  match i, h with
  | 0, h => exact .inl (by simpa using h.symm)
  | 1, h => exact .inr (.inl (by simpa using h.symm))
  | 2, h => exact .inr (.inr (by simpa using h.symm))
  | n + 3, h => simp at h
theorem ok_law {f : Addr} {fd : FuncData} (F : Fun K "law" "law" s_law f fd) (h_law_points : Own.Has P w K mg base "_law_points" ["_law_pot_here", "_law_many"] 5 (spPoints)) (h_law_pot : Own.Has P w K mg base "_law_pot" ["_law_script", "_law_k"] 1 (spPot K)) (h_law_due : Own.Has P w K mg base "_law_due" ["_law_one", "_law_other"] 4 (spDue)) (h_met : Own.Has P w K mg base "met" ["one", "other"] 6 (spMet)) (h_law_right : Own.Has P w K mg base "_law_right" ["_law_one", "_law_other", "_law_due_here", "_law_found"] 4 (spRight)) (z_range : mg "range" = none) (z_max : mg "max" = none) (z_min : mg "min" = none) (z_len : mg "len" = none) (z_set : mg "set" = none) : FnOk P w K mg base CX0 7 f fd ["_law_script"] (spLaw K) := by
  refine F.ok sc_law (fun vs H Q E h => ?_) (fun cdv A outer s H vs Q E hr h => ?_)
  · obtain ⟨a, ns, rfl, _⟩ := h
    rfl
  obtain ⟨a, ns, rfl, hS, h63, q⟩ := h
  refine ⟨_, (pss_cons (ps_for PassesOwn.never rfl (pi_range1 rfl z_range (pa_cons (pe_callB (call_max2 rfl) rfl z_max PyProof.Rows.boot_max (pa_cons pe_int (pa_cons (pe_callB (call_min2 rfl) rfl z_min PyProof.Rows.boot_min (pa_cons (pe_callB call_len_seq rfl z_len PySem.boot_len (pa_cons (pv 0) pa_nil)) (pa_cons pe_int pa_nil))) pa_nil))) pa_nil)) (pg_name (i := 1) sc_law.nd rfl (Or.inl rfl)) (pss_cons (ps_set (i := 2) sc_law.nd rfl (Or.inl rfl) (Own.pe_has h_law_points (hr.mono (by decide)) rfl (pa_cons (Own.pe_has h_law_pot (hr.mono (by decide)) rfl (pa_cons (pv 0) (pa_cons (pv 1) pa_nil))) (pa_cons pe_int pa_nil))))
      (pss_one (ps_if (pt_cmpR op_eq (pe_callB call_lenS rfl z_len PySem.boot_len (pa_cons (pe_callTy (call_setP rfl (Room.units80 hr)) rfl z_set PyProof.Rows.boot_set (pa_cons (pv 2) pa_nil)) pa_nil)) pe_int (nomark _)) (pss_cons (ps_par (i := 3) (j := 4) rfl sc_law.nd rfl rfl (by decide) rfl rfl (pa_cons (pe_slice sl_tup (pv 2) po_none (po_some pe_int)) (pa_cons (pe_slice sl_tup (pv 2) (po_some pe_int) po_none) pa_nil)) rfl)
      (pss_cons (ps_set (i := 5) sc_law.nd rfl (Or.inl rfl) (Own.pe_has h_law_due (hr.mono (by decide)) rfl (pa_cons (pv 3) (pa_cons (pv 4) pa_nil))))
      (pss_cons (ps_set (i := 6) sc_law.nd rfl (Or.inl rfl) (Own.pe_has h_met (hr.mono (by decide)) rfl (pa_cons (pv 3) (pa_cons (pv 4) pa_nil))))
      (pss_cons (ps_if (pt_not (pt_val (Own.pe_has h_law_right (hr.mono (by decide)) rfl (pa_cons (pv 3) (pa_cons (pv 4) (pa_cons (pv 5) (pa_cons (pv 6) pa_nil))))))) (pss_one (ps_ret pe_bl)) pss_nil)
      (pss_one (ps_for PassesOwn.never rfl (pi_list (pe_lst (pa_cons (Own.pe_has h_met (hr.mono (by decide)) rfl (pa_cons (pv 4) (pa_cons (pv 3) pa_nil))) (pa_cons (Own.pe_has h_met (hr.mono (by decide)) rfl (pa_cons (pe_rev (pv 3) (po_some (pe_un un_neg pe_int))) (pa_cons (pv 4) pa_nil))) (pa_cons (Own.pe_has h_met (hr.mono (by decide)) rfl (pa_cons (pe_rev (pv 4) (po_some (pe_un un_neg pe_int))) (pa_cons (pe_rev (pv 3) (po_some (pe_un un_neg pe_int))) pa_nil))) pa_nil))))) (pg_name (i := 7) sc_law.nd rfl (Or.inl rfl)) (pss_one (ps_if (pt_cmpR (op_neD hr.units) (pv 7) (pv 6) (nomark _)) (pss_one (ps_ret pe_bl)) pss_nil)))))))) pss_nil))))
      (pss_one (ps_ret pe_bl))), ?_⟩
  have hl : (ns.map V.int).length = ns.length := List.length_map _
  refine ⟨_, rfl, a, _, rfl, .inl hS, _, 6, rfl, 1, _, rfl, ?_⟩
  rw [hl]
  generalize hj : (if (if (6 : Int) < (ns.length : Int) then 6 else (ns.length : Int)) > 1 then (if (6 : Int) < (ns.length : Int) then 6 else (ns.length : Int)) else 1) = j
  have j0 : 0 ≤ j := by rw [← hj]; split <;> omega
  have j1 : j ≤ 63 := by
    rw [← hj]
    split
    · split <;> omega
    · omega
  refine ⟨j, rfl, by omega, by omega, for_range (lo := 0) (n := j.toNat) (fun i σ H2 => ∃ (x1 x2 x3 x4 x5 x6 x7 : Option V), σ = [some (.ref a), x1, x2, x3, x4, x5, x6, x7] ∧ Same H H2)
    ⟨none, none, none, none, none, none, none, rfl, Same.refl H⟩ ?_ ?_⟩
  · rintro i σ H2 hi ⟨x1, x2, x3, x4, x5, x6, x7, rfl, g⟩
    refine ⟨_, rfl, _, rfl, a, ns, _, rfl, g.seq hS, h63, (by omega), (by omega), fun p x y H3 hx g3 hn hp => ?_⟩
    have hnp : H p = none := g.free hn
    have gA : Same H H3 := g.trans g3
    refine ⟨p, rfl, ⟨x, y, hp, hx⟩, fun t ps H4 b4 p4' ht hlen hps => ?_⟩
    have g4 := keep gA hnp b4
    obtain ⟨a1, a2, a3, a4, rfl⟩ := four hlen
    obtain ⟨P1, k1, z1, w1⟩ := hps a1 (by simp)
    obtain ⟨P2, k2, z2, w2⟩ := hps a2 (by simp)
    obtain ⟨P3, k3, z3, w3⟩ := hps a3 (by simp)
    obtain ⟨P4, k4, z4, w4⟩ := hps a4 (by simp)
    refine ⟨_, rfl, t, [a1, a2, a3, a4], [p4 P1, p4 P2, p4 P3, p4 P4], rfl, ht, (by show 4 ≤ 4; decide), rfl, (fun j b B e1 e2 => ?_), fun S n nS nd => ?_⟩
    · match j, e1, e2 with
      | 0, e1, e2 => cases e1; cases e2; exact k1.ptv
      | 1, e1, e2 => cases e1; cases e2; exact k2.ptv
      | 2, e1, e2 => cases e1; cases e2; exact k3.ptv
      | 3, e1, e2 => cases e1; cases e2; exact k4.ptv
    have gS := same_new nS (.ext (SetN S n))
    refine ⟨S, n, rfl, upd_same, rfl, _, rfl, ?_⟩
    have ht : upd H4 S (.ext (SetN S n)) t = some (.tup [V.ref a1, V.ref a2, V.ref a3, V.ref a4]) := gS _ _ ht
    have k1 := k1.kept gS
    have k2 := k2.kept gS
    have k3 := k3.kept gS
    have k4 := k4.kept gS
    have g5 := g4.trans gS
    generalize upd H4 S (.ext (SetN S n)) = H5 at *
    refine ite2 (fun c => ?_) (fun c => ⟨_, _, _, _, _, _, _, rfl, g5⟩)
    have c' : n = 4 := by
      have e : V.int (n : Int) = V.int 4 := of_decide_eq_true c
      have := V.int.inj e
      omega
    have nd := nd c'
    have F4 : Four P1 P2 P3 P4 := by
      have ne : ∀ {A B : Pt}, p4 A ≠ p4 B → A ≠ B := fun h e => h (by rw [e])
      simp only [List.nodup_cons, List.mem_cons, List.not_mem_nil, or_false, not_or, not_false_eq_true, List.nodup_nil, and_true] at nd
      exact ⟨w1, w2, w3, w4, ne nd.1.1, ne nd.1.2.1, ne nd.1.2.2, ne nd.2.1.1, ne nd.2.1.2, ne nd.2.2⟩
    refine ⟨_, rfl, 2, rfl, t, _, rfl, SqT.of ht, (fun z => absurd (show (2 : Nat) = 4 from z.2) (by decide)), fun o1 n1 => ?_⟩
    have gO := same_new n1 (.tup (cutV [V.ref a1, V.ref a2, V.ref a3, V.ref a4] none (some 2)))
    refine ⟨_, rfl, 2, rfl, t, _, rfl, SqT.of (gO _ _ ht), (fun z => absurd (show (2 : Nat) = 0 from z.1) (by decide)), fun o2 n2 => ?_⟩
    have gO2 := same_new n2 (.tup (cutV [V.ref a1, V.ref a2, V.ref a3, V.ref a4] (some 2) none))
    have h1 := gO2 _ _ (upd_same (H := H5) (a := o1) (o := .tup (cutV [V.ref a1, V.ref a2, V.ref a3, V.ref a4] none (some 2))))
    have h2 := upd_same (H := upd H5 o1 (.tup (cutV [V.ref a1, V.ref a2, V.ref a3, V.ref a4] none (some 2)))) (a := o2) (o := .tup (cutV [V.ref a1, V.ref a2, V.ref a3, V.ref a4] (some 2) none))
    have g6 := g5.trans (gO.trans gO2)
    have gk := gO.trans gO2
    generalize upd (upd H5 o1 (.tup (cutV [V.ref a1, V.ref a2, V.ref a3, V.ref a4] none (some 2)))) o2 (.tup (cutV [V.ref a1, V.ref a2, V.ref a3, V.ref a4] (some 2) none)) = H6 at *
    have T : TieAt H6 o1 a1 a2 P1 P2 := ⟨h1, k1.kept gk, k2.kept gk, z1, z2, w1, w2⟩
    have U : TieAt H6 o2 a3 a4 P3 P4 := ⟨h2, k3.kept gk, k4.kept gk, z3, z4, w3, w4⟩
    refine ⟨_, _, rfl, _, rfl, _, rfl, o1, o2, a1, a2, a3, a4, P1, P2, P3, P4, rfl, T, U, fun v H7 g7 hv => ?_⟩
    have T7 := T.kept g7
    have U7 := U.kept g7
    refine ⟨_, rfl, _, rfl, o1, o2, a1, a2, a3, a4, P1, P2, P3, P4, rfl, T7, U7, F4, fun f' H8 g8 hf => ?_⟩
    have T8 := T7.kept g8
    have U8 := U7.kept g8
    refine ⟨_, rfl, _, rfl, _, rfl, _, rfl, o1, o2, a1, a2, a3, a4, P1, P2, P3, P4, v, f', rfl, T8, U8, F4, hv.kept g8, hf, fun H9 g9 => ⟨_, rfl, iteF ?_⟩⟩
    have T9 := T8.kept g9
    have U9 := U8.kept g9
    have hf9 := hf.kept g9
    -- again
    refine ⟨_, rfl, _, rfl, o2, o1, a3, a4, a1, a2, P3, P4, P1, P2, rfl, U9, T9, F4.swap, fun v1 H10 g10 hv1 => ?_⟩
    have T10 := T9.kept g10
    have U10 := U9.kept g10
    refine ⟨_, rfl, _, rfl, _, rfl, o1, _, _, rfl, rfl, T10.at_, fun o3 n3 => ?_⟩
    have gr := same_new n3 (.tup [.ref a2, .ref a1])
    have T11 : TieAt (upd H10 o3 (.tup [.ref a2, .ref a1])) o3 a2 a1 P2 P1 := ⟨upd_same, T10.q.kept gr, T10.p.kept gr, z2, z1, w2, w1⟩
    refine ⟨_, rfl, o3, o2, a2, a1, a3, a4, P2, P1, P3, P4, rfl, T11, U10.kept gr, F4.rev, fun v2 H12 g12 hv2 => ?_⟩
    have gB := gr.trans g12
    have T12 := T10.kept gB
    have U12 := U10.kept gB
    refine ⟨_, rfl, _, rfl, _, rfl, o2, _, _, rfl, rfl, U12.at_, fun o4 n4 => ?_⟩
    have gr2 := same_new n4 (.tup [.ref a4, .ref a3])
    have U13 : TieAt (upd H12 o4 (.tup [.ref a4, .ref a3])) o4 a4 a3 P4 P3 := ⟨upd_same, U12.q.kept gr2, U12.p.kept gr2, z4, z3, w4, w3⟩
    have T13 := T12.kept gr2
    refine ⟨_, rfl, _, rfl, _, rfl, o1, _, _, rfl, rfl, T13.at_, fun o5 n5 => ?_⟩
    have gr3 := same_new n5 (.tup [.ref a2, .ref a1])
    have T14 : TieAt (upd (upd H12 o4 (.tup [.ref a4, .ref a3])) o5 (.tup [.ref a2, .ref a1])) o5 a2 a1 P2 P1 := ⟨upd_same, T13.q.kept gr3, T13.p.kept gr3, z2, z1, w2, w1⟩
    have F5 : Four P4 P3 P2 P1 := (F4.rev.swap).rev
    refine ⟨o4, o5, a4, a3, a2, a1, P4, P3, P2, P1, rfl, U13.kept gr3, T14, F5, fun v3 H15 g15 hv3 => ⟨(by show 3 ≤ sizeLine; decide), fun l nl => ?_⟩⟩
    have gC := gr2.trans (gr3.trans g15)
    have gl := same_new nl (.lst [v1, v2, v3])
    have gE := gC.trans gl
    have gF := gB.trans gE
    have hv1 := (hv1.kept gF)
    have hv2 := (hv2.kept gE)
    have hv3 := (hv3.kept gl)
    have hf := (hf9.kept (g10.trans gF))
    have gAll := g6.trans (g7.trans (g8.trans (g9.trans (g10.trans gF))))
    have hl := upd_same (H := H15) (a := l) (o := .lst [v1, v2, v3])
    generalize upd H15 l (.lst [v1, v2, v3]) = H16 at *
    refine ⟨l, rfl, ⟨_, SqL.of hl⟩, ?_⟩
    refine for_list (xs := [v1, v2, v3]) (fun n σ H17 => ∃ (x7 : Option V), σ = [some (.ref a), some (.int (0 + (i : Int))), some (.ref t), some (.ref o1), some (.ref o2), some v, some f', x7] ∧ Same H16 H17) ⟨_, rfl, Same.refl _⟩ ?_ ?_ ?_
    · rintro n σ H17 _ ⟨x7, rfl, g17⟩
      exact SqL.of (g17 _ _ hl)
    · rintro n z σ H17 hz ⟨x7, rfl, g17⟩
      have key : ∃ X, Dt K H17 (dM (metO P1 P2 P3 P4) X) z ∧ Dt K H17 (dM (metO P1 P2 P3 P4) X) f' := by
        rcases ix3 hz with rfl | rfl | rfl
        · exact again_eq F4 (met_swap F4) (.inr xyz_swap) (hv1.kept g17) (hf.kept g17)
        · exact again_eq F4 (met_rev F4) (.inr xyz_rev) (hv2.kept g17) (hf.kept g17)
        · refine again_eq F4 ?_ ?_ (hv3.kept g17) (hf.kept g17)
          · rw [met_rev (P := P3) (Q := P4) (R := P2) (S := P1) F4.rev.swap, met_swap F4.rev, met_rev F4]
          · right
            rw [xyz_rev (P := P3) (Q := P4), xyz_swap (P := P2) (Q := P1), xyz_rev (P := P1) (Q := P2)]
            simp
      obtain ⟨X, d1, d2⟩ := key
      refine ⟨_, rfl, _, rfl, _, _, d1, d2, dM_ok _ _, dM_ok _ _, _, rfl, ?_⟩
      rw [if_pos (show (true = true) from rfl), dM_eqv]
      exact iteF ⟨_, rfl, g17⟩
    · rintro σ H17 ⟨x7, rfl, g17⟩
      exact ⟨_, _, _, _, _, _, _, rfl, gAll.trans g17⟩
  · rintro σ H2 ⟨x1, x2, x3, x4, x5, x6, x7, rfl, g⟩
    exact q H2
end
theorem len_1 {α : Type} {n : Nat} {us : List α} (hn : n = 1) (h : us.length = n) : ∃ x0 : α, us = [x0] := by
  subst hn
  match us, h with
  | [x0], _ => exact ⟨_, rfl⟩
theorem len_2 {α : Type} {n : Nat} {us : List α} (hn : n = 2) (h : us.length = n) : ∃ x0 x1 : α, us = [x0, x1] := by
  subst hn
  match us, h with
  | [x0, x1], _ => exact ⟨_, _, rfl⟩
theorem len_3 {α : Type} {n : Nat} {us : List α} (hn : n = 3) (h : us.length = n) : ∃ x0 x1 x2 : α, us = [x0, x1, x2] := by
  subst hn
  match us, h with
  | [x0, x1, x2], _ => exact ⟨_, _, _, rfl⟩
theorem len_4 {α : Type} {n : Nat} {us : List α} (hn : n = 4) (h : us.length = n) : ∃ x0 x1 x2 x3 : α, us = [x0, x1, x2, x3] := by
  subst hn
  match us, h with
  | [x0, x1, x2, x3], _ => exact ⟨_, _, _, _, rfl⟩
theorem all_mk {l : PySem.W.OpenLaw} {w : World} {K : PySem.W.Frag} {h : Heap} {mg : Str → Option Value} {fa f1 f2 f3 f4 f5 f6 f7 f8 f9 f10 f11 f12 f13 f14 f15 f16 f17 f18 f19 f20 f21 f22 f23 f24 f25 f26 f27 f28 f29 f30 f31 f32 f33 f34 f35 f36 f37 : Addr} (X : K.In h) (G : h.Ns mainGlobals mg) (hfa : mg "law" = some (.ref fa))
    {od1 an1 od2 an2 od3 an3 od4 an4 od5 an5 od6 an6 od7 an7 od8 an8 od9 an9 od10 an10 od11 an11 od12 an12 od13 an13 od14 an14 od15 an15 od16 an16 od17 an17 od18 an18 od19 an19 od20 an20 od21 an21 od22 an22 od23 an23 od24 an24 od25 an25 od26 an26 od27 an27 od28 an28 od29 an29 od30 an30 od31 an31 od32 an32 od33 an33 od34 an34 od35 an35 od36 an36 od37 an37 : Option Addr} {sl1 sl2 sl3 sl4 sl5 sl6 sl7 sl8 sl9 sl10 sl11 sl12 sl13 sl14 sl15 sl16 sl17 sl18 sl19 sl20 sl21 sl22 sl23 sl24 sl25 sl26 sl27 sl28 sl29 sl30 sl31 sl32 sl33 sl34 sl35 sl36 sl37 : Array (Option Value)} {oc1 kV1 dc1 pm1 cd1 ct1 oc2 kV2 dc2 pm2 cd2 ct2 oc3 kV3 dc3 pm3 cd3 ct3 oc4 kV4 dc4 pm4 cd4 ct4 oc5 kV5 dc5 pm5 cd5 ct5 oc6 kV6 dc6 pm6 cd6 ct6 oc7 kV7 dc7 pm7 cd7 ct7 oc8 kV8 dc8 pm8 cd8 ct8 oc9 kV9 dc9 pm9 cd9 ct9 oc10 kV10 dc10 pm10 cd10 ct10 oc11 kV11 dc11 pm11 cd11 ct11 oc12 kV12 dc12 pm12 cd12 ct12 oc13 kV13 dc13 pm13 cd13 ct13 oc14 kV14 dc14 pm14 cd14 ct14 oc15 kV15 dc15 pm15 cd15 ct15 oc16 kV16 dc16 pm16 cd16 ct16 oc17 kV17 dc17 pm17 cd17 ct17 oc18 kV18 dc18 pm18 cd18 ct18 oc19 kV19 dc19 pm19 cd19 ct19 oc20 kV20 dc20 pm20 cd20 ct20 oc21 kV21 dc21 pm21 cd21 ct21 oc22 kV22 dc22 pm22 cd22 ct22 oc23 kV23 dc23 pm23 cd23 ct23 oc24 kV24 dc24 pm24 cd24 ct24 oc25 kV25 dc25 pm25 cd25 ct25 oc26 kV26 dc26 pm26 cd26 ct26 oc27 kV27 dc27 pm27 cd27 ct27 oc28 kV28 dc28 pm28 cd28 ct28 oc29 kV29 dc29 pm29 cd29 ct29 oc30 kV30 dc30 pm30 cd30 ct30 oc31 kV31 dc31 pm31 cd31 ct31 oc32 kV32 dc32 pm32 cd32 ct32 oc33 kV33 dc33 pm33 cd33 ct33 oc34 kV34 dc34 pm34 cd34 ct34 oc35 kV35 dc35 pm35 cd35 ct35 oc36 kV36 dc36 pm36 cd36 ct36 oc37 kV37 dc37 pm37 cd37 ct37 : Value}
    (a1 : PySem.W.nsIn K mainGlobals "greatest_divisor" = some (some (.ref f1))) (l1 : K.lookup f1 = some ⟨oc1, od1, .func (PySem.W.fnOf "greatest_divisor" "greatest_divisor" (defArgs s_greatest_divisor) (defBody s_greatest_divisor) (defScope s_greatest_divisor) .none kV1 dc1 pm1 an1 cd1 ct1), sl1⟩) (c1 : PySem.W.codeIn K cd1 "greatest_divisor" = true) (k1 : PySem.W.keepIn K (.ref f1) = true)
    (a2 : PySem.W.nsIn K mainGlobals "fraction" = some (some (.ref f2))) (l2 : K.lookup f2 = some ⟨oc2, od2, .func (PySem.W.fnOf "fraction" "fraction" (defArgs s_fraction) (defBody s_fraction) (defScope s_fraction) .none kV2 dc2 pm2 an2 cd2 ct2), sl2⟩) (c2 : PySem.W.codeIn K cd2 "fraction" = true) (k2 : PySem.W.keepIn K (.ref f2) = true)
    (a3 : PySem.W.nsIn K mainGlobals "plus" = some (some (.ref f3))) (l3 : K.lookup f3 = some ⟨oc3, od3, .func (PySem.W.fnOf "plus" "plus" (defArgs s_plus) (defBody s_plus) (defScope s_plus) .none kV3 dc3 pm3 an3 cd3 ct3), sl3⟩) (c3 : PySem.W.codeIn K cd3 "plus" = true) (k3 : PySem.W.keepIn K (.ref f3) = true)
    (a4 : PySem.W.nsIn K mainGlobals "less" = some (some (.ref f4))) (l4 : K.lookup f4 = some ⟨oc4, od4, .func (PySem.W.fnOf "less" "less" (defArgs s_less) (defBody s_less) (defScope s_less) .none kV4 dc4 pm4 an4 cd4 ct4), sl4⟩) (c4 : PySem.W.codeIn K cd4 "less" = true) (k4 : PySem.W.keepIn K (.ref f4) = true)
    (a5 : PySem.W.nsIn K mainGlobals "times" = some (some (.ref f5))) (l5 : K.lookup f5 = some ⟨oc5, od5, .func (PySem.W.fnOf "times" "times" (defArgs s_times) (defBody s_times) (defScope s_times) .none kV5 dc5 pm5 an5 cd5 ct5), sl5⟩) (c5 : PySem.W.codeIn K cd5 "times" = true) (k5 : PySem.W.keepIn K (.ref f5) = true)
    (a6 : PySem.W.nsIn K mainGlobals "sign" = some (some (.ref f6))) (l6 : K.lookup f6 = some ⟨oc6, od6, .func (PySem.W.fnOf "sign" "sign" (defArgs s_sign) (defBody s_sign) (defScope s_sign) .none kV6 dc6 pm6 an6 cd6 ct6), sl6⟩) (c6 : PySem.W.codeIn K cd6 "sign" = true) (k6 : PySem.W.keepIn K (.ref f6) = true)
    (a7 : PySem.W.nsIn K mainGlobals "spread" = some (some (.ref f7))) (l7 : K.lookup f7 = some ⟨oc7, od7, .func (PySem.W.fnOf "spread" "spread" (defArgs s_spread) (defBody s_spread) (defScope s_spread) .none kV7 dc7 pm7 an7 cd7 ct7), sl7⟩) (c7 : PySem.W.codeIn K cd7 "spread" = true) (k7 : PySem.W.keepIn K (.ref f7) = true)
    (a8 : PySem.W.nsIn K mainGlobals "across" = some (some (.ref f8))) (l8 : K.lookup f8 = some ⟨oc8, od8, .func (PySem.W.fnOf "across" "across" (defArgs s_across) (defBody s_across) (defScope s_across) .none kV8 dc8 pm8 an8 cd8 ct8), sl8⟩) (c8 : PySem.W.codeIn K cd8 "across" = true) (k8 : PySem.W.keepIn K (.ref f8) = true)
    (a9 : PySem.W.nsIn K mainGlobals "hand" = some (some (.ref f9))) (l9 : K.lookup f9 = some ⟨oc9, od9, .func (PySem.W.fnOf "hand" "hand" (defArgs s_hand) (defBody s_hand) (defScope s_hand) .none kV9 dc9 pm9 an9 cd9 ct9), sl9⟩) (c9 : PySem.W.codeIn K cd9 "hand" = true) (k9 : PySem.W.keepIn K (.ref f9) = true)
    (a10 : PySem.W.nsIn K mainGlobals "hands" = some (some (.ref f10))) (l10 : K.lookup f10 = some ⟨oc10, od10, .func (PySem.W.fnOf "hands" "hands" (defArgs s_hands) (defBody s_hands) (defScope s_hands) .none kV10 dc10 pm10 an10 cd10 ct10), sl10⟩) (c10 : PySem.W.codeIn K cd10 "hands" = true) (k10 : PySem.W.keepIn K (.ref f10) = true)
    (a11 : PySem.W.nsIn K mainGlobals "lies_between" = some (some (.ref f11))) (l11 : K.lookup f11 = some ⟨oc11, od11, .func (PySem.W.fnOf "lies_between" "lies_between" (defArgs s_lies_between) (defBody s_lies_between) (defScope s_lies_between) .none kV11 dc11 pm11 an11 cd11 ct11), sl11⟩) (c11 : PySem.W.codeIn K cd11 "lies_between" = true) (k11 : PySem.W.keepIn K (.ref f11) = true)
    (a12 : PySem.W.nsIn K mainGlobals "overlap" = some (some (.ref f12))) (l12 : K.lookup f12 = some ⟨oc12, od12, .func (PySem.W.fnOf "overlap" "overlap" (defArgs s_overlap) (defBody s_overlap) (defScope s_overlap) .none kV12 dc12 pm12 an12 cd12 ct12), sl12⟩) (c12 : PySem.W.codeIn K cd12 "overlap" = true) (k12 : PySem.W.keepIn K (.ref f12) = true)
    (a13 : PySem.W.nsIn K mainGlobals "crossing" = some (some (.ref f13))) (l13 : K.lookup f13 = some ⟨oc13, od13, .func (PySem.W.fnOf "crossing" "crossing" (defArgs s_crossing) (defBody s_crossing) (defScope s_crossing) .none kV13 dc13 pm13 an13 cd13 ct13), sl13⟩) (c13 : PySem.W.codeIn K cd13 "crossing" = true) (k13 : PySem.W.keepIn K (.ref f13) = true)
    (a14 : PySem.W.nsIn K mainGlobals "met" = some (some (.ref f14))) (l14 : K.lookup f14 = some ⟨oc14, od14, .func (PySem.W.fnOf "met" "met" (defArgs s_met) (defBody s_met) (defScope s_met) .none kV14 dc14 pm14 an14 cd14 ct14), sl14⟩) (c14 : PySem.W.codeIn K cd14 "met" = true) (k14 : PySem.W.keepIn K (.ref f14) = true)
    (a15 : PySem.W.nsIn K mainGlobals "_law_pot" = some (some (.ref f15))) (l15 : K.lookup f15 = some ⟨oc15, od15, .func (PySem.W.fnOf "_law_pot" "_law_pot" (defArgs s_law_pot) (defBody s_law_pot) (defScope s_law_pot) .none kV15 dc15 pm15 an15 cd15 ct15), sl15⟩) (c15 : PySem.W.codeIn K cd15 "_law_pot" = true) (k15 : PySem.W.keepIn K (.ref f15) = true)
    (a16 : PySem.W.nsIn K mainGlobals "_law_digit" = some (some (.ref f16))) (l16 : K.lookup f16 = some ⟨oc16, od16, .func (PySem.W.fnOf "_law_digit" "_law_digit" (defArgs s_law_digit) (defBody s_law_digit) (defScope s_law_digit) .none kV16 dc16 pm16 an16 cd16 ct16), sl16⟩) (c16 : PySem.W.codeIn K cd16 "_law_digit" = true) (k16 : PySem.W.keepIn K (.ref f16) = true)
    (a17 : PySem.W.nsIn K mainGlobals "_law_low" = some (some (.ref f17))) (l17 : K.lookup f17 = some ⟨oc17, od17, .func (PySem.W.fnOf "_law_low" "_law_low" (defArgs s_law_low) (defBody s_law_low) (defScope s_law_low) .none kV17 dc17 pm17 an17 cd17 ct17), sl17⟩) (c17 : PySem.W.codeIn K cd17 "_law_low" = true) (k17 : PySem.W.keepIn K (.ref f17) = true)
    (a18 : PySem.W.nsIn K mainGlobals "_law_plus" = some (some (.ref f18))) (l18 : K.lookup f18 = some ⟨oc18, od18, .func (PySem.W.fnOf "_law_plus" "_law_plus" (defArgs s_law_plus) (defBody s_law_plus) (defScope s_law_plus) .none kV18 dc18 pm18 an18 cd18 ct18), sl18⟩) (c18 : PySem.W.codeIn K cd18 "_law_plus" = true) (k18 : PySem.W.keepIn K (.ref f18) = true)
    (a19 : PySem.W.nsIn K mainGlobals "_law_less" = some (some (.ref f19))) (l19 : K.lookup f19 = some ⟨oc19, od19, .func (PySem.W.fnOf "_law_less" "_law_less" (defArgs s_law_less) (defBody s_law_less) (defScope s_law_less) .none kV19 dc19 pm19 an19 cd19 ct19), sl19⟩) (c19 : PySem.W.codeIn K cd19 "_law_less" = true) (k19 : PySem.W.keepIn K (.ref f19) = true)
    (a20 : PySem.W.nsIn K mainGlobals "_law_times" = some (some (.ref f20))) (l20 : K.lookup f20 = some ⟨oc20, od20, .func (PySem.W.fnOf "_law_times" "_law_times" (defArgs s_law_times) (defBody s_law_times) (defScope s_law_times) .none kV20 dc20 pm20 an20 cd20 ct20), sl20⟩) (c20 : PySem.W.codeIn K cd20 "_law_times" = true) (k20 : PySem.W.keepIn K (.ref f20) = true)
    (a21 : PySem.W.nsIn K mainGlobals "_law_sign" = some (some (.ref f21))) (l21 : K.lookup f21 = some ⟨oc21, od21, .func (PySem.W.fnOf "_law_sign" "_law_sign" (defArgs s_law_sign) (defBody s_law_sign) (defScope s_law_sign) .none kV21 dc21 pm21 an21 cd21 ct21), sl21⟩) (c21 : PySem.W.codeIn K cd21 "_law_sign" = true) (k21 : PySem.W.keepIn K (.ref f21) = true)
    (a22 : PySem.W.nsIn K mainGlobals "_law_number" = some (some (.ref f22))) (l22 : K.lookup f22 = some ⟨oc22, od22, .func (PySem.W.fnOf "_law_number" "_law_number" (defArgs s_law_number) (defBody s_law_number) (defScope s_law_number) .none kV22 dc22 pm22 an22 cd22 ct22), sl22⟩) (c22 : PySem.W.codeIn K cd22 "_law_number" = true) (k22 : PySem.W.keepIn K (.ref f22) = true)
    (a23 : PySem.W.nsIn K mainGlobals "_law_between" = some (some (.ref f23))) (l23 : K.lookup f23 = some ⟨oc23, od23, .func (PySem.W.fnOf "_law_between" "_law_between" (defArgs s_law_between) (defBody s_law_between) (defScope s_law_between) .none kV23 dc23 pm23 an23 cd23 ct23), sl23⟩) (c23 : PySem.W.codeIn K cd23 "_law_between" = true) (k23 : PySem.W.keepIn K (.ref f23) = true)
    (a24 : PySem.W.nsIn K mainGlobals "_law_point" = some (some (.ref f24))) (l24 : K.lookup f24 = some ⟨oc24, od24, .func (PySem.W.fnOf "_law_point" "_law_point" (defArgs s_law_point) (defBody s_law_point) (defScope s_law_point) .none kV24 dc24 pm24 an24 cd24 ct24), sl24⟩) (c24 : PySem.W.codeIn K cd24 "_law_point" = true) (k24 : PySem.W.keepIn K (.ref f24) = true)
    (a25 : PySem.W.nsIn K mainGlobals "_law_points" = some (some (.ref f25))) (l25 : K.lookup f25 = some ⟨oc25, od25, .func (PySem.W.fnOf "_law_points" "_law_points" (defArgs s_law_points) (defBody s_law_points) (defScope s_law_points) .none kV25 dc25 pm25 an25 cd25 ct25), sl25⟩) (c25 : PySem.W.codeIn K cd25 "_law_points" = true) (k25 : PySem.W.keepIn K (.ref f25) = true)
    (a26 : PySem.W.nsIn K mainGlobals "_law_apart" = some (some (.ref f26))) (l26 : K.lookup f26 = some ⟨oc26, od26, .func (PySem.W.fnOf "_law_apart" "_law_apart" (defArgs s_law_apart) (defBody s_law_apart) (defScope s_law_apart) .none kV26 dc26 pm26 an26 cd26 ct26), sl26⟩) (c26 : PySem.W.codeIn K cd26 "_law_apart" = true) (k26 : PySem.W.keepIn K (.ref f26) = true)
    (a27 : PySem.W.nsIn K mainGlobals "_law_hand" = some (some (.ref f27))) (l27 : K.lookup f27 = some ⟨oc27, od27, .func (PySem.W.fnOf "_law_hand" "_law_hand" (defArgs s_law_hand) (defBody s_law_hand) (defScope s_law_hand) .none kV27 dc27 pm27 an27 cd27 ct27), sl27⟩) (c27 : PySem.W.codeIn K cd27 "_law_hand" = true) (k27 : PySem.W.keepIn K (.ref f27) = true)
    (a28 : PySem.W.nsIn K mainGlobals "_law_is_ahead" = some (some (.ref f28))) (l28 : K.lookup f28 = some ⟨oc28, od28, .func (PySem.W.fnOf "_law_is_ahead" "_law_is_ahead" (defArgs s_law_is_ahead) (defBody s_law_is_ahead) (defScope s_law_is_ahead) .none kV28 dc28 pm28 an28 cd28 ct28), sl28⟩) (c28 : PySem.W.codeIn K cd28 "_law_is_ahead" = true) (k28 : PySem.W.keepIn K (.ref f28) = true)
    (a29 : PySem.W.nsIn K mainGlobals "_law_first" = some (some (.ref f29))) (l29 : K.lookup f29 = some ⟨oc29, od29, .func (PySem.W.fnOf "_law_first" "_law_first" (defArgs s_law_first) (defBody s_law_first) (defScope s_law_first) .none kV29 dc29 pm29 an29 cd29 ct29), sl29⟩) (c29 : PySem.W.codeIn K cd29 "_law_first" = true) (k29 : PySem.W.keepIn K (.ref f29) = true)
    (a30 : PySem.W.nsIn K mainGlobals "_law_last" = some (some (.ref f30))) (l30 : K.lookup f30 = some ⟨oc30, od30, .func (PySem.W.fnOf "_law_last" "_law_last" (defArgs s_law_last) (defBody s_law_last) (defScope s_law_last) .none kV30 dc30 pm30 an30 cd30 ct30), sl30⟩) (c30 : PySem.W.codeIn K cd30 "_law_last" = true) (k30 : PySem.W.keepIn K (.ref f30) = true)
    (a31 : PySem.W.nsIn K mainGlobals "_law_is_within" = some (some (.ref f31))) (l31 : K.lookup f31 = some ⟨oc31, od31, .func (PySem.W.fnOf "_law_is_within" "_law_is_within" (defArgs s_law_is_within) (defBody s_law_is_within) (defScope s_law_is_within) .none kV31 dc31 pm31 an31 cd31 ct31), sl31⟩) (c31 : PySem.W.codeIn K cd31 "_law_is_within" = true) (k31 : PySem.W.keepIn K (.ref f31) = true)
    (a32 : PySem.W.nsIn K mainGlobals "_law_are_over" = some (some (.ref f32))) (l32 : K.lookup f32 = some ⟨oc32, od32, .func (PySem.W.fnOf "_law_are_over" "_law_are_over" (defArgs s_law_are_over) (defBody s_law_are_over) (defScope s_law_are_over) .none kV32 dc32 pm32 an32 cd32 ct32), sl32⟩) (c32 : PySem.W.codeIn K cd32 "_law_are_over" = true) (k32 : PySem.W.keepIn K (.ref f32) = true)
    (a33 : PySem.W.nsIn K mainGlobals "_law_are_crossed" = some (some (.ref f33))) (l33 : K.lookup f33 = some ⟨oc33, od33, .func (PySem.W.fnOf "_law_are_crossed" "_law_are_crossed" (defArgs s_law_are_crossed) (defBody s_law_are_crossed) (defScope s_law_are_crossed) .none kV33 dc33 pm33 an33 cd33 ct33), sl33⟩) (c33 : PySem.W.codeIn K cd33 "_law_are_crossed" = true) (k33 : PySem.W.keepIn K (.ref f33) = true)
    (a34 : PySem.W.nsIn K mainGlobals "_law_due" = some (some (.ref f34))) (l34 : K.lookup f34 = some ⟨oc34, od34, .func (PySem.W.fnOf "_law_due" "_law_due" (defArgs s_law_due) (defBody s_law_due) (defScope s_law_due) .none kV34 dc34 pm34 an34 cd34 ct34), sl34⟩) (c34 : PySem.W.codeIn K cd34 "_law_due" = true) (k34 : PySem.W.keepIn K (.ref f34) = true)
    (a35 : PySem.W.nsIn K mainGlobals "_law_is_fraction" = some (some (.ref f35))) (l35 : K.lookup f35 = some ⟨oc35, od35, .func (PySem.W.fnOf "_law_is_fraction" "_law_is_fraction" (defArgs s_law_is_fraction) (defBody s_law_is_fraction) (defScope s_law_is_fraction) .none kV35 dc35 pm35 an35 cd35 ct35), sl35⟩) (c35 : PySem.W.codeIn K cd35 "_law_is_fraction" = true) (k35 : PySem.W.keepIn K (.ref f35) = true)
    (a36 : PySem.W.nsIn K mainGlobals "_law_right" = some (some (.ref f36))) (l36 : K.lookup f36 = some ⟨oc36, od36, .func (PySem.W.fnOf "_law_right" "_law_right" (defArgs s_law_right) (defBody s_law_right) (defScope s_law_right) .none kV36 dc36 pm36 an36 cd36 ct36), sl36⟩) (c36 : PySem.W.codeIn K cd36 "_law_right" = true) (k36 : PySem.W.keepIn K (.ref f36) = true)
    (a37 : PySem.W.nsIn K mainGlobals "law" = some (some (.ref f37))) (l37 : K.lookup f37 = some ⟨oc37, od37, .func (PySem.W.fnOf "law" "law" (defArgs s_law) (defBody s_law) (defScope s_law) .none kV37 dc37 pm37 an37 cd37 ct37), sl37⟩) (c37 : PySem.W.codeIn K cd37 "law" = true) (k37 : PySem.W.keepIn K (.ref f37) = true)
    (y1 : PySem.W.nsIn K mainGlobals "abs" = some none)
    (y2 : PySem.W.nsIn K mainGlobals "any" = some none)
    (y3 : PySem.W.nsIn K mainGlobals "max" = some none)
    (y4 : PySem.W.nsIn K mainGlobals "divmod" = some none)
    (y5 : PySem.W.nsIn K mainGlobals "int" = some none)
    (y6 : PySem.W.nsIn K mainGlobals "len" = some none)
    (y7 : PySem.W.nsIn K mainGlobals "range" = some none)
    (y8 : PySem.W.nsIn K mainGlobals "tuple" = some none)
    (y9 : PySem.W.nsIn K mainGlobals "isinstance" = some none)
    (y10 : PySem.W.nsIn K mainGlobals "bool" = some none)
    (y11 : PySem.W.nsIn K mainGlobals "min" = some none)
    (y12 : PySem.W.nsIn K mainGlobals "set" = some none)
    : ∃ fd : FuncData, (∀ (s : Shared) (v : Value), BindsTo s fd ⟨[v], []⟩ [("_law_script", v)]) ∧ ∀ base : Heap, K.In base → base.Ns mainGlobals mg → FnOk l.prog w K mg base CX0 7 fa fd ["_law_script"] (spLaw K) := by
  have e := hfa.symm.trans (PySem.W.mg_of X G a37)
  cases e
  have z_abs := PySem.W.mg_none_of X G y1
  have z_any := PySem.W.mg_none_of X G y2
  have z_max := PySem.W.mg_none_of X G y3
  have z_divmod := PySem.W.mg_none_of X G y4
  have z_int := PySem.W.mg_none_of X G y5
  have z_len := PySem.W.mg_none_of X G y6
  have z_range := PySem.W.mg_none_of X G y7
  have z_tuple := PySem.W.mg_none_of X G y8
  have z_isinstance := PySem.W.mg_none_of X G y9
  have z_bool := PySem.W.mg_none_of X G y10
  have z_min := PySem.W.mg_none_of X G y11
  have z_set := PySem.W.mg_none_of X G y12
  have F1 := fun_mk (st := s_greatest_divisor) l1 c1 k1
  have F2 := fun_mk (st := s_fraction) l2 c2 k2
  have F3 := fun_mk (st := s_plus) l3 c3 k3
  have F4 := fun_mk (st := s_less) l4 c4 k4
  have F5 := fun_mk (st := s_times) l5 c5 k5
  have F6 := fun_mk (st := s_sign) l6 c6 k6
  have F7 := fun_mk (st := s_spread) l7 c7 k7
  have F8 := fun_mk (st := s_across) l8 c8 k8
  have F9 := fun_mk (st := s_hand) l9 c9 k9
  have F10 := fun_mk (st := s_hands) l10 c10 k10
  have F11 := fun_mk (st := s_lies_between) l11 c11 k11
  have F12 := fun_mk (st := s_overlap) l12 c12 k12
  have F13 := fun_mk (st := s_crossing) l13 c13 k13
  have F14 := fun_mk (st := s_met) l14 c14 k14
  have F15 := fun_mk (st := s_law_pot) l15 c15 k15
  have F16 := fun_mk (st := s_law_digit) l16 c16 k16
  have F17 := fun_mk (st := s_law_low) l17 c17 k17
  have F18 := fun_mk (st := s_law_plus) l18 c18 k18
  have F19 := fun_mk (st := s_law_less) l19 c19 k19
  have F20 := fun_mk (st := s_law_times) l20 c20 k20
  have F21 := fun_mk (st := s_law_sign) l21 c21 k21
  have F22 := fun_mk (st := s_law_number) l22 c22 k22
  have F23 := fun_mk (st := s_law_between) l23 c23 k23
  have F24 := fun_mk (st := s_law_point) l24 c24 k24
  have F25 := fun_mk (st := s_law_points) l25 c25 k25
  have F26 := fun_mk (st := s_law_apart) l26 c26 k26
  have F27 := fun_mk (st := s_law_hand) l27 c27 k27
  have F28 := fun_mk (st := s_law_is_ahead) l28 c28 k28
  have F29 := fun_mk (st := s_law_first) l29 c29 k29
  have F30 := fun_mk (st := s_law_last) l30 c30 k30
  have F31 := fun_mk (st := s_law_is_within) l31 c31 k31
  have F32 := fun_mk (st := s_law_are_over) l32 c32 k32
  have F33 := fun_mk (st := s_law_are_crossed) l33 c33 k33
  have F34 := fun_mk (st := s_law_due) l34 c34 k34
  have F35 := fun_mk (st := s_law_is_fraction) l35 c35 k35
  have F36 := fun_mk (st := s_law_right) l36 c36 k36
  have F37 := fun_mk (st := s_law) l37 c37 k37
  have b1 := F1.binds (ps := ["one", "other"]) fun _ _ _ _ _ _ us hl => by obtain ⟨_, _, rfl⟩ := len_2 (n := 2) rfl hl; rfl
  have b2 := F2.binds (ps := ["n", "d"]) fun _ _ _ _ _ _ us hl => by obtain ⟨_, _, rfl⟩ := len_2 (n := 2) rfl hl; rfl
  have b3 := F3.binds (ps := ["one", "other"]) fun _ _ _ _ _ _ us hl => by obtain ⟨_, _, rfl⟩ := len_2 (n := 2) rfl hl; rfl
  have b4 := F4.binds (ps := ["one", "other"]) fun _ _ _ _ _ _ us hl => by obtain ⟨_, _, rfl⟩ := len_2 (n := 2) rfl hl; rfl
  have b5 := F5.binds (ps := ["one", "other"]) fun _ _ _ _ _ _ us hl => by obtain ⟨_, _, rfl⟩ := len_2 (n := 2) rfl hl; rfl
  have b6 := F6.binds (ps := ["one"]) fun _ _ _ _ _ _ us hl => by obtain ⟨_, rfl⟩ := len_1 (n := 1) rfl hl; rfl
  have b7 := F7.binds (ps := ["point"]) fun _ _ _ _ _ _ us hl => by obtain ⟨_, rfl⟩ := len_1 (n := 1) rfl hl; rfl
  have b8 := F8.binds (ps := ["one", "other"]) fun _ _ _ _ _ _ us hl => by obtain ⟨_, _, rfl⟩ := len_2 (n := 2) rfl hl; rfl
  have b9 := F9.binds (ps := ["p", "q", "r"]) fun _ _ _ _ _ _ us hl => by obtain ⟨_, _, _, rfl⟩ := len_3 (n := 3) rfl hl; rfl
  have b10 := F10.binds (ps := ["one", "other"]) fun _ _ _ _ _ _ us hl => by obtain ⟨_, _, rfl⟩ := len_2 (n := 2) rfl hl; rfl
  have b11 := F11.binds (ps := ["point", "one"]) fun _ _ _ _ _ _ us hl => by obtain ⟨_, _, rfl⟩ := len_2 (n := 2) rfl hl; rfl
  have b12 := F12.binds (ps := ["one", "other"]) fun _ _ _ _ _ _ us hl => by obtain ⟨_, _, rfl⟩ := len_2 (n := 2) rfl hl; rfl
  have b13 := F13.binds (ps := ["one", "other"]) fun _ _ _ _ _ _ us hl => by obtain ⟨_, _, rfl⟩ := len_2 (n := 2) rfl hl; rfl
  have b14 := F14.binds (ps := ["one", "other"]) fun _ _ _ _ _ _ us hl => by obtain ⟨_, _, rfl⟩ := len_2 (n := 2) rfl hl; rfl
  have b15 := F15.binds (ps := ["_law_script", "_law_k"]) fun _ _ _ _ _ _ us hl => by obtain ⟨_, _, rfl⟩ := len_2 (n := 2) rfl hl; rfl
  have b16 := F16.binds (ps := ["_law_pot_here", "_law_many"]) fun _ _ _ _ _ _ us hl => by obtain ⟨_, _, rfl⟩ := len_2 (n := 2) rfl hl; rfl
  have b17 := F17.binds (ps := ["_law_n", "_law_d"]) fun _ _ _ _ _ _ us hl => by obtain ⟨_, _, rfl⟩ := len_2 (n := 2) rfl hl; rfl
  have b18 := F18.binds (ps := ["_law_one", "_law_other"]) fun _ _ _ _ _ _ us hl => by obtain ⟨_, _, rfl⟩ := len_2 (n := 2) rfl hl; rfl
  have b19 := F19.binds (ps := ["_law_one", "_law_other"]) fun _ _ _ _ _ _ us hl => by obtain ⟨_, _, rfl⟩ := len_2 (n := 2) rfl hl; rfl
  have b20 := F20.binds (ps := ["_law_one", "_law_other"]) fun _ _ _ _ _ _ us hl => by obtain ⟨_, _, rfl⟩ := len_2 (n := 2) rfl hl; rfl
  have b21 := F21.binds (ps := ["_law_one"]) fun _ _ _ _ _ _ us hl => by obtain ⟨_, rfl⟩ := len_1 (n := 1) rfl hl; rfl
  have b22 := F22.binds (ps := ["_law_pot_here", "_law_mode"]) fun _ _ _ _ _ _ us hl => by obtain ⟨_, _, rfl⟩ := len_2 (n := 2) rfl hl; rfl
  have b23 := F23.binds (ps := ["_law_one", "_law_other", "_law_part"]) fun _ _ _ _ _ _ us hl => by obtain ⟨_, _, _, rfl⟩ := len_3 (n := 3) rfl hl; rfl
  have b24 := F24.binds (ps := ["_law_pot_here", "_law_points_here", "_law_mode"]) fun _ _ _ _ _ _ us hl => by obtain ⟨_, _, _, rfl⟩ := len_3 (n := 3) rfl hl; rfl
  have b25 := F25.binds (ps := ["_law_pot_here", "_law_many"]) fun _ _ _ _ _ _ us hl => by obtain ⟨_, _, rfl⟩ := len_2 (n := 2) rfl hl; rfl
  have b26 := F26.binds (ps := ["_law_one", "_law_other"]) fun _ _ _ _ _ _ us hl => by obtain ⟨_, _, rfl⟩ := len_2 (n := 2) rfl hl; rfl
  have b27 := F27.binds (ps := ["_law_p", "_law_q", "_law_r"]) fun _ _ _ _ _ _ us hl => by obtain ⟨_, _, _, rfl⟩ := len_3 (n := 3) rfl hl; rfl
  have b28 := F28.binds (ps := ["_law_p", "_law_q"]) fun _ _ _ _ _ _ us hl => by obtain ⟨_, _, rfl⟩ := len_2 (n := 2) rfl hl; rfl
  have b29 := F29.binds (ps := ["_law_p", "_law_q"]) fun _ _ _ _ _ _ us hl => by obtain ⟨_, _, rfl⟩ := len_2 (n := 2) rfl hl; rfl
  have b30 := F30.binds (ps := ["_law_p", "_law_q"]) fun _ _ _ _ _ _ us hl => by obtain ⟨_, _, rfl⟩ := len_2 (n := 2) rfl hl; rfl
  have b31 := F31.binds (ps := ["_law_r", "_law_tie"]) fun _ _ _ _ _ _ us hl => by obtain ⟨_, _, rfl⟩ := len_2 (n := 2) rfl hl; rfl
  have b32 := F32.binds (ps := ["_law_one", "_law_other"]) fun _ _ _ _ _ _ us hl => by obtain ⟨_, _, rfl⟩ := len_2 (n := 2) rfl hl; rfl
  have b33 := F33.binds (ps := ["_law_one", "_law_other"]) fun _ _ _ _ _ _ us hl => by obtain ⟨_, _, rfl⟩ := len_2 (n := 2) rfl hl; rfl
  have b34 := F34.binds (ps := ["_law_one", "_law_other"]) fun _ _ _ _ _ _ us hl => by obtain ⟨_, _, rfl⟩ := len_2 (n := 2) rfl hl; rfl
  have b35 := F35.binds (ps := ["_law_one"]) fun _ _ _ _ _ _ us hl => by obtain ⟨_, rfl⟩ := len_1 (n := 1) rfl hl; rfl
  have b36 := F36.binds (ps := ["_law_one", "_law_other", "_law_due_here", "_law_found"]) fun _ _ _ _ _ _ us hl => by obtain ⟨_, _, _, _, rfl⟩ := len_4 (n := 4) rfl hl; rfl
  refine ⟨PySem.W.fnOf "law" "law" (defArgs s_law) (defBody s_law) (defScope s_law) .none kV37 dc37 pm37 an37 cd37 ct37, fun s v => .of_eq rfl, fun base _ _ => ?_⟩
  have h_greatest_divisor : Own.Has l.prog w K mg base "greatest_divisor" ["one", "other"] 1 (spGcd) := ⟨_, _, ok_greatest_divisor (P := l.prog) (w := w) (base := base) (mg := mg) F1 z_abs, b1, k1, PySem.W.mg_of X G a1⟩
  have h_fraction : Own.Has l.prog w K mg base "fraction" ["n", "d"] 2 (spFr) := ⟨_, _, ok_fraction (P := l.prog) (w := w) (base := base) (mg := mg) F2 h_greatest_divisor, b2, k2, PySem.W.mg_of X G a2⟩
  have h_plus : Own.Has l.prog w K mg base "plus" ["one", "other"] 3 (spBin (fun a0 a1 b0 b1 => a0 * b1 + b0 * a1) (fun _ a1 _ b1 => a1 * b1)) := ⟨_, _, ok_plus (P := l.prog) (w := w) (base := base) (mg := mg) F3 h_fraction, b3, k3, PySem.W.mg_of X G a3⟩
  have h_less : Own.Has l.prog w K mg base "less" ["one", "other"] 3 (spBin (fun a0 a1 b0 b1 => a0 * b1 - b0 * a1) (fun _ a1 _ b1 => a1 * b1)) := ⟨_, _, ok_less (P := l.prog) (w := w) (base := base) (mg := mg) F4 h_fraction, b4, k4, PySem.W.mg_of X G a4⟩
  have h_times : Own.Has l.prog w K mg base "times" ["one", "other"] 3 (spBin (fun a0 a1 b0 b1 => a0 * b0) (fun _ a1 _ b1 => a1 * b1)) := ⟨_, _, ok_times (P := l.prog) (w := w) (base := base) (mg := mg) F5 h_fraction, b5, k5, PySem.W.mg_of X G a5⟩
  have h_sign : Own.Has l.prog w K mg base "sign" ["one"] 1 (spSign) := ⟨_, _, ok_sign (P := l.prog) (w := w) (base := base) (mg := mg) F6, b6, k6, PySem.W.mg_of X G a6⟩
  have h_spread : Own.Has l.prog w K mg base "spread" ["point"] 1 (spSpread) := ⟨_, _, ok_spread (P := l.prog) (w := w) (base := base) (mg := mg) F7, b7, k7, PySem.W.mg_of X G a7⟩
  have h_across : Own.Has l.prog w K mg base "across" ["one", "other"] 1 (spAcross) := ⟨_, _, ok_across (P := l.prog) (w := w) (base := base) (mg := mg) F8, b8, k8, PySem.W.mg_of X G a8⟩
  have h_hand : Own.Has l.prog w K mg base "hand" ["p", "q", "r"] 2 (spHand det) := ⟨_, _, ok_hand (P := l.prog) (w := w) (base := base) (mg := mg) F9 h_across h_spread h_sign, b9, k9, PySem.W.mg_of X G a9⟩
  have h_hands : Own.Has l.prog w K mg base "hands" ["one", "other"] 3 (spHands) := ⟨_, _, ok_hands (P := l.prog) (w := w) (base := base) (mg := mg) F10 h_hand, b10, k10, PySem.W.mg_of X G a10⟩
  have h_lies_between : Own.Has l.prog w K mg base "lies_between" ["point", "one"] 4 (spBtw) := ⟨_, _, ok_lies_between (P := l.prog) (w := w) (base := base) (mg := mg) F11 h_times h_less h_sign h_plus, b11, k11, PySem.W.mg_of X G a11⟩
  have h_overlap : Own.Has l.prog w K mg base "overlap" ["one", "other"] 5 (spLap) := ⟨_, _, ok_overlap (P := l.prog) (w := w) (base := base) (mg := mg) F12 h_lies_between z_any, b12, k12, PySem.W.mg_of X G a12⟩
  have h_crossing : Own.Has l.prog w K mg base "crossing" ["one", "other"] 3 (spCrossing) := ⟨_, _, ok_crossing (P := l.prog) (w := w) (base := base) (mg := mg) F13 h_across h_spread h_fraction, b13, k13, PySem.W.mg_of X G a13⟩
  have h_met : Own.Has l.prog w K mg base "met" ["one", "other"] 6 (spMet) := ⟨_, _, ok_met (P := l.prog) (w := w) (base := base) (mg := mg) F14 h_hands h_overlap h_crossing, b14, k14, PySem.W.mg_of X G a14⟩
  have h_law_pot : Own.Has l.prog w K mg base "_law_pot" ["_law_script", "_law_k"] 1 (spPot K) := ⟨_, _, ok_law_pot (P := l.prog) (w := w) (base := base) (mg := mg) F15 z_abs z_max, b15, k15, PySem.W.mg_of X G a15⟩
  have h_law_digit : Own.Has l.prog w K mg base "_law_digit" ["_law_pot_here", "_law_many"] 1 (spDigit) := ⟨_, _, ok_law_digit (P := l.prog) (w := w) (base := base) (mg := mg) F16 z_divmod, b16, k16, PySem.W.mg_of X G a16⟩
  have h_law_low : Own.Has l.prog w K mg base "_law_low" ["_law_n", "_law_d"] 1 (spFr) := ⟨_, _, ok_law_low (P := l.prog) (w := w) (base := base) (mg := mg) F17 z_abs, b17, k17, PySem.W.mg_of X G a17⟩
  have h_law_plus : Own.Has l.prog w K mg base "_law_plus" ["_law_one", "_law_other"] 2 (spBin (fun a0 a1 b0 b1 => a0 * b1 + b0 * a1) (fun _ a1 _ b1 => a1 * b1)) := ⟨_, _, ok_law_plus (P := l.prog) (w := w) (base := base) (mg := mg) F18 h_law_low, b18, k18, PySem.W.mg_of X G a18⟩
  have h_law_less : Own.Has l.prog w K mg base "_law_less" ["_law_one", "_law_other"] 2 (spBin (fun a0 a1 b0 b1 => a0 * b1 - b0 * a1) (fun _ a1 _ b1 => a1 * b1)) := ⟨_, _, ok_law_less (P := l.prog) (w := w) (base := base) (mg := mg) F19 h_law_low, b19, k19, PySem.W.mg_of X G a19⟩
  have h_law_times : Own.Has l.prog w K mg base "_law_times" ["_law_one", "_law_other"] 2 (spBin (fun a0 a1 b0 b1 => a0 * b0) (fun _ a1 _ b1 => a1 * b1)) := ⟨_, _, ok_law_times (P := l.prog) (w := w) (base := base) (mg := mg) F20 h_law_low, b20, k20, PySem.W.mg_of X G a20⟩
  have h_law_sign : Own.Has l.prog w K mg base "_law_sign" ["_law_one"] 1 (spSign) := ⟨_, _, ok_law_sign (P := l.prog) (w := w) (base := base) (mg := mg) F21 z_int, b21, k21, PySem.W.mg_of X G a21⟩
  have h_law_number : Own.Has l.prog w K mg base "_law_number" ["_law_pot_here", "_law_mode"] 2 (spNumber) := ⟨_, _, ok_law_number (P := l.prog) (w := w) (base := base) (mg := mg) F22 h_law_low h_law_digit, b22, k22, PySem.W.mg_of X G a22⟩
  have h_law_between : Own.Has l.prog w K mg base "_law_between" ["_law_one", "_law_other", "_law_part"] 3 (spBetween) := ⟨_, _, ok_law_between (P := l.prog) (w := w) (base := base) (mg := mg) F23 h_law_plus h_law_times h_law_less, b23, k23, PySem.W.mg_of X G a23⟩
  have h_law_point : Own.Has l.prog w K mg base "_law_point" ["_law_pot_here", "_law_points_here", "_law_mode"] 4 (spPoint) := ⟨_, _, ok_law_point (P := l.prog) (w := w) (base := base) (mg := mg) F24 h_law_digit h_law_between h_law_number z_len, b24, k24, PySem.W.mg_of X G a24⟩
  have h_law_points : Own.Has l.prog w K mg base "_law_points" ["_law_pot_here", "_law_many"] 5 (spPoints) := ⟨_, _, ok_law_points (P := l.prog) (w := w) (base := base) (mg := mg) F25 h_law_digit h_law_point h_law_plus z_range z_tuple, b25, k25, PySem.W.mg_of X G a25⟩
  have h_law_apart : Own.Has l.prog w K mg base "_law_apart" ["_law_one", "_law_other"] 1 (spApart) := ⟨_, _, ok_law_apart (P := l.prog) (w := w) (base := base) (mg := mg) F26, b26, k26, PySem.W.mg_of X G a26⟩
  have h_law_hand : Own.Has l.prog w K mg base "_law_hand" ["_law_p", "_law_q", "_law_r"] 2 (spHandL) := ⟨_, _, ok_law_hand (P := l.prog) (w := w) (base := base) (mg := mg) F27 h_law_apart h_law_sign, b27, k27, PySem.W.mg_of X G a27⟩
  have h_law_is_ahead : Own.Has l.prog w K mg base "_law_is_ahead" ["_law_p", "_law_q"] 1 (spAhead) := ⟨_, _, ok_law_is_ahead (P := l.prog) (w := w) (base := base) (mg := mg) F28, b28, k28, PySem.W.mg_of X G a28⟩
  have h_law_first : Own.Has l.prog w K mg base "_law_first" ["_law_p", "_law_q"] 2 (spPick firP) := ⟨_, _, ok_law_first (P := l.prog) (w := w) (base := base) (mg := mg) F29 h_law_is_ahead, b29, k29, PySem.W.mg_of X G a29⟩
  have h_law_last : Own.Has l.prog w K mg base "_law_last" ["_law_p", "_law_q"] 2 (spPick lasP) := ⟨_, _, ok_law_last (P := l.prog) (w := w) (base := base) (mg := mg) F30 h_law_is_ahead, b30, k30, PySem.W.mg_of X G a30⟩
  have h_law_is_within : Own.Has l.prog w K mg base "_law_is_within" ["_law_r", "_law_tie"] 3 (spWithin) := ⟨_, _, ok_law_is_within (P := l.prog) (w := w) (base := base) (mg := mg) F31 h_law_last h_law_first h_law_is_ahead h_law_hand, b31, k31, PySem.W.mg_of X G a31⟩
  have h_law_are_over : Own.Has l.prog w K mg base "_law_are_over" ["_law_one", "_law_other"] 3 (spOver) := ⟨_, _, ok_law_are_over (P := l.prog) (w := w) (base := base) (mg := mg) F32 h_law_hand h_law_last h_law_first h_law_is_ahead, b32, k32, PySem.W.mg_of X G a32⟩
  have h_law_are_crossed : Own.Has l.prog w K mg base "_law_are_crossed" ["_law_one", "_law_other"] 3 (spCrossed) := ⟨_, _, ok_law_are_crossed (P := l.prog) (w := w) (base := base) (mg := mg) F33 h_law_hand, b33, k33, PySem.W.mg_of X G a33⟩
  have h_law_due : Own.Has l.prog w K mg base "_law_due" ["_law_one", "_law_other"] 4 (spDue) := ⟨_, _, ok_law_due (P := l.prog) (w := w) (base := base) (mg := mg) F34 h_law_are_over h_law_is_within h_law_are_crossed, b34, k34, PySem.W.mg_of X G a34⟩
  have h_law_is_fraction : Own.Has l.prog w K mg base "_law_is_fraction" ["_law_one"] 2 (spIsFr) := ⟨_, _, ok_law_is_fraction (P := l.prog) (w := w) (base := base) (mg := mg) F35 h_law_low z_isinstance z_bool z_len z_tuple z_int, b35, k35, PySem.W.mg_of X G a35⟩
  have h_law_right : Own.Has l.prog w K mg base "_law_right" ["_law_one", "_law_other", "_law_due_here", "_law_found"] 4 (spRight) := ⟨_, _, ok_law_right (P := l.prog) (w := w) (base := base) (mg := mg) F36 h_law_is_fraction h_law_is_within z_isinstance z_tuple z_len, b36, k36, PySem.W.mg_of X G a36⟩
  exact ok_law (P := l.prog) (w := w) (base := base) (mg := mg) F37 h_law_points h_law_pot h_law_due h_met h_law_right z_range z_max z_min z_len z_set
theorem walk {l : PySem.W.OpenLaw} {q : Program} {loose : List Str} {XP : (Str → Option Value) → Heap → Prop} {YP : World → Heap → Prop} {d : DefRec} {K : Params → PySem.W.Frag} (hn : l.most = some 63) (hdf : d.params.defaults = [])
    (hY : ∀ (w : World) (h : Heap), YP w h → (K w.params).In h)
    (F : ∀ (w : World) (mg : Str → Option Value) (fa : Addr) (h : Heap), (K w.params).In h → h.Ns mainGlobals mg → mg d.name = some (.ref fa) →
      ∃ fd : FuncData, (∀ (s : Shared) (u : Value), BindsTo s fd ⟨[u], []⟩ [("_law_script", u)]) ∧ ∀ base : Heap, (K w.params).In base → base.Ns mainGlobals mg → FnOk l.prog w (K w.params) mg base CX0 7 fa fd ["_law_script"] (spLaw (K w.params))) :
    PySem.W.WalkO q loose XP YP l.row.toRowW d [] (fun f vs => PySem.call f vs) :=
  L2.walk_of (n := 63) (k := 7) (x := "_law_script") (CX := fun _ => CX0) (sp := fun w => spLaw (K w.params)) hn (by decide) hdf ⟨rfl, by decide, by decide, rfl⟩ hY F (fun _ _ a ns hl _ hS => ⟨a, ns, rfl, hS, hl, fun _ => rfl⟩) fun _ _ _ _ _ z => z
end Prf
open PySem PySem.W PyProof.Rows
set_option maxRecDepth 100000 in
set_option maxHeartbeats 0 in
theorem PySem.Challenge.cw_restdraw_k42_two_ties_holds : PySem.Challenge.rw_restdraw_k42_two_ties.Holds := by
  w_on; o_law; k_head; (case hw => w_witness2)
  k_fill
  refine Prf.walk (l := PySem.Challenge.rw_restdraw_k42_two_ties) rfl rfl (fun w h Y => PySem.W.kIn_of Y) ?F
  case F =>
    intro w mg fa h KX G hmg
    refine' Prf.all_mk KX G hmg ?a1 ?l1 ?c1 ?k1 ?a2 ?l2 ?c2 ?k2 ?a3 ?l3 ?c3 ?k3 ?a4 ?l4 ?c4 ?k4 ?a5 ?l5 ?c5 ?k5 ?a6 ?l6 ?c6 ?k6 ?a7 ?l7 ?c7 ?k7 ?a8 ?l8 ?c8 ?k8 ?a9 ?l9 ?c9 ?k9 ?a10 ?l10 ?c10 ?k10 ?a11 ?l11 ?c11 ?k11 ?a12 ?l12 ?c12 ?k12 ?a13 ?l13 ?c13 ?k13 ?a14 ?l14 ?c14 ?k14 ?a15 ?l15 ?c15 ?k15 ?a16 ?l16 ?c16 ?k16 ?a17 ?l17 ?c17 ?k17 ?a18 ?l18 ?c18 ?k18 ?a19 ?l19 ?c19 ?k19 ?a20 ?l20 ?c20 ?k20 ?a21 ?l21 ?c21 ?k21 ?a22 ?l22 ?c22 ?k22 ?a23 ?l23 ?c23 ?k23 ?a24 ?l24 ?c24 ?k24 ?a25 ?l25 ?c25 ?k25 ?a26 ?l26 ?c26 ?k26 ?a27 ?l27 ?c27 ?k27 ?a28 ?l28 ?c28 ?k28 ?a29 ?l29 ?c29 ?k29 ?a30 ?l30 ?c30 ?k30 ?a31 ?l31 ?c31 ?k31 ?a32 ?l32 ?c32 ?k32 ?a33 ?l33 ?c33 ?k33 ?a34 ?l34 ?c34 ?k34 ?a35 ?l35 ?c35 ?k35 ?a36 ?l36 ?c36 ?k36 ?a37 ?l37 ?c37 ?k37 ?y1 ?y2 ?y3 ?y4 ?y5 ?y6 ?y7 ?y8 ?y9 ?y10 ?y11 ?y12
    (case a1 => k_is); (case l1 => k_is); (case c1 => k_is); (case k1 => k_is)
    (case a2 => k_is); (case l2 => k_is); (case c2 => k_is); (case k2 => k_is)
    (case a3 => k_is); (case l3 => k_is); (case c3 => k_is); (case k3 => k_is)
    (case a4 => k_is); (case l4 => k_is); (case c4 => k_is); (case k4 => k_is)
    (case a5 => k_is); (case l5 => k_is); (case c5 => k_is); (case k5 => k_is)
    (case a6 => k_is); (case l6 => k_is); (case c6 => k_is); (case k6 => k_is)
    (case a7 => k_is); (case l7 => k_is); (case c7 => k_is); (case k7 => k_is)
    (case a8 => k_is); (case l8 => k_is); (case c8 => k_is); (case k8 => k_is)
    (case a9 => k_is); (case l9 => k_is); (case c9 => k_is); (case k9 => k_is)
    (case a10 => k_is); (case l10 => k_is); (case c10 => k_is); (case k10 => k_is)
    (case a11 => k_is); (case l11 => k_is); (case c11 => k_is); (case k11 => k_is)
    (case a12 => k_is); (case l12 => k_is); (case c12 => k_is); (case k12 => k_is)
    (case a13 => k_is); (case l13 => k_is); (case c13 => k_is); (case k13 => k_is)
    (case a14 => k_is); (case l14 => k_is); (case c14 => k_is); (case k14 => k_is)
    (case a15 => k_is); (case l15 => k_is); (case c15 => k_is); (case k15 => k_is)
    (case a16 => k_is); (case l16 => k_is); (case c16 => k_is); (case k16 => k_is)
    (case a17 => k_is); (case l17 => k_is); (case c17 => k_is); (case k17 => k_is)
    (case a18 => k_is); (case l18 => k_is); (case c18 => k_is); (case k18 => k_is)
    (case a19 => k_is); (case l19 => k_is); (case c19 => k_is); (case k19 => k_is)
    (case a20 => k_is); (case l20 => k_is); (case c20 => k_is); (case k20 => k_is)
    (case a21 => k_is); (case l21 => k_is); (case c21 => k_is); (case k21 => k_is)
    (case a22 => k_is); (case l22 => k_is); (case c22 => k_is); (case k22 => k_is)
    (case a23 => k_is); (case l23 => k_is); (case c23 => k_is); (case k23 => k_is)
    (case a24 => k_is); (case l24 => k_is); (case c24 => k_is); (case k24 => k_is)
    (case a25 => k_is); (case l25 => k_is); (case c25 => k_is); (case k25 => k_is)
    (case a26 => k_is); (case l26 => k_is); (case c26 => k_is); (case k26 => k_is)
    (case a27 => k_is); (case l27 => k_is); (case c27 => k_is); (case k27 => k_is)
    (case a28 => k_is); (case l28 => k_is); (case c28 => k_is); (case k28 => k_is)
    (case a29 => k_is); (case l29 => k_is); (case c29 => k_is); (case k29 => k_is)
    (case a30 => k_is); (case l30 => k_is); (case c30 => k_is); (case k30 => k_is)
    (case a31 => k_is); (case l31 => k_is); (case c31 => k_is); (case k31 => k_is)
    (case a32 => k_is); (case l32 => k_is); (case c32 => k_is); (case k32 => k_is)
    (case a33 => k_is); (case l33 => k_is); (case c33 => k_is); (case k33 => k_is)
    (case a34 => k_is); (case l34 => k_is); (case c34 => k_is); (case k34 => k_is)
    (case a35 => k_is); (case l35 => k_is); (case c35 => k_is); (case k35 => k_is)
    (case a36 => k_is); (case l36 => k_is); (case c36 => k_is); (case k36 => k_is)
    (case a37 => k_is); (case l37 => k_is); (case c37 => k_is); (case k37 => k_is)
    (case y1 => k_is); (case y2 => k_is); (case y3 => k_is); (case y4 => k_is)
    (case y5 => k_is); (case y6 => k_is); (case y7 => k_is); (case y8 => k_is)
    (case y9 => k_is); (case y10 => k_is); (case y11 => k_is); (case y12 => k_is)
