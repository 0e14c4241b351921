import PyProof.Rows.All
import Wide.All
import OpenK.AllK
import Wide.FinOn
import Lean
import PyProof.EqAt
import PyProof.EqKinds
import PyProof.TupleCall
import PyProof.ListRange
import PySem.Challenge.RW_restdraw_k45_areas_and_bends
set_option Elab.async false
set_option linter.all false
set_option maxRecDepth 100000
local macro_rules | `(tactic| omega) => `(tactic| lia)
noncomputable section
namespace L2
open PySem PySem.Spec PyProof.Rows

/-- a key: an int or a str -/
abbrev Key := Sum Int Str
def keyIs : Key → Value → Bool
  | .inl k, v => Value.isInt k v
  | .inr x, v => Value.isStrOf x v
def keyH (w : World) : Key → Int
  | .inl k => hashInt k
  | .inr x => hashStr w x
theorem keyIs_shape : ∀ {k : Key} {v : Value}, keyIs k v = true → (∃ i t, k = Sum.inl i ∧ v = Value.int i t) ∨ (∃ x t, k = Sum.inr x ∧ v = Value.str x t)
  | .inl i, v, h => by
    obtain ⟨t, e⟩ := Value.isInt_shape (k := i) (v := v) h
    exact .inl ⟨i, t, rfl, e⟩
  | .inr x, v, h => by
    obtain ⟨t, e⟩ := Value.isStrOf_shape (x := x) (v := v) h
    exact .inr ⟨x, t, rfl, e⟩
theorem key_ll (a b : Int) : decide ((Sum.inl a : Key) = Sum.inl b) = (a == b) := by
  by_cases e : a = b
  · subst e; simp
  · have h : ¬ (Sum.inl a : Key) = Sum.inl b := fun q => e (Sum.inl.inj q)
    rw [decide_eq_false h]
    exact (beq_eq_false_iff_ne.mpr e).symm
theorem key_rr (a b : Str) : decide ((Sum.inr a : Key) = Sum.inr b) = decide (a = b) := by
  by_cases e : a = b
  · subst e; simp
  · have h : ¬ (Sum.inr a : Key) = Sum.inr b := fun q => e (Sum.inr.inj q)
    rw [decide_eq_false h, decide_eq_false e]
theorem key_lr (a : Int) (b : Str) : decide ((Sum.inl a : Key) = Sum.inr b) = false := decide_eq_false (fun q => nomatch q)
theorem key_rl (a : Str) (b : Int) : decide ((Sum.inr a : Key) = Sum.inl b) = false := decide_eq_false (fun q => nomatch q)

def mixKind (prog : Program) (w : World) : PySem.KeyKind prog w Key where
  is := keyIs
  hash := keyH w
  inj := fun v a b ha hb => by
    rcases keyIs_shape ha with ⟨i, t, rfl, rfl⟩ | ⟨x, t, rfl, rfl⟩
    · rcases keyIs_shape hb with ⟨j, u, rfl, e⟩ | ⟨y, u, rfl, e⟩
      · injection e with e1 _; rw [e1]
      · exact nomatch e
    · rcases keyIs_shape hb with ⟨j, u, rfl, e⟩ | ⟨y, u, rfl, e⟩
      · exact nomatch e
      · injection e with e1 _; rw [e1]
  byValue := fun k v h => by
    rcases keyIs_shape h with ⟨i, t, rfl, rfl⟩ | ⟨x, t, rfl, rfl⟩ <;> rfl
  pyHash := fun hv h => by
    rcases keyIs_shape hv with ⟨i, t, rfl, rfl⟩ | ⟨x, t, rfl, rfl⟩
    · exact wpAny_pyHash_int h
    · exact wpAny_pyHash_str h
  eqBool := fun hu hv h => by
    rcases keyIs_shape hu with ⟨i, t, rfl, rfl⟩ | ⟨x, t, rfl, rfl⟩
    · rcases keyIs_shape hv with ⟨j, u, rfl, rfl⟩ | ⟨y, u, rfl, rfl⟩
      · rw [key_ll] at h; exact wpAny_eqBool_int h
      · rw [key_lr] at h; exact SeqAt.EqAt.int_str i t y u _ _ _ _ h
    · rcases keyIs_shape hv with ⟨j, u, rfl, rfl⟩ | ⟨y, u, rfl, rfl⟩
      · rw [key_rl] at h; exact SeqAt.EqAt.str_int x t j u _ _ _ _ h
      · rw [key_rr] at h; exact wpAny_eqBool_str h
  «strs» := fun k x t v h => by
    rcases keyIs_shape h with ⟨i, u, rfl, e⟩ | ⟨y, u, rfl, e⟩
    · exact nomatch e
    · injection e with e1 _
      subst e1
      cases v <;> rfl

end L2

namespace L2
open PySem PySem.Spec PyProof.Rows

/-- a value, without the heap -/
inductive V where
  | non | bl (b : Bool) | int (i : Int) | str (x : Str) | byt (b : Array UInt8) | flt (b : UInt64) | ref (a : Addr) | ty (n : String)
  deriving DecidableEq

def RelV : V → Value → Prop
  | .non, u => u = Value.none
  | .bl b, u => u = Value.bool b
  | .int i, u => ∃ t, u = Value.int i t
  | .str x, u => ∃ t, u = Value.str x t
  | .byt b, u => ∃ t, u = Value.bytes b t
  | .flt b, u => ∃ t, u = Value.float b t
  | .ref a, u => u = Value.ref a
  | .ty n, u => u = Value.type n

abbrev Vals : List V → List Value → Prop := Paired RelV
theorem Vals.length {xs : List V} {us : List Value} (r : Vals xs us) : xs.length = us.length := Paired.length r
theorem Vals.get : ∀ {xs : List V} {us : List Value} {i : Nat} {x : V}, Vals xs us → xs[i]? = some x → ∃ u, us[i]? = some u ∧ RelV x u
  | _, _, _, _, .nil, e => by simp at e
  | _, _, 0, _, .cons r _, e => by simp at e; subst e; exact ⟨_, rfl, r⟩
  | _, _, i + 1, x, .cons _ t, e => by
    obtain ⟨u, h1, h2⟩ := Vals.get (i := i) (x := x) t (by simpa using e)
    exact ⟨u, by simpa using h1, h2⟩
theorem Vals.set {x : V} {u : Value} (r : RelV x u) : ∀ {xs : List V} {us : List Value} (i : Nat), Vals xs us → Vals (xs.set i x) (us.set i u)
  | _, _, _, .nil => .nil
  | _, _, 0, .cons _ t => .cons r t
  | _, _, i + 1, .cons q t => .cons q (Vals.set r i t)
theorem Vals.append : ∀ {xs ys : List V} {us ws : List Value}, Vals xs us → Vals ys ws → Vals (xs ++ ys) (us ++ ws)
  | _, _, _, _, .nil, s => s
  | _, _, _, _, .cons r t, s => .cons r (Vals.append t s)
theorem Vals.take : ∀ {xs : List V} {us : List Value} (n : Nat), Vals xs us → Vals (xs.take n) (us.take n)
  | _, _, 0, _ => .nil
  | _, _, _ + 1, .nil => .nil
  | _, _, n + 1, .cons r t => .cons r (Vals.take n t)
theorem Vals.drop : ∀ {xs : List V} {us : List Value} (n : Nat), Vals xs us → Vals (xs.drop n) (us.drop n)
  | _, _, 0, r => r
  | _, _, _ + 1, .nil => .nil
  | _, _, n + 1, .cons _ t => Vals.drop n t
def RelO : Option V → Option Value → Prop
  | some v, some u => RelV v u
  | none, none => True
  | _, _ => False
def KV {κ : Type} : List (κ × V) → List (κ × Value) → Prop := Paired fun (p : κ × V) (q : κ × Value) => p.1 = q.1 ∧ RelV p.2 q.2

/-- a key of a dict (00_mix): an int or a text -/
def kV : Key → V
  | .inl i => .int i
  | .inr x => .str x

/-- what stands at a tracked address -/
inductive HO where
  /-- a list -/
  | lst (xs : List V)
  /-- a tuple (never changes) -/
  | tup (xs : List V)
  /-- a dict whose keys are ints and texts; one whose keys are tuples of ints and texts (the empty one is both) -/
  | dK (kvs : List (Key × V)) | dT (kvs : List (List Key × V))
  /-- a set of ints: its members, its size -/
  | set (S : Int → Bool) (n : Nat)
  /-- an instance of the class at C, its dict at dx, its attributes -/
  | ins (C dx : Addr) (fs : List (Str × V))
  /-- the dict of the instance at x -/
  | own (x : Addr)
  /-- the dict of an exception -/
  | xd (fs : List (Str × V))
  /-- a bound method, f of x -/
  | met (f x : Addr)
  /-- a range object lo, lo + 1, .. below hi -/
  | rng (lo hi : Int)
  /-- a thing that is known to the object (the script; a dict while a loop walks it): read, never written while it is so -/
  | frz (o : Obj) (u : HO)
  /-- a code object's table -/
  | tbl (ps : Array Value)
  /-- any other thing, by what is true of its one object (a def of one's own: SetO a S n := HO.ext fun h => ..) -/
  | ext (φ : Heap → Prop)

abbrev Hp := Addr → Option HO
def upd (H : Hp) (a : Addr) (o : HO) : Hp := fun b => if b = a then some o else H b
theorem upd_same {H : Hp} {a : Addr} {o : HO} : upd H a o a = some o := by unfold upd; rw [if_pos rfl]
theorem upd_ne {H : Hp} {a b : Addr} {o : HO} (h : b ≠ a) : upd H a o b = H b := by unfold upd; rw [if_neg h]
/-- two objects of different content stand apart -/
theorem ne_of {H : Hp} {a b : Addr} {o u : HO} (h : H a = some o) (h' : H b = some u) (d : o ≠ u) : a ≠ b := by
  intro e; subst e; rw [h] at h'; exact d (Option.some.inj h')
theorem ne_of_none {H : Hp} {a b : Addr} {o : HO} (h : H a = some o) (h' : H b = none) : a ≠ b := by
  intro e; subst e; rw [h] at h'; cases h'

section
/-- a tuple that has no dict of its own -/
def IsTupN (h : Heap) (a : Addr) (items : Array Value) : Prop := ∃ o, h.get? a = some o ∧ o.cls = .type "tuple" ∧ ∃ n, o.data = .seq items n ∧ o.dict = none
theorem IsTupN.isTup {h : Heap} {a : Addr} {items : Array Value} : IsTupN h a items → IsTup h a items := fun ⟨o, e, c, n, d, _⟩ => ⟨o, e, c, n, d⟩
theorem IsTupN.lt {h : Heap} {a : Addr} {items : Array Value} (x : IsTupN h a items) : a < h.objs.size := x.isTup.lt
theorem IsTupN.new (h : Heap) (items : Array Value) : IsTupN (h.push { cls := .type "tuple", data := .seq items }) h.objs.size items := ⟨_, Heap.get?_push_size _ rfl, rfl, _, rfl, rfl⟩
variable (P : Program) (w : World)
def ObjOk (H : Hp) (h : Heap) (a : Addr) : HO → Prop
  | .lst xs => xs.length ≤ sizeLine ∧ ∃ (its : List Value) (n : Nat), Vals xs its ∧ h.get? a = some { cls := .type "list", data := .seq its.toArray n }
  | .tup xs => xs.length ≤ sizeLine ∧ ∃ its : List Value, Vals xs its ∧ IsTupN h a its.toArray
  | .dK kvs => kvs.length ≤ sizeLine ∧ (a == sysModules) = false ∧ ∃ vs, KV kvs vs ∧ h.DictOf (mixKind P w) a vs
  | .dT kvs => kvs.length ≤ sizeLine ∧ (a == sysModules) = false ∧ ∃ xs : List (List Key × Addr × Value),
      Paired (fun (p : List Key × V) (q : List Key × Addr × Value) => p.1 = q.1 ∧ H q.2.1 = some (.tup (p.1.map kV)) ∧ RelV p.2 q.2.2) kvs xs ∧
      ∃ o es ep, h.get? a = some o ∧ o.ExactDict ∧ o.data = .dict es ep ∧ es.toList = xs.map (entryOfKey (tupleKind (mixKind P w))) ∧ (xs.map (·.1)).Nodup
  | .set S n => h.SetOf (intKind P w) a S n
  | .ins C dx fs => H dx = some (.own a) ∧ fs.length ≤ 1000 ∧ dx ≠ a ∧ h.get? a = some (PySem.W.instObj C dx) ∧
      ∃ mA, h.Ns1 dx mA ∧ (∀ f, RelO (fs.lookup f) (mA f)) ∧ PySem.Within mA (fs.map (·.1))
  | .own _ => ∃ o, h.get? a = some o
  | .xd fs => ∃ mA, h.Ns1 a mA ∧ ∀ f, RelO (fs.lookup f) (mA f)
  | .rng lo hi => ∃ t u v, h.get? a = some { cls := .type "range", data := .fields #[.int lo t, .int hi u, .int 1 v] }
  | .frz o u => h.get? a = some o ∧ ObjOk H h a u
  | .tbl ps => h.get? a = some { cls := .none, data := .fields ps }
  | .met f x => h.get? a = some (PySem.W.methodObj (.ref f) (.ref x))
  | .ext φ => φ h ∧ (∃ o, h.get? a = some o) ∧ ∀ h1 h2 : Heap, φ h1 → (∀ o, h1.get? a = some o → h2.get? a = some o) → φ h2
/-- the abstract heap is held -/
def HOk (H : Hp) (h : Heap) : Prop := ∀ a o, H a = some o → ObjOk P w H h a o
end

section
variable {P : Program} {w : World} {H H' : Hp} {h h' : Heap} {a : Addr} {o : HO}
theorem ObjOk.lt (x : ObjOk P w H h a o) : a < h.objs.size := by
  cases o with
  | lst xs => obtain ⟨_, _, _, _, e⟩ := x; exact Heap.lt_size e
  | tup xs => obtain ⟨_, _, _, p⟩ := x; exact p.lt
  | dK kvs => obtain ⟨_, _, _, _, o, _, _, e, _⟩ := x; exact Heap.lt_size e
  | dT kvs => obtain ⟨_, _, _, _, o, _, _, e, _⟩ := x; exact Heap.lt_size e
  | set S n => obtain ⟨o, _, _, _, e, _⟩ := x; exact Heap.lt_size e
  | ins C dx fs => obtain ⟨_, _, _, e, _⟩ := x; exact Heap.lt_size e
  | own y => obtain ⟨_, e⟩ := x; exact Heap.lt_size e
  | xd fs => obtain ⟨_, ⟨_, _, _, e, _⟩, _⟩ := x; exact Heap.lt_size e
  | rng lo hi => obtain ⟨_, _, _, e⟩ := x; exact Heap.lt_size e
  | frz ob u => obtain ⟨e, _⟩ := x; exact Heap.lt_size e
  | tbl ps => exact Heap.lt_size (show h.get? a = some _ from x)
  | met f y => exact Heap.lt_size (show h.get? a = some _ from x)
  | ext φ => obtain ⟨_, ⟨_, e⟩, _⟩ := x; exact Heap.lt_size e
theorem Paired.mapP {α β : Type} {F G : α → β → Prop} : ∀ {l₁ : List α} {l₂ : List β}, Paired F l₁ l₂ → (∀ a b, F a b → G a b) → Paired G l₁ l₂
  | _, _, .nil, _ => .nil
  | _, _, .cons r t, f => .cons (f _ _ r) (Paired.mapP t f)
/-- what an object's description leans on: its own object, its own dict, the tuples -/
theorem ObjOk.stay (x : ObjOk P w H h a o) (k : ∀ b u, (b = a ∨ H b = some (.own a)) → h.get? b = some u → h'.get? b = some u)
    (ho : ∀ b, H b = some (.own a) → H' b = some (.own a)) (ht : ∀ b xs, H b = some (.tup xs) → H' b = some (.tup xs)) : ObjOk P w H' h' a o := by
  induction o with
  | lst xs => obtain ⟨z, its, n, r, e⟩ := x; exact ⟨z, its, n, r, k _ _ (.inl rfl) e⟩
  | tup xs => obtain ⟨z, its, r, ob, e, c⟩ := x; exact ⟨z, its, r, ob, k _ _ (.inl rfl) e, c⟩
  | dK kvs => obtain ⟨z, y, vs, r, ob, es, ep, e, c⟩ := x; exact ⟨z, y, vs, r, ob, es, ep, k _ _ (.inl rfl) e, c⟩
  | dT kvs =>
    obtain ⟨z, y, xs, r, ob, es, ep, e, c⟩ := x
    exact ⟨z, y, xs, Paired.mapP r fun p q z => ⟨z.1, ht _ _ z.2.1, z.2.2⟩, ob, es, ep, k _ _ (.inl rfl) e, c⟩
  | set S n => obtain ⟨ob, es, ep, t, e, c⟩ := x; exact ⟨ob, es, ep, t, k _ _ (.inl rfl) e, c⟩
  | ins C dx fs =>
    obtain ⟨d, z, ne, e, mA, ⟨od, es, ep, e2, c⟩, r⟩ := x
    exact ⟨ho _ d, z, ne, k _ _ (.inl rfl) e, mA, ⟨od, es, ep, k _ _ (.inr d) e2, c⟩, r⟩
  | own y => obtain ⟨ob, e⟩ := x; exact ⟨ob, k _ _ (.inl rfl) e⟩
  | xd fs => obtain ⟨mA, ⟨od, es, ep, e, c⟩, r⟩ := x; exact ⟨mA, ⟨od, es, ep, k _ _ (.inl rfl) e, c⟩, r⟩
  | rng lo hi => obtain ⟨t, u, v, e⟩ := x; exact ⟨t, u, v, k _ _ (.inl rfl) e⟩
  | frz ob u ih => obtain ⟨e, q⟩ := x; exact ⟨k _ _ (.inl rfl) e, ih q⟩
  | tbl ps =>
    have e : h.get? a = some { cls := .none, data := .fields ps } := x
    show h'.get? a = some { cls := .none, data := .fields ps }
    exact k a _ (.inl rfl) e
  | met f y =>
    have e : h.get? a = some (PySem.W.methodObj (.ref f) (.ref y)) := x
    show h'.get? a = some (PySem.W.methodObj (.ref f) (.ref y))
    exact k a _ (.inl rfl) e
  | ext φ => obtain ⟨p, ⟨o, e⟩, st⟩ := x; exact ⟨st _ _ p fun o q => k _ _ (.inl rfl) q, ⟨o, k _ _ (.inl rfl) e⟩, st⟩
theorem HOk.lt (x : HOk P w H h) (e : H a = some o) : a < h.objs.size := (x a o e).lt
theorem HOk.fresh (x : HOk P w H h) (e : h.objs.size ≤ a) : H a = none := by
  cases q : H a with
  | none => rfl
  | some u => exact absurd (Nat.lt_of_lt_of_le (x.lt q) e) (Nat.lt_irrefl _)
/-- every object of the heap is kept -/
theorem HOk.kept (x : HOk P w H h) (k : ∀ b u, h.get? b = some u → h'.get? b = some u) : HOk P w H h' := fun a o e =>
  (x a o e).stay (fun b u _ q => k b u q) (fun _ q => q) fun _ _ q => q
/-- a new object is laid and tracked -/
theorem HOk.laid (x : HOk P w H h) (k : ∀ b u, h.get? b = some u → h'.get? b = some u) (hp : h.objs.size ≤ a) (new : ObjOk P w (upd H a o) h' a o) : HOk P w (upd H a o) h' := fun b u e => by
  have hn := x.fresh hp
  by_cases hb : b = a
  · subst hb; rw [upd_same] at e; cases e; exact new
  · rw [upd_ne hb] at e
    exact (x b u e).stay (fun c v _ q => k c v q) (fun c q => by rw [upd_ne (ne_of_none q hn)]; exact q) fun c xs q => by rw [upd_ne (ne_of_none q hn)]; exact q
end

/-- what may be read as u: it is u, or a known u -/
def Rd (H : Hp) (a : Addr) (u : HO) : Prop := H a = some u ∨ ∃ o, H a = some (.frz o u)
theorem Rd.of {H : Hp} {a : Addr} {u : HO} (h : H a = some u) : Rd H a u := .inl h
theorem Rd.ok {P : Program} {w : World} {H : Hp} {h : Heap} {a : Addr} {u : HO} (r : Rd H a u) (x : HOk P w H h) : ObjOk P w H h a u := by
  rcases r with r | ⟨o, r⟩
  · exact x a u r
  · obtain ⟨_, q⟩ := x a _ r
    exact q
/-- what may be written -/
def Mut : Option HO → Prop
  | some (.lst _) => True
  | some (.dK _) => True
  | some (.dT _) => True
  | some (.set _ _) => True
  | some (.ins _ _ _) => True
  | some (.ext _) => True
  | _ => False
section
variable {P : Program} {w : World} {H : Hp} {h h' : Heap} {x e : Addr} {o' : HO}
/-- the object at e is changed: x itself, or the dict of the instance x -/
theorem HOk.write (ok : HOk P w H h) (mu : Mut (H x)) (he : e = x ∨ H e = some (.own x)) (k : ∀ b u, b ≠ e → h.get? b = some u → h'.get? b = some u) (heo : ∃ u, h'.get? e = some u)
    (new : ObjOk P w (upd H x o') h' x o') : HOk P w (upd H x o') h' := fun b u q => by
  have nown : ∀ c y, H c = some (.own y) → c ≠ x := fun c y r z => by subst z; rw [r] at mu; exact mu
  have ntup : ∀ c xs, H c = some (.tup xs) → c ≠ x := fun c xs r z => by subst z; rw [r] at mu; exact mu
  by_cases hb : b = x
  · subst hb; rw [upd_same] at q; cases q; exact new
  · rw [upd_ne hb] at q
    by_cases hbe : b = e
    · have q' : H b = some (.own x) := by
        rcases he with z | z
        · exact absurd (hbe.trans z) hb
        · rw [hbe]; exact z
      rw [q] at q'; cases q'
      obtain ⟨v, hv⟩ := heo
      exact ⟨v, by rw [hbe]; exact hv⟩
    · refine (ok b u q).stay (fun c v hc r => k c v ?_ r) (fun c r => by rw [upd_ne (nown c b r)]; exact r) fun c xs r => by rw [upd_ne (ntup c xs r)]; exact r
      rcases hc with rfl | hc
      · exact hbe
      · rintro rfl
        rcases he with z | z
        · exact nown c b hc z
        · rw [hc] at z; cases z; exact hb rfl
end

structure Un (fs ex : List Addr) (H H' : Hp) (h h' : Heap) : Prop where
  keep : ∀ b o, h.get? b = some o → H b = none → b ∉ fs → b ∉ ex → h'.get? b = some o
  slot : ∀ b o, h.get? b = some o → H b = none → b ∈ fs → b ∉ ex → ∃ sl, h'.get? b = some { o with slots := sl }
  free : ∀ b o, h.get? b = some o → H b = none → b ∉ ex → H' b = none
  there : ∀ b o, h.get? b = some o → b ∉ ex → ∃ o', h'.get? b = some o'
  tups : ∀ b xs, H b = some (.tup xs) → H' b = some (.tup xs)
  frzs : ∀ b o u, H b = some (.frz o u) → H' b = some (.frz o u)
  tbls : ∀ b ps, H b = some (.tbl ps) → ∃ more, H' b = some (.tbl (ps ++ more))
section
variable {fs fs' ex ex' : List Addr} {H H1 H2 : Hp} {h h1 h2 h' : Heap} {a x e : Addr} {o : HO}
theorem Un.any (u : Un fs ex H H1 h h1) {b : Addr} {ob : Obj} (q : h.get? b = some ob) (n : H b = none) (hx : b ∉ ex) : ∃ sl, h1.get? b = some { ob with slots := sl } := by
  by_cases hb : b ∈ fs
  · exact u.slot b ob q n hb hx
  · exact ⟨ob.slots, u.keep b ob q n hb hx⟩
theorem Un.trans (a : Un fs ex H H1 h h1) (b : Un fs ex H1 H2 h1 h2) : Un fs ex H H2 h h2 where
  keep := fun c ob q n hc hx => b.keep c ob (a.keep c ob q n hc hx) (a.free c ob q n hx) hc hx
  slot := fun c ob q n hc hx => by
    obtain ⟨sl, e1⟩ := a.slot c ob q n hc hx
    obtain ⟨sl', e2⟩ := b.slot c _ e1 (a.free c ob q n hx) hc hx
    exact ⟨sl', e2⟩
  free := fun c ob q n hx => by
    obtain ⟨o', e1⟩ := a.there c ob q hx
    exact b.free c o' e1 (a.free c ob q n hx) hx
  there := fun c ob q hx => by
    obtain ⟨o', e1⟩ := a.there c ob q hx
    exact b.there c o' e1 hx
  tups := fun c xs q => b.tups c xs (a.tups c xs q)
  frzs := fun c ob xs q => b.frzs c ob xs (a.frzs c ob xs q)
  tbls := fun c ps q => by
    obtain ⟨m1, e1⟩ := a.tbls c ps q
    obtain ⟨m2, e2⟩ := b.tbls c _ e1
    exact ⟨m1 ++ m2, by rw [e2, Array.append_assoc]⟩
theorem Un.kept (k : ∀ b u, h.get? b = some u → h'.get? b = some u) : Un fs ex H H h h' :=
  ⟨fun b ob q _ _ _ => k b ob q, fun b ob q _ _ _ => ⟨ob.slots, k b ob q⟩, fun _ _ _ n _ => n, fun b ob q _ => ⟨ob, k b ob q⟩, fun _ _ q => q, fun _ _ _ q => q, fun _ ps q => ⟨#[], by rw [q]; simp⟩⟩
theorem Un.refl : Un fs ex H H h h := Un.kept fun _ _ q => q
theorem Un.laid (k : ∀ b u, h.get? b = some u → h'.get? b = some u) (hp : h.objs.size ≤ a) (hn : H a = none) : Un fs ex H (upd H a o) h h' where
  keep := fun b u q _ _ _ => k b u q
  slot := fun b u q _ _ _ => ⟨u.slots, k b u q⟩
  free := fun b u q n _ => by rw [upd_ne (Nat.ne_of_lt (Nat.lt_of_lt_of_le (Heap.lt_size q) hp))]; exact n
  there := fun b u q _ => ⟨u, k b u q⟩
  tups := fun b xs q => by rw [upd_ne (ne_of_none q hn)]; exact q
  frzs := fun b u xs q => by rw [upd_ne (ne_of_none q hn)]; exact q
  tbls := fun b ps q => ⟨#[], by rw [upd_ne (ne_of_none q hn), q]; simp⟩
theorem Un.write (mu : Mut (H x)) (he : e = x ∨ H e = some (.own x)) (k : ∀ b u, b ≠ e → h.get? b = some u → h'.get? b = some u) (heo : ∃ u, h'.get? e = some u) : Un fs ex H (upd H x o) h h' := by
  have hx : ∀ b, H b = none → b ≠ x := fun b n z => by subst z; rw [n] at mu; exact mu
  have hb : ∀ b, H b = none → b ≠ e := fun b n z => by
    subst z
    rcases he with r | r
    · exact hx b n r
    · rw [n] at r; cases r
  have hm : ∀ b u, H b = some u → ¬ Mut (some u) → b ≠ x := fun b u q nm z => by subst z; rw [q] at mu; exact nm mu
  refine ⟨fun b u q n _ _ => k b u (hb b n) q, fun b u q n _ _ => ⟨u.slots, k b u (hb b n) q⟩, fun b u q n _ => by rw [upd_ne (hx b n)]; exact n, fun b u q _ => ?_,
    fun b xs q => by rw [upd_ne (hm b _ q fun z => z)]; exact q, fun b u xs q => by rw [upd_ne (hm b _ q fun z => z)]; exact q, fun b ps q => ⟨#[], by rw [upd_ne (hm b _ q fun z => z), q]; simp⟩⟩
  by_cases hbe : b = e
  · subst hbe; exact heo
  · exact ⟨u, k b u hbe q⟩
theorem Un.mono (u : Un fs ex H H1 h h1) (hs : ∀ b ∈ fs, b ∈ fs') (hx : ∀ b ∈ ex, b ∈ ex') : Un fs' ex' H H1 h h1 :=
  ⟨fun b ob q n hb he => u.keep b ob q n (fun z => hb (hs b z)) fun z => he (hx b z), fun _ _ q n _ he => u.any q n fun z => he (hx _ z), fun b ob q n he => u.free b ob q n fun z => he (hx b z), fun b ob q he => u.there b ob q fun z => he (hx b z), u.tups, u.frzs, u.tbls⟩
end

def trk (h : Heap) (H : Hp) : List Addr := (List.range h.objs.size).filter fun a => (H a).isSome
def hidT (h : Heap) (H : Hp) : Heap := PySem.W.hideAll h (trk h H)
theorem hidT_size (h : Heap) (H : Hp) : (hidT h H).objs.size = h.objs.size := PySem.W.hideAll_size _ _
theorem hidT_get {h : Heap} {H : Hp} {b : Addr} {o : Obj} (e : h.get? b = some o) (n : H b = none) : (hidT h H).get? b = some o :=
  PySem.W.hideAll_get _ e fun hm => by
    have q : (H b).isSome = true := (List.mem_filter.mp hm).2
    rw [n] at q; simp at q
theorem of_hidT {h : Heap} {H : Hp} {b : Addr} {o : Obj} (e : (hidT h H).get? b = some o) : h.get? b = some o ∧ H b = none := by
  have e' : h.get? b = some o := PySem.W.of_hideAll (trk h H) e
  refine ⟨e', ?_⟩
  cases q : H b with
  | none => rfl
  | some x =>
    have hm : b ∈ trk h H := List.mem_filter.mpr ⟨List.mem_range.mpr (Heap.lt_size e'), by simp [q]⟩
    have z : (hidT h H).get? b = none := PySem.W.hideAll_none (trk h H) hm
    rw [z] at e; cases e

def allNews (g h : Heap) (L : Addr) : List (Addr × Obj) := (List.range h.objs.size).filterMap fun a => if a = L ∨ (g.get? a).isSome = true then none else (h.get? a).map fun o => (a, o)
def rest (g h : Heap) (L d : Addr) : List (Addr × Obj) := (allNews g h L).filter fun p => decide (p.1 ≠ d)
end L2

namespace L2
open PySem PySem.Spec PyProof.Rows

/-- the module's facts, over the base: the heap at the law's entry without what is tracked there -/
structure Mod (K : PySem.W.Frag) (mg : Str → Option Value) (base : Heap) : Prop where
  kin : K.In base
  glob : base.Ns mainGlobals mg
  blt : ∃ mb, base.Ns builtinsNs mb ∧ ∀ x : Str, x ≠ "__name__" → mb x = bootBuiltins x
  nolimit : base.NoLimit

/-- the context: a def's body (or a comprehension's block) running. base: fixed through the whole law; s₀, H₀: the entry; outer: the frames whose slots others may change (a def's callers); stack: all frames that run;
   ex: iterators that were made ahead of the entry and are walked here (a comprehension's); fn: the names whose cells were made at the entry (a def: all; a comprehension's block: its own); calm: not within an except suite; pn: pins that every state bears; xe: what is wanted of an exception that leaves the code -/
structure Cx where
  prog : Program
  w : World
  K : PySem.W.Frag
  mg : Str → Option Value
  base : Heap
  A : Around
  N : List Str
  s₀ : Shared
  H₀ : Hp
  env : Env
  outer : List Env
  stack : List Env
  ex : List Addr
  fn : Str → Bool
  calm : Bool
  pn : List (Addr × Obj)
  xe : Value → Shared → Prop
/-- the callers' frames -/
def frs (l : List Env) : List Addr := l.filterMap (·.frame)
abbrev Cx.fs (X : Cx) : List Addr := frs X.outer

def Vis (sc : Scope) (x : Str) : Prop := sc.names.lookup x = some .local ∨ sc.names.lookup x = some .cell ∨ sc.names.lookup x = some .free
def Loc (sc : Scope) (x : Str) : Prop := sc.names.lookup x = some .local ∨ sc.names.lookup x = some .cell
def Look (env : Env) (h : Heap) (m : Str → Option Value) (x : Str) (u : Value) : Prop :=
  (env.kindOf x = some .local ∧ m x = some u) ∨ ((env.kindOf x = some .cell ∨ env.kindOf x = some .free) ∧ ∃ c, env.cells.lookup x = some c ∧ h.IsCell c (some u))

structure Cx.Ok (X : Cx) : Prop where
  mod : Mod X.K X.mg X.base
  kind : X.env.scope.kind = .function
  glob : X.env.globals = mainGlobals
  blt : X.env.builtins = builtinsNs
  above : X.s₀.heap.objs.size ≤ X.env.locals
  inj : ∀ x y c, X.env.cells.lookup x = some c → X.env.cells.lookup y = some c → x = y
  has : ∀ x, (X.env.kindOf x = some .cell ∨ X.env.kindOf x = some .free) → ∃ c, X.env.cells.lookup x = some c
  cab : ∀ x c, X.fn x = true → X.env.cells.lookup x = some c → X.s₀.heap.objs.size ≤ c
  hd : X.calm = true → X.A.handled = none
  frames : X.A.frames = some X.stack
  stk : X.stack = X.outer ∨ (X.stack = X.env :: X.outer ∧ X.env.frame = some X.env.locals)
  exf : ∀ b ∈ X.ex, b ≠ X.env.locals ∧ ∀ x c, X.env.cells.lookup x = some c → c ≠ b
  bs : ∀ b o, X.base.get? b = some o → X.s₀.heap.get? b = some o ∧ X.H₀ b = none
  bsz : X.base.objs.size ≤ X.s₀.heap.objs.size
  noex : ∀ b o, X.base.get? b = some o → b ∉ X.ex
  exfs : ∀ b ∈ X.ex, b ∉ X.fs
  funs : X.s₀.heap.FunFrames X.base X.outer
  frf : ∀ b ∈ X.fs, X.H₀ b = none

structure Inv (X : Cx) (pins : List (Addr × Obj)) (σ : List (Option V)) (H : Hp) (s : Shared) : Prop where
  ok : X.Ok
  os : s.os = X.s₀.os
  bare : AllBare s.gens
  base : Un X.fs X.ex X.H₀ H X.s₀.heap s.heap
  loc : ∃ m, s.heap.Ns X.env.locals m ∧ ∀ (i : Nat) (x : Str) (v : V), X.N[i]? = some x → σ[i]? = some (some v) → Vis X.env.scope x → ∃ u, RelV v u ∧ Look X.env s.heap m x u
  cell : ∀ x c, X.env.cells.lookup x = some c → ∃ v, s.heap.IsCell c v
  free : H X.env.locals = none
  freeC : ∀ x c, X.env.cells.lookup x = some c → H c = none
  pin : ∀ p ∈ X.pn ++ pins, s.heap.get? p.1 = some p.2 ∧ H p.1 = none ∧ p.1 ≠ X.env.locals ∧ p.1 ∉ X.fs ∧ ∀ v, p.2.data ≠ .cell v
  hok : HOk X.prog X.w H s.heap
  len : σ.length = X.N.length

section
variable {X : Cx} {pins : List (Addr × Obj)} {σ : List (Option V)} {H H' : Hp} {s : Shared} {h' : Heap}

theorem Cx.Ok.nofr (ok : X.Ok) {b : Addr} {o : Obj} (e : X.base.get? b = some o) : b ∉ X.fs := fun hb => by
  have := (ok.funs.mem hb).1
  rw [e] at this; cases this
theorem Inv.bs (I : Inv X pins σ H s) : ∀ b o, X.base.get? b = some o → s.heap.get? b = some o ∧ H b = none := fun b o e =>
  ⟨I.base.keep b o (I.ok.bs b o e).1 (I.ok.bs b o e).2 (I.ok.nofr e) (I.ok.noex b o e), I.base.free b o (I.ok.bs b o e).1 (I.ok.bs b o e).2 (I.ok.noex b o e)⟩
theorem Inv.bk (I : Inv X pins σ H s) : ∀ b o, X.base.get? b = some o → s.heap.get? b = some o := fun b o e => (I.bs b o e).1
theorem Inv.mod (I : Inv X pins σ H s) : Mod X.K X.mg X.base := I.ok.mod
theorem Inv.kIn (I : Inv X pins σ H s) : X.K.In s.heap := I.ok.mod.kin.keeps I.bk
theorem Inv.nolimit (I : Inv X pins σ H s) : s.heap.NoLimit := I.ok.mod.nolimit.keeps I.bk
/-- the frame over the base: for OpenK's rules (K.In X.base is I.mod.kin) -/
theorem Inv.fr (I : Inv X pins σ H s) : ∃ m, Fr X.base X.env.locals s.heap m :=
  let ⟨m, hn, _⟩ := I.loc
  ⟨m, hn, I.bk, Nat.le_trans I.ok.bsz I.ok.above⟩
theorem Inv.lt (I : Inv X pins σ H s) : X.env.locals < s.heap.objs.size := let ⟨_, hn, _⟩ := I.loc; hn.lt
theorem Inv.sz (I : Inv X pins σ H s) : X.s₀.heap.objs.size ≤ s.heap.objs.size := Nat.le_trans I.ok.above (Nat.le_of_lt I.lt)
theorem Inv.nofs (I : Inv X pins σ H s) {a : Addr} (h : s.heap.objs.size ≤ a) : a ∉ X.fs := fun hb => by
  obtain ⟨_, o, ho, _⟩ := I.ok.funs.mem hb
  exact absurd (Nat.lt_of_lt_of_le (Heap.lt_size ho) (Nat.le_trans I.sz h)) (Nat.lt_irrefl _)
theorem Inv.cne (I : Inv X pins σ H s) : ∀ x c, X.env.cells.lookup x = some c → c ≠ X.env.locals := fun x c e z => by
  obtain ⟨v, o, ho, hd⟩ := I.cell x c e
  obtain ⟨m, ⟨o', es, ep, ho', hd', _⟩, _⟩ := I.loc
  rw [z, ho'] at ho; cases ho; rw [hd'] at hd; cases hd
theorem Inv.funs (I : Inv X pins σ H s) : s.heap.FunFrames X.base X.outer := by
  have all : ∀ (l : List Env), (∀ b ∈ frs l, b ∈ X.fs) → X.s₀.heap.FunFrames X.base l → s.heap.FunFrames X.base l := by
    intro l
    induction l with
    | nil => intro _ _; trivial
    | cons env r ih =>
      intro hs hl
      obtain ⟨hk, ⟨L, o, hf, hn, ho, hd⟩, hr⟩ := hl
      have hL : L ∈ X.fs := hs L (by unfold frs; rw [List.filterMap_cons, hf]; exact List.mem_cons_self)
      obtain ⟨sl, e⟩ := I.base.slot L o ho (I.ok.frf L hL) hL fun z => I.ok.exfs L z hL
      exact ⟨hk, ⟨L, _, hf, hn, e, hd⟩, ih (fun b hb => hs b (by unfold frs; rw [List.filterMap_cons, hf]; exact List.mem_cons_of_mem _ hb)) hr⟩
  exact all X.outer (fun _ hb => hb) I.ok.funs

/-- the frames that run, for a call -/
theorem Inv.stack (I : Inv X pins σ H s) : s.heap.FunFrames X.base X.stack := by
  rcases I.ok.stk with e | ⟨e, hf⟩
  · rw [e]; exact I.funs
  · rw [e]
    obtain ⟨m, hn, _⟩ := I.loc
    refine .cons (by rw [I.ok.kind]; decide) hf hn ?_ I.funs
    exact Heap.get?_none_of_le (Nat.le_trans I.ok.bsz I.ok.above)
theorem Inv.stkSub (I : Inv X pins σ H s) : ∀ b ∈ frs X.stack, b ∈ X.env.locals :: X.fs := fun b hb => by
  rcases I.ok.stk with e | ⟨e, hf⟩
  · rw [e] at hb; exact List.mem_cons_of_mem _ hb
  · rw [e] at hb
    unfold frs at hb
    rw [List.filterMap_cons, hf] at hb
    exact hb
theorem Inv.stkFree (I : Inv X pins σ H s) : ∀ b ∈ frs X.stack, H b = none := fun b hb => by
  rcases List.mem_cons.mp (I.stkSub b hb) with e | hb
  · rw [e]; exact I.free
  · obtain ⟨_, o, ho, _⟩ := I.ok.funs.mem hb
    exact I.base.free b o ho (I.ok.frf b hb) fun z => I.ok.exfs b z hb

/-- THE STEP: the untracked objects but the frame and the records at ch are kept (the callers' frames up to slots), the frame's map is kept, the new abstract heap is held -/
theorem Inv.step {g' : Array GenState} {t' : Nat} {d' : Drawn} {ch : List Addr} (I : Inv X pins σ H s)
    (hch : ∀ b ∈ ch, (b ∈ X.ex ∨ X.s₀.heap.objs.size ≤ b) ∧ b ≠ X.env.locals ∧ (∀ x c, X.env.cells.lookup x = some c → c ≠ b) ∧ ∀ p ∈ X.pn ++ pins, p.1 ≠ b)
    (keep : ∀ b o, b ≠ X.env.locals → b ∉ X.fs → b ∉ ch → s.heap.get? b = some o → H b = none → h'.get? b = some o)
    (slot : ∀ b o, b ≠ X.env.locals → b ∈ X.fs → b ∉ ch → s.heap.get? b = some o → H b = none → ∃ sl, h'.get? b = some { o with slots := sl }) (free : ∀ b o, b ∉ ch → s.heap.get? b = some o → H b = none → H' b = none)
    (there : ∀ b o, b ∉ ch → s.heap.get? b = some o → ∃ o', h'.get? b = some o')
    (tups : ∀ b xs, H b = some (.tup xs) → H' b = some (.tup xs)) (frzs : ∀ b o u, H b = some (.frz o u) → H' b = some (.frz o u)) (tbls : ∀ b ps, H b = some (.tbl ps) → ∃ more, H' b = some (.tbl (ps ++ more)))
    (ns : ∀ m, s.heap.Ns X.env.locals m → h'.Ns X.env.locals m) (hok : HOk X.prog X.w H' h') (hg : AllBare g') :
    Inv X pins σ H' { s with heap := h', gens := g', drawn := d', toks := t' } := by
  have neL : ∀ b o, X.s₀.heap.get? b = some o → b ≠ X.env.locals := fun b o e => Nat.ne_of_lt (Nat.lt_of_lt_of_le (Heap.lt_size e) I.ok.above)
  have neC : ∀ b o, X.s₀.heap.get? b = some o → b ∉ X.ex → b ∉ ch := fun b o e hx hb => by
    rcases (hch b hb).1 with z | z
    · exact hx z
    · exact absurd (Nat.lt_of_lt_of_le (Heap.lt_size e) z) (Nat.lt_irrefl _)
  have cellK : ∀ x c, X.env.cells.lookup x = some c → ∀ v, s.heap.IsCell c v → h'.IsCell c v := fun x c e v ⟨o, ho, hd⟩ => by
    have nch : c ∉ ch := fun z => (hch c z).2.2.1 x c e rfl
    by_cases hc : c ∈ X.fs
    · obtain ⟨sl, q⟩ := slot c o (I.cne x c e) hc nch ho (I.freeC x c e)
      exact ⟨_, q, hd⟩
    · exact ⟨o, keep c o (I.cne x c e) hc nch ho (I.freeC x c e), hd⟩
  refine ⟨I.ok, I.os, hg, ⟨fun b o e n hb hx => ?_, fun b o e n hb hx => ?_, fun b o e n hx => ?_, fun b o e hx => ?_, fun b xs e => tups b xs (I.base.tups b xs e), fun b o xs e => frzs b o xs (I.base.frzs b o xs e), fun b ps e => ?_⟩, ?_, fun x c e => ?_, ?_, fun x c e => ?_, fun p hp => ?_, hok, I.len⟩
  · exact keep b o (neL b o e) hb (neC b o e hx) (I.base.keep b o e n hb hx) (I.base.free b o e n hx)
  · obtain ⟨sl, e1⟩ := I.base.slot b o e n hb hx
    obtain ⟨sl', e2⟩ := slot b _ (neL b o e) hb (neC b o e hx) e1 (I.base.free b o e n hx)
    exact ⟨sl', e2⟩
  · obtain ⟨o', e1⟩ := I.base.there b o e hx
    exact free b o' (neC b o e hx) e1 (I.base.free b o e n hx)
  · obtain ⟨o', e1⟩ := I.base.there b o e hx
    exact there b o' (neC b o e hx) e1
  · obtain ⟨m1, e1⟩ := I.base.tbls b ps e
    obtain ⟨m2, e2⟩ := tbls b _ e1
    exact ⟨m1 ++ m2, by rw [e2, Array.append_assoc]⟩
  · obtain ⟨m, hn, hl⟩ := I.loc
    refine ⟨m, ns m hn, fun i x v e1 e2 e3 => ?_⟩
    obtain ⟨u, r, l⟩ := hl i x v e1 e2 e3
    refine ⟨u, r, ?_⟩
    rcases l with l | ⟨k, c, e, z⟩
    · exact .inl l
    · exact .inr ⟨k, c, e, cellK x c e _ z⟩
  · obtain ⟨v, z⟩ := I.cell x c e
    exact ⟨v, cellK x c e v z⟩
  · obtain ⟨m, ⟨o, _, _, ho, _⟩, _⟩ := I.loc
    exact free _ o (fun z => (hch _ z).2.1 rfl) ho I.free
  · obtain ⟨v, o, ho, hd⟩ := I.cell x c e
    exact free c o (fun z => (hch c z).2.2.1 x c e rfl) ho (I.freeC x c e)
  · obtain ⟨e, n, ne, nf, d⟩ := I.pin p hp
    have nch : p.1 ∉ ch := fun z => (hch p.1 z).2.2.2 p hp rfl
    exact ⟨keep p.1 p.2 ne nf nch e n, free p.1 p.2 nch e n, ne, nf, d⟩
/-- .. where the frame's own object is kept too -/
theorem Inv.un {t' : Nat} (I : Inv X pins σ H s) (u : Un X.fs [] H H' s.heap h') (hok : HOk X.prog X.w H' h') : Inv X pins σ H' { s with heap := h', toks := t' } := by
  obtain ⟨m, ⟨o, es, ep, ho, r⟩, _⟩ := id I.loc
  obtain ⟨sl, hL⟩ := u.any ho I.free (by simp)
  exact I.step (g' := s.gens) (d' := s.drawn) (ch := []) (fun _ z => nomatch z) (fun b o _ hb _ e n => u.keep b o e n hb (by simp)) (fun b o _ hb _ e n => u.slot b o e n hb (by simp)) (fun b o _ e n => u.free b o e n (by simp)) (fun b o _ e => u.there b o e (by simp)) u.tups u.frzs u.tbls (fun m' hm => by
    obtain ⟨o', es', ep', ho', r'⟩ := hm
    rw [ho] at ho'; cases ho'
    exact ⟨_, es', ep', hL, r'⟩) hok I.bare
/-- behind a call (or a comprehension's block): the slots of this frame may have changed too, the records at ch may have turned -/
theorem Inv.call {g' : Array GenState} {t' : Nat} {d' : Drawn} {ch : List Addr} (I : Inv X pins σ H s) (u : Un (frs X.stack) ch H H' s.heap h') (hok : HOk X.prog X.w H' h') (hg : AllBare g')
    (hch : ∀ b ∈ ch, (b ∈ X.ex ∨ X.s₀.heap.objs.size ≤ b) ∧ b ≠ X.env.locals ∧ (∀ x c, X.env.cells.lookup x = some c → c ≠ b) ∧ ∀ p ∈ X.pn ++ pins, p.1 ≠ b) :
    Inv X pins σ H' { s with heap := h', gens := g', drawn := d', toks := t' } := by
  obtain ⟨m, ⟨o, es, ep, ho, r⟩, _⟩ := id I.loc
  obtain ⟨sl, hL⟩ := u.any ho I.free fun z => (hch _ z).2.1 rfl
  exact I.step (ch := ch) hch (fun b o hL hb hc e n => u.keep b o e n (fun z => (List.mem_cons.mp (I.stkSub b z)).elim hL hb) hc) (fun b o _ _ hc e n => u.any e n hc) (fun b o hc e n => u.free b o e n hc) (fun b o hc e => u.there b o e hc) u.tups u.frzs u.tbls (fun m' hm => by
    obtain ⟨o', es', ep', ho', r'⟩ := hm
    rw [ho] at ho'; cases ho'
    exact ⟨_, es', ep', hL, r'⟩) hok hg
/-- an untracked record of ours (an iterator) has turned -/
theorem Inv.turned {t' : Nat} {it : Addr} (I : Inv X pins σ H s) (k : ∀ b o, b ≠ it → s.heap.get? b = some o → h'.get? b = some o) (hn : H it = none) (hL : it ≠ X.env.locals)
    (h1 : it ∈ X.ex ∨ X.s₀.heap.objs.size ≤ it) (h2 : ∀ x c, X.env.cells.lookup x = some c → c ≠ it) (h3 : ∀ p ∈ X.pn ++ pins, p.1 ≠ it) : Inv X pins σ H { s with heap := h', toks := t' } := by
  have nit : ∀ b u, H b = some u → b ≠ it := fun b u e z => by rw [z, hn] at e; cases e
  refine I.step (g' := s.gens) (d' := s.drawn) (ch := [it]) (fun b hb => ?_) (fun b o _ _ hc e _ => k b o (fun z => hc (by simp [z])) e) (fun b o _ _ hc e _ => ⟨o.slots, k b o (fun z => hc (by simp [z])) e⟩) (fun _ _ _ _ n => n)
    (fun b o hc e => ⟨o, k b o (fun z => hc (by simp [z])) e⟩) (fun _ _ e => e) (fun _ _ _ e => e) (fun b ps e => ⟨#[], by rw [e]; simp⟩) (fun m hm => ?_) (fun b u e => ?_) I.bare
  · have e : b = it := by simpa using hb
    subst e
    exact ⟨h1, hL, h2, h3⟩
  · obtain ⟨o, es, ep, ho, r⟩ := hm
    exact ⟨o, es, ep, k _ o (Ne.symm hL) ho, r⟩
  · refine (I.hok b u e).stay (fun c v hc q => k c v ?_ q) (fun _ q => q) fun _ _ q => q
    rcases hc with z | z
    · rw [z]; exact nit b u e
    · exact nit c _ z
theorem Inv.tok (I : Inv X pins σ H s) (t : Nat) : Inv X pins σ H { s with toks := t } := I.un (h' := s.heap) (t' := t) Un.refl I.hok
/-- all objects kept -/
theorem Inv.kept {t' : Nat} (I : Inv X pins σ H s) (k : ∀ b u, s.heap.get? b = some u → h'.get? b = some u) : Inv X pins σ H { s with heap := h', toks := t' } := I.un (Un.kept k) (I.hok.kept k)
/-- a new object laid and tracked -/
theorem Inv.laid {a : Addr} {o : HO} {t' : Nat} (I : Inv X pins σ H s) (k : ∀ b u, s.heap.get? b = some u → h'.get? b = some u) (hp : s.heap.objs.size ≤ a) (new : ObjOk X.prog X.w (upd H a o) h' a o) :
    Inv X pins σ (upd H a o) { s with heap := h', toks := t' } := I.un (Un.laid k hp (I.hok.fresh hp)) (I.hok.laid k hp new)
/-- an object written -/
theorem Inv.write {x e : Addr} {o : HO} {t' : Nat} (I : Inv X pins σ H s) (mu : Mut (H x)) (he : e = x ∨ H e = some (.own x)) (k : ∀ b u, b ≠ e → s.heap.get? b = some u → h'.get? b = some u) (heo : ∃ u, h'.get? e = some u)
    (new : ObjOk X.prog X.w (upd H x o) h' x o) : Inv X pins σ (upd H x o) { s with heap := h', toks := t' } := I.un (Un.write mu he k heo) (I.hok.write mu he k heo new)
theorem Inv.pins_of {pins' : List (Addr × Obj)} (I : Inv X pins σ H s) (h : ∀ p ∈ pins', s.heap.get? p.1 = some p.2 ∧ H p.1 = none ∧ p.1 ≠ X.env.locals ∧ p.1 ∉ X.fs ∧ ∀ v, p.2.data ≠ .cell v) : Inv X pins' σ H s :=
  ⟨I.ok, I.os, I.bare, I.base, I.loc, I.cell, I.free, I.freeC, fun p hp => (List.mem_append.mp hp).elim (fun z => I.pin p (List.mem_append_left _ z)) (h p), I.hok, I.len⟩

theorem nodup_ix {N : List Str} (hN : N.Nodup) {i j : Nat} {x : Str} (a : N[i]? = some x) (b : N[j]? = some x) : i = j := by
  obtain ⟨h1, e1⟩ := List.getElem?_eq_some_iff.mp a
  obtain ⟨h2, e2⟩ := List.getElem?_eq_some_iff.mp b
  exact (List.getElem_inj hN).mp (e1.trans e2.symm)

/-- a name is stored; what changed -/
theorem store_ok2 {M : Model} {A : Around} {E : Value → Shared → Prop} {i : Nat} {x : Str} {v : V} {u : Value} {Q : Unit → Shared → Prop} (I : Inv X pins σ H s) (hN : X.N.Nodup) (hi : X.N[i]? = some x) (hx : Loc X.env.scope x) (r : RelV v u)
    (h : ∀ s', Inv X pins (σ.set i (some v)) H s' → (∃ a, Heap.SameBut a s.heap s'.heap ∧ (a = X.env.locals ∨ X.env.cells.lookup x = some a)) → Q () s') (hf : X.fn x = true ∨ X.env.scope.names.lookup x = some .local := by first | exact .inl rfl | exact .inr rfl | assumption) : wpAny M A (storeName X.env x u) Q E s := by
  obtain ⟨m, hn, hl⟩ := id I.loc
  have hcls : (X.env.scope.kind == .class || (X.env.scope.kind == .module && X.env.locals != X.env.globals)) = false := by rw [I.ok.kind]; rfl
  have hiσ : i < σ.length := by rw [I.len]; exact (List.getElem?_eq_some_iff.mp hi).1
  have cne := I.cne
  have tracked : ∀ {a : Addr} {h' : Heap}, (∃ o, s.heap.get? a = some o ∧ H a = none) → Heap.SameBut a s.heap h' → HOk X.prog X.w H h' := fun {a h'} ha hs b ob e => by
    obtain ⟨_, _, hfree⟩ := ha
    refine (I.hok b ob e).stay (fun c w' hc q => (hs.2 c ?_).trans q) (fun _ q => q) fun _ _ q => q
    rintro rfl
    rcases hc with rfl | hc
    · rw [hfree] at e; cases e
    · rw [hfree] at hc; cases hc
  rcases hx with hk | hk
  · refine wpAny_storeName_local hk hn (fun h' hn' hs => ?_) hcls
    obtain ⟨oL, _, _, hoL, _⟩ := id hn
    refine h _ ⟨I.ok, I.os, I.bare, ⟨fun b o e n hb hx => ?_, fun b o e n hb hx => ?_, I.base.free, fun b o e hx => ?_, I.base.tups, I.base.frzs, I.base.tbls⟩, ⟨_, hn', fun j y v' e1 e2 e3 => ?_⟩, fun y c e => ?_, I.free, I.freeC, fun p hp => ?_, tracked ⟨oL, hoL, I.free⟩ hs, by simpa using I.len⟩ ⟨_, hs, .inl rfl⟩
    · exact (hs.2 b (Nat.ne_of_lt (Nat.lt_of_lt_of_le (Heap.lt_size e) I.ok.above))).trans (I.base.keep b o e n hb hx)
    · obtain ⟨sl, e1⟩ := I.base.slot b o e n hb hx
      exact ⟨sl, (hs.2 b (Nat.ne_of_lt (Nat.lt_of_lt_of_le (Heap.lt_size e) I.ok.above))).trans e1⟩
    · obtain ⟨o', e1⟩ := I.base.there b o e hx
      exact ⟨o', (hs.2 b (Nat.ne_of_lt (Nat.lt_of_lt_of_le (Heap.lt_size e) I.ok.above))).trans e1⟩
    · by_cases hj : j = i
      · subst hj
        rw [hi] at e1; cases e1
        rw [List.getElem?_set_self hiσ] at e2
        cases e2
        exact ⟨u, r, .inl ⟨hk, by simp⟩⟩
      · rw [List.getElem?_set_ne (Ne.symm hj)] at e2
        obtain ⟨u', r', q⟩ := hl j y v' e1 e2 e3
        refine ⟨u', r', ?_⟩
        rcases q with ⟨k, e⟩ | ⟨k, c, e, z⟩
        · refine .inl ⟨k, ?_⟩
          have : y ≠ x := fun e => hj (nodup_ix hN e1 (e ▸ hi))
          simp [this, e]
        · exact .inr ⟨k, c, e, z.sameBut hs (cne y c e)⟩
    · obtain ⟨w', z⟩ := I.cell y c e
      exact ⟨w', z.sameBut hs (cne y c e)⟩
    · obtain ⟨e, n, ne, nf, d⟩ := I.pin p hp
      exact ⟨(hs.2 p.1 ne).trans e, n, ne, nf, d⟩
  · have hfn : X.fn x = true := by
      rcases hf with z | z
      · exact z
      · rw [z] at hk; cases hk
    obtain ⟨c, hc⟩ := I.ok.has x (.inl hk)
    obtain ⟨w', z⟩ := I.cell x c hc
    refine wpAny_storeName_cell I.ok.kind hk hc z (fun h' hc' hs => ?_)
    obtain ⟨oc, hoc, hocd⟩ := id z
    refine h { s with heap := h' } ⟨I.ok, I.os, I.bare, ⟨fun b o e n hb hx => ?_, fun b o e n hb hx => ?_, I.base.free, fun b o e hx => ?_, I.base.tups, I.base.frzs, I.base.tbls⟩, ⟨m, hn.sameBut hs (Ne.symm (cne x c hc)), fun j y v' e1 e2 e3 => ?_⟩, fun y c' e => ?_, I.free, I.freeC, fun p hp => ?_, tracked ⟨oc, hoc, I.freeC x c hc⟩ hs, by simpa using I.len⟩ ⟨c, hs, .inr hc⟩
    · exact (hs.2 b (Nat.ne_of_lt (Nat.lt_of_lt_of_le (Heap.lt_size e) (I.ok.cab x c hfn hc)))).trans (I.base.keep b o e n hb hx)
    · obtain ⟨sl, e1⟩ := I.base.slot b o e n hb hx
      exact ⟨sl, (hs.2 b (Nat.ne_of_lt (Nat.lt_of_lt_of_le (Heap.lt_size e) (I.ok.cab x c hfn hc)))).trans e1⟩
    · obtain ⟨o', e1⟩ := I.base.there b o e hx
      exact ⟨o', (hs.2 b (Nat.ne_of_lt (Nat.lt_of_lt_of_le (Heap.lt_size e) (I.ok.cab x c hfn hc)))).trans e1⟩
    · by_cases hj : j = i
      · subst hj
        rw [hi] at e1; cases e1
        rw [List.getElem?_set_self hiσ] at e2
        cases e2
        exact ⟨u, r, .inr ⟨.inl hk, c, hc, hc'⟩⟩
      · rw [List.getElem?_set_ne (Ne.symm hj)] at e2
        obtain ⟨u', r', q⟩ := hl j y v' e1 e2 e3
        refine ⟨u', r', ?_⟩
        rcases q with q | ⟨k, c', e, z'⟩
        · exact .inl q
        · refine .inr ⟨k, c', e, z'.sameBut hs ?_⟩
          rintro rfl
          exact hj (nodup_ix hN e1 (I.ok.inj _ _ _ e hc ▸ hi))
    · by_cases hcc : c' = c
      · subst hcc; exact ⟨_, hc'⟩
      · obtain ⟨w2, z2⟩ := I.cell y c' e
        exact ⟨w2, z2.sameBut hs hcc⟩
    · obtain ⟨e, n, ne, nf, d⟩ := I.pin p hp
      refine ⟨(hs.2 p.1 ?_).trans e, n, ne, nf, d⟩
      intro q
      rw [q, hoc] at e
      have q' : oc = p.2 := Option.some.inj e
      exact d w' (by rw [← q']; exact hocd)
theorem store_ok {M : Model} {A : Around} {E : Value → Shared → Prop} {i : Nat} {x : Str} {v : V} {u : Value} {Q : Unit → Shared → Prop} (I : Inv X pins σ H s) (hN : X.N.Nodup) (hi : X.N[i]? = some x) (hx : Loc X.env.scope x) (r : RelV v u)
    (h : ∀ s', Inv X pins (σ.set i (some v)) H s' → Q () s') (hf : X.fn x = true ∨ X.env.scope.names.lookup x = some .local := by first | exact .inl rfl | exact .inr rfl | assumption) : wpAny M A (storeName X.env x u) Q E s :=
  store_ok2 I hN hi hx r (fun s' I' _ => h s' I') hf
/-- behind a call or a block, the state as it is -/
theorem Inv.call' {s' : Shared} {ch : List Addr} (I : Inv X pins σ H s) (ho : s'.os = s.os) (u : Un (frs X.stack) ch H H' s.heap s'.heap) (hok : HOk X.prog X.w H' s'.heap) (hg : AllBare s'.gens)
    (hch : ∀ b ∈ ch, (b ∈ X.ex ∨ X.s₀.heap.objs.size ≤ b) ∧ b ≠ X.env.locals ∧ (∀ x c, X.env.cells.lookup x = some c → c ≠ b) ∧ ∀ p ∈ X.pn ++ pins, p.1 ≠ b) : Inv X pins σ H' s' := by
  obtain ⟨h', g', d', t', o'⟩ := s'
  have e : o' = s.os := ho
  subst e
  exact I.call (g' := g') (t' := t') (d' := d') u hok hg hch
end

/-- an exception: its class, its own dict's address (where it has one), the abstract heap behind it -/
abbrev XK := Value → Option Addr → Hp → Prop
abbrev St := List (Option V)
abbrev VK := V → Hp → Prop
/-- an expression's reading; a test's; an argument list's -/
abbrev TE := St → Hp → VK → Prop
abbrev TT := St → Hp → (Bool → Hp → Prop) → Prop
abbrev TA := St → Hp → (List V → Hp → Prop) → Prop
/-- what is wanted behind a statement -/
structure Ends where
  nx : St → Hp → Prop
  rt : VK
  bk : St → Hp → Prop := fun _ _ => False
  ct : St → Hp → Prop := fun _ _ => False
abbrev TS := Ends → St → Hp → Prop

def EP (X : Cx) (pins : List (Addr × Obj)) (σ : St) (Q : VK) (u : Value) (s' : Shared) : Prop := ∃ v H', Inv X pins σ H' s' ∧ RelV v u ∧ Q v H'
def TP (X : Cx) (pins : List (Addr × Obj)) (σ : St) (Q : Bool → Hp → Prop) (b : Bool) (s' : Shared) : Prop := ∃ H', Inv X pins σ H' s' ∧ Q b H'
def AP (X : Cx) (pins : List (Addr × Obj)) (σ : St) (Q : List V → Hp → Prop) (us : List Value) (s' : Shared) : Prop := ∃ vs H', Inv X pins σ H' s' ∧ Vals vs us ∧ Q vs H'
def SP (X : Cx) (pins : List (Addr × Obj)) (D : Ends) (f : Flow) (s' : Shared) : Prop :=
  match f with
  | .next => ∃ σ' H', Inv X pins σ' H' s' ∧ D.nx σ' H'
  | .brk => ∃ σ' H', Inv X pins σ' H' s' ∧ D.bk σ' H'
  | .cont => ∃ σ' H', Inv X pins σ' H' s' ∧ D.ct σ' H'
  | .ret u => ∃ v σ' H', Inv X pins σ' H' s' ∧ RelV v u ∧ D.rt v H'

def PE (X : Cx) (e : Expr) (t : TE) : Prop :=
  ∀ (pins : List (Addr × Obj)) (s : Shared) (σ : St) (H : Hp) (Q : VK), Inv X pins σ H s → t σ H Q → wpAny (model X.prog X.w) X.A (eval e X.env) (EP X pins σ Q) X.xe s
def PT (X : Cx) (e : Expr) (t : TT) : Prop :=
  ∀ (pins : List (Addr × Obj)) (s : Shared) (σ : St) (H : Hp) (Q : Bool → Hp → Prop), Inv X pins σ H s → t σ H Q → wpAny (model X.prog X.w) X.A (isTrue e X.env (eval e X.env)) (TP X pins σ Q) X.xe s
/-- a test whatever its 'whole' is (and, or) -/
def PW (X : Cx) (e : Expr) (t : TT) : Prop :=
  ∀ (whole : Sem Value) (pins : List (Addr × Obj)) (s : Shared) (σ : St) (H : Hp) (Q : Bool → Hp → Prop), Inv X pins σ H s → t σ H Q → wpAny (model X.prog X.w) X.A (isTrue e X.env whole) (TP X pins σ Q) X.xe s
theorem PW.pt {X : Cx} {e : Expr} {t : TT} (h : PW X e t) : PT X e t := h _
/-- an argument list (no star), from the left -/
def PA (X : Cx) (es : List Expr) (t : TA) : Prop :=
  ∀ (pos : Pos) (pins : List (Addr × Obj)) (s : Shared) (σ : St) (H : Hp) (Q : List V → Hp → Prop), Inv X pins σ H s → t σ H Q → wpAny (model X.prog X.w) X.A (spliced (backTo pos (starEach es X.env))) (AP X pins σ Q) X.xe s
def PS (X : Cx) (st : Stmt) (t : TS) : Prop :=
  ∀ (pins : List (Addr × Obj)) (s : Shared) (σ : St) (H : Hp) (D : Ends), Inv X pins σ H s → t D σ H → wpAny (model X.prog X.w) X.A (exec st X.env) (SP X pins D) X.xe s
def PSs (X : Cx) (st : List Stmt) (t : TS) : Prop :=
  ∀ (pins : List (Addr × Obj)) (s : Shared) (σ : St) (H : Hp) (D : Ends), Inv X pins σ H s → t D σ H → wpAny (model X.prog X.w) X.A (execs st X.env) (SP X pins D) X.xe s
/-- weaken the end -/
theorem thn {α : Type} {t : Sem α} {Q Q' : α → Shared → Prop} {M : Model} {A : Around} {E : Value → Shared → Prop} {s : Shared} (h : wpAny M A t Q E s) (hQ : ∀ a s, Q a s → Q' a s) : wpAny M A t Q' E s := wpAny_mono h hQ fun _ _ x => x
end L2

namespace L2
open PySem PySem.Spec PyProof.Rows
section
variable {X : Cx}

def tVar (i : Nat) : TE := fun σ H Q => ∃ v, σ[i]? = some (some v) ∧ Q v H
def tC (v : V) : TE := fun _ H Q => Q v H
theorem pe_var {i : Nat} {x : Str} {pos : Pos} (hN : X.N[i]? = some x) (hv : Vis X.env.scope x) (hd : (x == ("__debug__" : Str)) = false := by decide) (hcd : (x == ("__classdict__" : Str)) = false := by decide) : PE X (.Name x pos) (tVar i) := by
  intro pins s σ H Q I h
  obtain ⟨v, e, h⟩ := h
  obtain ⟨m, hn, hl⟩ := I.loc
  obtain ⟨u, r, l⟩ := hl i x v hN e hv
  have fin : EP X pins σ Q u s := ⟨v, H, I, r, h⟩
  rcases l with ⟨hk, hm⟩ | ⟨hk, c, hc, hcell⟩
  · exact wpAny_Name (wpAny_loadName_local I.ok.kind hk hn hm fin) hd
  · rcases hk with hk | hk
    · exact wpAny_Name (wpAny_loadName_cell I.ok.kind hk hc hcell fin) hd
    · exact wpAny_Name (wpAny_loadName_free I.ok.kind hk hc hcell fin hcd) hd
theorem pe_int {i j pos} : PE X (.Constant (.int i) j pos) (tC (.int i)) := fun _ _ _ H _ I h => wpAny_Constant_int ⟨.int i, H, I.tok _, ⟨_, rfl⟩, h⟩
theorem pe_bl {b j pos} : PE X (.Constant (.bool b) j pos) (tC (.bl b)) := fun _ _ _ H _ I h => Constant_bool ⟨.bl b, H, I, rfl, h⟩
/-- a global name of the def -/
def Gl (X : Cx) (x : Str) : Prop := X.env.kindOf x = some .globalImplicit
theorem ld_glob {E : Value → Shared → Prop} {pins : List (Addr × Obj)} {s : Shared} {σ : St} {H : Hp} {x : Str} {u : Value} {pos : Pos} {Q : Value → Shared → Prop} (I : Inv X pins σ H s) (hg : Gl X x) (hm : X.mg x = some u) (h : Q u s)
    (hd : (x == ("__debug__" : Str)) = false := by decide) : wpAny (model X.prog X.w) X.A (eval (.Name x pos) X.env) Q E s :=
  Calls.Name_function_global I.ok.kind hg (Calls.loadGlobal_global (by rw [I.ok.glob]; exact I.mod.glob.keeps I.bk) hm h) hd
theorem ld_blt {E : Value → Shared → Prop} {pins : List (Addr × Obj)} {s : Shared} {σ : St} {H : Hp} {x : Str} {u : Value} {pos : Pos} {Q : Value → Shared → Prop} (I : Inv X pins σ H s) (hg : Gl X x) (hm : X.mg x = none) (hv : bootBuiltins x = some u) (h : Q u s)
    (hn : x ≠ "__name__" := by decide) (hd : (x == ("__debug__" : Str)) = false := by decide) : wpAny (model X.prog X.w) X.A (eval (.Name x pos) X.env) Q E s := by
  obtain ⟨mb, h1, h2⟩ := I.mod.blt
  exact Calls.Name_function_global I.ok.kind hg (Calls.loadGlobal_builtin (by rw [I.ok.glob]; exact I.mod.glob.keeps I.bk) hm (by rw [I.ok.blt]; exact h1.keeps I.bk) ((h2 x hn).trans hv) h) hd
/-- a module's constant, a class, a function, as a value -/
theorem pe_glob {x : Str} {v : V} {u : Value} {pos : Pos} (hg : Gl X x) (hm : X.mg x = some u) (r : RelV v u) (hd : (x == ("__debug__" : Str)) = false := by decide) : PE X (.Name x pos) (tC v) :=
  fun _ _ _ H _ I h => ld_glob I hg hm ⟨v, H, I, r, h⟩ hd
theorem pe_bltn {x : Str} {v : V} {u : Value} {pos : Pos} (hg : Gl X x) (hm : X.mg x = none) (hv : bootBuiltins x = some u) (r : RelV v u) (hn : x ≠ "__name__" := by decide) (hd : (x == ("__debug__" : Str)) = false := by decide) : PE X (.Name x pos) (tC v) :=
  fun _ _ _ H _ I h => ld_blt I hg hm hv ⟨v, H, I, r, h⟩ hn hd

variable {a b : Expr} {ta tb : TE} {pos : Pos}
/-- a comparison as a value, as a test -/
def tB (t : TE) : TT := fun σ H Q => t σ H fun x H1 => ∃ c, x = .bl c ∧ Q c H1
/-- an expression whose value is a bool, as a test -/
theorem pt_val {e : Expr} {t : TE} (h : PE X e t) (he : ∀ whole, isTrue e X.env whole = (do let v ← whole; standAt e.pos; holding [v] (truthy v)) := by intro _; rfl) : PT X e (tB t) := by
  intro pins s σ H Q I hw
  refine isTrue_plain (thn (h pins s σ H _ I hw) fun v s1 ⟨x, H1, I1, r1, q1⟩ => ?_) (he _)
  obtain ⟨d, rfl, q⟩ := q1
  cases r1
  exact wpAny_truthy_bool ⟨H1, I1, q⟩

variable {tA tB' : TT} {rest : List Expr}
def tAnd (t u : TT) : TT := fun σ H Q => t σ H fun c H1 => if c = true then u σ H1 Q else Q false H1
def tOr (t u : TT) : TT := fun σ H Q => t σ H fun c H1 => if c = true then Q true H1 else u σ H1 Q
def tNot (t : TT) : TT := fun σ H Q => t σ H fun c H1 => Q (!c) H1
theorem pw_and1 (ha : PT X a tA) : PW X (.BoolOp .And [a] pos) tA := by
  intro wh pins s σ H Q I h
  refine isTrue_and (thn (ha pins s σ H Q I h) fun c s1 e => ?_)
  cases c with
  | true => exact isTrue_and_nil e
  | false => exact e
theorem pw_or1 (ha : PT X a tA) : PW X (.BoolOp .Or [a] pos) tA := by
  intro wh pins s σ H Q I h
  refine isTrue_or (thn (ha pins s σ H Q I h) fun c s1 e => ?_)
  cases c with
  | false => exact isTrue_or_nil e
  | true => exact e
theorem pw_and (ha : PT X a tA) (hb : PW X (.BoolOp .And (b :: rest) pos) tB') : PW X (.BoolOp .And (a :: b :: rest) pos) (tAnd tA tB') := by
  intro wh pins s σ H Q I h
  refine isTrue_and (thn (ha pins s σ H _ I h) fun c s1 ⟨H1, I1, q1⟩ => ?_)
  cases c with
  | true => exact hb wh pins s1 σ H1 Q I1 q1
  | false => exact ⟨H1, I1, q1⟩
theorem pw_or (ha : PT X a tA) (hb : PW X (.BoolOp .Or (b :: rest) pos) tB') : PW X (.BoolOp .Or (a :: b :: rest) pos) (tOr tA tB') := by
  intro wh pins s σ H Q I h
  refine isTrue_or (thn (ha pins s σ H _ I h) fun c s1 ⟨H1, I1, q1⟩ => ?_)
  cases c with
  | true => exact ⟨H1, I1, q1⟩
  | false => exact hb wh pins s1 σ H1 Q I1 q1
theorem pt_not (ha : PT X a tA) : PT X (.UnaryOp .Not a pos) (tNot tA) := by
  intro pins s σ H Q I h
  exact isTrue_not (ha pins s σ H (fun c H1 => Q (!c) H1) I h)
/-- .. as values (bools) -/
def tAndV (ta tb : TE) : TE := fun σ H Q => ta σ H fun x H1 => ∃ c, x = .bl c ∧ if c = true then tb σ H1 Q else Q (.bl false) H1
def tOrV (ta tb : TE) : TE := fun σ H Q => ta σ H fun x H1 => ∃ c, x = .bl c ∧ if c = true then Q (.bl true) H1 else tb σ H1 Q
theorem pe_one {op} {t : TE} (h : PE X a t) : PE X (.BoolOp op [a] pos) t := fun pins s σ H Q I hw => BoolOp_one (h pins s σ H Q I hw)
theorem pe_and (ha : PE X a ta) (hb : PE X (.BoolOp .And (b :: rest) pos) tb) : PE X (.BoolOp .And (a :: b :: rest) pos) (tAndV ta tb) := by
  intro pins s σ H Q I h
  refine BoolOp_and (thn (ha pins s σ H _ I h) fun v s1 ⟨x, H1, I1, r1, q1⟩ => ?_)
  obtain ⟨c, rfl, q1⟩ := q1
  cases r1
  refine wpAny_truthy_bool ?_
  cases c with
  | true => exact hb pins s1 σ H1 Q I1 q1
  | false => exact ⟨.bl false, H1, I1, rfl, q1⟩
theorem pe_or (ha : PE X a ta) (hb : PE X (.BoolOp .Or (b :: rest) pos) tb) : PE X (.BoolOp .Or (a :: b :: rest) pos) (tOrV ta tb) := by
  intro pins s σ H Q I h
  refine BoolOp_or (thn (ha pins s σ H _ I h) fun v s1 ⟨x, H1, I1, r1, q1⟩ => ?_)
  obtain ⟨c, rfl, q1⟩ := q1
  cases r1
  refine wpAny_truthy_bool ?_
  cases c with
  | false => exact hb pins s1 σ H1 Q I1 q1
  | true => exact ⟨.bl true, H1, I1, rfl, q1⟩
/-- a if t else b -/
def tIf (t : TT) (ta tb : TE) : TE := fun σ H Q => t σ H fun c H1 => if c = true then ta σ H1 Q else tb σ H1 Q
theorem pe_ifExp {c : Expr} (hc : PT X c tA) (ha : PE X a ta) (hb : PE X b tb) : PE X (.IfExp c a b pos) (tIf tA ta tb) := by
  intro pins s σ H Q I h
  refine wpAny_IfExp (thn (hc pins s σ H _ I h) fun d s1 ⟨H1, I1, q1⟩ => ?_)
  cases d with
  | true => exact ha pins s1 σ H1 Q I1 q1
  | false => exact hb pins s1 σ H1 Q I1 q1
end
end L2

namespace L2
open PySem PySem.Spec PyProof.Rows

def SqL (K : PySem.W.Frag) (H : Hp) (a : Addr) (xs : List V) : Prop :=
  Rd H a (.lst xs) ∨
    ∃ (o : Obj) (its : Array Value) (n : Nat), K.lookup a = some o ∧ o.cls = .type "list" ∧ o.dict = none ∧ o.data = .seq its n ∧ its.size ≤ sizeLine ∧ Vals xs its.toList
def SqT (K : PySem.W.Frag) (H : Hp) (a : Addr) (xs : List V) : Prop :=
  Rd H a (.tup xs) ∨
    ∃ (o : Obj) (its : Array Value) (n : Nat), K.lookup a = some o ∧ o.cls = .type "tuple" ∧ o.data = .seq its n ∧ its.size ≤ sizeLine ∧ Vals xs its.toList
def absV : Value → Option V
  | .none => some .non
  | .bool b => some (.bl b)
  | .int i _ => some (.int i)
  | .str x _ => some (.str x)
  | .bytes b _ => some (.byt b)
  | .float b _ => some (.flt b)
  | .ref a => some (.ref a)
  | .type n => some (.ty n)
  | _ => none
theorem RelV.abs {x : V} {u : Value} (r : RelV x u) : absV u = some x := by
  cases x with
  | non => cases r; rfl
  | bl _ => cases r; rfl
  | int _ => obtain ⟨t, rfl⟩ := r; rfl
  | str _ => obtain ⟨t, rfl⟩ := r; rfl
  | byt _ => obtain ⟨t, rfl⟩ := r; rfl
  | flt _ => obtain ⟨t, rfl⟩ := r; rfl
  | ref _ => cases r; rfl
  | ty _ => cases r; rfl
theorem RelV.inj {x y : V} {u : Value} (r : RelV x u) (q : RelV y u) : x = y := Option.some.inj (r.abs.symm.trans q.abs)
theorem Vals.inj : ∀ {xs ys : List V} {us : List Value}, Vals xs us → Vals ys us → xs = ys
  | _, _, _, .nil, .nil => rfl
  | _, _, _, .cons r t, .cons r' t' => by rw [r.inj r', Vals.inj t t']
section
variable {X : Cx} {pins : List (Addr × Obj)} {σ : St} {H : Hp} {s : Shared} {a : Addr} {xs ys : List V}
theorem SqL.of {K : PySem.W.Frag} (h : H a = some (.lst xs)) : SqL K H a xs := .inl (.inl h)
theorem SqT.of {K : PySem.W.Frag} (h : H a = some (.tup xs)) : SqT K H a xs := .inl (.inl h)
theorem Inv.list (I : Inv X pins σ H s) (h : SqL X.K H a xs) : ∃ its : List Value, Vals xs its ∧ PlainL s.heap a its.toArray ∧ xs.length ≤ sizeLine := by
  rcases h with h | ⟨o, its, n, hk, hc, hd, hs, hz, r⟩
  · obtain ⟨z, its, n, r, e⟩ := h.ok I.hok
    exact ⟨its, r, ⟨_, n, e, rfl, rfl, rfl⟩, z⟩
  · refine ⟨its.toList, r, ⟨o, n, I.kIn a o hk, hc, hd, by simpa using hs⟩, ?_⟩
    have e := r.length
    simp only [Array.length_toList] at e
    omega
theorem Inv.tuple (I : Inv X pins σ H s) (h : SqT X.K H a xs) : ∃ its : List Value, Vals xs its ∧ IsTup s.heap a its.toArray ∧ xs.length ≤ sizeLine := by
  rcases h with h | ⟨o, its, n, hk, hc, hs, hz, r⟩
  · obtain ⟨z, its, r, p⟩ := h.ok I.hok
    exact ⟨its, r, p.isTup, z⟩
  · refine ⟨its.toList, r, ⟨o, I.kIn a o hk, hc, n, by simpa using hs⟩, ?_⟩
    have e := r.length
    simp only [Array.length_toList] at e
    omega
theorem Inv.list_inj (I : Inv X pins σ H s) (h : SqL X.K H a xs) (h' : SqL X.K H a ys) : xs = ys := by
  obtain ⟨its, r, ⟨o, n, e, _, _, d⟩, _⟩ := I.list h
  obtain ⟨its', r', ⟨o', n', e', _, _, d'⟩, _⟩ := I.list h'
  rw [e] at e'; cases e'
  rw [d] at d'
  injection d' with d1 _
  have : its = its' := by simpa using congrArg Array.toList d1
  subst this
  exact r.inj r'
theorem Inv.tuple_inj (I : Inv X pins σ H s) (h : SqT X.K H a xs) (h' : SqT X.K H a ys) : xs = ys := by
  obtain ⟨its, r, ⟨o, e, _, n, d⟩, _⟩ := I.tuple h
  obtain ⟨its', r', ⟨o', e', _, n', d'⟩, _⟩ := I.tuple h'
  rw [e] at e'; cases e'
  rw [d] at d'
  injection d' with d1 _
  have : its = its' := by simpa using congrArg Array.toList d1
  subst this
  exact r.inj r'
end

abbrev Cx.wish (X : Cx) (E : Value → Shared → Prop) : Cx := { X with xe := E }
/-- no exception leaves -/
abbrev Cx.nox (X : Cx) : Cx := X.wish fun _ _ => False
theorem Cx.Ok.wish {X : Cx} (ok : X.Ok) (E : Value → Shared → Prop) : (X.wish E).Ok :=
  ⟨ok.mod, ok.kind, ok.glob, ok.blt, ok.above, ok.inj, ok.has, ok.cab, ok.hd, ok.frames, ok.stk, ok.exf, ok.bs, ok.bsz, ok.noex, ok.exfs, ok.funs, ok.frf⟩
theorem Cx.Ok.unwish {X : Cx} {E : Value → Shared → Prop} (ok : (X.wish E).Ok) : X.Ok :=
  ⟨ok.mod, ok.kind, ok.glob, ok.blt, ok.above, ok.inj, ok.has, ok.cab, ok.hd, ok.frames, ok.stk, ok.exf, ok.bs, ok.bsz, ok.noex, ok.exfs, ok.funs, ok.frf⟩
section
variable {X : Cx} {pins : List (Addr × Obj)} {σ : St} {H : Hp} {s : Shared} {E : Value → Shared → Prop}
theorem Inv.wish (I : Inv X pins σ H s) (E : Value → Shared → Prop) : Inv (X.wish E) pins σ H s := ⟨I.ok.wish E, I.os, I.bare, I.base, I.loc, I.cell, I.free, I.freeC, I.pin, I.hok, I.len⟩
theorem Inv.unwish (I : Inv (X.wish E) pins σ H s) : Inv X pins σ H s := ⟨I.ok.unwish, I.os, I.bare, I.base, I.loc, I.cell, I.free, I.freeC, I.pin, I.hok, I.len⟩
theorem SP.unwish {D : Ends} {f : Flow} {s' : Shared} (h : SP (X.wish E) pins D f s') : SP X pins D f s' := by
  cases f with
  | next => obtain ⟨σ', H', I, q⟩ := h; exact ⟨σ', H', I.unwish, q⟩
  | brk => obtain ⟨σ', H', I, q⟩ := h; exact ⟨σ', H', I.unwish, q⟩
  | cont => obtain ⟨σ', H', I, q⟩ := h; exact ⟨σ', H', I.unwish, q⟩
  | ret u => obtain ⟨v, σ', H', I, r, q⟩ := h; exact ⟨v, σ', H', I.unwish, r, q⟩
theorem PE.nox {e : Expr} {t : TE} (h : PE X.nox e t) : PE X e t := fun pins s σ H Q I hw =>
  wpAny_mono (h pins s σ H Q (I.wish _) hw) (fun _ _ ⟨v, H', I', r, q⟩ => ⟨v, H', I'.unwish, r, q⟩) fun _ _ z => False.elim z
theorem PT.nox {e : Expr} {t : TT} (h : PT X.nox e t) : PT X e t := fun pins s σ H Q I hw =>
  wpAny_mono (h pins s σ H Q (I.wish _) hw) (fun _ _ ⟨H', I', q⟩ => ⟨H', I'.unwish, q⟩) fun _ _ z => False.elim z
theorem PSs.nox {st : List Stmt} {t : TS} (h : PSs X.nox st t) : PSs X st t := fun pins s σ H D I hw =>
  wpAny_mono (h pins s σ H D (I.wish _) hw) (fun _ _ q => q.unwish) fun _ _ z => False.elim z
end

section
variable {X : Cx} {st : Stmt} {rest : List Stmt} {t u : TS} {e : Expr} {te : TE} {pos : Pos}
def tNext : TS := fun D σ H => D.nx σ H
def tSeq (t u : TS) : TS := fun D σ H => t { D with nx := u D } σ H
theorem pss_nil : PSs X [] tNext := fun _ _ σ H _ I h => wpAny_execs_nil ⟨σ, H, I, h⟩
theorem pss_cons (h1 : PS X st t) (h2 : PSs X rest u) : PSs X (st :: rest) (tSeq t u) := by
  intro pins s σ H D I h
  refine wpAny_execs_cons (thn (h1 pins s σ H { D with nx := u D } I h) fun f s1 q => ?_)
  cases f with
  | next =>
    obtain ⟨σ', H', I', q⟩ := q
    exact h2 pins s1 σ' H' D I' q
  | ret v => exact q
  | brk => exact q
  | cont => exact q
theorem pss_one (h1 : PS X st t) : PSs X [st] t := by
  intro pins s σ H D I h
  refine wpAny_execs_cons (thn (h1 pins s σ H D I h) fun f s1 q => ?_)
  cases f with
  | next => exact wpAny_execs_nil q
  | ret v => exact q
  | brk => exact q
  | cont => exact q
/-- in a def's body nothing is shown -/
theorem Inv.quiet {pins : List (Addr × Obj)} {σ : St} {H : Hp} {s : Shared} (I : Inv X pins σ H s) : interactive X.env = false := by simp [interactive, I.ok.kind]
/-- an expression whose value is dropped -/
def tDrop (te : TE) : TS := fun D σ H => te σ H fun _ H1 => D.nx σ H1
theorem ps_expr (he : PE X e te) (hs : swapsWith e none pos.line X.env = pure false := by rfl) : PS X (.Expr e pos) (tDrop te) := by
  intro pins s σ H D I h
  exact wpAny_Expr_any (thn (he pins s σ H _ I h) fun v s1 ⟨x, H1, I1, r1, q1⟩ => ⟨σ, H1, I1, q1⟩) I.quiet hs
def tRet (te : TE) : TS := fun D σ H => te σ H D.rt
theorem ps_ret (he : PE X e te) : PS X (.Return (some e) pos) (tRet te) := by
  intro pins s σ H D I h
  exact wpAny_Return_some (thn (he pins s σ H _ I h) fun v s1 ⟨x, H1, I1, r1, q1⟩ => ⟨x, σ, H1, I1, r1, q1⟩)
def tIfS (c : TT) (t u : TS) : TS := fun D σ H => c σ H fun b H1 => if b = true then t D σ H1 else u D σ H1
theorem ps_if {c : Expr} {a b : List Stmt} {tc : TT} (hc : PT X c tc) (ha : PSs X a t) (hb : PSs X b u) : PS X (.If c a b pos) (tIfS tc t u) := by
  intro pins s σ H D I h
  refine wpAny_If (thn (hc pins s σ H _ I h) fun d s1 ⟨H1, I1, q1⟩ => ?_)
  cases d with
  | true => exact ha pins s1 σ H1 D I1 q1
  | false => exact hb pins s1 σ H1 D I1 q1
end

abbrev TG := V → St → Hp → (St → Hp → Prop) → Prop
abbrev TGs := List V → St → Hp → (St → Hp → Prop) → Prop
def PG (X : Cx) (target : Expr) (t : TG) : Prop :=
  ∀ (pins : List (Addr × Obj)) (s : Shared) (σ : St) (H : Hp) (v : V) (u : Value) (Q : St → Hp → Prop), Inv X pins σ H s → RelV v u → t v σ H Q →
    wpAny (model X.prog X.w) X.A (assign target X.env u) (fun _ s' => ∃ σ' H', Inv X pins σ' H' s' ∧ Q σ' H') X.xe s
/-- several targets, one after another -/
def PGs (X : Cx) (ts : List Expr) (t : TGs) : Prop :=
  ∀ (pins : List (Addr × Obj)) (s : Shared) (σ : St) (H : Hp) (vs : List V) (us : List Value) (Q : St → Hp → Prop), Inv X pins σ H s → Vals vs us → t vs σ H Q →
    wpAny (model X.prog X.w) X.A (assignInOrder ((assignEach ts X.env).map (·.2)) us) (fun _ s' => ∃ σ' H', Inv X pins σ' H' s' ∧ Q σ' H') X.xe s
/-- o[i] = v, by values -/
abbrev TSet := V → V → V → Hp → (Hp → Prop) → Prop
def PSet (X : Cx) (t : TSet) : Prop :=
  ∀ (pins : List (Addr × Obj)) (s : Shared) (σ : St) (H : Hp) (o i v : V) (ov iv u : Value) (Q : Hp → Prop), Inv X pins σ H s → RelV o ov → RelV i iv → RelV v u → t o i v H Q →
    wpAny (model X.prog X.w) X.A (setItem ov iv u) (fun _ s' => ∃ H', Inv X pins σ H' s' ∧ Q H') X.xe s
section
variable {X : Cx} {pos : Pos}
def gName (i : Nat) : TG := fun v σ H Q => Q (σ.set i (some v)) H
theorem pg_name {i : Nat} {x : Str} (hN : X.N.Nodup) (hi : X.N[i]? = some x) (hx : Loc X.env.scope x) (hf : X.fn x = true ∨ X.env.scope.names.lookup x = some .local := by first | exact .inl rfl | exact .inr rfl | assumption) : PG X (.Name x pos) (gName i) := by
  intro pins s σ H v u Q I r h
  exact wpAny_assign_Name (store_ok I hN hi hx r (fun s' I' => ⟨_, H, I', h⟩) hf)
def gNil : TGs := fun vs σ H Q => vs = [] ∧ Q σ H
def gCons (t : TG) (u : TGs) : TGs := fun vs σ H Q => ∃ v r, vs = v :: r ∧ t v σ H fun σ' H' => u r σ' H' Q
theorem pgs_nil : PGs X [] gNil := by
  intro pins s σ H vs us Q I r h
  obtain ⟨e, h⟩ := h
  subst e
  cases r
  exact assignInOrder_nil ⟨σ, H, I, h⟩
theorem pgs_cons {e : Expr} {es : List Expr} {t : TG} {u : TGs} (h1 : PG X e t) (h2 : PGs X es u)
    (hs : (assignEach (e :: es) X.env).map (·.2) = assign e X.env :: (assignEach es X.env).map (·.2) := by rfl) : PGs X (e :: es) (gCons t u) := by
  intro pins s σ H vs us Q I r h
  obtain ⟨v, vr, e1, h⟩ := h
  subst e1
  cases r with
  | cons r rr =>
    rw [hs]
    refine assignInOrder_cons (thn (h1 pins s σ H _ _ _ I r h) fun _ s1 ⟨σ1, H1, I1, q1⟩ => ?_)
    exact h2 pins s1 σ1 H1 _ _ Q I1 rr q1
/-- (a, b, ..) = a tuple of that length -/
def gTup (K : PySem.W.Frag) (n : Nat) (t : TGs) : TG := fun v σ H Q => ∃ a xs, v = .ref a ∧ SqT K H a xs ∧ xs.length = n ∧ t xs σ H Q
theorem pg_tup {es : List Expr} {k : Nat} {t : TGs} {n : Nat} (hc : X.calm = true) (h : PGs X es t)
    (hn : (assignEach es X.env).length = n := by rfl) (hst : (assignEach es X.env).findIdx? (·.1) = none := by rfl) : PG X (.Tuple es k pos) (gTup X.K n t) := by
  intro pins s σ H v u Q I r hw
  obtain ⟨a, xs, e1, hq, hl, hw⟩ := hw
  subst e1
  cases r
  obtain ⟨its, rv, ht, hz⟩ := I.tuple hq
  refine assign_Tuple_tuple (I.ok.hd hc) ht (by simp [hn, ← hl, rv.length]) hst fun h' hx => ?_
  have I1 : Inv X pins σ H { s with heap := h' } := I.kept (t' := s.toks) fun b o e => hx b o (Nat.ne_of_lt (Heap.lt_size e)) e
  exact h pins _ σ H xs _ Q I1 (by simpa using rv) hw
/-- o[i] = .. -/
def gSub (to ti : TE) (t : TSet) : TG := fun v σ H Q => to σ H fun o H1 => ti σ H1 fun i H2 => t o i v H2 fun H3 => Q σ H3
theorem pg_sub {o i : Expr} {to ti : TE} {t : TSet} (ho : PE X o to) (hi : PE X i ti) (hs : PSet X t)
    (ha : ∀ v, assign (.Subscript o i pos) X.env v = (do
      let ov ← holding [v] (eval o X.env)
      let iv ← holding [v, ov] (eval i X.env)
      standAt pos
      holding [v, ov, iv] (setItem ov iv v)
      release [v, ov, iv] []) := by intro _; rfl) : PG X (.Subscript o i pos) (gSub to ti t) := by
  intro pins s σ H v u Q I r h
  rw [ha]
  refine wpAny_bind (wpAny_holding (thn (ho pins s σ H _ I h) fun ov s1 ⟨x, H1, I1, r1, q1⟩ => ?_))
  refine wpAny_bind (wpAny_holding (thn (hi pins s1 σ H1 _ I1 q1) fun iv s2 ⟨y, H2, I2, r2, q2⟩ => ?_))
  refine wpAny_bind (wpAny_standAt (wpAny_bind (wpAny_holding (thn (hs pins s2 σ H2 x y v ov iv u _ I2 r1 r2 r q2) fun _ s3 ⟨H3, I3, q3⟩ => ?_))))
  exact wpAny_release ⟨σ, H3, I3, q3⟩
/-- target = value -/
def tAsg (te : TE) (g : TG) : TS := fun D σ H => te σ H fun x H1 => g x σ H1 D.nx
theorem ps_asg {tg e : Expr} {te : TE} {g : TG} (he : PE X e te) (hg : PG X tg g) (hs : swapsWithSole [tg] e pos.line X.env = pure false := by rfl) (hw : swappedStores [tg] e X.env = pure none := by rfl)
    (h1 : (assignEach [tg] X.env).map (·.2) = [assign tg X.env] := by rfl) : PS X (.Assign [tg] e pos) (tAsg te g) := by
  intro pins s σ H D I h
  refine wpAny_Assign_stores (thn (he pins s σ H _ I h) fun v s1 ⟨x, H1, I1, r1, q1⟩ => ?_) hs hw
  rw [h1]
  exact thn (hg pins s1 σ H1 x v _ I1 r1 q1) fun _ s2 q => q
/-- name = value -/
theorem ps_set {i : Nat} {x : Str} {e : Expr} {te : TE} {pos' : Pos} (hN : X.N.Nodup) (hi : X.N[i]? = some x) (hx : Loc X.env.scope x) (he : PE X e te) (hs : swapsWith e (some (.Name x pos')) pos.line X.env = pure false := by rfl) (hf : X.fn x = true ∨ X.env.scope.names.lookup x = some .local := by first | exact .inl rfl | exact .inr rfl | assumption) :
    PS X (.Assign [.Name x pos'] e pos) (tAsg te (gName i)) := by
  intro pins s σ H D I h
  refine wpAny_Assign_Name (thn (he pins s σ H _ I h) fun v s1 ⟨y, H1, I1, r1, q1⟩ => ?_) hs
  exact store_ok I1 hN hi hx r1 (fun s2 I2 => ⟨_, H1, I2, q1⟩) hf
/-- a, b = x, y with plain local names: stored from the right; the pair itself is not tracked (the opening rows as in PyProof/Rows/TupAssign.lean:23) -/
def tPar (i j : Nat) (ta : TA) : TS := fun D σ H => ta σ H fun vs H1 => ∃ v w, vs = [v, w] ∧ D.nx ((σ.set i (some v)).set j (some w)) H1
theorem ps_par {i j : Nat} {x y : Str} {a b : Expr} {ta : TA} {px py pt : Pos} {kt k2 pt2} (hc : X.calm = true) (hN : X.N.Nodup) (hi : X.N[i]? = some x) (hj : X.N[j]? = some y) (hij : i ≠ j)
    (hx : X.env.scope.names.lookup x = some .local) (hy : X.env.scope.names.lookup y = some .local) (ha : PA X [a, b] ta)
    (hw : swappedStores [.Tuple [.Name x px, .Name y py] kt pt] (.Tuple [a, b] k2 pt2) X.env = pure (some [x, y]))
    (hs : swapsWithSole [.Tuple [.Name x px, .Name y py] kt pt] (.Tuple [a, b] k2 pt2) pos.line X.env = pure false := by rfl) :
    PS X (.Assign [.Tuple [.Name x px, .Name y py] kt pt] (.Tuple [a, b] k2 pt2) pos) (tPar i j ta) := by
  intro pins s σ H D I h
  rw [exec_Assign_arm]
  refine wpAny_bind (wpAny_standAt ?_)
  rw [hs]
  refine wpAny_bind (wpAny_pure ?_)
  rw [if_neg (by decide)]
  refine wpAny_bind (Tuple_ (thn (ha _ pins s σ H _ I h) fun us s1 ⟨vs, H1, I1, r1, q1⟩ => ?_))
  obtain ⟨v, w, e1, q1⟩ := q1
  subst e1
  obtain ⟨u1, u2, rfl, rv, rw'⟩ : ∃ u1 u2, us = [u1, u2] ∧ RelV v u1 ∧ RelV w u2 := by
    cases r1 with
    | cons p q =>
      cases q with
      | cons p' q' =>
        cases q'
        exact ⟨_, _, rfl, p, p'⟩
  refine wpAny_newObj_type ?_ (by show 2 ≤ sizeLine; decide)
  have I2 : Inv X pins σ H1 { s1 with heap := s1.heap.push { cls := .type "tuple", data := .seq [u1, u2].toArray } } := I1.kept (t' := s1.toks) fun b o e => Heap.get?_push_of_some _ e
  rw [hw]
  refine wpAny_bind (wpAny_pure ?_)
  show wpAny (model X.prog X.w) X.A (do rule "assign.swapped-stores"; let items ← unpackItems (.ref s1.heap.objs.size) 2 none; assignInOrder [fun v => bindName X.env y v, fun v => bindName X.env x v] items.reverse; pure Flow.next) _ _ _
  refine wpAny_bind (wpAny_rule (wpAny_bind (unpackItems_tuple (items := #[u1, u2]) (I.ok.hd hc) (IsTup.new s1.heap _) fun h' hx' => ?_)))
  have I3 := I2.kept (h' := h') (t' := s1.toks) fun b o e => hx' b o (Nat.ne_of_lt (Heap.lt_size e)) e
  show wpAny _ _ (assignInOrder [fun v => bindName X.env y v, fun v => bindName X.env x v] [u2, u1] >>= fun _ => pure Flow.next) _ _ _
  refine wpAny_bind (assignInOrder_cons (wpAny_bindName (store_ok I3 hN hj (.inl hy) rw' (fun s2 I4 => ?_) (.inr hy))))
  refine assignInOrder_cons (wpAny_bindName (store_ok I4 hN hi (.inl hx) rv (fun s3 I5 => assignInOrder_nil (wpAny_pure ?_)) (.inr hx)))
  rw [List.set_comm _ _ (Ne.symm hij)] at I5
  exact ⟨_, H1, I5, q1⟩
end

section
variable {X : Cx} {pos : Pos}
/-- the invariant W with its measure -/
def tWhile (c : TT) (tb : TS) : TS := fun D σ H => ∃ W : Nat → St → Hp → Prop, (∃ m, W m σ H) ∧ ∀ m σ H, W m σ H →
  c σ H fun b H1 => if b = true then ∃ N : St → Hp → Prop, (∀ σ' H', N σ' H' → ∃ m', m' < m ∧ W m' σ' H') ∧ tb { D with nx := N, ct := N, bk := D.nx } σ H1 else D.nx σ H1
theorem ps_while {c : Expr} {body : List Stmt} {tc : TT} {tb : TS} (hp : PassesOwn (model X.prog X.w) X.A X.env X.xe) (hc : PT X c tc) (hb : PSs X body tb) : PS X (.While c body [] pos) (tWhile tc tb) := by
  intro pins s σ H D I h
  obtain ⟨W, ⟨m0, w0⟩, turn⟩ := h
  refine wpAny_While (codeAny_whileLoop (fun n s' => ∃ σ' H', Inv X pins σ' H' s' ∧ W n σ' H') ?_ m0 ⟨σ, H, I, w0⟩)
  rintro n s1 ⟨σ1, H1, I1, w1⟩
  refine wpAny_passesOwn hp (thn (hc pins s1 σ1 H1 _ I1 (turn n σ1 H1 w1)) fun b s2 ⟨H2, I2, q2⟩ => ?_)
  cases b with
  | true =>
    obtain ⟨N, hN, q2⟩ := q2
    rw [if_pos rfl]
    refine wpAny_passesOwn hp (thn (hb pins s2 σ1 H2 _ I2 q2) fun f s3 q3 => ?_)
    cases f with
    | next =>
      obtain ⟨σ3, H3, I3, n3⟩ := q3
      obtain ⟨m', hm, w3⟩ := hN σ3 H3 n3
      exact ⟨m', hm, σ3, H3, I3, w3⟩
    | cont =>
      obtain ⟨σ3, H3, I3, n3⟩ := q3
      obtain ⟨m', hm, w3⟩ := hN σ3 H3 n3
      exact ⟨m', hm, σ3, H3, I3, w3⟩
    | brk => exact q3
    | ret v => exact q3
  | false =>
    rw [if_neg Bool.false_ne_true]
    exact wpAny_execs_nil ⟨σ1, H2, I2, q2⟩
end

/-- at turn i: it yields x (the heap may grow), or it stops -/
structure It where
  go : Nat → Hp → Prop
  yld : Nat → Hp → V → Hp → Prop
  stop : Nat → Hp → Prop
/-- the iterator's own objects may turn: they are not the frame's, not pinned, younger than the entry (or a comprehension's own) -/
def FpOk (X : Cx) (pins : List (Addr × Obj)) (H : Hp) (b : Addr) : Prop :=
  H b = none ∧ b ≠ X.env.locals ∧ b ∉ X.fs ∧ (b ∈ X.ex ∨ X.s₀.heap.objs.size ≤ b) ∧ (∀ x c, X.env.cells.lookup x = some c → c ≠ b) ∧ ∀ p ∈ X.pn ++ pins, p.1 ≠ b
theorem Inv.fpOk {X : Cx} {pins : List (Addr × Obj)} {σ : St} {H H' : Hp} {s : Shared} {b : Addr} (I : Inv X pins σ H s) (hb : s.heap.objs.size ≤ b) (hn : H' b = none) : FpOk X pins H' b := by
  refine ⟨hn, Nat.ne_of_gt (Nat.lt_of_lt_of_le I.lt hb), I.nofs hb, .inr (Nat.le_trans I.sz hb), fun x c e z => ?_, fun p hp z => ?_⟩
  · obtain ⟨v, q⟩ := I.cell x c e
    exact absurd (Nat.lt_of_lt_of_le q.lt (by rw [z]; exact hb)) (Nat.lt_irrefl _)
  · exact absurd (Nat.lt_of_lt_of_le (Heap.lt_size (I.pin p hp).1) (by rw [z]; exact hb)) (Nat.lt_irrefl _)
structure Turn (P : Program) (w : World) (K : PySem.W.Frag) (tg : Expr) (J : It) (fp : List Addr) (it : Addr) (tn : Nat → Heap → Prop) : Prop where
  mem : it ∈ fp
  obj : ∀ i h, tn i h → ∀ b ∈ fp, ∃ o, h.get? b = some o ∧ ∀ v, o.data ≠ .cell v
  keep : ∀ i h h', tn i h → (∀ b ∈ fp, ∀ o, h.get? b = some o → h'.get? b = some o) → tn i h'
  item : ∀ (X : Cx), X.prog = P → X.w = w → X.K = K → X.calm = true → ∀ (i : Nat) (pins : List (Addr × Obj)) (s : Shared) (σ : St) (H : Hp) (E : Value → Shared → Prop), Inv X pins σ H s → (∀ b ∈ fp, FpOk X pins H b) → tn i s.heap → J.go i H →
    wpAny (model P w) X.A (pyNext (.ref it)) (fun r s1 => ∃ u, r = some u ∧
      wpAny (model P w) X.A (letOwnedTupleGo tg (.ref it) u) (fun _ s2 => ∃ x H', Inv X pins σ H' s2 ∧ RelV x u ∧ J.yld i H x H' ∧ tn (i + 1) s2.heap ∧ ∀ b ∈ fp, H' b = none) E s1) E s
  done : ∀ (X : Cx), X.prog = P → X.w = w → X.K = K → X.calm = true → ∀ (i : Nat) (pins : List (Addr × Obj)) (s : Shared) (σ : St) (H : Hp) (E : Value → Shared → Prop), Inv X pins σ H s → (∀ b ∈ fp, FpOk X pins H b) → tn i s.heap → J.stop i H →
    wpAny (model P w) X.A (pyNext (.ref it)) (fun r s1 => r = none ∧ Inv X pins σ H s1) E s
  self : ∀ (A : Around) (i : Nat) (s : Shared) (Q : Value → Shared → Prop) (E : Value → Shared → Prop), tn i s.heap → Q (.ref it) s → wpAny (model P w) A (pyIter (.ref it)) Q E s
abbrev TI := St → Hp → (It → Hp → Prop) → Prop
/-- an iterator has come -/
def PIE (X : Cx) (pins : List (Addr × Obj)) (σ : St) (tg : Expr) (R : It → Hp → Prop) (itv : Value) (s2 : Shared) : Prop :=
  ∃ (it : Addr) (fp : List Addr) (tn : Nat → Heap → Prop) (J : It) (H' : Hp), itv = .ref it ∧ Inv X pins σ H' s2 ∧ Turn X.prog X.w X.K tg J fp it tn ∧ tn 0 s2.heap ∧ (∀ b ∈ fp, FpOk X pins H' b) ∧ R J H'
def PI (X : Cx) (tg iter : Expr) (wi : TI) : Prop :=
  ∀ (pins : List (Addr × Obj)) (s : Shared) (σ : St) (H : Hp) (R : It → Hp → Prop), Inv X pins σ H s → wi σ H R →
    wpAny (model X.prog X.w) X.A (eval iter X.env) (fun v s1 => wpAny (model X.prog X.w) X.A (pyIter v) (PIE X pins σ tg R) X.xe s1) X.xe s

/-- the step ahead of the store is nothing for an iterator that keeps no tuple -/
theorem go_of {M : Model} {A : Around} {E : Value → Shared → Prop} {s : Shared} {tg : Expr} {it : Addr} {u : Value} {o : Obj} {n : String} {vs : Array Value} {Q : Unit → Shared → Prop} (ho : s.heap.get? it = some o) (hc : o.cls = .type n) (hd : o.data = .fields vs)
    (hn : ["enumerate", "zip", "dict_itemiterator", "dict_reverseitemiterator", "odict_iterator", "itertools.zip_longest", "itertools.pairwise"].contains n = false) (hQ : Q () s) : wpAny M A (letOwnedTupleGo tg (.ref it) u) Q E s := by
  unfold letOwnedTupleGo
  cases tg <;> first
    | exact wpAny_pure hQ
    | (cases u <;> first
        | exact wpAny_pure hQ
        | (refine wpAny_bind (wpAny_load ho ?_)
           rw [hc, hd]
           show wpAny M A (if (["enumerate", "zip", "dict_itemiterator", "dict_reverseitemiterator", "odict_iterator", "itertools.zip_longest", "itertools.pairwise"].contains n && vs[0]? == some (rawInt _)) = true then _ else _) Q E s
           rw [if_neg (by intro h; rw [hn, Bool.false_and] at h; cases h)]
           exact wpAny_pure hQ))

/-- the list at a, as it stands at each turn (a loop may append to it) -/
def Itl (K : PySem.W.Frag) (a : Addr) : It :=
  ⟨fun i H => ∃ xs x, SqL K H a xs ∧ xs[i]? = some x, fun i H x H' => H' = H ∧ ∀ xs, SqL K H a xs → xs[i]? = some x, fun i H => ∃ xs, SqL K H a xs ∧ xs.length ≤ i⟩
def Itt (K : PySem.W.Frag) (a : Addr) : It :=
  ⟨fun i H => ∃ xs x, SqT K H a xs ∧ xs[i]? = some x, fun i H x H' => H' = H ∧ ∀ xs, SqT K H a xs → xs[i]? = some x, fun i H => ∃ xs, SqT K H a xs ∧ xs.length ≤ i⟩
/-- lo, lo + 1, .. (n of them) -/
def Itr (lo : Int) (n : Nat) : It := ⟨fun i _ => i < n, fun i H x H' => H' = H ∧ x = .int (lo + i), fun i _ => n ≤ i⟩
theorem turn_list {P : Program} {w : World} {K : PySem.W.Frag} {tg : Expr} (a it : Addr) : Turn P w K tg (Itl K a) [it] it (fun i h => h.IsListIter it a i) where
  mem := by simp
  obj := fun i h st b hb => by
    have e : b = it := by simpa using hb
    subst e
    obtain ⟨o, e, c, d⟩ := st
    exact ⟨o, e, fun v z => by rw [d] at z; cases z⟩
  keep := fun i h h' st k => st.at fun o e => k it (by simp) o e
  item := by
    intro X hP hw hK hc i pins s σ H E I hf st hg
    subst hP hw hK
    obtain ⟨xs, x, hq, hx⟩ := hg
    obtain ⟨its, rv, p, hz⟩ := I.list hq
    obtain ⟨u, hu, ru⟩ := rv.get hx
    obtain ⟨f0, f1, f2, f3, f4, f5⟩ := hf it (by simp)
    refine wpAny_pyNext_list_item st p.isList (x := u) (by simpa using hu) fun h' st' sb => ?_
    have I1 : Inv X pins σ H { s with heap := h' } := I.turned (t' := s.toks) (fun b o hb e => (sb.2 b hb).trans e) f0 f1 f3 f4 f5
    obtain ⟨o, e, c, d⟩ := id st'
    exact ⟨u, rfl, go_of (s := { s with heap := h' }) e c d (by decide) ⟨x, H, I1, ru, ⟨rfl, fun ys hy => by rw [I.list_inj hy hq]; exact hx⟩, st', fun b hb => (hf b hb).1⟩⟩
  done := by
    intro X hP hw hK hc i pins s σ H E I hf st hg
    subst hP hw hK
    obtain ⟨xs, hq, hx⟩ := hg
    obtain ⟨its, rv, p, hz⟩ := I.list hq
    obtain ⟨f0, f1, f2, f3, f4, f5⟩ := hf it (by simp)
    have hl := rv.length
    exact wpAny_pyNext_list_end (I.ok.hd hc) st p.isList (by simp; omega) fun h' eb => ⟨rfl, I.turned (t' := s.toks) (fun b o hb e => eb b o hb e) f0 f1 f3 f4 f5⟩
  self := fun _ _ _ _ _ st h => wpAny_pyIter_listiter st h
theorem turn_tuple {P : Program} {w : World} {K : PySem.W.Frag} {tg : Expr} (a it : Addr) : Turn P w K tg (Itt K a) [it] it (fun i h => h.IsTupleIter it a i) where
  mem := by simp
  obj := fun i h st b hb => by
    have e : b = it := by simpa using hb
    subst e
    obtain ⟨o, e, c, d⟩ := st
    exact ⟨o, e, fun v z => by rw [d] at z; cases z⟩
  keep := fun i h h' st k => st.at fun o e => k it (by simp) o e
  item := by
    intro X hP hw hK hc i pins s σ H E I hf st hg
    subst hP hw hK
    obtain ⟨xs, x, hq, hx⟩ := hg
    obtain ⟨its, rv, p, hz⟩ := I.tuple hq
    obtain ⟨u, hu, ru⟩ := rv.get hx
    obtain ⟨f0, f1, f2, f3, f4, f5⟩ := hf it (by simp)
    refine wpAny_pyNext_tuple_item st (show s.heap.IsTuple a its.toArray from p) (x := u) (by simpa using hu) fun h' st' sb => ?_
    have I1 : Inv X pins σ H { s with heap := h' } := I.turned (t' := s.toks) (fun b o hb e => (sb.2 b hb).trans e) f0 f1 f3 f4 f5
    obtain ⟨o, e, c, d⟩ := id st'
    exact ⟨u, rfl, go_of (s := { s with heap := h' }) e c d (by decide) ⟨x, H, I1, ru, ⟨rfl, fun ys hy => by rw [I.tuple_inj hy hq]; exact hx⟩, st', fun b hb => (hf b hb).1⟩⟩
  done := by
    intro X hP hw hK hc i pins s σ H E I hf st hg
    subst hP hw hK
    obtain ⟨xs, hq, hx⟩ := hg
    obtain ⟨its, rv, p, hz⟩ := I.tuple hq
    obtain ⟨f0, f1, f2, f3, f4, f5⟩ := hf it (by simp)
    have hl := rv.length
    exact wpAny_pyNext_tuple_end (I.ok.hd hc) st (show s.heap.IsTuple a its.toArray from p) (by simp; omega) fun h' eb => ⟨rfl, I.turned (t' := s.toks) (fun b o hb e => eb b o hb e) f0 f1 f3 f4 f5⟩
  self := fun _ _ _ _ _ st h => wpAny_pyIter_tupleiter st h
theorem turn_range {P : Program} {w : World} {K : PySem.W.Frag} {tg : Expr} (it : Addr) (lo : Int) (n : Nat) : Turn P w K tg (Itr lo n) [it] it (fun i h => IsRangeIter h it (lo + (i : Nat) * 1) ((n : Int) - (i : Nat)) 1) where
  mem := by simp
  obj := fun i h st b hb => by
    have e : b = it := by simpa using hb
    subst e
    exact ⟨_, st, fun v z => by
      have z' : Data.fields _ = Data.cell v := z
      cases z'⟩
  keep := fun i h h' st k => k it (by simp) _ st
  item := by
    intro X hP hw hK hc i pins s σ H E I hf st hg
    subst hP hw hK
    obtain ⟨f0, f1, f2, f3, f4, f5⟩ := hf it (by simp)
    have W := Walks.range (prog := X.prog) (w := X.w) (I.ok.hd hc) it lo 1 n
    refine W.item i s _ _ hg st fun v h' tk hv st' kk => ?_
    obtain ⟨t, rfl⟩ := hv
    have I1 : Inv X pins σ H { s with heap := h', toks := tk } := I.turned (fun b o hb e => kk b o (by simpa using hb) e) f0 f1 f3 f4 f5
    refine ⟨_, rfl, go_of (s := { s with heap := h', toks := tk }) (n := "range_iterator") st' rfl rfl (by decide) ⟨.int (lo + i), H, I1, ⟨t, ?_⟩, ⟨rfl, rfl⟩, st', fun b hb => (hf b hb).1⟩⟩
    rw [Int.mul_one]
  done := by
    intro X hP hw hK hc i pins s σ H E I hf st hg
    subst hP hw hK
    obtain ⟨f0, f1, f2, f3, f4, f5⟩ := hf it (by simp)
    exact wpAny_pyNext_range_end (I.ok.hd hc) st (by have : n ≤ i := hg; omega) fun h' eb => ⟨rfl, I.turned (t' := s.toks) (fun b o hb e => eb b o hb e) f0 f1 f3 f4 f5⟩
  self := fun _ _ _ _ _ st h => wpAny_pyIter_rangeiter st h
end L2

namespace L2
open PySem PySem.Spec PyProof.Rows
section
variable {X : Cx} {tg : Expr}
def iList (K : PySem.W.Frag) (tl : TE) : TI := fun σ H R => tl σ H fun x H1 => ∃ a, x = .ref a ∧ (∃ xs, SqL K H1 a xs) ∧ R (Itl K a) H1
def iTup (K : PySem.W.Frag) (tl : TE) : TI := fun σ H R => tl σ H fun x H1 => ∃ a, x = .ref a ∧ (∃ xs, SqT K H1 a xs) ∧ R (Itt K a) H1
theorem pi_list {l : Expr} {tl : TE} (hl : PE X l tl) : PI X tg l (iList X.K tl) := by
  intro pins s σ H R I h
  refine thn (hl pins s σ H _ I h) fun v s1 ⟨x, H1, I1, r1, q1⟩ => ?_
  obtain ⟨a, e, ⟨xs, hq⟩, q⟩ := q1
  subst e
  cases r1
  obtain ⟨its, rv, p, hz⟩ := I1.list hq
  refine wpAny_pyIter_list p.isList ?_
  refine ⟨s1.heap.objs.size, [s1.heap.objs.size], _, _, H1, rfl, I1.kept (t' := s1.toks) fun b o e => Heap.get?_push_of_some _ e, turn_list a _, ⟨_, Heap.get?_push_size _ rfl, rfl, rfl⟩, fun b hb => ?_, q⟩
  have e : b = s1.heap.objs.size := by simpa using hb
  subst e
  exact I1.fpOk (Nat.le_refl _) (I1.hok.fresh (Nat.le_refl _))
theorem pi_tup {l : Expr} {tl : TE} (hl : PE X l tl) : PI X tg l (iTup X.K tl) := by
  intro pins s σ H R I h
  refine thn (hl pins s σ H _ I h) fun v s1 ⟨x, H1, I1, r1, q1⟩ => ?_
  obtain ⟨a, e, ⟨xs, hq⟩, q⟩ := q1
  subst e
  cases r1
  obtain ⟨its, rv, p, hz⟩ := I1.tuple hq
  refine wpAny_pyIter_tuple (show s1.heap.IsTuple a its.toArray from p) ?_
  refine ⟨s1.heap.objs.size, [s1.heap.objs.size], _, _, H1, rfl, I1.kept (t' := s1.toks) fun b o e => Heap.get?_push_of_some _ e, turn_tuple a _, ⟨_, Heap.get?_push_size _ rfl, rfl, rfl⟩, fun b hb => ?_, q⟩
  have e : b = s1.heap.objs.size := by simpa using hb
  subst e
  exact I1.fpOk (Nat.le_refl _) (I1.hok.fresh (Nat.le_refl _))
/-- a range object just made, walked -/
theorem range_it {pins : List (Addr × Obj)} {σ : St} {H : Hp} {s : Shared} {R : It → Hp → Prop} {E : Value → Shared → Prop} {lo hi : Int} {t u v : Tok} {tk : Nat} (I : Inv X pins σ H s) (h1 : -(2 ^ 62) ≤ lo) (h2 : lo < 2 ^ 62) (h3 : -(2 ^ 62) ≤ hi) (h4 : hi < 2 ^ 62)
    (q : R (Itr lo (hi - lo).toNat) H) : wpAny (model X.prog X.w) X.A (pyIter (.ref s.heap.objs.size)) (PIE X pins σ tg R) E { s with heap := s.heap.push { cls := .type "range", data := .fields #[.int lo t, .int hi u, .int 1 v] }, toks := tk } := by
  refine wpAny_pyIter_range (IsRange.new ..) (small_one h1 h2 h3 h4) ?_
  have I1 : Inv X pins σ H { s with heap := s.heap.push { cls := .type "range", data := .fields #[.int lo t, .int hi u, .int 1 v] }, toks := tk } := I.kept fun b o e => Heap.get?_push_of_some _ e
  refine ⟨(s.heap.push { cls := .type "range", data := .fields #[.int lo t, .int hi u, .int 1 v] }).objs.size, [(s.heap.push { cls := .type "range", data := .fields #[.int lo t, .int hi u, .int 1 v] }).objs.size], _, _, H, rfl,
    I1.kept (t' := tk) fun b o e => Heap.get?_push_of_some _ e, turn_range _ lo (hi - lo).toNat, ?_, fun b hb => ?_, q⟩
  · have e1 : lo + ((0 : Nat) : Int) * 1 = lo := by simp
    have e2 : (((hi - lo).toNat : Nat) : Int) - ((0 : Nat) : Int) = Builtin.Range.rangeSize lo hi 1 := by rw [rangeSize_one]; split <;> omega
    show IsRangeIter _ _ (lo + ((0 : Nat) : Int) * 1) ((((hi - lo).toNat : Nat) : Int) - ((0 : Nat) : Int)) 1
    rw [e1, e2]
    exact Heap.get?_push_size _ rfl
  · have e : b = (s.heap.push { cls := .type "range", data := .fields #[.int lo t, .int hi u, .int 1 v] }).objs.size := by simpa using hb
    subst e
    exact I1.fpOk (Nat.le_refl _) (I1.hok.fresh (Nat.le_refl _))
def iRng1 (ta : TA) : TI := fun σ H R => ta σ H fun vs H1 => ∃ j : Int, vs = [.int j] ∧ -(2 ^ 62) ≤ j ∧ j < 2 ^ 62 ∧ R (Itr 0 j.toNat) H1
theorem pi_range1 {a : Expr} {ta : TA} {p pos : Pos} (hg : Gl X "range") (hm : X.mg "range" = none) (ha : PA X [a] ta) (hs : starEach [a] X.env = [(false, eval a X.env)] := by rfl) : PI X tg (.Call (.Name "range" p) [a] [] pos) (iRng1 ta) := by
  intro pins s σ H R I h
  refine Call_ (ld_blt I hg hm boot_range (PyProof.Rows.callWith_type1 (thn (ha pos pins s σ H _ I h) fun us s1 ⟨vs, H1, I1, r1, q1⟩ => ?_) hs rfl))
  obtain ⟨j, e, q1, q2, q⟩ := q1
  subst e
  cases r1 with
  | cons r rr =>
    cases rr
    obtain ⟨t, rfl⟩ := r
    exact call_range_1 (range_it I1 (by omega) (by omega) q1 q2 (by simpa using q))
/-- W: the invariant by the turn and a measure; N: what the body is to reach -/
def tFor (wi : TI) (g : TG) (tb : TS) : TS := fun D σ H => wi σ H fun J H1 => ∃ W : Nat → Nat → St → Hp → Prop, (∃ m, W 0 m σ H1) ∧ ∀ i m σ H, W i m σ H →
  (J.stop i H ∧ D.nx σ H) ∨ (J.go i H ∧ ∃ N : St → Hp → Prop, (∀ σ' H', N σ' H' → ∃ m', m' < m ∧ W (i + 1) m' σ' H') ∧ ∀ x H', J.yld i H x H' → g x σ H' fun σ2 H2 => tb { D with nx := N, ct := N, bk := D.nx } σ2 H2)
/-- the records at fp as they stand -/
def pinsAt (fp : List Addr) (h : Heap) : List (Addr × Obj) := fp.filterMap fun b => (h.get? b).map fun o => (b, o)
theorem mem_pinsAt {fp : List Addr} {h : Heap} {b : Addr} {o : Obj} (hb : b ∈ fp) (e : h.get? b = some o) : (b, o) ∈ pinsAt fp h := List.mem_filterMap.mpr ⟨b, hb, by rw [e]; rfl⟩
theorem of_pinsAt {fp : List Addr} {h : Heap} {p : Addr × Obj} (hp : p ∈ pinsAt fp h) : p.1 ∈ fp ∧ h.get? p.1 = some p.2 := by
  obtain ⟨b, hb, e⟩ := List.mem_filterMap.mp hp
  cases q : h.get? b with
  | none => rw [q] at e; cases e
  | some o =>
    rw [q] at e
    have e' : (b, o) = p := Option.some.inj e
    subst e'
    exact ⟨hb, q⟩
theorem Inv.pinned {pins : List (Addr × Obj)} {σ : St} {H : Hp} {s : Shared} {fp : List Addr} (I : Inv X pins σ H s) (hf : ∀ b ∈ fp, FpOk X pins H b) (ho : ∀ b ∈ fp, ∃ o, s.heap.get? b = some o ∧ ∀ v, o.data ≠ .cell v) : Inv X (pins ++ pinsAt fp s.heap) σ H s :=
  I.pins_of fun p hp => (List.mem_append.mp hp).elim (fun z => I.pin p (List.mem_append_right _ z)) fun z => by
    obtain ⟨hb, e⟩ := of_pinsAt z
    obtain ⟨f0, f1, f2, _⟩ := hf p.1 hb
    obtain ⟨o, e', d⟩ := ho p.1 hb
    rw [e] at e'; cases e'
    exact ⟨e, f0, f1, f2, d⟩
theorem Inv.unpinned {pins pl : List (Addr × Obj)} {σ : St} {H : Hp} {s : Shared} (I : Inv X (pins ++ pl) σ H s) : Inv X pins σ H s := I.pins_of fun p hp => I.pin p (List.mem_append_right _ (List.mem_append_left _ hp))
theorem ps_for {iter : Expr} {body : List Stmt} {wi : TI} {g : TG} {tb : TS} {pos : Pos} (hp : PassesOwn (model X.prog X.w) X.A X.env X.xe) (hc : X.calm = true) (hi : PI X tg iter wi) (hg : PG X tg g) (hb : PSs X body tb)
    (hs : ∀ x, foldedSetIterable iter X.env x = pure x := by intro _; rfl) : PS X (.For tg iter body [] pos) (tFor wi g tb) := by
  intro pins s σ H D I h
  refine wpAny_For (thn (hi pins s σ H _ I h) fun v s1 h1 => thn h1 fun itv s2 h2 => ?_) hs
  obtain ⟨it, fp, tn, J, H2, e, I2, T, st2, f2, W, ⟨m0, w0⟩, turn⟩ := h2
  subst e
  -- what stays true of the iterator's objects through the loop
  have stat : ∀ {H' : Hp}, (∀ b ∈ fp, H' b = none) → ∀ b ∈ fp, FpOk X pins H' b := fun hn b hb => ⟨hn b hb, (f2 b hb).2⟩
  refine codeAny_forLoop_any (fun n s' => ∃ i σ' H', Inv X pins σ' H' s' ∧ tn i s'.heap ∧ (∀ b ∈ fp, H' b = none) ∧ W i n σ' H') ?_ m0 ⟨0, σ, H2, I2, st2, fun b hb => (f2 b hb).1, w0⟩
  rintro n s3 ⟨i, σ3, H3, I3, st3, fr3, w3⟩
  rcases turn i n σ3 H3 w3 with ⟨stop, qn⟩ | ⟨go, N, hN, step⟩
  · refine wpAny_passesOwn hp (thn (T.done X rfl rfl rfl hc i pins s3 σ3 H3 X.xe I3 (stat fr3) st3 stop) fun r s4 ⟨hr, I4⟩ => ?_)
    subst hr
    exact wpAny_execs_nil ⟨σ3, H3, I4, qn⟩
  · refine wpAny_passesOwn hp (thn (T.item X rfl rfl rfl hc i pins s3 σ3 H3 X.xe I3 (stat fr3) st3 go) fun r s4 ⟨u, hr, h4⟩ => ?_)
    subst hr
    refine wpAny_passesOwn hp (thn h4 fun _ s5 ⟨x, H5, I5, r5, y5, st5, fr5⟩ => ?_)
    have I5' := I5.pinned (stat fr5) (T.obj _ _ st5)
    refine wpAny_passesOwn hp (thn (hg _ s5 σ3 H5 x u _ I5' r5 (step x H5 y5)) fun _ s6 ⟨σ6, H6, I6, q6⟩ => ?_)
    refine wpAny_passesOwn hp (thn (hb _ s6 σ6 H6 _ I6 q6) fun f s7 q7 => ?_)
    have again : ∀ {σ7 : St} {H7 : Hp}, Inv X (pins ++ pinsAt fp s5.heap) σ7 H7 s7 → N σ7 H7 → ∃ m, m < n ∧ ∃ i σ' H', Inv X pins σ' H' s7 ∧ tn i s7.heap ∧ (∀ b ∈ fp, H' b = none) ∧ W i m σ' H' := fun {σ7 H7} I7 n7 => by
      obtain ⟨m', hm, w7⟩ := hN σ7 H7 n7
      refine ⟨m', hm, i + 1, σ7, H7, I7.unpinned, T.keep _ _ _ st5 fun b hb o e => (I7.pin (b, o) (List.mem_append_right _ (List.mem_append_right _ (mem_pinsAt hb e)))).1, fun b hb => ?_, w7⟩
      obtain ⟨o, e, d⟩ := T.obj _ _ st5 b hb
      exact (I7.pin (b, o) (List.mem_append_right _ (List.mem_append_right _ (mem_pinsAt hb e)))).2.1
    cases f with
    | next => obtain ⟨σ7, H7, I7, n7⟩ := q7; exact again I7 n7
    | cont => obtain ⟨σ7, H7, I7, n7⟩ := q7; exact again I7 n7
    | brk => obtain ⟨σ7, H7, I7, q7⟩ := q7; exact ⟨σ7, H7, I7.unpinned, q7⟩
    | ret v => obtain ⟨x7, σ7, H7, I7, r7, q7⟩ := q7; exact ⟨x7, σ7, H7, I7.unpinned, r7, q7⟩
end

/-- over a list that the body leaves as it is -/
theorem for_list {K : PySem.W.Frag} {a : Addr} {xs : List V} {g : TG} {tb : TS} {D : Ends} {σ : St} {H : Hp} (Pv : Nat → St → Hp → Prop) (h0 : Pv 0 σ H) (hl : ∀ i σ H, i ≤ xs.length → Pv i σ H → SqL K H a xs)
    (hs : ∀ i x σ H, xs[i]? = some x → Pv i σ H → g x σ H fun σ2 H2 => tb { D with nx := Pv (i + 1), ct := Pv (i + 1), bk := D.nx } σ2 H2) (hd : ∀ σ H, Pv xs.length σ H → D.nx σ H) :
    ∃ W : Nat → Nat → St → Hp → Prop, (∃ m, W 0 m σ H) ∧ ∀ i m σ H, W i m σ H →
      ((Itl K a).stop i H ∧ D.nx σ H) ∨ ((Itl K a).go i H ∧ ∃ N : St → Hp → Prop, (∀ σ' H', N σ' H' → ∃ m', m' < m ∧ W (i + 1) m' σ' H') ∧ ∀ x H', (Itl K a).yld i H x H' → g x σ H' fun σ2 H2 => tb { D with nx := N, ct := N, bk := D.nx } σ2 H2) := by
  refine ⟨fun i m σ H => m = xs.length - i ∧ i ≤ xs.length ∧ Pv i σ H, ⟨xs.length, by simp, Nat.zero_le _, h0⟩, ?_⟩
  rintro i m σ H ⟨rfl, hi, p⟩
  have q := hl i σ H hi p
  by_cases hlt : i < xs.length
  · refine .inr ⟨⟨xs, xs[i], q, by simp [hlt]⟩, Pv (i + 1), fun σ' H' p' => ⟨xs.length - (i + 1), by omega, rfl, hlt, p'⟩, fun x H' y => ?_⟩
    obtain ⟨e, y⟩ := y
    subst e
    exact hs i x σ _ (y xs q) p
  · have e : i = xs.length := by omega
    subst e
    exact .inl ⟨⟨xs, q, Nat.le_refl _⟩, hd σ H p⟩
theorem for_range {lo : Int} {n : Nat} {g : TG} {tb : TS} {D : Ends} {σ : St} {H : Hp} (Pv : Nat → St → Hp → Prop) (h0 : Pv 0 σ H)
    (hs : ∀ i σ H, i < n → Pv i σ H → g (.int (lo + i)) σ H fun σ2 H2 => tb { D with nx := Pv (i + 1), ct := Pv (i + 1), bk := D.nx } σ2 H2) (hd : ∀ σ H, Pv n σ H → D.nx σ H) :
    ∃ W : Nat → Nat → St → Hp → Prop, (∃ m, W 0 m σ H) ∧ ∀ i m σ H, W i m σ H →
      ((Itr lo n).stop i H ∧ D.nx σ H) ∨ ((Itr lo n).go i H ∧ ∃ N : St → Hp → Prop, (∀ σ' H', N σ' H' → ∃ m', m' < m ∧ W (i + 1) m' σ' H') ∧ ∀ x H', (Itr lo n).yld i H x H' → g x σ H' fun σ2 H2 => tb { D with nx := N, ct := N, bk := D.nx } σ2 H2) := by
  refine ⟨fun i m σ H => m = n - i ∧ i ≤ n ∧ Pv i σ H, ⟨n, by simp, Nat.zero_le _, h0⟩, ?_⟩
  rintro i m σ H ⟨rfl, hi, p⟩
  by_cases hlt : i < n
  · refine .inr ⟨hlt, Pv (i + 1), fun σ' H' p' => ⟨n - (i + 1), by omega, rfl, hlt, p'⟩, fun x H' y => ?_⟩
    obtain ⟨e, y⟩ := y
    subst e y
    exact hs i σ _ hlt p
  · have e : i = n := by omega
    subst e
    exact .inl ⟨Nat.le_refl _, hd σ H p⟩
/-- while, by a word and a measure of the state -/
theorem while_by {c : TT} {tb : TS} {D : Ends} {σ : St} {H : Hp} (Pv : St → Hp → Prop) (μ : St → Hp → Nat) (h0 : Pv σ H)
    (hs : ∀ σ H, Pv σ H → c σ H fun b H1 => if b = true then tb { D with nx := fun σ' H' => Pv σ' H' ∧ μ σ' H' < μ σ H, ct := fun σ' H' => Pv σ' H' ∧ μ σ' H' < μ σ H, bk := D.nx } σ H1 else D.nx σ H1)
    (mono : ∀ σ H Q Q', (∀ b H1, Q b H1 → Q' b H1) → c σ H Q → c σ H Q') : tWhile c tb D σ H := by
  refine ⟨fun m σ H => m = μ σ H ∧ Pv σ H, ⟨_, rfl, h0⟩, ?_⟩
  rintro m σ H ⟨rfl, p⟩
  refine mono σ H _ _ (fun b H1 q => ?_) (hs σ H p)
  cases b with
  | true => exact ⟨_, fun σ' H' ⟨p', l⟩ => ⟨_, l, rfl, p'⟩, q⟩
  | false => exact q
end L2

namespace L2
open PySem PySem.Spec PyProof.Rows

abbrev R2 := V → V → Hp → VK → Prop
/-- a two-place operation on values: f is binaryOp op, inplaceOp op or compareOp op -/
def OpR (X : Cx) (f : Value → Value → Sem Value) (r : R2) : Prop :=
  ∀ (pins : List (Addr × Obj)) (s : Shared) (σ : St) (H : Hp) (x y : V) (v u : Value) (Q : VK), Inv X pins σ H s → RelV x v → RelV y u → r x y H Q →
    wpAny (model X.prog X.w) X.A (f v u) (EP X pins σ Q) X.xe s
/-- a one-place operation -/
def UnR (X : Cx) (f : Value → Sem Value) (r : V → Hp → VK → Prop) : Prop :=
  ∀ (pins : List (Addr × Obj)) (s : Shared) (σ : St) (H : Hp) (x : V) (v : Value) (Q : VK), Inv X pins σ H s → RelV x v → r x H Q →
    wpAny (model X.prog X.w) X.A (f v) (EP X pins σ Q) X.xe s
/-- a call of a value that is known (a builtin, a type) with values -/
def CallR (X : Cx) (f : Value) (r : List V → Hp → VK → Prop) : Prop :=
  ∀ (pins : List (Addr × Obj)) (s : Shared) (σ : St) (H : Hp) (xs : List V) (us : List Value) (Q : VK), Inv X pins σ H s → Vals xs us → r xs H Q →
    wpAny (model X.prog X.w) X.A (call f us) (EP X pins σ Q) X.xe s
def tOp (r : R2) (ta tb : TE) : TE := fun σ H Q => ta σ H fun x H1 => tb σ H1 fun y H2 => r x y H2 Q
def tUn (r : V → Hp → VK → Prop) (ta : TE) : TE := fun σ H Q => ta σ H fun x H1 => r x H1 Q
/-- ints in, under C, and a value out -/
def rI (C : Int → Int → Prop) (g : Int → Int → V) : R2 := fun x y H Q => ∃ i j, x = .int i ∧ y = .int j ∧ C i j ∧ Q (g i j) H
def rI0 (g : Int → Int → V) : R2 := fun x y H Q => ∃ i j, x = .int i ∧ y = .int j ∧ Q (g i j) H
def rU (g : Int → V) : V → Hp → VK → Prop := fun x H Q => ∃ i, x = .int i ∧ Q (g i) H

section
variable {X : Cx} {a b c : Expr} {ta tb tc : TE} {pos : Pos}

theorem binT (ha : PE X a ta) (hb : PE X b tb) {pins : List (Addr × Obj)} {s : Shared} {σ : St} {H : Hp} {R : V → V → Hp → Prop} (I : Inv X pins σ H s)
    (h : ta σ H fun x H1 => tb σ H1 fun y H2 => R x y H2) {Q : Value → Shared → Prop} {f : Value → Value → Sem Value}
    (hf : ∀ v u s2 x y H2, Inv X pins σ H2 s2 → RelV x v → RelV y u → R x y H2 → wpAny (model X.prog X.w) X.A (f v u) Q X.xe s2) :
    wpAny (model X.prog X.w) X.A (eval a X.env) (fun v s₁ => wpAny (model X.prog X.w) X.A (eval b X.env) (fun u s₂ => wpAny (model X.prog X.w) X.A (f v u) Q X.xe s₂) X.xe s₁) X.xe s := by
  refine thn (ha pins s σ H _ I h) fun v s1 ⟨x, H1, I1, r1, q1⟩ => ?_
  refine thn (hb pins s1 σ H1 _ I1 q1) fun u s2 ⟨y, H2, I2, r2, q2⟩ => ?_
  exact hf v u s2 x y H2 I2 r1 r2 q2

theorem pe_op {op : Operator} {r : R2} (ho : OpR X (binaryOp op) r) (ha : PE X a ta) (hb : PE X b tb) : PE X (.BinOp a op b pos) (tOp r ta tb) := by
  intro pins s σ H Q I h
  exact wpAny_BinOp (binT ha hb I h fun v u s2 x y H2 I2 rx ry q => ho pins s2 σ H2 x y v u Q I2 rx ry q)
theorem pe_un {op : UnaryOp} {r : V → Hp → VK → Prop} (ho : UnR X (unaryOp op) r) (ha : PE X a ta) : PE X (.UnaryOp op a pos) (tUn r ta) := by
  intro pins s σ H Q I h
  exact UnaryOp_ (thn (ha pins s σ H _ I h) fun v s1 ⟨x, H1, I1, r1, q1⟩ => ho pins s1 σ H1 x v Q I1 r1 q1)
theorem opI {f : Value → Value → Sem Value} {C : Int → Int → Prop} {g : Int → Int → Int}
    (rule : ∀ (i j : Int) (t u : Tok) (s : Shared) (Q : Value → Shared → Prop) (E : Value → Shared → Prop), C i j → Q (.int (g i j) s.toks) { s with toks := s.toks + 1 } → wpAny (model X.prog X.w) X.A (f (.int i t) (.int j u)) Q E s) :
    OpR X f (rI C fun i j => .int (g i j)) := by
  intro pins s σ H x y v u Q I rx ry h
  obtain ⟨i, j, rfl, rfl, hc, q⟩ := h
  obtain ⟨t, rfl⟩ := rx
  obtain ⟨t', rfl⟩ := ry
  exact rule i j t t' s _ _ hc ⟨.int (g i j), H, I.tok _, ⟨_, rfl⟩, q⟩
theorem opI0 {f : Value → Value → Sem Value} {g : Int → Int → Int}
    (rule : ∀ (i j : Int) (t u : Tok) (s : Shared) (Q : Value → Shared → Prop) (E : Value → Shared → Prop), Q (.int (g i j) s.toks) { s with toks := s.toks + 1 } → wpAny (model X.prog X.w) X.A (f (.int i t) (.int j u)) Q E s) :
    OpR X f (rI0 fun i j => .int (g i j)) := by
  intro pins s σ H x y v u Q I rx ry h
  obtain ⟨i, j, rfl, rfl, q⟩ := h
  obtain ⟨t, rfl⟩ := rx
  obtain ⟨t', rfl⟩ := ry
  exact rule i j t t' s _ _ ⟨.int (g i j), H, I.tok _, ⟨_, rfl⟩, q⟩
theorem opB0 {f : Value → Value → Sem Value} {g : Int → Int → Bool}
    (rule : ∀ (i j : Int) (t u : Tok) (s : Shared) (Q : Value → Shared → Prop) (E : Value → Shared → Prop), Q (.bool (g i j)) s → wpAny (model X.prog X.w) X.A (f (.int i t) (.int j u)) Q E s) :
    OpR X f (rI0 fun i j => .bl (g i j)) := by
  intro pins s σ H x y v u Q I rx ry h
  obtain ⟨i, j, rfl, rfl, q⟩ := h
  obtain ⟨t, rfl⟩ := rx
  obtain ⟨t', rfl⟩ := ry
  exact rule i j t t' s _ _ ⟨.bl (g i j), H, I, rfl, q⟩

def CDiv (i j : Int) : Prop := 0 < j ∧ j < 1073741824
def CPow (i j : Int) : Prop := 0 ≤ j ∧ j ≤ 1000000 ∧ i.natAbs < 2 ^ 64
def CMul (i j : Int) : Prop := (-(2 ^ 64) < i ∧ i < 2 ^ 64) ∨ (-(2 ^ 64) < j ∧ j < 2 ^ 64)
theorem CMul.ok {i j : Int} (h : CMul i j) : IntMulOk i j := by
  rcases h with ⟨h1, h2⟩ | ⟨h1, h2⟩
  · exact .of_left (intBits_le_64 h1 h2)
  · exact .of_right (intBits_le_64 h1 h2)
theorem op_add : OpR X (binaryOp .Add) (rI0 fun i j => .int (i + j)) := opI0 fun _ _ _ _ _ _ _ q => add_int q
theorem op_sub : OpR X (binaryOp .Sub) (rI0 fun i j => .int (i - j)) := opI0 fun _ _ _ _ _ _ _ q => sub_int q
theorem op_mul : OpR X (binaryOp .Mult) (rI CMul fun i j => .int (i * j)) := opI fun _ _ _ _ _ _ _ hc q => mul_int q hc.ok
/-- // by a positive divisor -/
theorem op_fdiv : OpR X (binaryOp .FloorDiv) (rI CDiv fun i j => .int (i / j)) := opI fun i j _ _ _ _ _ hc q => by
  have h1 : (0 : Int) < j := hc.1
  have h2 : j < 1073741824 := hc.2
  exact floordiv_int (by omega) (by rw [Int.fdiv_eq_ediv_of_nonneg i (by omega)]; exact q) (.inl (PyProof.noPylong_small (by omega)))
/-- % by a positive divisor of any size -/
theorem op_mod : OpR X (binaryOp .Mod) (rI (fun _ j => 0 < j) fun i j => .int (i % j)) := opI fun i j _ _ _ _ _ hc q => by
  have h1 : (0 : Int) < j := hc
  exact mod_int' (by omega) (by rw [Int.fmod_eq_emod_of_nonneg i (by omega)]; exact q)
theorem op_pow : OpR X (binaryOp .Pow) (rI CPow fun i j => .int (i ^ j.toNat)) := opI fun _ _ _ _ _ _ _ hc q => pow_int_small hc.1 hc.2.1 hc.2.2 q
theorem unI {f : Value → Sem Value} {g : Int → Int}
    (rule : ∀ (i : Int) (t : Tok) (s : Shared) (Q : Value → Shared → Prop) (E : Value → Shared → Prop), Q (.int (g i) s.toks) { s with toks := s.toks + 1 } → wpAny (model X.prog X.w) X.A (f (.int i t)) Q E s) :
    UnR X f (rU fun i => .int (g i)) := by
  intro pins s σ H x v Q I rx h
  obtain ⟨i, rfl, q⟩ := h
  obtain ⟨t, rfl⟩ := rx
  exact rule i t s _ _ ⟨.int (g i), H, I.tok _, ⟨_, rfl⟩, q⟩
theorem un_neg : UnR X (unaryOp .USub) (rU fun i => .int (-i)) := unI fun _ _ _ _ _ q => neg_int q
end

/-- the scalars that == tells apart as data does -/
def scal : V → V → Bool
  | .non, .non => true | .non, .int _ => true | .int _, .non => true | .non, .bl _ => true | .bl _, .non => true | .non, .str _ => true | .str _, .non => true
  | .int _, .int _ => true | .bl _, .bl _ => true | .str _, .str _ => true | .byt _, .byt _ => true
  | .int _, .str _ => true | .str _, .int _ => true | .bl _, .str _ => true | .str _, .bl _ => true
  | _, _ => false
def rEq : R2 := fun x y H Q => scal x y = true ∧ Q (.bl (decide (x = y))) H
def rNe : R2 := fun x y H Q => scal x y = true ∧ Q (.bl (!decide (x = y))) H

theorem dec_int {i j : Int} : decide (V.int i = V.int j) = (i == j) := by
  rw [Bool.eq_iff_iff]
  simp
theorem dec_bl {i j : Bool} : decide (V.bl i = V.bl j) = (i == j) := by
  rw [Bool.eq_iff_iff]
  simp
theorem dec_str {i j : Str} : decide (V.str i = V.str j) = (i == j) := by
  rw [Bool.eq_iff_iff]
  simp
theorem dec_byt {i j : Array UInt8} : decide (V.byt i = V.byt j) = (i.toList == j.toList) := by
  rw [Bool.eq_iff_iff]
  cases i
  cases j
  simp

section
variable {X : Cx} {a b c : Expr} {ta tb tc : TE} {pos : Pos}
theorem fin_bl {pins : List (Addr × Obj)} {σ : St} {H : Hp} {s : Shared} {Q : VK} {k k' : Bool} (I : Inv X pins σ H s) (q : Q (.bl k) H) (e : k = k') : EP X pins σ Q (.bool k') s := by
  subst e
  exact ⟨.bl k, H, I, rfl, q⟩
theorem op_eq : OpR X (compareOp .Eq) rEq := by
  intro pins s σ H x y v u Q I rx ry h
  obtain ⟨hs, q⟩ := h
  cases x with
  | non =>
    cases rx
    cases y with
    | non => cases ry; exact PySem.EqNone.eq_none_none (fin_bl I q (by simp))
    | bl j => cases ry; exact PySem.EqNone.eq_none_bool (fin_bl I q (by simp))
    | int j => obtain ⟨t', rfl⟩ := ry; exact PySem.EqNone.eq_none_int (fin_bl I q (by simp))
    | str j => obtain ⟨t', rfl⟩ := ry; exact PySem.EqNone.eq_none_str (fin_bl I q (by simp))
    | _ => exact absurd (show false = true from hs) Bool.false_ne_true
  | bl i =>
    cases rx
    cases y with
    | non => cases ry; exact PySem.EqNone.eq_bool_none (fin_bl I q (by simp))
    | bl j => cases ry; exact eq_bool (fin_bl I q dec_bl)
    | str j => obtain ⟨t', rfl⟩ := ry; exact PySem.EqMixed.eq_bool_str (fin_bl I q (by simp))
    | _ => exact absurd (show false = true from hs) Bool.false_ne_true
  | int i =>
    obtain ⟨t, rfl⟩ := rx
    cases y with
    | non => cases ry; exact PySem.EqNone.eq_int_none (fin_bl I q (by simp))
    | int j => obtain ⟨t', rfl⟩ := ry; exact eq_int (fin_bl I q dec_int)
    | str j => obtain ⟨t', rfl⟩ := ry; exact PySem.EqMixed.eq_int_str (fin_bl I q (by simp))
    | _ => exact absurd (show false = true from hs) Bool.false_ne_true
  | str i =>
    obtain ⟨t, rfl⟩ := rx
    cases y with
    | non => cases ry; exact PySem.EqNone.eq_str_none (fin_bl I q (by simp))
    | bl j => cases ry; exact PySem.EqMixed.eq_str_bool (fin_bl I q (by simp))
    | int j => obtain ⟨t', rfl⟩ := ry; exact PySem.EqMixed.eq_str_int (fin_bl I q (by simp))
    | str j => obtain ⟨t', rfl⟩ := ry; exact eq_str (fin_bl I q dec_str)
    | _ => exact absurd (show false = true from hs) Bool.false_ne_true
  | byt i =>
    obtain ⟨t, rfl⟩ := rx
    cases y with
    | byt j => obtain ⟨t', rfl⟩ := ry; exact PySem.W.eq_bytes (fin_bl I q dec_byt)
    | _ => exact absurd (show false = true from hs) Bool.false_ne_true
  | _ => cases y <;> exact absurd (show false = true from hs) Bool.false_ne_true
theorem op_ne : OpR X (compareOp .NotEq) rNe := by
  intro pins s σ H x y v u Q I rx ry h
  obtain ⟨hs, q⟩ := h
  cases x with
  | non =>
    cases rx
    cases y with
    | non => cases ry; exact PySem.EqNone.ne_none_none (fin_bl I q (by simp))
    | bl j => cases ry; exact PySem.EqNone.ne_none_bool (fin_bl I q (by simp))
    | int j => obtain ⟨t', rfl⟩ := ry; exact PySem.EqNone.ne_none_int (fin_bl I q (by simp))
    | str j => obtain ⟨t', rfl⟩ := ry; exact PySem.EqNone.ne_none_str (fin_bl I q (by simp))
    | _ => exact absurd (show false = true from hs) Bool.false_ne_true
  | bl i =>
    cases rx
    cases y with
    | non => cases ry; exact PySem.EqNone.ne_bool_none (fin_bl I q (by simp))
    | bl j => cases ry; exact ne_bool (fin_bl I q (congrArg not dec_bl))
    | str j => obtain ⟨t', rfl⟩ := ry; exact PySem.EqMixed.ne_bool_str (fin_bl I q (by simp))
    | _ => exact absurd (show false = true from hs) Bool.false_ne_true
  | int i =>
    obtain ⟨t, rfl⟩ := rx
    cases y with
    | non => cases ry; exact PySem.EqNone.ne_int_none (fin_bl I q (by simp))
    | int j => obtain ⟨t', rfl⟩ := ry; exact ne_int (fin_bl I q (congrArg not dec_int))
    | str j => obtain ⟨t', rfl⟩ := ry; exact PySem.EqMixed.ne_int_str (fin_bl I q (by simp))
    | _ => exact absurd (show false = true from hs) Bool.false_ne_true
  | str i =>
    obtain ⟨t, rfl⟩ := rx
    cases y with
    | non => cases ry; exact PySem.EqNone.ne_str_none (fin_bl I q (by simp))
    | bl j => cases ry; exact PySem.EqMixed.ne_str_bool (fin_bl I q (by simp))
    | int j => obtain ⟨t', rfl⟩ := ry; exact PySem.EqMixed.ne_str_int (fin_bl I q (by simp))
    | str j => obtain ⟨t', rfl⟩ := ry; exact ne_str (fin_bl I q (congrArg not dec_str))
    | _ => exact absurd (show false = true from hs) Bool.false_ne_true
  | byt i =>
    obtain ⟨t, rfl⟩ := rx
    cases y with
    | byt j => obtain ⟨t', rfl⟩ := ry; exact PySem.W.ne_bytes (fin_bl I q (congrArg not dec_byt))
    | _ => exact absurd (show false = true from hs) Bool.false_ne_true
  | _ => cases y <;> exact absurd (show false = true from hs) Bool.false_ne_true

theorem op_lt : OpR X (compareOp .Lt) (rI0 fun i j => .bl (decide (i < j))) := opB0 fun _ _ _ _ _ _ _ q => lt_int q
theorem op_gt : OpR X (compareOp .Gt) (rI0 fun i j => .bl (decide (j < i))) := opB0 fun _ _ _ _ _ _ _ q => gt_int q
theorem op_ge : OpR X (compareOp .GtE) (rI0 fun i j => .bl (decide (j ≤ i))) := opB0 fun _ _ _ _ _ _ _ q => ge_int q
/-- two rules for one operation: by cases -/
theorem OpR.or {f : Value → Value → Sem Value} {r r' : R2} (h : OpR X f r) (h' : OpR X f r') : OpR X f (fun x y H Q => r x y H Q ∨ r' x y H Q) := by
  intro pins s σ H x y v u Q I rx ry q
  rcases q with q | q
  · exact h pins s σ H x y v u Q I rx ry q
  · exact h' pins s σ H x y v u Q I rx ry q

theorem nomark (b : Expr) {op : CmpOp} (h : op ≠ .In := by decide) (h2 : op ≠ .NotIn := by decide) : behindInMarks op b = false := by
  have e1 : (op == CmpOp.In) = false := by cases op <;> first | rfl | exact absurd rfl h
  have e2 : (op == CmpOp.NotIn) = false := by cases op <;> first | rfl | exact absurd rfl h2
  cases b <;> simp [behindInMarks, e1, e2]
/-- a comparison as a value; hm: nomark b, or (for in, not in) by with_unfolding_all rfl -/
theorem pe_cmpR {op : CmpOp} {r : R2} (ho : OpR X (compareOp op) r) (ha : PE X a ta) (hb : PE X b tb) (hm : behindInMarks op b = false) : PE X (.Compare a [op] [b] pos) (tOp r ta tb) := by
  intro pins s σ H Q I h
  exact wpAny_Compare1 (binT ha hb I h fun v u s2 x y H2 I2 rx ry q => ho pins s2 σ H2 x y v u Q I2 rx ry q) hm
/-- a reading of a value as a test -/
def tTest (t : TE) : TT := fun σ H Q => t σ H fun x H' => ∃ k, x = .bl k ∧ Q k H'
theorem pt_cmpR {op : CmpOp} {r : R2} (ho : OpR X (compareOp op) r) (ha : PE X a ta) (hb : PE X b tb) (hm : behindInMarks op b = false) : PT X (.Compare a [op] [b] pos) (tTest (tOp r ta tb)) := by
  intro pins s σ H Q I h
  refine wpAny_isTrue_Compare1 (thn (ha pins s σ H _ I h) fun v s1 ⟨x, H1, I1, r1, q1⟩ => thn (hb pins s1 σ H1 _ I1 q1) fun u s2 ⟨y, H2, I2, r2, q2⟩ =>
    thn (ho pins s2 σ H2 x y v u _ I2 r1 r2 q2) fun c s3 ⟨z, H3, I3, r3, k, e, q3⟩ => ?_) hm
  subst e
  cases r3
  exact wpAny_truthy_bool ⟨H3, I3, q3⟩
theorem line63 : (sizeLine : Nat) < 2 ^ 63 := by rw [sizeLine_eq]; decide
theorem vals1 {x : V} {us : List Value} (r : Vals [x] us) : ∃ u, us = [u] ∧ RelV x u := by
  cases r with
  | cons r1 r2 => cases r2; exact ⟨_, rfl, r1⟩
theorem vals2 {x y : V} {us : List Value} (r : Vals [x, y] us) : ∃ u w', us = [u, w'] ∧ RelV x u ∧ RelV y w' := by
  cases r with
  | cons r1 r2 =>
    cases r2 with
    | cons r3 r4 => cases r4; exact ⟨_, _, rfl, r1, r3⟩
theorem call_abs : CallR X (.builtin "abs") (fun xs H Q => ∃ i, xs = [.int i] ∧ Q (.int (if i < 0 then -i else i)) H) := by
  intro pins s σ H xs us Q I r h
  obtain ⟨i, rfl, q⟩ := h
  obtain ⟨u, rfl, t, rfl⟩ := vals1 r
  exact call_abs_int fun u tk => ⟨.int (if i < 0 then -i else i), H, I.tok _, ⟨_, rfl⟩, q⟩
theorem call_max2 (hc : X.calm = true) : CallR X (.builtin "max") (fun xs H Q => ∃ i j, xs = [.int i, .int j] ∧ Q (.int (if j > i then j else i)) H) := by
  intro pins s σ H xs us Q I r h
  obtain ⟨i, j, rfl, q⟩ := h
  obtain ⟨u, w', rfl, ⟨t, rfl⟩, ⟨t', rfl⟩⟩ := vals2 r
  refine max_two_ints (I.ok.hd hc) fun h' tk k => ⟨_, H, I.kept k, ?_, q⟩
  by_cases hj : j > i
  · rw [if_pos hj, if_pos hj]; exact ⟨_, rfl⟩
  · rw [if_neg hj, if_neg hj]; exact ⟨_, rfl⟩
theorem call_min2 (hc : X.calm = true) : CallR X (.builtin "min") (fun xs H Q => ∃ i j, xs = [.int i, .int j] ∧ Q (.int (if j < i then j else i)) H) := by
  intro pins s σ H xs us Q I r h
  obtain ⟨i, j, rfl, q⟩ := h
  obtain ⟨u, w', rfl, ⟨t, rfl⟩, ⟨t', rfl⟩⟩ := vals2 r
  refine min_two_ints (I.ok.hd hc) fun h' tk k => ⟨_, H, I.kept k, ?_, q⟩
  by_cases hj : j < i
  · rw [if_pos hj, if_pos hj]; exact ⟨_, rfl⟩
  · rw [if_neg hj, if_neg hj]; exact ⟨_, rfl⟩
theorem call_int1 : CallR X (.type "int") (fun xs H Q => (∃ i, xs = [.int i] ∧ Q (.int i) H) ∨ ∃ k, xs = [.bl k] ∧ Q (.int (if k then 1 else 0)) H) := by
  intro pins s σ H xs us Q I r h
  rcases h with ⟨i, rfl, q⟩ | ⟨k, rfl, q⟩
  · obtain ⟨u, rfl, t, rfl⟩ := vals1 r
    exact call_int_int ⟨.int i, H, I, ⟨_, rfl⟩, q⟩
  · obtain ⟨u, rfl, r1⟩ := vals1 r
    cases r1
    exact call_int_bool ⟨.int (if k then 1 else 0), H, I.tok _, ⟨_, rfl⟩, q⟩
end
end L2

namespace L2
open PySem PySem.Spec PyProof.Rows

structure ObjM (h : Heap) (x dx C : Addr) (mA : Str → Option Value) : Prop where
  obj : h.get? x = some (PySem.W.instObj C dx)
  ns : h.Ns1 dx mA
  ne : dx ≠ x

theorem lookIn_ns {h : Heap} {dx : Addr} {mA : Str → Option Value} (n : h.Ns1 dx mA) : ∃ od, h.get? dx = some od ∧ ∀ name, PySem.W.lookIn name od = some (mA name) := by
  obtain ⟨o, es, ep, ho, hd, hk, _, hm⟩ := n
  refine ⟨o, ho, fun name => ?_⟩
  have e := hm name
  unfold nsFind findBy at e
  rw [← Array.find?_toList] at e
  unfold PySem.W.lookIn
  rw [hd]
  dsimp only
  split
  · rename_i y q
    rw [q] at e
    exact congrArg some e
  · rename_i q
    rw [q] at e
    have a : es.toList.any (·.refKey) = false := by
      rw [List.any_eq_false]
      intro y hy
      obtain ⟨z, t, hkey⟩ := hk y (Array.mem_toList_iff.mp hy)
      simp [DictEntry.refKey, hkey]
    have a' : ¬ es.toList.any (·.refKey) = true := by rw [a]; exact Bool.false_ne_true
    rw [if_neg a']
    exact congrArg some e

theorem ObjM.look {h : Heap} {x dx C : Addr} {mA : Str → Option Value} (I : ObjM h x dx C mA) : ∃ od, PySem.W.InstAt h x (PySem.W.instObj C dx) C (some od) ∧ ∀ name, PySem.W.lookIn name od = some (mA name) :=
  let ⟨od, ho, hl⟩ := lookIn_ns I.ns
  ⟨od, ⟨I.obj, rfl, rfl, ho⟩, hl⟩

section
variable {prog : Program} {w : World} {A : Around} {E : Value → Shared → Prop} {s : Shared} {K : PySem.W.Frag} {x dx C f : Addr} {mA : Str → Option Value} {name : Str} {v : Value}

end

section
variable {P : Program} {w : World} {H H' : Hp} {h h' : Heap} {a C dx : Addr} {fs fs' : List (Str × V)}
theorem ins_get (hok : HOk P w H h) (e : H a = some (.ins C dx fs)) : ∃ mA, ObjM h a dx C mA ∧ (∀ f, RelO (fs.lookup f) (mA f)) ∧ PySem.Within mA (fs.map (·.1)) ∧ fs.length ≤ 1000 ∧ H dx = some (.own a) := by
  obtain ⟨d, z, ne, ob, mA, n, r, q⟩ := (show ObjOk P w H h a (.ins C dx fs) from hok a _ e)
  exact ⟨mA, ⟨ob, n, ne⟩, r, q, z, d⟩
end

structure Cls (K : PySem.W.Frag) (C : Addr) : Prop where
  pg : PySem.W.plainGet K C Str.empty = true
  hd : PySem.W.hasDictIn K C = true
  po : PySem.W.plainOver K C = true
  sa : PySem.W.findIn K (.ref C) "__setattr__" = some (some (.builtin "object.__setattr__"))
theorem Cls.get {K : PySem.W.Frag} {C : Addr} (c : Cls K C) (f : Str) : PySem.W.plainGet K C f = true := c.pg
section
variable {X : Cx} {pins : List (Addr × Obj)} {σ : St} {H : Hp} {s : Shared} {a C dx : Addr} {fs : List (Str × V)} {f : Str} {v : V} {A : Around} {E : Value → Shared → Prop}

/-- a new instance, tracked, without attributes -/
theorem Inv.made (I : Inv X pins σ H s) : Inv X pins σ (upd (upd H s.heap.objs.size (.own (s.heap.objs.size + 1))) (s.heap.objs.size + 1) (.ins C s.heap.objs.size []))
    { s with heap := (s.heap.push PySem.W.emptyDict).push (PySem.W.instObj C s.heap.objs.size) } := by
  have e1 : (s.heap.push PySem.W.emptyDict).get? s.heap.objs.size = some PySem.W.emptyDict := Heap.get?_push_size s.heap rfl
  have e2 : ((s.heap.push PySem.W.emptyDict).push (PySem.W.instObj C s.heap.objs.size)).get? (s.heap.objs.size + 1) = some (PySem.W.instObj C s.heap.objs.size) := by
    have := Heap.get?_push_size (s.heap.push PySem.W.emptyDict) (o := PySem.W.instObj C s.heap.objs.size) rfl
    rwa [Heap.size_push] at this
  have e3 : (s.heap.push PySem.W.emptyDict).Ns s.heap.objs.size (fun _ => none) := ⟨PySem.W.emptyDict, #[], _, e1, rfl, (fun e he => absurd he (by simp)), fun _ => rfl⟩
  have I1 := I.laid (a := s.heap.objs.size) (o := .own (s.heap.objs.size + 1)) (h' := s.heap.push PySem.W.emptyDict) (t' := s.toks) (fun b u q => Heap.get?_push_of_some _ q) (Nat.le_refl _) ⟨_, e1⟩
  refine I1.laid (a := s.heap.objs.size + 1) (o := .ins C s.heap.objs.size []) (t' := s.toks) (fun b u q => Heap.get?_push_of_some _ q) (Nat.le_of_eq (Heap.size_push _ _)) ?_
  have ne : s.heap.objs.size ≠ s.heap.objs.size + 1 := Nat.ne_of_lt (Nat.lt_succ_self _)
  refine ⟨by rw [upd_ne ne, upd_same], Nat.zero_le _, ne, e2, fun _ => none, (Heap.Ns1.of_empty e3).at fun o q => Heap.get?_push_of_some _ q, fun _ => True.intro, fun y hy => absurd rfl hy⟩

end

section
variable {X : Cx} {o e value : Expr} {f : Str} {pos pos' tpos : Pos} {ta tv : TE}
end

section
variable {X : Cx} {pins : List (Addr × Obj)} {σ : St} {H : Hp} {s : Shared} {A : Around} {E : Value → Shared → Prop} {Q : Value → Shared → Prop} {c : Value} {b : Bool}
/-- the type of a value, as the fragment's deciders take it; for an instance its class -/
inductive TyOf (K : PySem.W.Frag) (H : Hp) : V → Value → Prop where
  | non : TyOf K H .non (.type "NoneType")
  | bl (x : Bool) : TyOf K H (.bl x) (.type "bool")
  | int (i : Int) : TyOf K H (.int i) (.type "int")
  | str (x : Str) : TyOf K H (.str x) (.type "str")
  | flt (x : UInt64) : TyOf K H (.flt x) (.type "float")
  | lst {a : Addr} {xs : List V} (e : H a = some (.lst xs)) : TyOf K H (.ref a) (.type "list")
  | frz {a : Addr} {o : Obj} {xs : List V} (e : H a = some (.frz o (.lst xs))) : TyOf K H (.ref a) (.type "list")
  | tup {a : Addr} {xs : List V} (e : H a = some (.tup xs)) : TyOf K H (.ref a) (.type "tuple")
  | dK {a : Addr} {kvs : List (Key × V)} (e : H a = some (.dK kvs)) : TyOf K H (.ref a) (.type "dict")
  | dT {a : Addr} {kvs : List (List Key × V)} (e : H a = some (.dT kvs)) : TyOf K H (.ref a) (.type "dict")
  | ins {a C dx : Addr} {fs : List (Str × V)} (e : H a = some (.ins C dx fs)) (cl : Cls K C) (ha : PySem.W.findIn K (.ref C) "__class__" = some (some (.builtin "object.__class__")))
      (hn : PySem.W.specialIn K (.builtin "object.__class__") "__get__" = some (some (.builtin "getset_descriptor.__get__"))) (htk : PySem.W.takesIn K (.builtin "object.__class__") = some true)
      (hm : PySem.W.mroIn K C (.type "object") = some true) : TyOf K H (.ref a) (.ref C)
/-- isinstance(x, c) for one class c, a built-in or an own one: kitOne's answer -/
theorem isinst_ok {x : V} {u t : Value} (I : Inv X pins σ H s) (rx : RelV x u) (ty : TyOf X.K H x t) (e : PySem.W.kitOne X.K t c = some b) (h : ∀ tk, Q (.bool b) { s with toks := tk }) :
    wpAny (model X.prog X.w) A (call (.builtin "isinstance") [u, c]) Q E s := by
  cases ty with
  | non => cases (show u = Value.none from rx); exact PySem.W.kia_one PySem.W.kitx_none I.kIn True.intro e (fun z => nomatch z) h
  | bl y => cases (show u = Value.bool y from rx); exact PySem.W.kia_one PySem.W.kitx_bool I.kIn True.intro e (fun z => nomatch z) h
  | int i => obtain ⟨t, q⟩ := (show ∃ t, u = Value.int i t from rx); cases q; exact PySem.W.kia_one PySem.W.kitx_int I.kIn True.intro e (fun z => nomatch z) h
  | str y => obtain ⟨t, q⟩ := (show ∃ t, u = Value.str y t from rx); cases q; exact PySem.W.kia_one PySem.W.kitx_str I.kIn True.intro e (fun z => nomatch z) h
  | flt y => obtain ⟨t, q⟩ := (show ∃ t, u = Value.float y t from rx); cases q; exact PySem.W.kia_one PySem.W.kitx_float I.kIn True.intro e (fun z => nomatch z) h
  | @lst a xs ea =>
    cases (show u = Value.ref a from rx)
    obtain ⟨_, _, n, _, h1⟩ := (show ObjOk X.prog X.w H s.heap a (.lst xs) from I.hok a _ ea)
    exact PySem.W.kia_one PySem.W.kitx_list I.kIn ⟨_, h1, rfl⟩ e (fun z => nomatch z) h
  | @frz a ob xs ea =>
    cases (show u = Value.ref a from rx)
    obtain ⟨_, _, _, n, _, h1⟩ := (show ObjOk X.prog X.w H s.heap a (.frz ob (.lst xs)) from I.hok a _ ea)
    exact PySem.W.kia_one PySem.W.kitx_list I.kIn ⟨_, h1, rfl⟩ e (fun z => nomatch z) h
  | @tup a xs ea =>
    cases (show u = Value.ref a from rx)
    obtain ⟨_, _, _, p⟩ := (show ObjOk X.prog X.w H s.heap a (.tup xs) from I.hok a _ ea)
    obtain ⟨o, h1, h2, _⟩ := p
    exact PySem.W.kia_one PySem.W.kitx_tuple I.kIn ⟨o, h1, h2⟩ e (fun z => nomatch z) h
  | @dK a kvs ea =>
    cases (show u = Value.ref a from rx)
    obtain ⟨_, _, vs, _, p⟩ := (show ObjOk X.prog X.w H s.heap a (.dK kvs) from I.hok a _ ea)
    obtain ⟨o, es, ep, h1, h2, _⟩ := p
    exact PySem.W.kia_one PySem.W.kitx_dict I.kIn ⟨o, h1, h2.1⟩ e (fun z => nomatch z) h
  | @dT a kvs ea =>
    cases (show u = Value.ref a from rx)
    obtain ⟨_, _, xs, _, o, es, ep, h1, h2, _⟩ := (show ObjOk X.prog X.w H s.heap a (.dT kvs) from I.hok a _ ea)
    exact PySem.W.kia_one PySem.W.kitx_dict I.kIn ⟨o, h1, h2.1⟩ e (fun z => nomatch z) h
  | @ins a C dx fs ea cl ha hn htk hm =>
    cases (show u = Value.ref a from rx)
    obtain ⟨mA, O, _⟩ := ins_get I.hok ea
    obtain ⟨od, J, _⟩ := O.look
    exact PySem.W.kia_one (PySem.W.kitx_own (cl.get _) cl.hd ha hn htk hm) I.kIn J e (fun z => nomatch z) h
end
end L2

namespace L2
open PySem PySem.Spec PyProof.Rows

structure Room (k : Nat) (A : Around) : Prop where
  hd : A.handled = none
  dp : A.depth + 3 * k + 5 < recursionLimit
  un : A.units + 16 * k + 200 < cLine
  gd : A.guards = some []
theorem Room.mono {j k : Nat} {A : Around} (r : Room k A) (h : j ≤ k) : Room j A := ⟨r.hd, by have := r.dp; omega, by have := r.un; omega, r.gd⟩
theorem Room.deeper {k : Nat} {A : Around} (r : Room (k + 1) A) (env : Env) : Room k (A.deeper env) :=
  ⟨r.hd, by have := r.dp; show A.depth + 1 + 3 * k + 5 < _; omega, by have := r.un; show A.units + 3 + 16 * k + 200 < _; omega, r.gd⟩
theorem Room.in1 {k : Nat} {A : Around} (r : Room (k + 1) A) : Room k A.in1 :=
  ⟨r.hd, by have := r.dp; show A.depth + 3 * k + 5 < _; omega, by have := r.un; show A.units + 1 + 16 * k + 200 < _; omega, r.gd⟩
theorem Room.depth {k : Nat} {A : Around} (r : Room k A) : A.depth < recursionLimit := by have := r.dp; omega
theorem Room.units {k : Nat} {A : Around} (r : Room k A) : A.units + 64 < cLine := by have := r.un; omega
def tNil : TA := fun _ H Q => Q [] H
def tCons (ta : TE) (tr : TA) : TA := fun σ H Q => ta σ H fun x H1 => tr σ H1 fun xs H2 => Q (x :: xs) H2
section
variable {X : Cx} {e : Expr} {es : List Expr} {te : TE} {t : TA} {pos : Pos}
theorem pa_nil : PA X [] tNil := fun _ _ _ _ H Q I h => Calls.spliced_nil ⟨[], H, I, .nil, h⟩
theorem pa_cons (ha : PE X e te) (hr : PA X es t) (hs : starEach (e :: es) X.env = (false, eval e X.env) :: starEach es X.env := by rfl) : PA X (e :: es) (tCons te t) := by
  intro pos pins s σ H Q I h
  rw [hs]
  show wpAny _ _ (spliced ((false, eval e X.env) :: backTo pos (starEach es X.env))) _ _ s
  refine Calls.spliced_cons (thn (ha pins s σ H _ I h) fun u s1 ⟨x, H1, I1, r1, q1⟩ => ?_)
  exact thn (hr pos pins s1 σ H1 _ I1 q1) fun us s2 ⟨xs, H2, I2, r2, q2⟩ => ⟨x :: xs, H2, I2, .cons r1 r2, q2⟩

/-- a tuple, a list of written items -/
def tTup (t : TA) : TE := fun σ H Q => t σ H fun xs H1 => xs.length ≤ sizeLine ∧ ∀ p, H1 p = none → Q (.ref p) (upd H1 p (.tup xs))
def tLst (t : TA) : TE := fun σ H Q => t σ H fun xs H1 => xs.length ≤ sizeLine ∧ ∀ p, H1 p = none → Q (.ref p) (upd H1 p (.lst xs))
theorem pe_tup {x1} (h : PA X es t) : PE X (.Tuple es x1 pos) (tTup t) := by
  intro pins s σ H Q I hq
  refine wpAny_Tuple_spliced (thn (h pos pins s σ H _ I hq) fun us s1 ⟨xs, H1, I1, r, z, q⟩ => ⟨by rw [← r.length]; exact z, ?_⟩)
  have hf : H1 s1.heap.objs.size = none := I1.hok.fresh (Nat.le_refl _)
  refine ⟨.ref s1.heap.objs.size, upd H1 s1.heap.objs.size (.tup xs), I1.laid (t' := s1.toks) (fun b u e => Heap.get?_push_of_some _ e) (Nat.le_refl _) ?_, rfl, q _ hf⟩
  exact ⟨z, us, r, ⟨_, Heap.get?_push_size _ rfl, rfl, _, rfl, rfl⟩⟩
theorem pe_lst (h : PA X es t) : PE X (.List es pos) (tLst t) := by
  intro pins s σ H Q I hq
  refine wpAny_List_spliced (thn (h pos pins s σ H _ I hq) fun us s1 ⟨xs, H1, I1, r, z, q⟩ => ⟨by rw [← r.length]; exact z, ?_⟩)
  have hf : H1 s1.heap.objs.size = none := I1.hok.fresh (Nat.le_refl _)
  refine ⟨.ref s1.heap.objs.size, upd H1 s1.heap.objs.size (.lst xs), I1.laid (t' := s1.toks) (fun b u e => Heap.get?_push_of_some _ e) (Nat.le_refl _) ?_, rfl, q _ hf⟩
  exact ⟨z, us, 0, r, Heap.get?_push_size _ rfl⟩
end

/-- a def's promise: the bound arguments in the parameters' order, the heap, the wanted end, the wanted exception -/
abbrev Sp := List V → Hp → VK → XK → Prop
/-- how an exception lies behind a call (file 08 gives it): the callers' frames, abstract heap and state ahead of the call, the wish, the exception, the state -/
abbrev CXT := List Env → Hp → Shared → XK → Value → Shared → Prop

/-- the state at a call -/
structure Env0 (P : Program) (w : World) (K : PySem.W.Frag) (mg : Str → Option Value) (base : Heap) (A : Around) (outer : List Env) (s : Shared) (H : Hp) : Prop where
  frames : A.frames = some outer
  mod : Mod K mg base
  bs : ∀ b o, base.get? b = some o → s.heap.get? b = some o ∧ H b = none
  bsz : base.objs.size ≤ s.heap.objs.size
  funs : s.heap.FunFrames base outer
  frf : ∀ b ∈ frs outer, H b = none
  hok : HOk P w H s.heap
  bare : AllBare s.gens
/-- a call's end -/
def CE (outer : List Env) (P : Program) (w : World) (H : Hp) (s : Shared) (Q : VK) (u : Value) (s' : Shared) : Prop :=
  ∃ v H', s'.os = s.os ∧ AllBare s'.gens ∧ Un (frs outer) [] H H' s.heap s'.heap ∧ HOk P w H' s'.heap ∧ RelV v u ∧ Q v H'
def CR (CX : CXT) (outer : List Env) (P : Program) (w : World) (H : Hp) (s : Shared) (Q : VK) (E : XK) (r : Result) (s' : Shared) : Prop :=
  match r with
  | .ok (.ret u) => CE outer P w H s Q u s'
  | .ok _ => False
  | .error e => CX outer H s E e s'
structure FnOk (P : Program) (w : World) (K : PySem.W.Frag) (mg : Str → Option Value) (base : Heap) (CX : CXT) (k : Nat) (f : Addr) (fd : FuncData) (ps : List Str) (sp : Sp) : Prop where
  len : ∀ vs H Q E, sp vs H Q E → vs.length = ps.length
  run : ∀ (A : Around) (outer : List Env) (s : Shared) (H : Hp) (args : Args) (us : List Value) (vs : List V) (Q : VK) (E : XK), Room k A → Env0 P w K mg base A outer s H → BindsTo s fd args (ps.zip us) → Vals vs us → sp vs H Q E →
    codeAny (model P w) A (.call (.ref f) args) (CR CX outer P w H s Q E) s
theorem FnOk.mono {P : Program} {w : World} {K : PySem.W.Frag} {mg : Str → Option Value} {base : Heap} {CX : CXT} {j k : Nat} {f : Addr} {fd : FuncData} {ps : List Str} {sp : Sp} (F : FnOk P w K mg base CX j f fd ps sp) (h : j ≤ k) :
    FnOk P w K mg base CX k f fd ps sp := ⟨F.len, fun A outer s H args us vs Q E hr => F.run A outer s H args us vs Q E (hr.mono h)⟩
theorem Env0.in1 {P : Program} {w : World} {K : PySem.W.Frag} {mg : Str → Option Value} {base : Heap} {A : Around} {outer : List Env} {s : Shared} {H : Hp} (e : Env0 P w K mg base A outer s H) :
    Env0 P w K mg base A.in1 outer s H := ⟨e.frames, e.mod, e.bs, e.bsz, e.funs, e.frf, e.hok, e.bare⟩

section
variable {X : Cx} {pins : List (Addr × Obj)} {σ : St} {H : Hp} {s s' : Shared}
/-- from a body: what a callee wants -/
theorem Inv.env0 (I : Inv X pins σ H s) : Env0 X.prog X.w X.K X.mg X.base X.A X.stack s H :=
  ⟨I.ok.frames, I.ok.mod, I.bs, Nat.le_trans I.ok.bsz I.sz, I.stack, I.stkFree, I.hok, I.bare⟩
/-- behind a call -/
theorem Inv.after {Q : VK} {u : Value} (I : Inv X pins σ H s) (h : CE X.stack X.prog X.w H s Q u s') : EP X pins σ Q u s' := by
  obtain ⟨v, H', os, bare, un, hok, r, q⟩ := h
  obtain ⟨hh, g, d, t, os'⟩ := s'
  obtain rfl : os' = s.os := os
  exact ⟨v, H', I.call (h' := hh) (g' := g) (d' := d) (t' := t) (ch := []) un hok bare (fun b z => absurd z (by simp)), r, q⟩
end

/-- f(..): the written arguments, then the defaults dvs; E: what is wanted of an exception -/
def tCall (sp : Sp) (dvs : List V) (E : XK) (t : TA) : TE := fun σ H Q => t σ H fun vs H1 => sp (vs ++ dvs) H1 Q E
/-- how the parameters are bound: us the positional arguments, kw the keywords' values by name, ds the defaults that fill up -/
def Binds (K : PySem.W.Frag) (fd : FuncData) (ps : List Str) (ds : List Value) : Prop :=
  ∀ (s : Shared) (us : List Value), K.In s.heap → (us ++ ds).length = ps.length → BindsTo s fd ⟨us, []⟩ (ps.zip (us ++ ds))
/-- every parameter is given -/
theorem Binds.all {K : PySem.W.Frag} {fd : FuncData} {ps : List Str} (h : ∀ us : List Value, us.length = ps.length → bindArgs fd ⟨us, []⟩ = pure (ps.zip us)) : Binds K fd ps [] := fun s us _ hl => by
  rw [List.append_nil] at hl ⊢
  exact .of_eq (h us hl)

/-- an exception of a callee reaches what this body wants of exceptions -/
def Passes (CX : CXT) (X : Cx) (E : XK) : Prop := ∀ (pins : List (Addr × Obj)) (σ : St) (H : Hp) (s : Shared) (e : Value) (s' : Shared), Inv X pins σ H s → CX X.stack H s E e s' → X.xe e s'

section
variable {X : Cx} {CX : CXT} {k : Nat} {f C : Addr} {fd : FuncData} {ps : List Str} {sp : Sp} {dvs : List V} {ds : List Value} {E : XK} {x m : Str} {p pos apos : Pos} {e o : Expr} {es : List Expr} {ta : TE} {t : TA}

/-- the callee runs -/
theorem run_fn {pins : List (Addr × Obj)} {σ : St} {H : Hp} {s : Shared} {Q : VK} {us : List Value} {vs : List V} (F : FnOk X.prog X.w X.K X.mg X.base CX k f fd ps sp) (hr : Room k X.A) (hb : Binds X.K fd ps ds) (hd : Vals dvs ds) (hx : Passes CX X E)
    (I : Inv X pins σ H s) (r : Vals vs us) (h : sp (vs ++ dvs) H Q E) : wpAny (model X.prog X.w) X.A (call (.ref f) us) (EP X pins σ Q) X.xe s := by
  have r2 : Vals (vs ++ dvs) (us ++ ds) := r.append hd
  have hl : (us ++ ds).length = ps.length := by rw [← r2.length]; exact F.len _ _ _ _ h
  refine wpAny_call (codeAny_mono (F.run X.A X.stack s H ⟨us, []⟩ (us ++ ds) (vs ++ dvs) Q E hr I.env0 (hb s us I.kIn hl) r2 h) fun r s' hq => ?_)
  cases r with
  | error e => exact hx pins σ H s e s' I hq
  | ok fl =>
    cases fl with
    | ret u => exact I.after hq
    | next => exact False.elim hq
    | brk => exact False.elim hq
    | cont => exact False.elim hq

theorem pe_call (F : FnOk X.prog X.w X.K X.mg X.base CX k f fd ps sp) (hr : Room k X.A) (hg : Gl X x) (hm : X.mg x = some (.ref f)) (hk : PySem.W.keepIn X.K (.ref f) = true) (hb : Binds X.K fd ps ds) (hd : Vals dvs ds) (hx : Passes CX X E)
    (ha : PA X (e :: es) t) (hdb : (x == ("__debug__" : Str)) = false := by decide) (he : starEach (e :: es) X.env = (false, eval e X.env) :: starEach es X.env := by rfl) (hpl : (backTo pos (starEach es X.env)).any (·.1) = false := by rfl) :
    PE X (.Call (.Name x p) (e :: es) [] pos) (tCall sp dvs E t) := by
  intro pins s σ H Q I h
  refine wpAny_Call_Name_kw (ld_glob I hg hm ?_ hdb)
  refine PySem.W.callWith_K (h₀ := X.base) I.ok.mod.kin hk (thn (ha pos pins s σ H _ I h) fun us s1 ⟨vs, H1, I1, r, q⟩ => ⟨I1.kIn, ?_⟩) he hpl
  exact run_fn F hr hb hd hx I1 r q
end

section
variable {X : Cx} {CX : CXT} {k : Nat} {f C : Addr} {fd : FuncData} {ps ks : List Str} {sp : Sp} {E : XK} {x m : Str} {p pos apos kpos : Pos} {e o : Expr} {es : List Expr} {kws : List Keyword} {te ta : TE} {t tk : TA} {nm : Option Str}
variable {g : List Value → List Value → List Value} {gV : List V → List V → List V}
end

/-- names: the parameters first -/
structure FnScope (N P : List Str) (sc : Scope) : Prop where
  kind : sc.kind = .function
  co : sc.isCoroutine = false
  gen : sc.isGenerator = false
  nd : N.Nodup
  pre : N.take P.length = P
  par : ∀ x ∈ P, sc.names.lookup x = some .local ∨ sc.names.lookup x = some .cell
  nofree : ∀ y ∈ sc.names, y.2 ≠ .free

theorem bindL_out {kindOf : Str → Option NameKind} {x : Str} : ∀ {binds : List (Str × Value)} {m : Str → Option Value}, (∀ v, (x, v) ∉ binds) → bindL kindOf binds m x = m x
  | [], _, _ => rfl
  | (n, v) :: r, m, h => by
    unfold bindL
    rw [bindL_out fun w hw => h w (List.mem_cons_of_mem _ hw)]
    split
    · have : x ≠ n := by rintro rfl; exact h v List.mem_cons_self
      simp [this]
    · rfl
theorem bindC_out {kindOf : Str → Option NameKind} {x : Str} : ∀ {binds : List (Str × Value)} {m : Str → Option Value}, (∀ v, (x, v) ∉ binds) → bindC kindOf binds m x = m x
  | [], _, _ => rfl
  | (n, v) :: r, m, h => by
    unfold bindC
    rw [bindC_out fun w hw => h w (List.mem_cons_of_mem _ hw)]
    split
    · rfl
    · have : x ≠ n := by rintro rfl; exact h v List.mem_cons_self
      simp [this]
theorem bindL_get {kindOf : Str → Option NameKind} {x : Str} {v : Value} : ∀ {P : List Str} {vs : List Value} {i : Nat} {m : Str → Option Value}, P.Nodup → P[i]? = some x → vs[i]? = some v → kindOf x = some .local →
    bindL kindOf (P.zip vs) m x = some v
  | [], _, _, _, _, h, _, _ => by simp at h
  | _ :: _, [], _, _, _, _, h, _ => by simp at h
  | p :: P, w :: vs, 0, m, nd, h1, h2, hk => by
    simp at h1 h2; subst h1; subst h2
    show bindL kindOf ((p, w) :: P.zip vs) m p = _
    unfold bindL
    rw [bindL_out fun v hv => (List.nodup_cons.mp nd).1 (List.of_mem_zip hv).1, if_pos hk]
    simp
  | p :: P, w :: vs, i + 1, m, nd, h1, h2, hk => by
    show bindL kindOf ((p, w) :: P.zip vs) m x = _
    unfold bindL
    exact bindL_get (i := i) (List.nodup_cons.mp nd).2 (by simpa using h1) (by simpa using h2) hk
theorem bindC_get {kindOf : Str → Option NameKind} {x : Str} {v : Value} : ∀ {P : List Str} {vs : List Value} {i : Nat} {m : Str → Option Value}, P.Nodup → P[i]? = some x → vs[i]? = some v → kindOf x ≠ some .local →
    bindC kindOf (P.zip vs) m x = some v
  | [], _, _, _, _, h, _, _ => by simp at h
  | _ :: _, [], _, _, _, _, h, _ => by simp at h
  | p :: P, w :: vs, 0, m, nd, h1, h2, hk => by
    simp at h1 h2; subst h1; subst h2
    show bindC kindOf ((p, w) :: P.zip vs) m p = _
    unfold bindC
    rw [bindC_out fun v hv => (List.nodup_cons.mp nd).1 (List.of_mem_zip hv).1, if_neg hk]
    simp
  | p :: P, w :: vs, i + 1, m, nd, h1, h2, hk => by
    show bindC kindOf ((p, w) :: P.zip vs) m x = _
    unfold bindC
    exact bindC_get (i := i) (List.nodup_cons.mp nd).2 (by simpa using h1) (by simpa using h2) hk

/-- the names' values at the entry -/
def start (N : List Str) (vs : List V) : St := vs.map some ++ List.replicate (N.length - vs.length) none

/-- the context of a def's body, at its entry; an exception leaves the frame, then lies as CX says -/
def cxOf (CX : CXT) (P : Program) (w : World) (K : PySem.W.Frag) (mg : Str → Option Value) (base : Heap) (N : List Str) (qual : Str) (scope : Scope) (f : Addr) (cd : Value) (A : Around) (outer : List Env) (s : Shared) (H : Hp) (E : XK) : Cx where
  prog := P
  w := w
  K := K
  mg := mg
  base := base
  A := A.deeper (envOfC qual scope s.heap.objs.size f cd)
  N := N
  s₀ := s
  H₀ := H
  env := envOfC qual scope s.heap.objs.size f cd
  outer := outer
  stack := envOfC qual scope s.heap.objs.size f cd :: outer
  ex := []
  calm := true
  fn := fun _ => true
  pn := []
  xe := fun e s' => wpAny (model P w) (A.deeper (envOfC qual scope s.heap.objs.size f cd)) (leaving (envOfC qual scope s.heap.objs.size f cd) e) (fun _ s'' => CX outer H s E e s'') (fun e' s'' => CX outer H s E e' s'') s'

theorem cell_has {sc : Scope} {n : Nat} {x : Str} (h : sc.names.lookup x = some .cell) : ∃ c, (cellsFrom n sc.names []).lookup x = some c := by
  have q := PySem.W.cellsFrom_some sc.names n [] (.inl h)
  exact Option.isSome_iff_exists.mp q

theorem inv_start {CX : CXT} {P : Program} {w : World} {K : PySem.W.Frag} {mg : Str → Option Value} {base : Heap} {N ps : List Str} {qual : Str} {scope : Scope} {f : Addr} {cd : Value} {A : Around} {outer : List Env} {s s1 : Shared} {H : Hp} {E : XK} {us : List Value} {vs : List V}
    (S : FnScope N ps scope) (hd : A.handled = none) (e0 : Env0 P w K mg base A outer s H) (hl : vs.length = ps.length) (r : Vals vs us)
    (x : InCallC s s.heap.objs.size (bindL (envOfC qual scope s.heap.objs.size f cd).kindOf (ps.zip us) fun _ => none) (cellsFrom (s.heap.objs.size + 1) scope.names []) (bindC (envOfC qual scope s.heap.objs.size f cd).kindOf (ps.zip us) fun _ => none) s1) :
    Inv (cxOf CX P w K mg base N qual scope f cd A outer s H E) [] (start N vs) H s1 := by
  have hpl : ps.length ≤ N.length := by have := congrArg List.length S.pre; rw [List.length_take] at this; omega
  obtain ⟨h1, tk, rfl, hk⟩ := x.done
  have noA : ∀ b : Addr, b ∉ (cxOf CX P w K mg base N qual scope f cd A outer s H E).ex := fun b z => absurd (show b ∈ ([] : List Addr) from z) (by simp)
  refine ⟨⟨e0.mod, S.kind, rfl, rfl, Nat.le_refl _, fun y z c h1 h2 => ?_, fun y hy => ?_, fun y c _ h => ?_, fun _ => hd, Around.frames_deeper e0.frames, .inr ⟨rfl, rfl⟩, fun b z => absurd z (noA b), e0.bs, e0.bsz, fun b _ _ => noA b, fun b z => absurd z (noA b), e0.funs, e0.frf⟩,
    rfl, e0.bare, Un.kept hk, ⟨_, x.toInCall.ns, fun i y v h1 h2 h3 => ?_⟩, fun y c h => ⟨_, x.cell y c h⟩, e0.hok.fresh (Nat.le_refl _), fun y c h => ?_, fun p hp => absurd (show p ∈ ([] : List (Addr × Obj)) from hp) (by simp), e0.hok.kept hk, ?_⟩
  · exact name_of_addr x.apart (PySem.mem_of_lookup h1) (PySem.mem_of_lookup h2)
  · have hy : scope.names.lookup y = some .cell ∨ scope.names.lookup y = some .free := hy
    rcases hy with hy | hy
    · exact cell_has hy
    · exact absurd rfl (S.nofree _ (PySem.mem_of_lookup hy))
  · exact Nat.le_of_lt (x.above y c (PySem.mem_of_lookup h))
  · have hi : i < vs.length := by
      unfold start at h2
      by_cases hi : i < vs.length
      · exact hi
      · rw [List.getElem?_append_right (by simpa using hi)] at h2
        rw [List.getElem?_replicate] at h2
        split at h2 <;> cases h2
    have ha : vs[i]? = some v := by
      unfold start at h2
      rw [List.getElem?_append_left (by simpa using hi), List.getElem?_map] at h2
      cases e : vs[i]? with
      | none => rw [e] at h2; cases h2
      | some a => rw [e] at h2; cases h2; rfl
    obtain ⟨u, hu, rv⟩ := r.get ha
    have hp : ps[i]? = some y := by
      rw [← S.pre, List.getElem?_take_of_lt (by omega)]; exact h1
    have ndP : ps.Nodup := by rw [← S.pre]; exact S.nd.sublist (List.take_sublist _ _)
    refine ⟨u, rv, ?_⟩
    rcases S.par y (List.mem_of_getElem? hp) with k | k
    · exact .inl ⟨k, bindL_get ndP hp hu k⟩
    · obtain ⟨c, e⟩ := cell_has (n := s.heap.objs.size + 1) k
      refine .inr ⟨.inl k, c, e, ?_⟩
      have q := x.cell y c e
      rw [bindC_get ndP hp hu (by show scope.names.lookup y ≠ _; rw [k]; decide)] at q
      exact q
  · exact e0.hok.fresh (Nat.le_of_lt (x.above y c (PySem.mem_of_lookup h)))
  · unfold start
    show _ = N.length
    rw [List.length_append, List.length_map, List.length_replicate]
    omega

/-- THE RULE: a def (or a method) of the text, by its body. The body's reading t is chosen for each entry; it is run at the parameters' values -/
theorem fn_of {CX : CXT} {P : Program} {w : World} {K : PySem.W.Frag} {mg : Str → Option Value} {base : Heap} {k : Nat} {f : Addr} {name qual : Str} {params : Arguments} {body : List Stmt} {scope : Scope} {dV kV doc pm cdv ct oc : Value} {an od : Option Addr}
    {osl : Array (Option Value)} {N ps : List Str} {sp : Sp} (lk : K.lookup f = some ⟨oc, od, .func (PySem.W.fnOf name qual params body scope dV kV doc pm an cdv ct), osl⟩) (hcd : PySem.W.codeIn K cdv qual = true) (S : FnScope N ps scope)
    (len : ∀ vs H Q E, sp vs H Q E → vs.length = ps.length)
    (hbody : ∀ (A : Around) (outer : List Env) (s : Shared) (H : Hp) (vs : List V) (Q : VK) (E : XK), Room k (A.deeper (envOfC qual scope s.heap.objs.size f cdv)) → sp vs H Q E →
      ∃ t, PSs (cxOf CX P w K mg base N qual scope f cdv A outer s H E) body t ∧ t { nx := fun _ H' => Q .non H', rt := Q } (start N vs) H) :
    FnOk P w K mg base CX (k + 1) f (PySem.W.fnOf name qual params body scope dV kV doc pm an cdv ct) ps sp := by
  refine ⟨len, fun A outer s H args us vs Q E hr e0 hb r hsp => ?_⟩
  have hl := len _ _ _ _ hsp
  have KX : K.In s.heap := e0.mod.kin.keeps fun b o e => (e0.bs b o e).1
  have lim : s.heap.NoLimit := e0.mod.nolimit.keeps fun b o e => (e0.bs b o e).1
  have hkind : ∀ y ∈ ps.zip us, scope.names.lookup y.1 = some .local ∨ (scope.names.lookup y.1 = some .cell ∧ ((cellsFrom (s.heap.objs.size + 1) scope.names []).lookup y.1).isSome = true) := fun ⟨n, v⟩ hy => by
    rcases S.par n (List.of_mem_zip hy).1 with q | q
    · exact .inl q
    · exact .inr ⟨q, PySem.W.cellsFrom_some _ _ _ (.inl q)⟩
  refine codeAny_call_function hr.depth (KX _ _ lk) rfl S.co S.gen rfl (PySem.W.codeRec_of KX hcd) (hb _ _ _ _ ?_)
  refine wpAny_newFunctionEnv_cells S.kind hkind fun env he s1 x => ?_
  subst he
  refine ⟨lim.keeps x.toInCall.keep, codeAny_func ?_⟩
  obtain ⟨t, ht, hq⟩ := hbody A outer s H vs Q E (hr.deeper _) hsp
  have I : Inv (cxOf CX P w K mg base N qual scope f cdv A outer s H E) [] (start N vs) H s1 := inv_start S hr.hd e0 hl r x
  refine wpAny_mono (ht [] s1 (start N vs) H _ I hq) (fun fl s' hs => ?_) fun e s' hs => hs
  have fin : ∀ {σ' : St} {H' : Hp} {v : V} {u : Value}, Inv (cxOf CX P w K mg base N qual scope f cdv A outer s H E) [] σ' H' s' → RelV v u → Q v H' → CE outer P w H s Q u s' :=
    fun {σ' H' v u} J rv q => ⟨v, H', J.os, J.bare, J.base, J.hok, rv, q⟩
  cases fl with
  | ret u =>
    obtain ⟨v, σ', H', J, rv, q⟩ := hs
    exact fin J rv q
  | next =>
    obtain ⟨σ', H', J, q⟩ := hs
    exact fin (v := V.non) (u := Value.none) J rfl q
  | brk =>
    obtain ⟨_, _, _, q⟩ := hs
    exact False.elim q
  | cont =>
    obtain ⟨_, _, _, q⟩ := hs
    exact False.elim q
end L2

namespace L2
open PySem PySem.Spec PyProof.Rows
section
variable {X : Cx} {x : Str} {p pos : Pos} {e : Expr} {es : List Expr} {t : TA} {id T : String} {r : List V → Hp → VK → Prop}

def tCB (r : List V → Hp → VK → Prop) (t : TA) : TE := fun σ H Q => t σ H fun vs H1 => r vs H1 Q
/-- f(e, ..), f a built-in function -/
theorem pe_callB (hc : CallR X (.builtin id) r) (hg : Gl X x) (hm : X.mg x = none) (hv : bootBuiltins x = some (.builtin id)) (ha : PA X (e :: es) t) (hn : x ≠ "__name__" := by decide) (hdb : (x == ("__debug__" : Str)) = false := by decide)
    (he : starEach (e :: es) X.env = (false, eval e X.env) :: starEach es X.env := by rfl) (hpl : (backTo pos (starEach es X.env)).any (·.1) = false := by rfl) : PE X (.Call (.Name x p) (e :: es) [] pos) (tCB r t) := by
  intro pins s σ H Q I h
  refine wpAny_Call_Name_kw (ld_blt I hg hm hv ?_ hn hdb)
  exact PyProof.Rows.callWith_builtin1 (thn (ha pos pins s σ H _ I h) fun us s1 ⟨vs, H1, I1, r1, q1⟩ => hc pins s1 σ H1 vs us Q I1 r1 q1) he hpl
/-- T(e, ..), T a built-in type -/
theorem pe_callTy (hc : CallR X (.type T) r) (hg : Gl X x) (hm : X.mg x = none) (hv : bootBuiltins x = some (.type T)) (ha : PA X (e :: es) t) (hn : x ≠ "__name__" := by decide) (hdb : (x == ("__debug__" : Str)) = false := by decide)
    (he : starEach (e :: es) X.env = (false, eval e X.env) :: starEach es X.env := by rfl) (hpl : (backTo pos (starEach es X.env)).any (·.1) = false := by rfl) : PE X (.Call (.Name x p) (e :: es) [] pos) (tCB r t) := by
  intro pins s σ H Q I h
  refine wpAny_Call_Name_kw (ld_blt I hg hm hv ?_ hn hdb)
  exact PyProof.Rows.callWith_type1 (thn (ha pos pins s σ H _ I h) fun us s1 ⟨vs, H1, I1, r1, q1⟩ => hc pins s1 σ H1 vs us Q I1 r1 q1) he hpl
end
end L2

namespace HT
open PySem PyProof.Rows

section
open PySem.SeqAt
open PySem.AutoSeq1 (wpAny_loadPart')
open PySem.MeetsSeq PySem.MeetsSeq2 PySem.MeetsSeq3

end

section
variable {prog : Program} {w : World} {A : Around} {E : Value → Shared → Prop} {s : Shared}

/-- t + u, t not empty -/
theorem cat_tup {t b : Addr} {vs ws : List Value} {Q : Value → Shared → Prop} (ht : IsTup s.heap t vs.toArray) (hb : IsTup s.heap b ws.toArray) (hv : vs ≠ [])
    (h1 : ws = [] → Q (.ref t) s) (h2 : ws ≠ [] → Q (.ref s.heap.objs.size) { s with heap := s.heap.push { cls := .type "tuple", data := .seq (vs ++ ws).toArray } })
    (hsz : vs.length + ws.length ≤ sizeLine) : wpAny (model prog w) A (binaryOp .Add (.ref t) (.ref b)) Q E s := by
  obtain ⟨⟨cls, dd, data, sl⟩, ho, hc, n, hd⟩ := id ht
  obtain ⟨⟨cls2, dd2, data2, sl2⟩, ho2, hc2, n2, hd2⟩ := id hb
  simp only at hc hd hc2 hd2
  subst hc hd hc2 hd2
  have e : vs.toArray ++ ws.toArray = (vs ++ ws).toArray := by simp
  by_cases hw : ws = []
  · exact concat_meets ⟨_, ho, rfl⟩ ⟨_, ho2, rfl⟩ noFill_tuple_add seq_tuple_add PySem.F.slot_tuple_add PySem.F.entry_tuple_add (PySem.F.args_tuple_add_2 _ _)
      (tuple_addW1 t b vs.toArray ws.toArray n n2 dd dd2 sl sl2 (by simpa using hv) (by simp [hw])) ⟨ho, ho2, h1 hw⟩
  · refine concat_meets ⟨_, ho, rfl⟩ ⟨_, ho2, rfl⟩ noFill_tuple_add seq_tuple_add PySem.F.slot_tuple_add PySem.F.entry_tuple_add (PySem.F.args_tuple_add_2 _ _)
      (tuple_addW2 t b vs.toArray ws.toArray n n2 dd dd2 sl sl2 (by simpa using hv) (by simpa using hw) (by rw [List.size_toArray, List.size_toArray]; exact hsz)) ⟨ho, ho2, ?_⟩
    rw [e]
    exact h2 hw

/-- a slice's bound as a place among n (d where it is left out) -/
def sIx (n d : Nat) : Option Int → Nat
  | none => d
  | some v => if v < 0 then (v + (n : Int)).toNat else min v.toNat n
theorem sIx_none (n d : Nat) : sIx n d none = d := rfl
theorem sIx_nat (n d k : Nat) : sIx n d (some (k : Int)) = min k n := by
  show (if (k : Int) < 0 then ((k : Int) + (n : Int)).toNat else min (k : Int).toNat n) = min k n
  rw [if_neg (by omega), Int.toNat_natCast]
theorem sIx_le (n d : Nat) (hd : d ≤ n) (o : Option Int) : sIx n d o ≤ n := by
  cases o with
  | none => exact hd
  | some v =>
    show (if v < 0 then (v + (n : Int)).toNat else min v.toNat n) ≤ n
    by_cases hv : v < 0
    · rw [if_pos hv]; omega
    · rw [if_neg hv]; exact Nat.min_le_right _ _
theorem clip_eq (v : Int) (n d : Nat) : (if v < 0 then max (v + (n : Int)) 0 else min v (n : Int)) = ((sIx n d (some v) : Nat) : Int) := by
  show (if v < 0 then max (v + (n : Int)) 0 else min v (n : Int)) = (((if v < 0 then (v + (n : Int)).toNat else min v.toNat n) : Nat) : Int)
  by_cases hv : v < 0
  · simp only [if_pos hv]; omega
  · simp only [if_neg hv]; omega
theorem adjust_gen (lo hi : Option Int) (n : Nat) : Builtin.Slice.sliceAdjust lo hi 1 (n : Int) = (((sIx n 0 lo : Nat) : Int), ((sIx n n hi : Nat) : Int)) := by
  have h1 : ¬ ((1 : Int) < 0) := by omega
  unfold Builtin.Slice.sliceAdjust
  simp only [h1, if_false]
  refine Prod.ext ?_ ?_
  · cases lo with
    | none => rfl
    | some v => exact clip_eq v n 0
  · cases hi with
    | none => rfl
    | some v => exact clip_eq v n n
theorem places_gen (i j : Nat) : Builtin.Slice.slicePlaces (i : Int) (j : Int) 1 = j - i := by
  unfold Builtin.Slice.slicePlaces
  have h1 : (1 : Int) > 0 := by omega
  simp only [h1, if_true, Int.ediv_one]
  split <;> omega
theorem slicePart_ {v : Value} {o : Option Int} {Q : Option Int → Shared → Prop} (p : IsPart v o) (h : Q o s) : wpAny (model prog w) A (Builtin.Slice.slicePartIndex v) Q E s := by
  cases p with
  | none => exact slicePart_none h
  | int i t => exact slicePart_int h
theorem sliceApplied_gen {sl : Addr} {vl vu : Value} {lo hi : Option Int} {n : Nat} {Q : Int × Int × Nat → Shared → Prop} (hs : s.heap.IsSliceOf sl vl vu .none) (pl : IsPart vl lo) (pu : IsPart vu hi)
    (h : Q (((sIx n 0 lo : Nat) : Int), 1, sIx n n hi - sIx n 0 lo) s) : wpAny (model prog w) A (Builtin.Slice.sliceApplied (.ref sl) (pure (n : Int))) Q E s := by
  obtain ⟨os, hos, hcs, hds⟩ := id hs
  unfold Builtin.Slice.sliceApplied Builtin.Slice.sliceFields
  refine wpAny_bind (wpAny_bind (wpAny_field hos hds (x := vl) rfl (wpAny_bind (wpAny_field hos hds (x := vu) rfl (wpAny_bind (wpAny_field hos hds (x := .none) rfl (wpAny_pure ?_)))))))
  refine wpAny_bind (slicePart_none ?_)
  show wpAny _ _ (if ((1 : Int) == 0) = true then _ else _) _ _ s
  rw [if_neg (by decide)]
  refine wpAny_bind (slicePart_ pl (wpAny_bind (slicePart_ pu (wpAny_bind (wpAny_pure ?_)))))
  show wpAny _ _ (match Builtin.Slice.sliceAdjust lo hi 1 (n : Int) with | (lo, hi) => pure (lo, (1 : Int), Builtin.Slice.slicePlaces lo hi 1)) _ _ s
  rw [adjust_gen lo hi n]
  show wpAny _ _ (pure (((sIx n 0 lo : Nat) : Int), (1 : Int), Builtin.Slice.slicePlaces ((sIx n 0 lo : Nat) : Int) ((sIx n n hi : Nat) : Int) 1)) _ _ s
  rw [places_gen]
  exact wpAny_pure h
theorem pick_gen (xs : Array Value) (i k : Nat) : ((List.range k).filterMap fun (m : Nat) => xs[((i : Int) + (m : Int) * 1).toNat]?).toArray = ((xs.toList.drop i).take k).toArray := by
  have e : (fun (m : Nat) => xs[((i : Int) + (m : Int) * 1).toNat]?) = fun m => xs[i + m]? := by
    funext m
    have : ((i : Int) + (m : Int) * 1).toNat = i + m := by omega
    rw [this]
  rw [e]
  have := pick_run xs i k
  rw [List.filterMap_map] at this
  have e2 : ((fun x => xs[x]?) ∘ fun x => i + x) = fun m => xs[i + m]? := rfl
  rw [e2] at this
  rw [this]

theorem getItem_tuple_cut {t sl : Addr} {items : Array Value} {vl vu : Value} {lo hi : Option Int} {Q : Value → Shared → Prop} (ht : IsTup s.heap t items) (hs : s.heap.IsSliceOf sl vl vu .none) (pl : IsPart vl lo) (pu : IsPart vu hi)
    (hw : ¬ (sIx items.size 0 lo = 0 ∧ sIx items.size items.size hi = items.size))
    (h : Q (.ref s.heap.objs.size) { s with heap := s.heap.push { cls := .type "tuple", data := .seq ((items.toList.drop (sIx items.size 0 lo)).take (sIx items.size items.size hi - sIx items.size 0 lo)).toArray } })
    (hsz : items.size ≤ sizeLine) : wpAny (model prog w) A (getItem (.ref t) (.ref sl)) Q E s := by
  have htake : sizeOk (.seq ((items.toList.drop (sIx items.size 0 lo)).take (sIx items.size items.size hi - sIx items.size 0 lo)).toArray) := by
    show ((items.toList.drop (sIx items.size 0 lo)).take (sIx items.size items.size hi - sIx items.size 0 lo)).toArray.size ≤ sizeLine
    rw [List.size_toArray, List.length_take, List.length_drop, Array.length_toList]
    omega
  have hj : sIx items.size items.size hi ≤ items.size := sIx_le _ _ (Nat.le_refl _) hi
  obtain ⟨os, hos, hcs, hds⟩ := id hs
  have hTs : s.TypeIs (.ref sl) "slice" := ⟨os, hos, hcs⟩
  unfold getItem
  try with_reducible refine wpAny_holding ?_
  first | refine wpAny_bind (wpAny_pure ?_) | skip
  refine wpAny_bind (wpAny_sequenceKey ht.typeIs (by decide) ?_)
  refine wpAny_bind (wpAny_callSpecial?_slot (name := Str.ofString "__getitem__") ht.typeIs PyProof.Rows.slot_tuple_getitem
    (wpAny_call_entry PyProof.Rows.slot_tuple_getitem ht.typeIs entry_tuple_getitem ?_ (args_tuple_getitem _ _)))
  show wpAny _ _ (Builtin.Tuple.tupleItemsOf (.ref t) >>= _) _ _ s
  refine wpAny_bind (tupleItemsOf_ ht ?_)
  refine wpAny_bind (wpAny_typeOf hTs ?_)
  rw [if_pos (by decide)]
  refine wpAny_bind (sliceApplied_gen hs pl pu ?_)
  have hno : ¬ ((((sIx items.size 0 lo : Nat) : Int) == 0 && (1 : Int) == 1 && (sIx items.size items.size hi - sIx items.size 0 lo) == items.size) = true) := by
    intro q
    rw [Bool.and_eq_true, Bool.and_eq_true] at q
    have q1 : ((sIx items.size 0 lo : Nat) : Int) = 0 := eq_of_beq q.1.1
    have q2 : sIx items.size items.size hi - sIx items.size 0 lo = items.size := eq_of_beq q.2
    exact hw ⟨by omega, by omega⟩
  show wpAny _ _ (if (((sIx items.size 0 lo : Nat) : Int) == 0 && (1 : Int) == 1 && (sIx items.size items.size hi - sIx items.size 0 lo) == items.size) = true then _ else _) _ _ s
  rw [if_neg hno, pick_gen]
  first
    | exact wpAny_bind (m := Builtin.Tuple.tupleExact _) (wpAny_newObj_type (wpAny_pure ⟨_, rfl, wpAny_pure h⟩) htake)
    | exact wpAny_bind (m := Builtin.Tuple.tupleExact _) (wpAny_newObj_type (wpAny_bind (wpAny_pure (wpAny_pure ⟨_, rfl, wpAny_pure h⟩))) htake)
    | exact wpAny_bind (wpAny_bind (m := Builtin.Tuple.tupleExact _) (wpAny_newObj_type (wpAny_pure (wpAny_pure ⟨_, rfl, wpAny_pure h⟩)) htake))
    | exact wpAny_bind (wpAny_bind (m := Builtin.Tuple.tupleExact _) (wpAny_newObj_type (wpAny_pure ⟨_, rfl, wpAny_pure h⟩) htake))
end
end HT

namespace L2
open PySem PySem.Spec PyProof.Rows

abbrev TO := St → Hp → (Option Int → Hp → Prop) → Prop
/-- a slice's part (left out, or an int) -/
def PO (X : Cx) (e : Option Expr) (t : TO) : Prop :=
  ∀ (pins : List (Addr × Obj)) (s : Shared) (σ : St) (H : Hp) (Q : Option Int → Hp → Prop), Inv X pins σ H s → t σ H Q →
    wpAny (model X.prog X.w) X.A (evalPart e X.env) (fun u s' => ∃ o H', Inv X pins σ H' s' ∧ IsPart u o ∧ Q o H') X.xe s
def tNoPart : TO := fun _ H Q => Q none H
def tPart (t : TE) : TO := fun σ H Q => t σ H fun x H1 => ∃ i, x = .int i ∧ Q (some i) H1

section
variable {X : Cx} {e : Expr} {te : TE} {lo hi : Option Expr} {tl th : TO} {pos p2 : Pos}

theorem po_none : PO X none tNoPart := by
  intro pins s σ H Q I h
  rw [evalPart_none]
  exact wpAny_pure ⟨none, H, I, .none, h⟩
theorem po_some (h : PE X e te) : PO X (some e) (tPart te) := by
  intro pins s σ H Q I hw
  rw [evalPart_some]
  refine thn (h pins s σ H _ I hw) fun u s1 ⟨x, H1, I1, r1, q1⟩ => ?_
  obtain ⟨i, rfl, q⟩ := q1
  obtain ⟨t, rfl⟩ := r1
  exact ⟨some i, H1, I1, .int i t, q⟩

/-- what a slice of a value is, by values: the slice object stands at sl -/
def SlR (X : Cx) (r : V → Option Int → Option Int → Hp → VK → Prop) : Prop :=
  ∀ (pins : List (Addr × Obj)) (s : Shared) (σ : St) (H : Hp) (x : V) (v vl vu : Value) (lo hi : Option Int) (sl : Addr) (Q : VK), Inv X pins σ H s → RelV x v → s.heap.IsSliceOf sl vl vu .none → IsPart vl lo → IsPart vu hi → r x lo hi H Q →
    ∃ T id, typeLookup (.type T) "__getitem__" = pure (some (.builtin id)) ∧ s.TypeIs v T ∧ wpAny (model X.prog X.w) X.A (getItem v (.ref sl)) (EP X pins σ Q) X.xe s
theorem SlR.or {r r' : V → Option Int → Option Int → Hp → VK → Prop} (h : SlR X r) (h' : SlR X r') : SlR X (fun x lo hi H Q => r x lo hi H Q ∨ r' x lo hi H Q) := by
  intro pins s σ H x v vl vu lo hi sl Q I rx hs pl pu q
  rcases q with q | q
  · exact h pins s σ H x v vl vu lo hi sl Q I rx hs pl pu q
  · exact h' pins s σ H x v vl vu lo hi sl Q I rx hs pl pu q
def tSl (r : V → Option Int → Option Int → Hp → VK → Prop) (te : TE) (tl th : TO) : TE := fun σ H Q => te σ H fun x H1 => tl σ H1 fun l H2 => th σ H2 fun u H3 => r x l u H3 Q
/-- a[lo:hi], any a -/
theorem pe_slice {r : V → Option Int → Option Int → Hp → VK → Prop} (hr : SlR X r) (he : PE X e te) (hl : PO X lo tl) (hu : PO X hi th) : PE X (.Subscript e (.Slice lo hi none p2) pos) (tSl r te tl th) := by
  intro pins s σ H Q I h
  refine Subscript_ (thn (he pins s σ H _ I h) fun v s1 ⟨x, H1, I1, r1, q1⟩ => ?_)
  refine wpAny_Slice (thn (hl pins s1 σ H1 _ I1 q1) fun vl s2 ⟨l, H2, I2, pl, q2⟩ => thn (hu pins s2 σ H2 _ I2 q2) fun vu s3 ⟨u, H3, I3, pu, q3⟩ => ?_)
  rw [evalPart_none]
  refine wpAny_pure ?_
  have I4 : Inv X pins σ H3 { s3 with heap := s3.heap.push { cls := .type "slice", data := .fields #[vl, vu, .none] } } := I3.kept (t' := s3.toks) fun b ob q => Heap.get?_push_of_some _ q
  obtain ⟨T, id, hT, ht, hg⟩ := hr pins { s3 with heap := s3.heap.push { cls := .type "slice", data := .fields #[vl, vu, .none] } } σ H3 x v vl vu l u s3.heap.objs.size Q I4 r1 (Heap.IsSliceOf.new ..) pl pu q3
  show wpAny (model X.prog X.w) X.A (subscriptTail e (.Slice lo hi none p2) v (.ref s3.heap.objs.size)) (EP X pins σ Q) X.xe { s3 with heap := s3.heap.push { cls := .type "slice", data := .fields #[vl, vu, .none] } }
  exact tail_any (ops := [.ref s3.heap.objs.size, v]) ht hT hg (by with_unfolding_all rfl)

/-- the items of xs[lo:hi] -/
def cutV (xs : List V) (lo hi : Option Int) : List V := (xs.drop (HT.sIx xs.length 0 lo)).take (HT.sIx xs.length xs.length hi - HT.sIx xs.length 0 lo)
theorem cutV_length (xs : List V) (lo hi : Option Int) : (cutV xs lo hi).length ≤ xs.length := by
  unfold cutV
  rw [List.length_take, List.length_drop]
  omega
/-- t[lo:hi], not the whole of it (the whole would be t itself) -/
def rSlT (K : PySem.W.Frag) : V → Option Int → Option Int → Hp → VK → Prop := fun x lo hi H Q => ∃ a xs, x = .ref a ∧ SqT K H a xs ∧
  ¬ (HT.sIx xs.length 0 lo = 0 ∧ HT.sIx xs.length xs.length hi = xs.length) ∧ ∀ p, H p = none → Q (.ref p) (upd H p (.tup (cutV xs lo hi)))
theorem sl_tup : SlR X (rSlT X.K) := by
  intro pins s σ H x v vl vu lo hi sl Q I rx hs pl pu h
  obtain ⟨a, xs, rfl, hx, hw, q⟩ := h
  cases rx
  obtain ⟨its, r, ht, hz⟩ := I.tuple hx
  have hlen : its.toArray.size = xs.length := by rw [List.size_toArray]; exact r.length.symm
  refine ⟨"tuple", _, PyProof.Rows.slot_tuple_getitem.lookup, ht.typeIs, ?_⟩
  refine HT.getItem_tuple_cut ht hs pl pu (by rw [hlen]; exact hw) ?_ (by rw [hlen]; exact hz)
  rw [hlen]
  refine ⟨.ref s.heap.objs.size, _, I.laid (t' := s.toks) (o := .tup (cutV xs lo hi)) (fun b ob q => Heap.get?_push_of_some _ q) (Nat.le_refl _) ?_, rfl, q _ (I.hok.fresh (Nat.le_refl _))⟩
  exact ⟨Nat.le_trans (cutV_length xs lo hi) hz, _, (r.drop (HT.sIx xs.length 0 lo)).take (HT.sIx xs.length xs.length hi - HT.sIx xs.length 0 lo), IsTupN.new _ _⟩

/-- t + u, t not empty: u empty gives t itself -/
def rCatT (K : PySem.W.Frag) : R2 := fun x y H Q => ∃ a b xs ys, x = .ref a ∧ y = .ref b ∧ SqT K H a xs ∧ SqT K H b ys ∧ xs ≠ [] ∧ xs.length + ys.length ≤ sizeLine ∧
  (ys = [] → Q (.ref a) H) ∧ (ys ≠ [] → ∀ p, H p = none → Q (.ref p) (upd H p (.tup (xs ++ ys))))
theorem Vals.nil_iff {xs : List V} {us : List Value} (r : Vals xs us) : us = [] ↔ xs = [] := by
  cases r with
  | nil => simp
  | cons _ _ => simp
theorem op_catT : OpR X (binaryOp .Add) (rCatT X.K) := by
  intro pins s σ H x y v u Q I rx ry h
  obtain ⟨a, b, xs, ys, rfl, rfl, ha, hb, hx, hz, q1, q2⟩ := h
  cases rx
  cases ry
  obtain ⟨its, r1, p1, _⟩ := I.tuple ha
  obtain ⟨its2, r2, p2, _⟩ := I.tuple hb
  refine HT.cat_tup p1 p2 (fun z => hx (r1.nil_iff.mp z)) (fun z => ⟨.ref a, H, I, rfl, q1 (r2.nil_iff.mp z)⟩) (fun z => ?_) (by rw [← r1.length, ← r2.length]; exact hz)
  refine ⟨.ref s.heap.objs.size, _, I.laid (t' := s.toks) (o := .tup (xs ++ ys)) (fun b ob q => Heap.get?_push_of_some _ q) (Nat.le_refl _) ?_, rfl, q2 (fun w => z (r2.nil_iff.mpr w)) _ (I.hok.fresh (Nat.le_refl _))⟩
  exact ⟨by rw [List.length_append]; exact hz, _, r1.append r2, IsTupN.new _ _⟩
end
end L2

namespace L2
open PySem PySem.Spec PyProof.Rows

/-- the place that an index of any sign means -/
def ixN (n : Nat) (i : Int) : Option Nat := if 0 ≤ i then (if i < n then some i.toNat else none) else if -(n : Int) ≤ i then some (i + n).toNat else none
def atI {α : Type} (xs : List α) (i : Int) : Option α := (ixN xs.length i).bind fun j => xs[j]?
theorem ixN_seq {n : Nat} {i : Int} {j : Nat} (h : ixN n i = some j) : seqIndex? i n = some j ∧ j < n ∧ -(n : Int) ≤ i ∧ i < n := by
  unfold ixN at h
  by_cases h0 : 0 ≤ i
  · rw [if_pos h0] at h
    by_cases h1 : i < n
    · rw [if_pos h1] at h
      have e : i.toNat = j := Option.some.inj h
      exact ⟨by rw [seqIndex_of h0 h1, e], by omega, by omega, h1⟩
    · rw [if_neg h1] at h; cases h
  · rw [if_neg h0] at h
    by_cases h1 : -(n : Int) ≤ i
    · rw [if_pos h1] at h
      have e : (i + n).toNat = j := Option.some.inj h
      exact ⟨by rw [seqIndex_neg (by omega) h1, e], by omega, h1, by omega⟩
    · rw [if_neg h1] at h; cases h
theorem atI_get {α : Type} {xs : List α} {i : Int} {v : α} (h : atI xs i = some v) : ∃ j, seqIndex? i xs.length = some j ∧ xs[j]? = some v ∧ j < xs.length ∧ -(xs.length : Int) ≤ i ∧ i < xs.length := by
  unfold atI at h
  cases e : ixN xs.length i with
  | none => rw [e] at h; cases h
  | some j =>
    rw [e] at h
    obtain ⟨h1, h2, h3, h4⟩ := ixN_seq e
    exact ⟨j, h1, h, h2, h3, h4⟩
theorem atI_nat {α : Type} {xs : List α} {j : Nat} {v : α} (h : xs[j]? = some v) : atI xs (j : Int) = some v := by
  have hj : j < xs.length := (List.getElem?_eq_some_iff.mp h).1
  have e : ixN xs.length (j : Int) = some j := by
    unfold ixN
    rw [if_pos (by omega), if_pos (by omega)]; simp
  unfold atI; rw [e]; exact h
/-- what stands as an index of a plain subscript -/
def PlainIx (b : Expr) : Prop := ∀ o i, subscripted b false o i = operate [o, i] (getItem o i)
/-- a subscript by values -/
def IxR (X : Cx) (r : R2) : Prop :=
  ∀ (value slice : Expr) (pins : List (Addr × Obj)) (s : Shared) (σ : St) (H : Hp) (x y : V) (v u : Value) (Q : VK), Inv X pins σ H s → RelV x v → RelV y u → r x y H Q →
    subscripted slice false v u = operate [v, u] (getItem v u) → wpAny (model X.prog X.w) X.A (subscriptTail value slice v u) (EP X pins σ Q) X.xe s
/-- a call of a builtin's method by values: the receiver, the arguments -/
def MtR (X : Cx) (id : String) (r : V → List V → Hp → VK → Prop) : Prop :=
  ∀ (pins : List (Addr × Obj)) (s : Shared) (σ : St) (H : Hp) (x : V) (xs : List V) (v : Value) (us : List Value) (Q : VK), Inv X pins σ H s → RelV x v → Vals xs us → r x xs H Q →
    wpAny (model X.prog X.w) X.A (call (.builtin id) (v :: us)) (EP X pins σ Q) X.xe s
section
variable {X : Cx} {a b : Expr} {ta tb : TE} {pos : Pos}
theorem IxR.or {r r' : R2} (h : IxR X r) (h' : IxR X r') : IxR X (fun x y H Q => r x y H Q ∨ r' x y H Q) := by
  intro value slice pins s σ H x y v u Q I rx ry q hs
  rcases q with q | q
  · exact h value slice pins s σ H x y v u Q I rx ry q hs
  · exact h' value slice pins s σ H x y v u Q I rx ry q hs
theorem MtR.or {id : String} {r r' : V → List V → Hp → VK → Prop} (h : MtR X id r) (h' : MtR X id r') : MtR X id (fun x xs H Q => r x xs H Q ∨ r' x xs H Q) := by
  intro pins s σ H x xs v us Q I rx rs q
  rcases q with q | q
  · exact h pins s σ H x xs v us Q I rx rs q
  · exact h' pins s σ H x xs v us Q I rx rs q
/-- a[b] -/
theorem pe_ix {r : R2} (hr : IxR X r) (ha : PE X a ta) (hb : PE X b tb) (hs : PlainIx b) : PE X (.Subscript a b pos) (tOp r ta tb) := by
  intro pins s σ H Q I h
  exact Subscript_ (binT ha hb I h fun v u s2 x y H2 I2 rx ry q => hr a b pins s2 σ H2 x y v u Q I2 rx ry q (hs _ _))

def rIxL (K : PySem.W.Frag) : R2 := fun x y H Q => ∃ p xs i v, x = .ref p ∧ y = .int i ∧ SqL K H p xs ∧ atI xs i = some v ∧ Q v H
def rIxT (K : PySem.W.Frag) : R2 := fun x y H Q => ∃ p xs i v, x = .ref p ∧ y = .int i ∧ SqT K H p xs ∧ atI xs i = some v ∧ Q v H
theorem ix_list : IxR X (rIxL X.K) := by
  intro value slice pins s σ H x y v u Q I rx ry h hs
  obtain ⟨p, xs, i, z, rfl, rfl, hq, he, q⟩ := h
  cases rx
  obtain ⟨t, rfl⟩ := ry
  obtain ⟨its, r, pl, hz⟩ := I.list hq
  obtain ⟨j, h1, h2, h3, h4, h5⟩ := atI_get he
  obtain ⟨w, ew, rw'⟩ := r.get h2
  have hl := r.length
  have hn := line63
  have fin : EP X pins σ Q w s := ⟨z, H, I, rw', q⟩
  by_cases h0 : 0 ≤ i
  · have hj : i.toNat = j := by
      rw [seqIndex_of h0 h5] at h1
      exact Option.some.inj h1
    exact item_listR pl.isList h0 (by omega) (by rw [hj]; simpa using ew) fin hs
  · have hj : (i + (its.toArray.size : Int)).toNat = j := by
      rw [seqIndex_neg (by omega) h4] at h1
      rw [List.size_toArray, ← hl]
      exact Option.some.inj h1
    exact subscriptTail_builtinR (x := w) pl.isList.typeIs slot_list_getitem.lookup
      (wpAny_getItem_list_neg (Q := fun r s' => r = w ∧ EP X pins σ Q r s') pl.isList (by omega) (by rw [List.size_toArray] <;> omega) (by omega) (by rw [hj]; simpa using ew) ⟨rfl, fin⟩) hs
theorem ix_tup : IxR X (rIxT X.K) := by
  intro value slice pins s σ H x y v u Q I rx ry h hs
  obtain ⟨p, xs, i, z, rfl, rfl, hq, he, q⟩ := h
  cases rx
  obtain ⟨t, rfl⟩ := ry
  obtain ⟨its, r, pl, hz⟩ := I.tuple hq
  obtain ⟨j, h1, h2, h3, h4, h5⟩ := atI_get he
  obtain ⟨w, ew, rw'⟩ := r.get h2
  have hl := r.length
  have hn := line63
  have fin : EP X pins σ Q w s := ⟨z, H, I, rw', q⟩
  exact subscriptTail_builtinR (x := w) pl.typeIs slot_tuple_getitem.lookup
    (getItem_tuple (j := j) (Q := fun r s' => r = w ∧ EP X pins σ Q r s') pl (by omega) (by omega) (by rw [List.size_toArray, ← hl]; exact h1) (by simpa using ew) ⟨rfl, fin⟩) hs
/-- the list's object behind a store -/
theorem mapSeq_set (its : List Value) (n j : Nat) (u : Value) : Obj.mapSeq (·.setIfInBounds j u) { cls := .type "list", data := .seq its.toArray n } = { cls := .type "list", data := .seq (its.set j u).toArray n } := by
  simp [Obj.mapSeq]
theorem Inv.lst {pins : List (Addr × Obj)} {σ : St} {H : Hp} {s : Shared} {p : Addr} {xs : List V} (I : Inv X pins σ H s) (h : H p = some (.lst xs)) :
    ∃ (its : List Value) (n : Nat), Vals xs its ∧ s.heap.get? p = some { cls := .type "list", data := .seq its.toArray n } ∧ xs.length ≤ sizeLine := by
  obtain ⟨z, its, n, r, e⟩ := I.hok p _ h
  exact ⟨its, n, r, e, z⟩
/-- the list at p is written by an update of its object -/
theorem Inv.lstUpd {pins : List (Addr × Obj)} {σ : St} {H : Hp} {s : Shared} {p : Addr} {xs ys : List V} {its its' : List Value} {n n' : Nat} {f : Obj → Obj} (I : Inv X pins σ H s) (h : H p = some (.lst xs))
    (ho : s.heap.get? p = some { cls := .type "list", data := .seq its.toArray n }) (hf : f { cls := .type "list", data := .seq its.toArray n } = { cls := .type "list", data := .seq its'.toArray n' }) (r : Vals ys its') (hz : ys.length ≤ sizeLine) (t : Nat) :
    Inv X pins σ (upd H p (.lst ys)) { s with heap := s.heap.update p f, toks := t } := by
  have e : (s.heap.update p f).get? p = some { cls := .type "list", data := .seq its'.toArray n' } := by
    rw [Heap.get?_update_self f ho (by rw [hf] <;> rfl), hf]
  refine I.write (x := p) (e := p) (by rw [h]; trivial) (.inl rfl) (fun b u hb q => (Heap.get?_update_other _ _ (Ne.symm hb)).trans q) ⟨_, e⟩ ?_
  exact ⟨hz, its', n', r, e⟩
def rSetL : V → V → V → Hp → (Hp → Prop) → Prop := fun o i v H Q => ∃ p xs k j, o = .ref p ∧ i = .int k ∧ H p = some (.lst xs) ∧ ixN xs.length k = some j ∧ Q (upd H p (.lst (xs.set j v)))
theorem set_list : PSet X rSetL := by
  intro pins s σ H o i v ov iv u Q I ro ri rv h
  obtain ⟨p, xs, k, j, rfl, rfl, hp, hj, q⟩ := h
  cases ro
  obtain ⟨t, rfl⟩ := ri
  obtain ⟨its, n, r, ho, hz⟩ := I.lst hp
  obtain ⟨h1, h2, h3, h4⟩ := ixN_seq hj
  have hl := r.length
  have hn := line63
  have I' : Inv X pins σ (upd H p (.lst (xs.set j v))) { s with heap := s.heap.update p (Obj.mapSeq (·.setIfInBounds j u)) } :=
    I.lstUpd hp ho (mapSeq_set its n j u) (r.set rv j) (by rw [List.length_set]; exact hz) s.toks
  by_cases h0 : 0 ≤ k
  · have hk : k.toNat = j := by
      rw [seqIndex_of h0 h4] at h1
      exact Option.some.inj h1
    exact PySem.W.ki_setAt ho h0 (by omega) (by rw [List.size_toArray, ← hl]; exact h4) (by rw [hk]; exact ⟨_, I', q⟩)
  · have hk : (k + (its.toArray.size : Int)).toNat = j := by
      rw [seqIndex_neg (by omega) h3] at h1
      rw [List.size_toArray, ← hl]
      exact Option.some.inj h1
    exact PySem.W.ki_setBack ho (by omega) (by rw [List.size_toArray, ← hl]; exact h3) (by omega) (by rw [hk]; exact ⟨_, I', q⟩)

theorem slice_bounds (lo hi : Option Int) (n : Nat) : (sliceBounds lo hi none n).1 = ((HT.sIx n 0 lo : Nat) : Int) ∧ (sliceBounds lo hi none n).2.1 = ((HT.sIx n n hi : Nat) : Int) ∧ (sliceBounds lo hi none n).2.2 = 1 := by
  refine ⟨?_, ?_, rfl⟩
  · cases lo with
    | none => simp [sliceBounds, HT.sIx]
    | some i =>
      simp only [sliceBounds, HT.sIx, Option.getD_none, show (1 : Int) > 0 by decide, if_true]
      by_cases h : i < 0
      · simp only [h, if_true] <;> omega
      · simp only [h, if_false] <;> omega
  · cases hi with
    | none => simp [sliceBounds, HT.sIx]
    | some i =>
      simp only [sliceBounds, HT.sIx, Option.getD_none, show (1 : Int) > 0 by decide, if_true]
      by_cases h : i < 0
      · simp only [h, if_true] <;> omega
      · simp only [h, if_false] <;> omega
theorem slicePick_cut (its : List Value) (lo hi : Option Int) : slicePick its.toArray lo hi none = ((its.drop (HT.sIx its.length 0 lo)).take (HT.sIx its.length its.length hi - HT.sIx its.length 0 lo)).toArray := by
  obtain ⟨h1, h2, h3⟩ := slice_bounds lo hi its.toArray.size
  unfold slicePick
  rw [h1, h2, h3]
  simp only [sliceRange_one, pick_run, List.size_toArray] <;> rfl
/-- xs[lo:hi] of a list: a new list -/
def rSlL (K : PySem.W.Frag) : V → Option Int → Option Int → Hp → VK → Prop := fun x lo hi H Q => ∃ a xs, x = .ref a ∧ SqL K H a xs ∧ ∀ p, H p = none → Q (.ref p) (upd H p (.lst (cutV xs lo hi)))
theorem sl_list : SlR X (rSlL X.K) := by
  intro pins s σ H x v vl vu lo hi sl Q I rx hs pl pu h
  obtain ⟨a, xs, rfl, hx, q⟩ := h
  cases rx
  obtain ⟨its, r, ht, hz⟩ := I.list hx
  have hlen := r.length
  refine ⟨"list", _, slot_list_getitem.lookup, ht.isList.typeIs, ?_⟩
  refine wpAny_getItem_list_slice ht.isList hs pl pu .none (by simp) ?_ (by rw [List.size_toArray] <;> omega)
  rw [slicePick_cut, ← hlen]
  refine ⟨.ref s.heap.objs.size, _, I.laid (t' := s.toks) (o := .lst (cutV xs lo hi)) (fun b ob q => Heap.get?_push_of_some _ q) (Nat.le_refl _) ?_, rfl, q _ (I.hok.fresh (Nat.le_refl _))⟩
  exact ⟨Nat.le_trans (cutV_length xs lo hi) hz, _, 0, (r.drop (HT.sIx xs.length 0 lo)).take (HT.sIx xs.length xs.length hi - HT.sIx xs.length 0 lo), Heap.get?_push_size _ rfl⟩

theorem call_len_seq : CallR X (.builtin "len") (fun xs H Q => ∃ p ys, xs = [.ref p] ∧ (SqL X.K H p ys ∨ SqT X.K H p ys) ∧ Q (.int ys.length) H) := by
  intro pins s σ H xs us Q I r h
  obtain ⟨p, ys, rfl, hq, q⟩ := h
  obtain ⟨u, rfl, rx⟩ := vals1 r
  cases rx
  have hn := line63
  rcases hq with hq | hq
  · obtain ⟨its, r', pl, hz⟩ := I.list hq
    have hlen := r'.length
    exact Calls.call_len_list pl.isList (by simp only [List.size_toArray] <;> omega) ⟨.int ys.length, H, I.tok _, ⟨s.toks + 1, by rw [List.size_toArray, hlen]⟩, q⟩
  · obtain ⟨its, r', pl, hz⟩ := I.tuple hq
    have hlen := r'.length
    exact len_tuple pl (by simp only [List.size_toArray] <;> omega) ⟨.int ys.length, H, I.tok _, ⟨s.toks + 1, by rw [List.size_toArray, hlen]⟩, q⟩
theorem CallR.or {f : Value} {r r' : List V → Hp → VK → Prop} (h : CallR X f r) (h' : CallR X f r') : CallR X f (fun xs H Q => r xs H Q ∨ r' xs H Q) := by
  intro pins s σ H xs us Q I rs q
  rcases q with q | q
  · exact h pins s σ H xs us Q I rs q
  · exact h' pins s σ H xs us Q I rs q
theorem call_tuple_of : CallR X (.type "tuple") (fun xs H Q => ∃ p ys, xs = [.ref p] ∧ ((SqL X.K H p ys ∧ ∀ l, H l = none → Q (.ref l) (upd H l (.tup ys))) ∨ (SqT X.K H p ys ∧ Q (.ref p) H))) := by
  intro pins s σ H xs us Q I r h
  obtain ⟨p, ys, rfl, h⟩ := h
  obtain ⟨u, rfl, rx⟩ := vals1 r
  cases rx
  rcases h with ⟨hq, q⟩ | ⟨hq, q⟩
  · obtain ⟨its, r', pl, hz⟩ := I.list hq
    have hlen := r'.length
    refine call_tuple_list pl.isList (fun h' kp => ?_) (by simp only [List.size_toArray] <;> omega)
    have I1 : Inv X pins σ H { s with heap := h' } := I.kept (t' := s.toks) kp
    have I2 : Inv X pins σ (upd H h'.objs.size (.tup ys)) { s with heap := h'.push { cls := .type "tuple", data := .seq its.toArray } } :=
      I1.laid (t' := s.toks) (fun b o e => Heap.get?_push_of_some _ e) (Nat.le_refl _) (show ObjOk X.prog X.w _ _ _ (.tup ys) from ⟨hz, its, r', IsTupN.new _ _⟩)
    exact ⟨.ref h'.objs.size, _, I2, rfl, q _ (I1.hok.fresh (Nat.le_refl _))⟩
  · obtain ⟨its, r', pl, hz⟩ := I.tuple hq
    exact call_tuple_same pl ⟨.ref p, H, I, rfl, q⟩

/-- the value is of that builtin type -/
def tyV (K : PySem.W.Frag) (T : String) (x : V) (H : Hp) : Prop := match x with
  | .str _ => T = "str"
  | .int _ => T = "int"
  | .ref p => (T = "list" ∧ ∃ xs, SqL K H p xs) ∨ (T = "tuple" ∧ ((∃ o, K.lookup p = some o ∧ o.cls = .type "tuple" ∧ o.dict = none) ∨ ∃ xs, H p = some (.tup xs))) ∨
      (T = "dict" ∧ ((∃ kvs, H p = some (.dK kvs)) ∨ ∃ kvs, H p = some (.dT kvs))) ∨ (T = "set" ∧ ∃ S n, H p = some (.set S n))
  | _ => False
theorem tyV_is {pins : List (Addr × Obj)} {σ : St} {H : Hp} {s : Shared} {T : String} {x : V} {v : Value} (I : Inv X pins σ H s) (r : RelV x v) (ty : tyV X.K T x H) :
    s.TypeIs v T ∧ ∀ a, v = .ref a → ∃ ob, s.heap.get? a = some ob ∧ ob.dict = none := by
  cases x with
  | str z =>
    obtain ⟨t, rfl⟩ := r
    cases (show T = "str" from ty)
    exact ⟨typeIs_str s z t, fun _ e => nomatch e⟩
  | int i =>
    obtain ⟨t, rfl⟩ := r
    cases (show T = "int" from ty)
    exact ⟨typeIs_int s i t, fun _ e => nomatch e⟩
  | ref p =>
    cases r
    rcases ty with ⟨rfl, xs, hq⟩ | ⟨rfl, ⟨o, hk, hc, hd⟩ | ⟨xs, hq⟩⟩ | ⟨rfl, hk⟩ | ⟨rfl, S, n, hk⟩
    · obtain ⟨its, _, pl, _⟩ := I.list hq
      refine ⟨pl.isList.typeIs, fun a e => ?_⟩
      cases e
      obtain ⟨o, n, e, c, hd, _⟩ := pl
      exact ⟨o, e, hd⟩
    · refine ⟨⟨o, I.kIn p o hk, hc⟩, fun a e => ?_⟩
      cases e
      exact ⟨o, I.kIn _ o hk, hd⟩
    · obtain ⟨_, its, _, o, e, c, n, _, hd⟩ := (show ObjOk X.prog X.w H s.heap p (.tup xs) from I.hok p _ hq)
      refine ⟨⟨o, e, c⟩, fun a e2 => ?_⟩
      cases e2
      exact ⟨o, e, hd⟩
    · have z : ∃ o, s.heap.get? p = some o ∧ o.ExactDict := by
        rcases hk with ⟨kvs, hk⟩ | ⟨kvs, hk⟩
        · obtain ⟨_, _, _, _, o, _, _, e, ex, _⟩ := I.hok p _ hk
          exact ⟨o, e, ex⟩
        · obtain ⟨_, _, _, _, o, _, _, e, ex, _⟩ := I.hok p _ hk
          exact ⟨o, e, ex⟩
      obtain ⟨o, e, ex⟩ := z
      refine ⟨⟨o, e, ex.1⟩, fun a e2 => ?_⟩
      cases e2
      exact ⟨o, e, ex.2.1⟩
    · obtain ⟨o, _, _, _, e, ex, _⟩ := I.hok p _ hk
      refine ⟨⟨o, e, ex.1⟩, fun a e2 => ?_⟩
      cases e2
      exact ⟨o, e, ex.2.1⟩
  | _ => exact False.elim ty
def tBM (K : PySem.W.Frag) (T : String) (r : V → List V → Hp → VK → Prop) (to : TE) (t : TA) : TE := fun σ H Q => to σ H fun x H1 => tyV K T x H1 ∧ t σ H1 fun xs H2 => r x xs H2 Q
variable {o e : Expr} {es : List Expr} {to : TE} {t : TA} {name : Str} {apos cpos : Pos} {T id : String} {r : V → List V → Hp → VK → Prop}
theorem pe_bm (pa : PlainAttrs T) (slot : Slot T name id) (hty : typeOf (.builtin id) = pure (.type "method_descriptor")) (hm : MtR X id r) (ho : PE X o to) (ha : PA X (e :: es) t)
    (hbase : attributeBase o name X.env (eval o X.env) = eval o X.env := by rfl)
    (hfew : ((backTo cpos (starEach (e :: es) X.env)).all (fun x => !x.1) && (backToKw cpos (keywordEach [] X.env)).all (fun x => x.1.isSome)
      && decide ((e :: es).length + ([] : List Keyword).length + (if ([] : List Keyword).isEmpty then 0 else 1) < 30)) = true := by rfl)
    (hline : (apos.endLine == cpos.line) = true := by rfl) (hs : starEach (e :: es) X.env = (false, eval e X.env) :: starEach es X.env := by rfl) (hplain : (backTo cpos (starEach es X.env)).any (·.1) = false := by rfl) :
    PE X (.Call (.Attribute o name apos) (e :: es) [] cpos) (tBM X.K T r to t) := by
  intro pins s σ H Q I h
  refine wpAny_Call_method_late hbase hfew hline rfl (thn (ho pins s σ H _ I h) fun v s1 ⟨x, H1, I1, r1, ty, q1⟩ => ?_)
  obtain ⟨h1, h2⟩ := tyV_is I1 r1 ty
  refine ⟨T, id, pa, slot, hty, h1, h2, ?_⟩
  have hA := ha cpos pins s1 σ H1 _ I1 q1
  rw [hs] at hA ⊢
  refine Calls.callWith_builtin (by show (false || (backTo cpos (starEach es X.env)).any (·.1)) = false; rw [hplain] <;> rfl) (Calls.evalArgs_plain ?_)
  exact thn hA fun us s2 ⟨vs, H2, I2, r2, q2⟩ => hm pins s2 σ H2 x vs v us Q I2 r1 r2 q2
end
end L2

namespace L2
open PySem PySem.Spec PyProof.Rows

def MtM (X : Cx) (id : String) (r : V → List V → Hp → VK → Prop) : Prop :=
  ∀ (pins : List (Addr × Obj)) (s : Shared) (σ : St) (H : Hp) (x : V) (xs : List V) (v : Value) (us : List Value) (Q : VK), Inv X pins σ H s → RelV x v → Vals xs us → r x xs H Q →
    wpAny (model X.prog X.w) X.A (call (.builtin id) (v :: us)) (EP X pins σ Q) X.xe s

theorem Vals.one : ∀ {x : V} {us : List Value}, Vals [x] us → ∃ u, us = [u] ∧ RelV x u
  | _, _, .cons r .nil => ⟨_, rfl, r⟩
theorem Vals.two : ∀ {x y : V} {us : List Value}, Vals [x, y] us → ∃ u v, us = [u, v] ∧ RelV x u ∧ RelV y v
  | _, _, _, .cons r (.cons q .nil) => ⟨_, _, rfl, r, q⟩
theorem Vals.zero : ∀ {us : List Value}, Vals [] us → us = []
  | _, .nil => rfl
theorem Vals.eraseIdx : ∀ {xs : List V} {us : List Value} (i : Nat), Vals xs us → Vals (xs.eraseIdx i) (us.eraseIdx i)
  | _, _, _, .nil => .nil
  | _, _, 0, .cons _ t => t
  | _, _, i + 1, .cons r t => .cons r (Vals.eraseIdx i t)
theorem Vals.reverse {xs : List V} {us : List Value} (h : Vals xs us) : Vals xs.reverse us.reverse := by
  induction h with
  | nil => exact .nil
  | cons r t ih => rw [List.reverse_cons, List.reverse_cons]; exact Vals.append ih (.cons r .nil)
theorem len_erase {α : Type} : ∀ (l : List α) (i : Nat), (l.eraseIdx i).length ≤ l.length
  | [], _ => Nat.le_refl _
  | _ :: _, 0 => Nat.le_succ _
  | _ :: r, i + 1 => Nat.succ_le_succ (len_erase r i)
section
variable {X : Cx} {pins : List (Addr × Obj)} {σ : St} {H : Hp} {s : Shared} {l b : Addr} {xs ys zs : List V}

theorem Inv.lset {its its' : List Value} {n : Nat} {f : Array Value → Array Value} {t' : Nat} (I : Inv X pins σ H s) (hH : H l = some (.lst xs))
    (e : s.heap.get? l = some { cls := .type "list", data := .seq its.toArray n }) (hf : f its.toArray = its'.toArray) (hv : Vals ys its') (hz : ys.length ≤ sizeLine) :
    Inv X pins σ (upd H l (.lst ys)) { s with heap := s.heap.update l (Obj.mapSeq f), toks := t' } := by
  have q := PySem.IsL.update e f
  rw [hf] at q
  refine I.write (x := l) (e := l) (by rw [hH]; exact trivial) (.inl rfl) (fun b' u hb hu => (Heap.get?_update_other s.heap (Obj.mapSeq f) (Ne.symm hb)).trans hu) ⟨_, q⟩ ?_
  exact ⟨hz, its', _, hv, q⟩
theorem Inv.lnew {its : List Value} {t' : Nat} (I : Inv X pins σ H s) (hv : Vals ys its) (hz : ys.length ≤ sizeLine) :
    Inv X pins σ (upd H s.heap.objs.size (.lst ys)) { s with heap := s.heap.push { cls := .type "list", data := .seq its.toArray }, toks := t' } :=
  I.laid (fun _ _ q => Heap.get?_push_of_some _ q) (Nat.le_refl _) ⟨hz, its, 0, hv, Heap.get?_push_size _ rfl⟩
theorem Inv.fresh (I : Inv X pins σ H s) : H s.heap.objs.size = none := I.hok.fresh (Nat.le_refl _)
theorem Inv.lstM (I : Inv X pins σ H s) (hH : H l = some (.lst xs)) : xs.length ≤ sizeLine ∧ ∃ (its : List Value) (n : Nat), Vals xs its ∧ xs.length = its.length ∧ s.heap.get? l = some { cls := .type "list", data := .seq its.toArray n } := by
  obtain ⟨z, its, n, r, e⟩ := I.hok l _ hH
  exact ⟨z, its, n, r, r.length, e⟩

end

section
variable {X : Cx}

def rAppend : V → List V → Hp → VK → Prop := fun x vs H Q => ∃ l xs y, x = .ref l ∧ vs = [y] ∧ H l = some (.lst xs) ∧ xs.length < sizeLine ∧ Q .non (upd H l (.lst (xs ++ [y])))
theorem mt_append : MtM X "list.append" rAppend := by
  intro pins s σ H x vs v us Q I rx rv h
  obtain ⟨l, xs, y, rfl, rfl, hH, hz, q⟩ := h
  cases rx
  obtain ⟨u, rfl, ru⟩ := rv.one
  obtain ⟨z, its, n, r, hl, e⟩ := I.lstM hH
  refine call_meets F.slot_list_append ⟨_, e, rfl⟩ F.entry_list_append (F.args_list_append_2 _ _) (PySem.list_append l its.toArray n u (by rw [List.size_toArray]; omega)) ⟨e, ?_⟩
  refine ⟨.non, _, I.lset (its' := its ++ [u]) hH e (by simp) (r.append (.cons ru .nil)) ?_, rfl, q⟩
  rw [List.length_append, List.length_singleton]
  omega

def rPopAt : V → List V → Hp → VK → Prop := fun x vs H Q => ∃ l xs i k y, x = .ref l ∧ vs = [.int i] ∧ H l = some (.lst xs) ∧ -(2 ^ 63) ≤ i ∧ i < 2 ^ 63 ∧ seqIndex? i xs.length = some k ∧ xs[k]? = some y ∧ Q y (upd H l (.lst (xs.eraseIdx k)))
theorem mt_popAt : MtM X "list.pop" rPopAt := by
  intro pins s σ H x vs v us Q I rx rv h
  obtain ⟨l, xs, i, k, y, rfl, rfl, hH, h1, h2, hk, hy, q⟩ := h
  cases rx
  obtain ⟨u, rfl, ru⟩ := rv.one
  obtain ⟨t, rfl⟩ := ru
  obtain ⟨z, its, n, r, hl, e⟩ := I.lstM hH
  obtain ⟨w, hw, rw'⟩ := r.get hy
  refine call_meets F.slot_list_pop ⟨_, e, rfl⟩ F.entry_list_pop (F.args_list_pop_2 _ _)
    (MeetsSeq.list_pop_at l its.toArray n i t k w (fitsIndex_both h1 h2) (by rw [List.size_toArray, ← hl]; exact hk) (by rw [← Array.getElem?_toList]; exact hw) (by rw [List.size_toArray]; omega)) ⟨e, ?_⟩
  refine ⟨y, _, I.lset (its' := its.eraseIdx k) hH e ?_ (r.eraseIdx k) ?_, rw', q⟩
  · show its.toArray.eraseIdxIfInBounds k = (its.eraseIdx k).toArray
    rw [List.eraseIdxIfInBounds_toArray]
  · have := len_erase xs k
    omega

def rCat : R2 := fun x y H Q => ∃ l b xs zs, x = .ref l ∧ y = .ref b ∧ H l = some (.lst xs) ∧ H b = some (.lst zs) ∧ xs.length + zs.length ≤ sizeLine ∧ ∀ p, H p = none → Q (.ref p) (upd H p (.lst (xs ++ zs)))
theorem op_cat : OpR X (binaryOp .Add) rCat := by
  intro pins s σ H x y v u Q I rx ry h
  obtain ⟨l, b, xs, zs, rfl, rfl, hH, hB, hz, q⟩ := h
  cases rx
  cases ry
  obtain ⟨z, its, n, r, hl, e⟩ := I.lstM hH
  obtain ⟨z2, its2, n2, r2, hl2, e2⟩ := I.lstM hB
  refine PySem.P.add_list e e2 ?_ (by rw [List.size_toArray, List.size_toArray]; omega)
  have ea : its.toArray ++ its2.toArray = (its ++ its2).toArray := by simp
  rw [ea]
  exact ⟨.ref _, _, I.lnew (t' := s.toks) (r.append r2) (by rw [List.length_append]; omega), rfl, q _ I.fresh⟩
end

section
variable {prog : Program} {w : World} {A : Around} {E : Value → Shared → Prop} {s : Shared}
end

section
variable {X : Cx}
end
end L2

namespace Att
open PySem PySem.W PySem.Calls PyProof.Rows

theorem ints_of_wellAll {P : Params} {h : Heap} : ∀ (ns : List Int) (vs : List Value), WellAll P h vs (ns.map WData.int) → IntsAre vs ns := by
  intro ns
  induction ns with
  | nil =>
    intro vs w
    rw [List.map_nil] at w
    cases w
    exact .nil
  | cons n ns ih =>
    intro vs w
    rw [List.map_cons] at w
    cases w with
    | cons a b =>
      cases a
      exact .cons _ _ (ih _ b)

theorem script_of {l : OpenLaw} {n : Nat} (hn : l.most = some n) {P : Params} {h : Heap} {args : List WData} {vals : List Value}
    (hpre : l.row.toRowW.claim.pre args = true) (hwl : WellAll P h vals args) :
    ∃ a vs ns, vals = [Value.ref a] ∧ args = [WData.list (ns.map WData.int)] ∧ h.get? a = some { cls := .type "list", data := .seq vs.toArray } ∧ IntsAre vs ns ∧ ns.length ≤ n := by
  have hsh : WShape.hasAll [] args [.list .int] = true := (pre_splitW hpre).1
  have hc : l.pre.holds [] { args := args } = true := (pre_splitW hpre).2
  obtain ⟨d, r, rfl, h1, h2⟩ := hasAllW_cons hsh
  obtain rfl := hasAllW_nil h2
  obtain ⟨xs, rfl, h3⟩ := hasW_list h1
  obtain ⟨ns, rfl⟩ := items_int h3
  have hlen : ns.length ≤ n := by
    unfold OpenLaw.pre at hc
    have h4 : (WTm.not (.lt (.lit (.int (n : Int))) (.len (.arg 0)))).holds [] { args := [.list (ns.map .int)] } = true := by
      have h4 := (holds_andW hc).1
      rw [hn] at h4
      exact h4
    have h5 := condW_of h4 (w_not (w_lt w_lit (w_len_list (w_arg rfl))))
    rw [List.length_map] at h5
    refine Nat.le_of_not_lt fun q => ?_
    have q' : (n : Int) < ((ns.length : Nat) : Int) := by omega
    first
      | (rw [decide_eq_true q'] at h5; exact absurd h5 (by decide))
      | (simp at h5; omega)
  cases hwl with
  | cons w1 w2 =>
    cases w2
    cases w1 with
    | list ho hall => exact ⟨_, _, ns, rfl, rfl, ho, ints_of_wellAll ns _ hall, hlen⟩

theorem post_true (l : OpenLaw) (args : List WData) : l.row.toRowW.claim.post args (.bool true) args = true :=
  postW_of (r := l.row.toRowW) (X := (true == true))
    (show WShape.has [] (.bool true) .bool = true by first | rfl | decide | simp [WShape.has, WShape.arms, WShape.armsAll])
    (show (WTm.eq .res (.lit (.bool true))).value [] { args := args, res := some (.bool true), after := args } = some (.bool (true == true)) from w_eq_bool (w_res rfl) w_lit) rfl

/-- the same from a codeAny of the CALL (for a layer whose function contracts speak of calls) -/
theorem attach_call {l : OpenLaw} {n : Nat} {q : Program} {loose : List Str} {XP : (Str → Option Value) → Heap → Prop} {YP : World → Heap → Prop} {d : DefRec}
    (hn : l.most = some n) (hdf : d.params.defaults = [])
    (call : ∀ (w : World) (s₀ s₁ : Shared) (mg mb : Str → Option Value) (fa : Addr) (o : Obj) (pm cd doc : Value) (a : Addr) (vs : List Value) (ns : List Int),
      Ground q loose [] XP w s₀ mg mb s₁.heap → YP w s₁.heap →
      s₁.heap.get? fa = some o → o.data = .func (docDef d.name d.params d.body d.scope pm cd doc) → s₁.heap.CodeRec cd d.name → mg d.name = some (.ref fa) →
      s₁.heap.get? a = some { cls := .type "list", data := .seq vs.toArray } → IntsAre vs ns → ns.length ≤ n → s₁.gens = #[] →
      codeAny (model l.prog w) callerA (.call (.ref fa) ⟨[.ref a], []⟩) (fun r s' => r = .ok (.ret (.bool true)) ∧ OldK s₁.heap s'.heap ∧ s'.os = s₁.os ∧ AllBare s'.gens) s₁) :
    WalkO q loose XP YP l.row.toRowW d [] (fun f vs => PySem.call f vs) := by
  intro w s₀ s₁ mg mb G Y fa o pm cd doc dV kV ho hd hcd hD hmg hg args vals as hpre hlay hrd hwl hlo
  obtain rfl : dV = .none := Dflts.none hD hdf
  obtain rfl : kV = .none := Dflts.noKw hD
  obtain ⟨a, vs, ns, rfl, rfl, hobj, hints, hlen⟩ := script_of hn hpre hwl
  refine enter_call (codeAny_mono (call w s₀ s₁ mg mb fa o pm cd doc a vs ns G Y ho (fd_plain hd) hcd hmg hobj hints hlen hg) fun r s' hq => ?_)
  obtain ⟨rfl, h2, h3, h4⟩ := hq
  exact ⟨.inl ⟨.bool true, .bool true, [], rfl, fun _ => rfl, .bool true, post_true l _, fun _ => ⟨List.Pairwise.nil, fun _ hm => (nomatch hm)⟩⟩, h2, h3, h4⟩

section
variable {prog : Program} {w : World} {A : Around} {E : Value → Shared → Prop} {s : Shared} {K : Frag}

end
end Att

namespace L2
open PySem PySem.Spec PyProof.Rows

theorem vals_ints : ∀ {vs : List Value} {ns : List Int}, IntsAre vs ns → Vals (ns.map V.int) vs
  | _, _, .nil => .nil
  | _, _, .cons n t h => .cons ⟨t, rfl⟩ (vals_ints h)

/-- nothing is tracked but the script, known to the object (or it is an object of the module) -/
def Only (H : Hp) : Prop := ∀ b, H b = none ∨ ∃ o xs, H b = some (.frz o (.lst xs))

/-- THE HEAD: the law's promise, at the heap behind the top. F, the promise of the law's def, may use that base is part of the heap (so K.In base, base.Ns mainGlobals mg stand in Mod) -/
theorem law_call {P : Program} {w : World} {K : PySem.W.Frag} {mg mb : Str → Option Value} {CX : CXT} {k : Nat} {fa a : Addr} {fd : FuncData} {x : Str} {sp : Sp} {s₁ : Shared} {vs : List Value} {ns : List Int}
    (KX : K.In s₁.heap) (hns : s₁.heap.Ns mainGlobals mg) (hb : s₁.heap.Ns builtinsNs mb) (hbb : ∀ x : Str, x ≠ "__name__" → mb x = bootBuiltins x) (hlim : s₁.heap.NoLimit) (hg : s₁.gens = #[])
    (ha : s₁.heap.get? a = some { cls := .type "list", data := .seq vs.toArray }) (hi : IntsAre vs ns) (hl : ns.length ≤ sizeLine) (hr : Room k callerA)
    (F : ∀ base : Heap, K.In base → base.Ns mainGlobals mg → FnOk P w K mg base CX k fa fd [x] sp) (hbind : ∀ (s : Shared) (u : Value), BindsTo s fd ⟨[u], []⟩ [(x, u)])
    (hsp : ∀ H : Hp, Only H → SqL K H a (ns.map V.int) → sp [.ref a] H (fun v _ => v = .bl true) fun _ _ _ => False)
    (hCX : ∀ H e s', CX [] H s₁ (fun _ _ _ => False) e s' → False) :
    codeAny (model P w) callerA (.call (.ref fa) ⟨[.ref a], []⟩) (fun r s' => r = .ok (.ret (.bool true)) ∧ OldK s₁.heap s'.heap ∧ s'.os = s₁.os ∧ AllBare s'.gens) s₁ := by
  have rv := vals_ints hi
  have lenV := hi.length
  -- from an abstract heap in which nothing but the script may be tracked
  have core : ∀ H : Hp, Only H → SqL K H a (ns.map V.int) → HOk P w H s₁.heap → (∀ b, H b ≠ none → b = a) → (H a ≠ none → K.lookup a = none) →
      codeAny (model P w) callerA (.call (.ref fa) ⟨[.ref a], []⟩) (fun r s' => r = .ok (.ret (.bool true)) ∧ OldK s₁.heap s'.heap ∧ s'.os = s₁.os ∧ AllBare s'.gens) s₁ := by
    intro H hO hS hok hA hK
    have base_of : ∀ {b : Addr} {o : Obj}, s₁.heap.get? b = some o → H b = none → (hidT s₁.heap H).get? b = some o := fun e n => hidT_get e n
    have noA : ∀ {b : Addr} {o : Obj} {es : Array DictEntry} {ep : Nat}, s₁.heap.get? b = some o → o.data = .dict es ep → H b = none := fun {b o es ep} e d => by
      cases q : H b with
      | none => rfl
      | some u =>
        have e' : b = a := hA b (by rw [q]; simp)
        subst e'
        rw [ha] at e; cases e
        have d' : Data.seq vs.toArray _ = Data.dict es ep := d
        cases d'
    have nsK : ∀ {b : Addr} {m : Str → Option Value}, s₁.heap.Ns b m → (hidT s₁.heap H).Ns b m := fun {b m} ⟨o, es, ep, e, d, r⟩ => ⟨o, es, ep, base_of e (noA e d), d, r⟩
    have hKb : K.In (hidT s₁.heap H) := fun b o e => base_of (KX b o e) (by
      cases q : H b with
      | none => rfl
      | some u =>
        have e' : b = a := hA b (by rw [q]; simp)
        subst e'
        rw [hK (by rw [q]; simp)] at e; cases e)
    have hM : Mod K mg (hidT s₁.heap H) := ⟨hKb, nsK hns, ⟨mb, nsK hb, hbb⟩, let ⟨mc, h1, h2⟩ := hlim; ⟨mc, nsK h1, h2⟩⟩
    have e0 : Env0 P w K mg (hidT s₁.heap H) callerA [] s₁ H := ⟨rfl, hM, fun b o e => of_hidT e, Nat.le_of_eq (hidT_size _ _), trivial, fun b hb => absurd (show b ∈ ([] : List Addr) from hb) (by simp), hok, .of_eq hg⟩
    refine codeAny_mono ((F _ hKb (nsK hns)).run callerA [] s₁ H ⟨[.ref a], []⟩ [.ref a] [.ref a] _ _ hr e0 (hbind s₁ (.ref a)) (.cons rfl .nil) (hsp H hO hS)) fun r s' h => ?_
    cases r with
    | error e => exact (hCX H e s' h).elim
    | ok fl =>
      cases fl with
      | next => exact False.elim h
      | brk => exact False.elim h
      | cont => exact False.elim h
      | ret u =>
        obtain ⟨v, H', os, bare, un, hok', r', q⟩ := h
        have q' : v = .bl true := q
        subst q'
        obtain rfl : u = Value.bool true := r'
        refine ⟨rfl, OldK.of_keep fun b o e => ?_, os, bare⟩
        cases q : H b with
        | none => exact un.keep b o e q (by intro z; exact absurd (show b ∈ ([] : List Addr) from z) (by simp)) (by simp)
        | some u =>
          rcases hO b with z | ⟨ob, xs, z⟩
          · rw [q] at z; cases z
          · have z2 := un.frzs b ob _ z
            obtain ⟨e1, _⟩ := hok b _ z
            obtain ⟨e2, _⟩ := hok' b _ z2
            rw [e] at e1; cases e1
            exact e2
  cases hk : K.lookup a with
  | some o =>
    -- the script is one of the module's own objects
    have e := KX a o hk
    rw [ha] at e
    cases e
    refine core (fun _ => none) (fun _ => .inl rfl) (.inr ⟨_, vs.toArray, _, hk, rfl, rfl, rfl, by rw [List.size_toArray, lenV]; exact hl, by simpa using rv⟩) (fun b u z => by have z' : (none : Option HO) = some u := z; cases z') (fun b z => absurd rfl z) fun z => absurd rfl z
  | none =>
    refine core (fun b => if b = a then some (.frz { cls := .type "list", data := .seq vs.toArray } (.lst (ns.map V.int))) else none) (fun b => ?_) (.inl (.inr ⟨{ cls := .type "list", data := .seq vs.toArray }, if_pos rfl⟩)) (fun b u z => ?_) (fun b z => ?_) fun _ => hk
    · by_cases hb : b = a
      · exact .inr ⟨_, _, if_pos hb⟩
      · exact .inl (if_neg hb)
    · by_cases hb : b = a
      · have z' := (if_pos hb).symm.trans z
        cases z'
        subst hb
        exact ⟨ha, by rw [List.length_map]; exact hl, vs, _, rv, ha⟩
      · have z' := (if_neg hb).symm.trans z
        cases z'
    · by_cases hb : b = a
      · exact hb
      · exact absurd (if_neg hb) z
end L2

namespace L2
open PySem PySem.Spec PyProof.Rows

/-- the goal that k_head leaves (case hc), from the law's promise. F gives the function object fd (K's own) once, then the promise over every base -/
theorem walk_of {l : PySem.W.OpenLaw} {n k : Nat} {q : Program} {loose : List Str} {XP : (Str → Option Value) → Heap → Prop} {YP : World → Heap → Prop} {d : DefRec} {K : Params → PySem.W.Frag} {CX : World → CXT} {sp : World → Sp} {x : Str}
    (hn : l.most = some n) (hn2 : n ≤ sizeLine) (hdf : d.params.defaults = []) (hr : Room k callerA)
    (hY : ∀ (w : World) (h : Heap), YP w h → (K w.params).In h)
    (F : ∀ (w : World) (mg : Str → Option Value) (fa : Addr) (h : Heap), (K w.params).In h → h.Ns mainGlobals mg → mg d.name = some (.ref fa) →
      ∃ fd : FuncData, (∀ (s : Shared) (u : Value), BindsTo s fd ⟨[u], []⟩ [(x, u)]) ∧
        ∀ base : Heap, (K w.params).In base → base.Ns mainGlobals mg → FnOk l.prog w (K w.params) mg base (CX w) k fa fd [x] (sp w))
    (hsp : ∀ (w : World) (H : Hp) (a : Addr) (ns : List Int), ns.length ≤ n → Only H → SqL (K w.params) H a (ns.map V.int) → sp w [.ref a] H (fun v _ => v = .bl true) fun _ _ _ => False)
    (hCX : ∀ (w : World) (H : Hp) (s : Shared) (e : Value) (s' : Shared), CX w [] H s (fun _ _ _ => False) e s' → False) :
    PySem.W.WalkO q loose XP YP l.row.toRowW d [] (fun f vs => PySem.call f vs) := by
  refine Att.attach_call hn hdf fun w s₀ s₁ mg mb fa o pm cd doc a vs ns G Y ho hd hcd hmg hobj hints hlen hg => ?_
  have KX := hY w _ Y
  obtain ⟨fd, hb, hF⟩ := F w mg fa _ KX G.T.g hmg
  exact law_call KX G.T.g G.T.b G.T.builtins G.T.nolimit hg hobj hints (Nat.le_trans hlen hn2) hr hF hb (fun H hO hS => hsp w H a ns hlen hO hS) fun H e s' => hCX w H s₁ e s'
end L2


namespace L2
open PySem PySem.Spec PyProof.Rows

def defArgs (s : Stmt) : Arguments := match s with
  | .FunctionDef _ a _ _ _ _ _ _ _ _ => a
  | _ => { posonlyargs := [], args := [], vararg := none, kwonlyargs := [], kw_defaults := [], kwarg := none, defaults := [] }
def defBody (s : Stmt) : List Stmt := match s with
  | .FunctionDef _ _ b _ _ _ _ _ _ _ => b
  | _ => []
def defScope (s : Stmt) : Scope := match s with
  | .FunctionDef _ _ _ _ _ _ sc _ _ _ => sc
  | _ => { kind := .function, names := [], isGenerator := false, isCoroutine := false }

abbrev CX0 : CXT := fun _ _ _ _ _ _ => False
abbrev E0 : XK := fun _ _ _ => False
theorem pass0 {X : Cx} : Passes CX0 X E0 := fun _ _ _ _ _ _ _ h => h.elim

structure Fun (K : PySem.W.Frag) (x qual : Str) (st : Stmt) (f : Addr) (fd : FuncData) : Prop where
  ex : ∃ (oc : Value) (od : Option Addr) (kV doc pm : Value) (an : Option Addr) (cdv ct : Value) (osl : Array (Option Value)),
    fd = PySem.W.fnOf x qual (defArgs st) (defBody st) (defScope st) .none kV doc pm an cdv ct ∧ K.lookup f = some ⟨oc, od, .func fd, osl⟩ ∧ PySem.W.codeIn K cdv qual = true
  kp : PySem.W.keepIn K (.ref f) = true
section
variable {P : Program} {w : World} {K : PySem.W.Frag} {mg : Str → Option Value} {base : Heap}
/-- THE RULE for a def: its body as a term of rules, and the reading of that term -/
theorem Fun.ok {x qual : Str} {st : Stmt} {f : Addr} {fd : FuncData} {N ps : List Str} {k : Nat} {sp : Sp} (F : Fun K x qual st f fd) (S : FnScope N ps (defScope st)) (len : ∀ vs H Q E, sp vs H Q E → vs.length = ps.length)
    (hbody : ∀ (cdv : Value) (A : Around) (outer : List Env) (s : Shared) (H : Hp) (vs : List V) (Q : VK) (E : XK), Room k (A.deeper (envOfC qual (defScope st) s.heap.objs.size f cdv)) → sp vs H Q E →
      ∃ t, PSs (cxOf CX0 P w K mg base N qual (defScope st) f cdv A outer s H E).nox (defBody st) t ∧ t { nx := fun _ H' => Q .non H', rt := Q } (start N vs) H) : FnOk P w K mg base CX0 (k + 1) f fd ps sp := by
  obtain ⟨oc, od, kV, doc, pm, an, cdv, ct, osl, rfl, lk, hcd⟩ := F.ex
  refine fn_of lk hcd S len fun A outer s H vs Q E hr hsp => ?_
  obtain ⟨t, h, q⟩ := hbody cdv A outer s H vs Q E hr hsp
  exact ⟨t, h.nox, q⟩
/-- how its arguments bind (no defaults): h is «fun _ _ _ _ _ _ us hl => match us, hl with | [_, _], _ => rfl», one _ a parameter -/
theorem Fun.binds {x qual : Str} {st : Stmt} {f : Addr} {fd : FuncData} {ps : List Str} (F : Fun K x qual st f fd)
    (h : ∀ (kV doc pm : Value) (an : Option Addr) (cdv ct : Value) (us : List Value), us.length = ps.length → bindArgs (PySem.W.fnOf x qual (defArgs st) (defBody st) (defScope st) .none kV doc pm an cdv ct) ⟨us, []⟩ = pure (ps.zip us)) : Binds K fd ps [] := by
  obtain ⟨oc, od, kV, doc, pm, an, cdv, ct, osl, rfl, lk, hcd⟩ := F.ex
  exact .all (h kV doc pm an cdv ct)
theorem fun_mk {x qual : Str} {st : Stmt} {f : Addr} {oc : Value} {od an : Option Addr} {osl : Array (Option Value)} {kV doc pm cdv ct : Value} (l : K.lookup f = some ⟨oc, od, .func (PySem.W.fnOf x qual (defArgs st) (defBody st) (defScope st) .none kV doc pm an cdv ct), osl⟩)
    (c : PySem.W.codeIn K cdv qual = true) (k : PySem.W.keepIn K (.ref f) = true) : Fun K x qual st f (PySem.W.fnOf x qual (defArgs st) (defBody st) (defScope st) .none kV doc pm an cdv ct) := ⟨⟨oc, od, kV, doc, pm, an, cdv, ct, osl, rfl, l, c⟩, k⟩
end
theorem small1000 {n : Nat} (h : n ≤ 1000) : n < sizeLine := Nat.lt_of_le_of_lt h (by decide)

section
variable {X : Cx}
theorem pv (i : Nat) {x : Str} {pos : Pos} (hN : X.N[i]? = some x := by rfl) (hv : Vis X.env.scope x := by first | exact Or.inl rfl | exact Or.inr (Or.inl rfl) | exact Or.inr (Or.inr rfl)) (hd : (x == ("__debug__" : Str)) = false := by decide)
    (hcd : (x == ("__classdict__" : Str)) = false := by decide) : PE X (.Name x pos) (tVar i) := pe_var hN hv hd hcd
end

theorem iteF {A B : Prop} (h : B) : if false = true then A else B := by
  rw [if_neg Bool.false_ne_true]
  exact h
theorem iteT {A B : Prop} (h : A) : if true = true then A else B := by
  rw [if_pos rfl]
  exact h
theorem ite2 {c A B : Prop} [Decidable c] (h1 : c → A) (h2 : ¬ c → B) : if c then A else B := by
  by_cases h : c
  · rw [if_pos h]
    exact h1 h
  · rw [if_neg h]
    exact h2 h
/-- all that was tracked is as it was -/
def Same (H H' : Hp) : Prop := ∀ b o, H b = some o → H' b = some o
theorem Same.refl (H : Hp) : Same H H := fun _ _ h => h
theorem Same.trans {H H1 H2 : Hp} (a : Same H H1) (b : Same H1 H2) : Same H H2 := fun c o h => b c o (a c o h)
theorem Same.free {H H' : Hp} (e : Same H H') {l : Addr} (h : H' l = Option.none) : H l = Option.none := by
  cases q : H l with
  | none => rfl
  | some o =>
    rw [e l o q] at h
    cases h
theorem Same.seq {K : PySem.W.Frag} {H H' : Hp} {a : Addr} {xs : List V} (e : Same H H') (h : SqL K H a xs) : SqL K H' a xs := by
  rcases h with (h | ⟨o, h⟩) | h
  · exact .inl (.inl (e _ _ h))
  · exact .inl (.inr ⟨o, e _ _ h⟩)
  · exact .inr h

end L2
set_option Elab.async false
set_option linter.all false
set_option maxRecDepth 100000
namespace Own
open PySem PySem.Spec PyProof.Rows L2

def Has (P : Program) (w : World) (K : PySem.W.Frag) (mg : Str → Option Value) (base : Heap) (x : Str) (ps : List Str) (k : Nat) (sp : Sp) : Prop :=
  ∃ (f : Addr) (fd : FuncData), FnOk P w K mg base CX0 k f fd ps sp ∧ Binds K fd ps [] ∧ PySem.W.keepIn K (.ref f) = true ∧ mg x = some (.ref f)
theorem Has.mono {P : Program} {w : World} {K : PySem.W.Frag} {mg : Str → Option Value} {base : Heap} {x : Str} {ps : List Str} {j k : Nat} {sp : Sp} (h : Has P w K mg base x ps j sp) (hk : j ≤ k) : Has P w K mg base x ps k sp := by
  obtain ⟨f, fd, F, r⟩ := h
  exact ⟨f, fd, F.mono hk, r⟩
section
variable {X : Cx} {k : Nat} {ps : List Str} {sp : Sp} {x : Str} {p pos : Pos} {e : Expr} {es : List Expr} {t : TA}
theorem pe_has (h : Has X.prog X.w X.K X.mg X.base x ps k sp) (hr : Room k X.A) (hg : Gl X x)
    (ha : PA X (e :: es) t) (hdb : (x == ("__debug__" : Str)) = false := by decide) (he : starEach (e :: es) X.env = (false, eval e X.env) :: starEach es X.env := by rfl) (hpl : (backTo pos (starEach es X.env)).any (·.1) = false := by rfl) :
    PE X (.Call (.Name x p) (e :: es) [] pos) (tCall sp [] E0 t) := by
  obtain ⟨f, fd, F, b, kp, m⟩ := h
  exact pe_call F hr hg m kp b .nil pass0 ha hdb he hpl
end
def CMulW (i j : Int) : Prop := i.natAbs < 2 ^ 9000 ∧ j.natAbs < 2 ^ 9000
def CDivW (i j : Int) : Prop := j ≠ 0 ∧ j.natAbs < 2 ^ 9000
theorem bits_of {i : Int} (h : i.natAbs < 2 ^ 9000) : Builtin.Int.intBits i ≤ 2 ^ 20 :=
  Nat.le_trans (intBits_le h) (by decide)
section
variable {X : Cx}
theorem op_mulW : OpR X (binaryOp .Mult) (rI CMulW fun i j => .int (i * j)) := opI fun _ _ _ _ _ _ _ hc q => mul_int q (IntMulOk.of_bits (bits_of hc.1) (bits_of hc.2))
theorem log2_lt {n : Nat} (h : n < 2 ^ 9000) : n.log2 < 9000 := by
  by_cases h0 : n = 0
  · subst h0; decide
  · exact (Nat.log2_lt h0).mpr h
theorem op_fdivW : OpR X (binaryOp .FloorDiv) (rI CDivW fun i j => .int (i.fdiv j)) := opI fun _ _ _ _ _ _ _ hc q => floordiv_int hc.1 q (.inl (PyProof.noPylong_of_log2 (log2_lt hc.2)))
/-- isinstance(x, T), T a built-in type -/
theorem call_isi : CallR X (.builtin "isinstance") (fun xs H Q => ∃ x t T b, xs = [x, .ty T] ∧ TyOf X.K H x t ∧ PySem.W.kitOne X.K t (.type T) = some b ∧ Q (.bl b) H) := by
  intro pins s σ H xs us Q I r h
  obtain ⟨x, t, T, b, rfl, ty, e, q⟩ := h
  obtain ⟨u, w', rfl, r1, r2⟩ := vals2 r
  cases r2
  exact isinst_ok I r1 ty e fun tk => ⟨.bl b, H, I.tok _, rfl, q⟩
end
end Own
set_option Elab.async false
set_option linter.all false
set_option maxRecDepth 100000
set_option maxHeartbeats 4000000
namespace L2
open PySem PySem.Spec PyProof.Rows

abbrev TB := (St → Hp → Prop) → St → Hp → Prop
/-- a piece of code within a comprehension's turn -/
def PBd (X : Cx) (code : Sem Unit) (b : TB) : Prop :=
  ∀ (pins : List (Addr × Obj)) (s : Shared) (σ : St) (H : Hp) (N : St → Hp → Prop), Inv X pins σ H s → b N σ H →
    wpAny (model X.prog X.w) X.A code (fun _ s' => ∃ σ' H', Inv X pins σ' H' s' ∧ N σ' H') X.xe s
/-- the rest of a turn: it ends with the loop again -/
def PTl (X : Cx) (tail : Sem PySem.Fin) (L : Code) (b : TB) : Prop :=
  ∀ (pins : List (Addr × Obj)) (s : Shared) (σ : St) (H : Hp) (N : St → Hp → Prop), Inv X pins σ H s → b N σ H →
    wpAny (model X.prog X.w) X.A tail (fun fin s' => fin = .again L ∧ ∃ σ' H', Inv X pins σ' H' s' ∧ N σ' H') X.xe s
def tailOf (ifs : List Expr) (env : Env) (body : Sem Unit) (L : Code) : Sem PySem.Fin :=
  (forIn ifs true fun c r => if r = true then do let ok ← isTrue c env (eval c env); pure (ForInStep.yield ok) else pure (ForInStep.yield r)) >>= fun ok => if ok = true then body >>= fun _ => again L else again L
/-- the walk of one clause: as tFor, without break and return -/
def tWalk (J : It) (g : TG) (b : TB) (N0 : St → Hp → Prop) (σ : St) (H : Hp) : Prop :=
  ∃ W : Nat → Nat → St → Hp → Prop, (∃ m, W 0 m σ H) ∧ ∀ i m σ H, W i m σ H →
    (J.stop i H ∧ N0 σ H) ∨ (J.go i H ∧ ∃ N : St → Hp → Prop, (∀ σ' H', N σ' H' → ∃ m', m' < m ∧ W (i + 1) m' σ' H') ∧ ∀ x H', J.yld i H x H' → g x σ H' fun σ2 H2 => b N σ2 H2)
section
variable {X : Cx} {e tg : Expr} {gens : List Comprehension} {sc : Scope} {cpos : Pos} {d : Nat} {it : Addr} {acc : Value} {tail : Sem PySem.Fin} {p : Pos} {g : TG} {b : TB} {J : It} {fp : List Addr} {tn : Nat → Heap → Prop} {N0 : St → Hp → Prop} {R : Result → Shared → Prop}
theorem comp_loop (he : (∃ el, e = .ListComp el gens sc cpos) ∨ ∃ k v, e = .DictComp k v gens sc cpos) (hx : X.xe = fun _ _ => False) (hc : X.calm = true)
    (ht : compTurn e d (.ref it) acc X.env = (standAt p >>= fun _ => pyNext (.ref it) >>= fun r => match r with
      | none => pure (.done .next)
      | some v => letOwnedTupleGo tg (.ref it) v >>= fun _ => assign tg X.env v >>= fun _ => tail))
    (T : Turn X.prog X.w X.K tg J fp it tn) (hg : PG X tg g) (hb : PTl X tail (.compLoop e d (.ref it) acc X.env) b) {pins : List (Addr × Obj)} {σ : St} {H : Hp} {s : Shared}
    (I : Inv X pins σ H s) (st : tn 0 s.heap) (f2 : ∀ b ∈ fp, FpOk X pins H b) (hw : tWalk J g b N0 σ H)
    (hR : ∀ σ' H' s', Inv X pins σ' H' s' → N0 σ' H' → R (.ok .next) s') :
    codeAny (model X.prog X.w) X.A (.compLoop e d (.ref it) acc X.env) R s := by
  obtain ⟨W, ⟨m0, w0⟩, turn⟩ := hw
  have stat : ∀ {H' : Hp}, (∀ b ∈ fp, H' b = none) → ∀ b ∈ fp, FpOk X pins H' b := fun hn b hb => ⟨hn b hb, (f2 b hb).2⟩
  refine codeAny_loop rfl (fun n s' => ∃ i σ' H', Inv X pins σ' H' s' ∧ tn i s'.heap ∧ (∀ b ∈ fp, H' b = none) ∧ W i n σ' H') ?_ m0 ⟨0, σ, H, I, st, fun b hb => (f2 b hb).1, w0⟩
  rintro n s3 ⟨i, σ3, H3, I3, st3, fr3, w3⟩
  have hden : (model X.prog X.w).den (.compLoop e d (.ref it) acc X.env) = ((compTurn e d (.ref it) acc X.env).onRaise (fun x => do noteFrame x X.env; theTreesLotGoes x)) ∧ X.A.under (.compLoop e d (.ref it) acc X.env) = X.A := by
    rcases he with ⟨el, rfl⟩ | ⟨k, v, rfl⟩ <;> exact ⟨rfl, rfl⟩
  rw [hden.1, hden.2]
  show wpAny _ _ ((compTurn e d (.ref it) acc X.env).onRaise (fun x => do noteFrame x X.env; theTreesLotGoes x)) _ _ s3
  refine wpAny_noted ?_
  rw [ht]
  have no : ∀ {α : Type} {t : Sem α} {Q : α → Shared → Prop} {E : Value → Shared → Prop} {s : Shared}, wpAny (model X.prog X.w) X.A t Q X.xe s → wpAny (model X.prog X.w) X.A t Q E s :=
    fun h => wpAny_mono h (fun _ _ q => q) fun _ _ q => by rw [hx] at q; exact q.elim
  refine wpAny_bind (wpAny_standAt (wpAny_bind ?_))
  rcases turn i n σ3 H3 w3 with ⟨stop, qn⟩ | ⟨go, N, hN, step⟩
  · refine no (thn (T.done X rfl rfl rfl hc i pins s3 σ3 H3 X.xe I3 (stat fr3) st3 stop) fun r s4 ⟨hr, I4⟩ => ?_)
    subst hr
    exact wpAny_pure (hR _ _ _ I4 qn)
  · refine no (thn (T.item X rfl rfl rfl hc i pins s3 σ3 H3 X.xe I3 (stat fr3) st3 go) fun r s4 ⟨u, hr, h4⟩ => ?_)
    subst hr
    refine wpAny_bind (no (thn h4 fun _ s5 ⟨x, H5, I5, r5, y5, st5, fr5⟩ => ?_))
    have I5' := I5.pinned (stat fr5) (T.obj _ _ st5)
    refine wpAny_bind (no (thn (hg _ s5 σ3 H5 x u _ I5' r5 (step x H5 y5)) fun _ s6 ⟨σ6, H6, I6, q6⟩ => ?_))
    refine no (thn (hb _ s6 σ6 H6 _ I6 q6) fun fin s7 ⟨hf, σ7, H7, I7, n7⟩ => ?_)
    subst hf
    obtain ⟨m', hm, w7⟩ := hN σ7 H7 n7
    refine ⟨rfl, m', hm, i + 1, σ7, H7, I7.unpinned, T.keep _ _ _ st5 fun b hb o e => (I7.pin (b, o) (List.mem_append_right _ (List.mem_append_right _ (mem_pinsAt hb e)))).1, fun b hb => ?_, w7⟩
    obtain ⟨o, e, d⟩ := T.obj _ _ st5 b hb
    exact (I7.pin (b, o) (List.mem_append_right _ (List.mem_append_right _ (mem_pinsAt hb e)))).2.1
end
/-- no test; one test; two -/
def bIf (t : TT) (b : TB) : TB := fun N σ H => t σ H fun c H1 => if c = true then b N σ H1 else N σ H1
theorem pt_tail0 {X : Cx} {body : Sem Unit} {L : Code} {b : TB} (hb : PBd X body b) : PTl X (tailOf [] X.env body L) L b := by
  intro pins s σ H N I h
  unfold tailOf
  refine wpAny_bind (wpAny_tests_nil ?_)
  show wpAny _ _ (body >>= fun _ => again L) _ _ s
  exact wpAny_bind (thn (hb pins s σ H N I h) fun _ s' q => wpAny_pure ⟨rfl, q⟩)
theorem pt_tail1 {X : Cx} {c : Expr} {t : TT} {body : Sem Unit} {L : Code} {b : TB} (hc : PT X c t) (hb : PBd X body b) : PTl X (tailOf [c] X.env body L) L (bIf t b) := by
  intro pins s σ H N I h
  unfold tailOf
  refine wpAny_bind (wpAny_tests_one (thn (hc pins s σ H _ I h) fun ok s1 ⟨H1, I1, q⟩ => ?_))
  cases ok with
  | true => exact wpAny_bind (thn (hb pins s1 σ H1 N I1 (by simpa using q)) fun _ s' q => wpAny_pure ⟨rfl, q⟩)
  | false => exact wpAny_pure ⟨rfl, σ, H1, I1, by simpa using q⟩
/-- the item onto the list at D -/
def bApp (D : Addr) (te : TE) : TB := fun N σ H => te σ H fun x H1 => ∃ xs, H1 D = some (.lst xs) ∧ xs.length < sizeLine ∧ N σ (upd H1 D (.lst (xs ++ [x])))
theorem pb_app {X : Cx} {el : Expr} {te : TE} {D : Addr} (he : PE X el te) : PBd X (do let _ ← call (.builtin "list.append") [.ref D, ← eval el X.env]) (bApp D te) := by
  intro pins s σ H N I h
  refine wpAny_bind (thn (he pins s σ H _ I h) fun u s1 ⟨x, H1, I1, r, xs, hD, hz, q⟩ => ?_)
  refine wpAny_bind (thn (mt_append pins s1 σ H1 (.ref D) [x] (.ref D) [u] (fun _ H2 => N σ H2) I1 rfl (.cons r .nil) ⟨D, xs, x, rfl, rfl, hD, hz, q⟩) fun _ s2 ⟨_, H2, I2, _, q2⟩ => ?_)
  exact wpAny_pure ⟨σ, H2, I2, q2⟩
theorem turn_l1 (el tg iter : Expr) (ifs : List Expr) (sc : Scope) (pos : Pos) (it acc : Value) (env : Env) :
    compTurn (.ListComp el [⟨tg, iter, ifs, 0⟩] sc pos) 0 it acc env = (standAt iter.pos >>= fun _ => pyNext it >>= fun r => match r with
      | none => pure (.done .next)
      | some v => letOwnedTupleGo tg it v >>= fun _ => assign tg env v >>= fun _ => tailOf ifs env (do let _ ← call (.builtin "list.append") [acc, ← eval el env]) (.compLoop (.ListComp el [⟨tg, iter, ifs, 0⟩] sc pos) 0 it acc env)) := by rfl
def tail2 (ifs : List Expr) (env : Env) (iter2 : Expr) (next : Value → Code) (L : Code) : Sem PySem.Fin :=
  (forIn ifs true fun c r => if r = true then do let ok ← isTrue c env (eval c env); pure (ForInStep.yield ok) else pure (ForInStep.yield r)) >>= fun ok => if ok = true then
    (eval iter2 env >>= fun x => standAt iter2.pos >>= fun _ => foldedSetIterable iter2 env x >>= fun x => holding [x] (pyIter x) >>= fun i => runOwn (next i) env >>= fun _ => again L) else again L
theorem turn_l20 (el tg iter tg2 iter2 : Expr) (ifs ifs2 : List Expr) (sc : Scope) (pos : Pos) (it acc : Value) (env : Env) :
    compTurn (.ListComp el [⟨tg, iter, ifs, 0⟩, ⟨tg2, iter2, ifs2, 0⟩] sc pos) 0 it acc env = (standAt iter.pos >>= fun _ => pyNext it >>= fun r => match r with
      | none => pure (.done .next)
      | some v => letOwnedTupleGo tg it v >>= fun _ => assign tg env v >>= fun _ => tail2 ifs env iter2 (fun i => .compStart (.ListComp el [⟨tg, iter, ifs, 0⟩, ⟨tg2, iter2, ifs2, 0⟩] sc pos) 1 i acc env) (.compLoop (.ListComp el [⟨tg, iter, ifs, 0⟩, ⟨tg2, iter2, ifs2, 0⟩] sc pos) 0 it acc env)) := by rfl
theorem turn_l21 (el tg iter tg2 iter2 : Expr) (ifs ifs2 : List Expr) (sc : Scope) (pos : Pos) (it acc : Value) (env : Env) :
    compTurn (.ListComp el [⟨tg, iter, ifs, 0⟩, ⟨tg2, iter2, ifs2, 0⟩] sc pos) 1 it acc env = (standAt iter2.pos >>= fun _ => pyNext it >>= fun r => match r with
      | none => pure (.done .next)
      | some v => letOwnedTupleGo tg2 it v >>= fun _ => assign tg2 env v >>= fun _ => tailOf ifs2 env (do let _ ← call (.builtin "list.append") [acc, ← eval el env]) (.compLoop (.ListComp el [⟨tg, iter, ifs, 0⟩, ⟨tg2, iter2, ifs2, 0⟩] sc pos) 1 it acc env)) := by rfl
end L2
set_option Elab.async false
set_option linter.all false
set_option maxRecDepth 100000
set_option maxHeartbeats 4000000
namespace L2
open PySem PySem.Spec PyProof.Rows

/-- the cells of the enclosing frame that the block's free names stand for -/
def clStep (env : Env) (cs : List (Str × Addr)) (y : Str × NameKind) : List (Str × Addr) :=
  if (y.2 == .free) = true then (match env.cells.lookup y.1 with | some c => (y.1, c) :: cs | none => cs) else cs
def clOf (sc : Scope) (env : Env) : List (Str × Addr) := sc.names.foldl (clStep env) []
def clTurn (env : Env) (x : Str × NameKind) (r : List (Str × Addr)) : Sem (ForInStep (List (Str × Addr))) :=
  match x with | (name, kind) => if (kind == .free) = true then (do let a ← cellOf env name; pure (ForInStep.yield ((name, a) :: r))) else pure (ForInStep.yield r)
theorem clTurn_eq {env : Env} {y : Str × NameKind} {cs : List (Str × Addr)} (h : y.2 = .free → ∃ c, env.cells.lookup y.1 = some c) : clTurn env y cs = pure (ForInStep.yield (clStep env cs y)) := by
  obtain ⟨n, k⟩ := y
  unfold clTurn clStep
  cases hk : k == NameKind.free with
  | false => simp [hk]
  | true =>
    obtain ⟨c, hc⟩ := h (by simpa using hk)
    have hc' : List.lookup n env.cells = some c := hc
    simp only [hk, if_true, cellOf, hc', pure_bind]
theorem closure_go {env : Env} : ∀ (l : List (Str × NameKind)) (cs : List (Str × Addr)), (∀ y ∈ l, y.2 = .free → ∃ c, env.cells.lookup y.1 = some c) →
    (forIn l cs (clTurn env) : Sem (List (Str × Addr))) = pure (l.foldl (clStep env) cs)
  | [], cs, _ => rfl
  | y :: r, cs, h => by
    rw [List.forIn_cons, clTurn_eq (h y List.mem_cons_self), pure_bind, List.foldl_cons]
    exact closure_go r _ fun y hy => h y (List.mem_cons_of_mem _ hy)
theorem closure_of {sc : Scope} {env : Env} (h : ∀ y ∈ sc.names, y.2 = .free → ∃ c, env.cells.lookup y.1 = some c) : closureFor sc env = pure (clOf sc env) := by
  have q := closure_go (env := env) sc.names [] h
  have z : closureFor sc env = (forIn sc.names [] (clTurn env) >>= fun r => pure r) := rfl
  rw [z, q]
  rfl
theorem cl_in {env : Env} {x : Str} {c : Addr} : ∀ (l : List (Str × NameKind)) (cs : List (Str × Addr)), (cs.lookup x = some c → env.cells.lookup x = some c) → (l.foldl (clStep env) cs).lookup x = some c → env.cells.lookup x = some c
  | [], cs, h, e => h e
  | (n, k) :: r, cs, h, e => by
    rw [List.foldl_cons] at e
    refine cl_in r _ (fun z => ?_) e
    unfold clStep at z
    split at z
    · split at z
      · rename_i c' hc
        rw [List.lookup_cons] at z
        split at z
        · rename_i hx
          have : x = n := by simpa using hx
          subst this
          cases z
          exact hc
        · exact h z
      · exact h z
    · exact h z
theorem cl_has {env : Env} {x : Str} : ∀ (l : List (Str × NameKind)) (cs : List (Str × Addr)), (∃ c, env.cells.lookup x = some c) → ((∃ c, cs.lookup x = some c) ∨ (x, NameKind.free) ∈ l) → ∃ c, (l.foldl (clStep env) cs).lookup x = some c
  | [], cs, _, h => h.elim id (fun z => nomatch z)
  | (n, k) :: r, cs, he, h => by
    rw [List.foldl_cons]
    refine cl_has r _ he ?_
    rcases h with ⟨c, h⟩ | h
    · left
      unfold clStep
      split
      · split
        · rename_i c' hc
          rw [List.lookup_cons]
          split
          · exact ⟨_, rfl⟩
          · exact ⟨c, h⟩
        · exact ⟨c, h⟩
      · exact ⟨c, h⟩
    · rcases List.mem_cons.mp h with z | z
      · cases z
        obtain ⟨c, hc⟩ := he
        left
        refine ⟨c, ?_⟩
        unfold clStep
        simp [hc]
      · exact .inr z

structure CS (sc S0 : Scope) : Prop where
  kind : sc.kind = .function
  names : ∀ y ∈ sc.names, y.2 = .local → sc.names.lookup y.1 = some .local
  nocell : ∀ y ∈ sc.names, y.2 ≠ .cell
  free : ∀ y ∈ sc.names, y.2 = .free → S0.names.lookup y.1 = some .cell
def relOne (env : Env) (y : Str × NameKind) : Str × NameKind := if (y.2 == .free && env.scope.kind == .function && env.kindOf y.1 == some .cell) = true then (y.1, .cell) else (y.1, y.2)
theorem relOne_fst (env : Env) (y : Str × NameKind) : (relOne env y).1 = y.1 := by
  unfold relOne
  split <;> rfl
theorem rel_look {env : Env} {x : Str} : ∀ (l : List (Str × NameKind)), (l.map (relOne env)).lookup x = (l.lookup x).map fun k => (relOne env (x, k)).2
  | [] => rfl
  | (n, k) :: r => by
    rw [List.map_cons]
    have e : relOne env (n, k) = (n, (relOne env (n, k)).2) := Prod.ext (relOne_fst env (n, k)) rfl
    rw [e, List.lookup_cons, List.lookup_cons]
    cases hx : x == n with
    | true =>
      have : x = n := by simpa using hx
      subst this
      rfl
    | false => exact rel_look r
/-- the context of the block: s₂, H₂ ahead of it, the locals at C -/
def cxC (X : Cx) (Nc : List Str) (sc : Scope) (C : Addr) (s₂ : Shared) (H₂ : Hp) (fp : List Addr) (pins : List (Addr × Obj)) : Cx :=
  { X with N := Nc, s₀ := s₂, H₀ := H₂, env := compEnvC sc (clOf sc X.env) C X.env, outer := X.stack, ex := fp, fn := fun _ => false, pn := X.pn ++ pins }
/-- the names' values at the block's start: js says which name of the frame each is, none: the block's own -/
def compSt (js : List (Option Nat)) (σ : St) : St := js.map fun o => o.bind fun j => (σ[j]?).join
def capOk (js : List (Option Nat)) (Nc N : List Str) (names : List (Str × NameKind)) : Bool :=
  decide (js.length = Nc.length) && (js.zip Nc).all fun (o, x) => match o with | none => true | some j => decide (N[j]? = some x) && decide (names.lookup x = some .free)
theorem cap_of {js : List (Option Nat)} {Nc N : List Str} {names : List (Str × NameKind)} (h : capOk js Nc N names = true) : js.length = Nc.length ∧ ∀ (i j : Nat) (x : Str), js[i]? = some (some j) → Nc[i]? = some x → N[j]? = some x ∧ names.lookup x = some .free := by
  unfold capOk at h
  rw [Bool.and_eq_true] at h
  refine ⟨of_decide_eq_true h.1, fun i j x e1 e2 => ?_⟩
  have z : (js.zip Nc)[i]? = some (some j, x) := by
    rw [List.getElem?_zip_eq_some]
    exact ⟨e1, e2⟩
  have q := List.all_eq_true.mp h.2 _ (List.mem_of_getElem? z)
  dsimp only at q
  rw [Bool.and_eq_true] at q
  exact ⟨of_decide_eq_true q.1, of_decide_eq_true q.2⟩
section
variable {X : Cx} {pins : List (Addr × Obj)} {σ : St} {H : Hp} {s : Shared} {sc : Scope} {Nc : List Str} {js : List (Option Nat)} {fp : List Addr}
theorem ok_comp (I : Inv X pins σ H s) (S : CS sc X.env.scope) (f : ∀ b ∈ fp, FpOk X pins H b) (hlt : ∀ b ∈ fp, b < s.heap.objs.size) {C : Addr} (hC : s.heap.objs.size ≤ C) : (cxC X Nc sc C s H fp pins).Ok := by
  have inX : ∀ x c, (clOf sc X.env).lookup x = some c → X.env.cells.lookup x = some c := fun x c e => cl_in sc.names [] (fun z => nomatch z) e
  refine ⟨I.ok.mod, S.kind, I.ok.glob, I.ok.blt, hC, fun x y c e1 e2 => I.ok.inj x y c (inX x c e1) (inX y c e2), fun x hx => ?_, fun x c z => (nomatch z), I.ok.hd, I.ok.frames, .inl rfl, fun b hb => ⟨?_, fun x c e => (f b hb).2.2.2.2.1 x c (inX x c e)⟩, I.bs, Nat.le_trans I.ok.bsz I.sz, fun b o e hb => ?_, fun b hb hs => ?_, I.stack, I.stkFree⟩
  · have hx' : (sc.names.map (relOne X.env)).lookup x = some .cell ∨ (sc.names.map (relOne X.env)).lookup x = some .free := hx
    rw [rel_look] at hx'
    cases e : sc.names.lookup x with
    | none => rw [e] at hx'; rcases hx' with z | z <;> cases z
    | some k =>
      rw [e] at hx'
      have m : (x, k) ∈ sc.names := PySem.mem_of_lookup e
      have kf : k = .free := by
        have nk := S.nocell _ m
        unfold relOne at hx'
        by_cases hk : (k == NameKind.free) = true
        · simpa using hk
        · have hk' : (k == NameKind.free) = false := by simpa using hk
          simp only [hk', Bool.false_and, Option.map_some] at hx'
          rcases hx' with z | z
          · exact absurd (by simpa using z) nk
          · simpa using z
      subst kf
      have hx2 := S.free _ m rfl
      obtain ⟨c, hc⟩ := I.ok.has x (.inl hx2)
      exact cl_has sc.names [] ⟨c, hc⟩ (.inr m)
  · exact Nat.ne_of_lt (Nat.lt_of_lt_of_le (hlt b hb) hC)
  · obtain ⟨h0, h1, h2, h3, h4, h5⟩ := f b hb
    rcases h3 with z | z
    · exact I.ok.noex b o e z
    · exact absurd (Nat.lt_of_lt_of_le (Heap.lt_size (I.ok.bs b o e).1) z) (Nat.lt_irrefl _)
  · obtain ⟨h0, h1, h2, h3, h4, h5⟩ := f b hb
    rcases List.mem_cons.mp (I.stkSub b hs) with z | z
    · exact h1 z
    · exact h2 z
/-- the block begins: h₁ is the heap with the new object at D (tracked as o) and the block's names at C -/
theorem inv_comp (I : Inv X pins σ H s) (S : CS sc X.env.scope) (f : ∀ b ∈ fp, FpOk X pins H b) (hlt : ∀ b ∈ fp, b < s.heap.objs.size) (cap : capOk js Nc X.N sc.names = true) {C D : Addr} {o : HO} {h₁ : Heap} {m : Str → Option Value} {tk : Nat}
    (hC : s.heap.objs.size ≤ C) (hD : s.heap.objs.size ≤ D) (hDC : D ≠ C) (hk : ∀ b ob, s.heap.get? b = some ob → h₁.get? b = some ob) (hns : h₁.Ns C m) (new : ObjOk X.prog X.w (upd H D o) h₁ D o) :
    Inv (cxC X Nc sc C s H fp pins) [] (compSt js σ) (upd H D o) { s with heap := h₁, toks := tk } := by
  have inX : ∀ x c, (clOf sc X.env).lookup x = some c → X.env.cells.lookup x = some c := fun x c e => cl_in sc.names [] (fun z => nomatch z) e
  have fresh : ∀ a, s.heap.objs.size ≤ a → H a = none := fun a ha => I.hok.fresh ha
  obtain ⟨cl, cp⟩ := cap_of cap
  refine ⟨ok_comp I S f hlt hC, rfl, I.bare, Un.laid hk hD (fresh D hD), ⟨m, hns, fun i x v e1 e2 e3 => ?_⟩, fun x c e => ?_, ?_, fun x c e => ?_, fun p hp => ?_, I.hok.laid hk hD new, ?_⟩
  · -- a name of the frame's
    unfold compSt at e2
    rw [List.getElem?_map] at e2
    cases ej : js[i]? with
    | none => rw [ej] at e2; cases e2
    | some oj =>
      rw [ej] at e2
      cases oj with
      | none => cases e2
      | some j =>
        obtain ⟨hN, hfree⟩ := cp i j x ej e1
        have hv : σ[j]? = some (some v) := by
          simp only [Option.map_some, Option.bind_some, Option.some.injEq] at e2
          cases e : σ[j]? with
          | none => rw [e] at e2; cases e2
          | some w => rw [e] at e2; exact congrArg some e2
        have kc : X.env.kindOf x = some .cell := S.free _ (PySem.mem_of_lookup hfree) rfl
        obtain ⟨m', hn', hl⟩ := I.loc
        obtain ⟨u, r, lk⟩ := hl j x v hN hv (.inr (.inl kc))
        refine ⟨u, r, .inr ⟨.inl ?_, ?_⟩⟩
        · show (sc.names.map (relOne X.env)).lookup x = some .cell
          rw [rel_look, hfree]
          unfold relOne
          simp [I.ok.kind, kc]
        · rcases lk with ⟨z, _⟩ | ⟨_, c, hc, ic⟩
          · rw [kc] at z; cases z
          · obtain ⟨c', hc'⟩ := cl_has sc.names [] ⟨c, hc⟩ (.inr (PySem.mem_of_lookup hfree))
            have : c' = c := Option.some.inj ((inX x c' hc').symm.trans hc)
            subst this
            exact ⟨c', hc', ic.keeps hk⟩
  · obtain ⟨v, ic⟩ := I.cell x c (inX x c e)
    exact ⟨v, ic.keeps hk⟩
  · show upd H D o C = none
    rw [upd_ne hDC.symm]
    exact fresh C hC
  · have q := inX x c e
    obtain ⟨v, ic⟩ := I.cell x c q
    show upd H D o c = none
    rw [upd_ne (Nat.ne_of_lt (Nat.lt_of_lt_of_le ic.lt hD))]
    exact I.freeC x c q
  · have hp' : p ∈ X.pn ++ pins := by
      rcases List.mem_append.mp hp with z | z
      · exact z
      · exact absurd z (by simp)
    obtain ⟨a1, a2, a3, a4, a5⟩ := I.pin p hp'
    have lt := Heap.lt_size a1
    refine ⟨hk _ _ a1, ?_, Nat.ne_of_lt (Nat.lt_of_lt_of_le lt hC), fun z => ?_, a5⟩
    · rw [upd_ne (Nat.ne_of_lt (Nat.lt_of_lt_of_le lt hD))]
      exact a2
    · rcases List.mem_cons.mp (I.stkSub _ z) with z | z
      · exact a3 z
      · exact a4 z
  · unfold compSt
    rw [List.length_map]
    exact cl
/-- the block ends: its names are let go (h' is as h but at C) -/
theorem inv_back {C : Addr} {σ' : St} {H' : Hp} {s' : Shared} {h' : Heap} (I : Inv X pins σ H s) (f : ∀ b ∈ fp, FpOk X pins H b) (hC : s.heap.objs.size ≤ C) (J : Inv (cxC X Nc sc C s H fp pins) [] σ' H' s') (hs : Heap.SameBut C s'.heap h') :
    Inv X pins σ H' { s' with heap := h' } := by
  have u := J.base
  have nC : H' C = none := J.free
  have stay : ∀ b ob, b ≠ C → s'.heap.get? b = some ob → h'.get? b = some ob := fun b ob hb e => hs.extBut b ob hb e
  have neC : ∀ b ob, s.heap.get? b = some ob → b ≠ C := fun b ob e => Nat.ne_of_lt (Nat.lt_of_lt_of_le (Heap.lt_size e) hC)
  refine I.call' (ch := fp) J.os ?_ (fun b v e => ?_) J.bare fun b hb => ⟨(f b hb).2.2.2.1, (f b hb).2.1, (f b hb).2.2.2.2.1, (f b hb).2.2.2.2.2⟩
  · refine ⟨fun b ob e n h1 h2 => stay b ob (neC b ob e) (u.keep b ob e n h1 h2), fun b ob e n h1 h2 => ?_, u.free, fun b ob e h2 => ?_, u.tups, u.frzs, u.tbls⟩
    · obtain ⟨sl, q⟩ := u.slot b ob e n h1 h2
      exact ⟨sl, stay b _ (neC b ob e) q⟩
    · obtain ⟨o', q⟩ := u.there b ob e h2
      exact ⟨o', stay b _ (neC b ob e) q⟩
  · have nb : ∀ c w, H' c = some w → c ≠ C := fun c w e z => by rw [z, nC] at e; cases e
    refine (J.hok b v e).stay (fun c w hc q => stay c w ?_ q) (fun _ q => q) fun _ _ q => q
    rcases hc with z | z
    · rw [z]; exact nb b v e
    · exact nb c _ z
end
end L2
set_option Elab.async false
set_option linter.all false
set_option maxRecDepth 100000
set_option maxHeartbeats 4000000
namespace L2
open PySem PySem.Spec PyProof.Rows
section
variable {X : Cx} {e tg iter el : Expr} {ifs : List Expr} {gens rest : List Comprehension} {sc : Scope} {pos : Pos} {Nc : List Str} {js : List (Option Nat)} {wi : TI}
theorem comp_start {prog : Program} {w : World} {A : Around} {env : Env} {R : Result → Shared → Prop} {s : Shared} {d : Nat} {it acc : Value} {g : Comprehension} (he : (∃ el, e = .ListComp el gens sc pos) ∨ ∃ k v, e = .DictComp k v gens sc pos)
    (hg : (clausesOf e)[d]? = some g) (ha : g.is_async = 0)
    (h0 : codeAny (model prog w) A (.compLoop e d it acc env) R s)
    (h : wpAny (model prog w) A (pyIter it) (fun it' s' => codeAny (model prog w) A (.compLoop e d it' acc env) R s') (fun _ _ => False) s) :
    codeAny (model prog w) A (.compStart e d it acc env) R s := by
  refine codeAny_of_tree ?_
  have hden : (model prog w).den (.compStart e d it acc env) = ((compStart e d it acc env).onRaise (fun x => do noteFrame x env; standAt theWindowsPlace)) ∧ A.under (.compStart e d it acc env) = A := by
    rcases he with ⟨el, rfl⟩ | ⟨k, v, rfl⟩ <;> exact ⟨rfl, rfl⟩
  have hq : ∀ d it acc, (Code.compLoop e d it acc env).quiet = true := fun _ _ _ => rfl
  rw [hden.1, hden.2]
  refine wpAny_notedAt ?_
  unfold compStart
  rw [hg]
  have hz : ((some g).elim false fun x => x.is_async != 0) = false := by show (g.is_async != 0) = false; rw [ha]; rfl
  rw [hz]
  show wpAny _ _ (ask >>= _) _ _ s
  refine wpAny_bind (wpAny_askSetting (wpAny_ite ?_))
  split
  · first
      | exact wpAny_bind (wpAny_pure (wpAny_pure (And.intro rfl h0)))
      | exact wpAny_pure (And.intro rfl h0)
  · refine wpAny_bind (wpAny_rule ?_)
    show wpAny _ _ (standAt g.iter.pos >>= _) _ _ s
    exact wpAny_bind (wpAny_standAt (wpAny_bind (wpAny_mono h (fun it' s' h' => wpAny_pure (And.intro rfl h')) fun _ _ x => x.elim)))
/-- [el for tg in iter if ..]: bd is what a turn does behind the target's store, for the list at D -/
def tLC (js : List (Option Nat)) (wi : TI) (g : TG) (bd : Addr → TB) : TE := fun σ H Q => wi σ H fun J H1 => ∀ D, H1 D = none → tWalk J g (bd D) (fun _ H' => Q (.ref D) H') (compSt js σ) (upd H1 D (.lst []))
theorem pe_lc1x {g : TG} {bd : Addr → TB} (hx : X.xe = fun _ _ => False) (hc : X.calm = true) (hi : PI X tg iter wi) (S : CS sc X.env.scope) (cap : capOk js Nc X.N sc.names = true)
    (hg : ∀ C s₂ H₂ fp pins, PG (cxC X Nc sc C s₂ H₂ fp pins) tg g)
    (hb : ∀ C s₂ H₂ fp pins D L, PTl (cxC X Nc sc C s₂ H₂ fp pins) (tailOf ifs (cxC X Nc sc C s₂ H₂ fp pins).env (do let _ ← call (.builtin "list.append") [.ref D, ← eval el (cxC X Nc sc C s₂ H₂ fp pins).env]) L) L (bd D))
    (hs : ∀ x, foldedSetIterable iter X.env x = pure x := by intro _; rfl) :
    PE X (.ListComp el [⟨tg, iter, ifs, 0⟩] sc pos) (tLC js wi g bd) := by
  intro pins s σ H Q I h
  rw [eval_ListComp]
  have hcl : closureFor sc X.env = pure (clOf sc X.env) := closure_of fun y hy hf => I.ok.has y.1 (.inl (S.free y hy hf))
  refine wpAny_comprehension_free (use := none) rfl hs hcl S.kind S.names (thn (hi pins s σ H _ I h) fun v s1 h1 => thn h1 fun itv s2 h2 => ?_)
  obtain ⟨it, fp, tn, J, H2, e, I2, T, st2, f2, hw⟩ := h2
  subst e
  have hlt : ∀ b ∈ fp, b < s2.heap.objs.size := fun b hb => let ⟨o, ho, _⟩ := T.obj _ _ st2 b hb; Heap.lt_size ho
  refine wpAny_newObj_type (wpAny_newFunctionEnv S.nocell (by intro y hy; simp at hy) (fun h₁ hns₁ hsb₁ => ?_) S.kind)
  dsimp only at hns₁ hsb₁ ⊢
  generalize hH2 : s2.heap.push { cls := .type "list", dict := none, data := .seq ([] : List Value).toArray } = G at hns₁ hsb₁ ⊢
  have hCs : G.objs.size = s2.heap.objs.size + 1 := by rw [← hH2, Heap.size_push]
  have hDC : s2.heap.objs.size ≠ G.objs.size := by omega
  have hCle : s2.heap.objs.size ≤ G.objs.size := by omega
  have old : ∀ b o, s2.heap.get? b = some o → h₁.get? b = some o := fun b o e => hsb₁.extBut b o (Nat.ne_of_lt (Nat.lt_of_lt_of_le (Heap.lt_size e) hCle)) (Heap.get?_push_of_some _ (hH2 ▸ Heap.get?_push_of_some _ e))
  have hacc : h₁.get? s2.heap.objs.size = some { cls := .type "list", dict := none, data := .seq ([] : List Value).toArray } := hsb₁.extBut _ _ hDC (Heap.get?_push_of_some _ (hH2 ▸ Heap.get?_push_size _ rfl))
  have new : ObjOk X.prog X.w (upd H2 s2.heap.objs.size (.lst [])) h₁ s2.heap.objs.size (.lst []) := ⟨Nat.zero_le _, [], _, .nil, hacc⟩
  have I4 := inv_comp (js := js) (Nc := Nc) (tk := s2.toks + ([] : List (Str × Value)).length) I2 S f2 hlt cap hCle (Nat.le_refl _) hDC old hns₁ new
  have hn : H2 s2.heap.objs.size = none := I2.fresh
  have f4 : ∀ b ∈ fp, FpOk (cxC X Nc sc G.objs.size s2 H2 fp pins) [] (upd H2 s2.heap.objs.size (.lst [])) b := fun b hb => by
    obtain ⟨h0, h1, h2, h3, h4, h5⟩ := f2 b hb
    refine ⟨?_, Nat.ne_of_lt (Nat.lt_of_lt_of_le (hlt b hb) hCle), fun z => ?_, .inl hb, fun x c z => ?_, fun p hp => ?_⟩
    · rw [upd_ne (Nat.ne_of_lt (hlt b hb))]; exact h0
    · rcases List.mem_cons.mp (I2.stkSub b z) with q | q
      · exact h1 q
      · exact h2 q
    · exact h4 x c (cl_in sc.names [] (fun z => nomatch z) z)
    · rcases List.mem_append.mp hp with z | z
      · exact h5 p z
      · exact absurd z (by simp)
  have st4 : tn 0 h₁ := T.keep _ _ _ st2 fun b hb o e => old b o e
  have loop : codeAny (model X.prog X.w) X.A (.compLoop (.ListComp el [⟨tg, iter, ifs, 0⟩] sc pos) 0 (.ref it) (.ref s2.heap.objs.size) (compEnvC sc (clOf sc X.env) G.objs.size X.env))
      (compPost (model X.prog X.w) X.A X.xe none (EP X pins σ Q) (.ref s2.heap.objs.size) G.objs.size) { s2 with heap := h₁, toks := s2.toks + ([] : List (Str × Value)).length } := by
    refine comp_loop (X := cxC X Nc sc G.objs.size s2 H2 fp pins) (.inl ⟨el, rfl⟩) hx hc (turn_l1 _ _ _ _ _ _ _ _ _) T (hg _ _ _ _ _) (hb _ _ _ _ _ _ _) I4 st4 f4 (hw _ hn) fun σ' H' s' I' q => ?_
    obtain ⟨m', hm', _⟩ := I'.loc
    exact ⟨m', hm', fun h' hs' => ⟨.ref s2.heap.objs.size, H', inv_back I2 f2 hCle I' hs', rfl, q⟩⟩
  exact comp_start (.inl ⟨el, rfl⟩) rfl rfl loop (T.self _ _ _ _ _ st4 loop)
end
end L2
set_option Elab.async false
set_option linter.all false
set_option maxRecDepth 100000
set_option maxHeartbeats 4000000
namespace L2
open PySem PySem.Spec PyProof.Rows

theorem walk_range {lo : Int} {n : Nat} {g : TG} {b : TB} {N0 : St → Hp → Prop} {σ : St} {H : Hp} (Pv : Nat → St → Hp → Prop) (h0 : Pv 0 σ H)
    (hs : ∀ i σ H, i < n → Pv i σ H → g (.int (lo + i)) σ H fun σ2 H2 => b (Pv (i + 1)) σ2 H2) (hd : ∀ σ H, Pv n σ H → N0 σ H) : tWalk (Itr lo n) g b N0 σ H := by
  refine ⟨fun i m σ H => m = n - i ∧ i ≤ n ∧ Pv i σ H, ⟨n, by simp, Nat.zero_le _, h0⟩, ?_⟩
  rintro i m σ H ⟨rfl, hle, p⟩
  by_cases hi : i < n
  · refine .inr ⟨hi, Pv (i + 1), fun σ' H' q => ⟨n - (i + 1), by omega, rfl, by omega, q⟩, fun x H' hy => ?_⟩
    obtain ⟨rfl, rfl⟩ := hy
    exact hs i σ _ hi p
  · have : i = n := by omega
    subst this
    exact .inl ⟨Nat.le_refl _, hd σ H p⟩
theorem walk_list {K : PySem.W.Frag} {a : Addr} {xs : List V} {g : TG} {b : TB} {N0 : St → Hp → Prop} {σ : St} {H : Hp} (Pv : Nat → St → Hp → Prop) (h0 : Pv 0 σ H) (hl : ∀ i σ H, i ≤ xs.length → Pv i σ H → SqL K H a xs)
    (hs : ∀ i x σ H, xs[i]? = some x → Pv i σ H → g x σ H fun σ2 H2 => b (Pv (i + 1)) σ2 H2) (hd : ∀ σ H, Pv xs.length σ H → N0 σ H) : tWalk (Itl K a) g b N0 σ H := by
  refine ⟨fun i m σ H => m = xs.length - i ∧ i ≤ xs.length ∧ Pv i σ H, ⟨xs.length, by simp, Nat.zero_le _, h0⟩, ?_⟩
  rintro i m σ H ⟨rfl, hle, p⟩
  by_cases hi : i < xs.length
  · refine .inr ⟨⟨xs, xs[i], hl i σ H hle p, by simp [hi]⟩, Pv (i + 1), fun σ' H' q => ⟨xs.length - (i + 1), by omega, rfl, by omega, q⟩, fun x H' hy => ?_⟩
    obtain ⟨rfl, hy⟩ := hy
    exact hs i x σ _ (hy xs (hl i σ _ hle p)) p
  · have : i = xs.length := by omega
    subst this
    exact .inl ⟨⟨xs, hl _ σ H hle p, Nat.le_refl _⟩, hd σ H p⟩
theorem walk_tup {K : PySem.W.Frag} {a : Addr} {xs : List V} {g : TG} {b : TB} {N0 : St → Hp → Prop} {σ : St} {H : Hp} (Pv : Nat → St → Hp → Prop) (h0 : Pv 0 σ H) (hl : ∀ i σ H, i ≤ xs.length → Pv i σ H → SqT K H a xs)
    (hs : ∀ i x σ H, xs[i]? = some x → Pv i σ H → g x σ H fun σ2 H2 => b (Pv (i + 1)) σ2 H2) (hd : ∀ σ H, Pv xs.length σ H → N0 σ H) : tWalk (Itt K a) g b N0 σ H := by
  refine ⟨fun i m σ H => m = xs.length - i ∧ i ≤ xs.length ∧ Pv i σ H, ⟨xs.length, by simp, Nat.zero_le _, h0⟩, ?_⟩
  rintro i m σ H ⟨rfl, hle, p⟩
  by_cases hi : i < xs.length
  · refine .inr ⟨⟨xs, xs[i], hl i σ H hle p, by simp [hi]⟩, Pv (i + 1), fun σ' H' q => ⟨xs.length - (i + 1), by omega, rfl, by omega, q⟩, fun x H' hy => ?_⟩
    obtain ⟨rfl, hy⟩ := hy
    exact hs i x σ _ (hy xs (hl i σ _ hle p)) p
  · have : i = xs.length := by omega
    subst this
    exact .inl ⟨⟨xs, hl _ σ H hle p, Nat.le_refl _⟩, hd σ H p⟩

section
variable {prog : Program} {w : World} {A : Around} {E : Value → Shared → Prop}
end
section
variable {X : Cx} {pos : Pos}
theorem call_divmodW : CallR X (.builtin "divmod") (fun xs H Q => ∃ i j : Int, xs = [.int i, .int j] ∧ (0 < j ∧ j.natAbs < 2 ^ 9000) ∧ ∀ p, H p = none → Q (.ref p) (upd H p (.tup [.int (i / j), .int (i % j)]))) := by
  intro pins s σ H xs us Q I r h
  obtain ⟨i, j, rfl, ⟨h1, h2⟩, q⟩ := h
  obtain ⟨u, w', rfl, ⟨t, rfl⟩, ⟨t', rfl⟩⟩ := vals2 r
  refine divmod_int (by omega) ?_ (.inl (PyProof.noPylong_of_log2 (Own.log2_lt h2)))
  rw [Int.fdiv_eq_ediv_of_nonneg i (by omega), Int.fmod_eq_emod_of_nonneg i (by omega)]
  have hn : H s.heap.objs.size = none := I.hok.fresh (Nat.le_refl _)
  refine ⟨.ref s.heap.objs.size, _, ?_, rfl, q _ hn⟩
  refine I.laid (fun b o e => Heap.get?_push_of_some _ e) (Nat.le_refl _) ⟨by simp only [List.length_cons, List.length_nil]; rw [sizeLine_eq]; decide, [.int (i / j) s.toks, .int (i % j) (s.toks + 1)], .cons ⟨_, rfl⟩ (.cons ⟨_, rfl⟩ .nil), ?_⟩
  exact ⟨_, Heap.get?_push_size s.heap rfl, rfl, 0, rfl, rfl⟩

end

mutual
def Dt (K : PySem.W.Frag) (H : Hp) : PyData → V → Prop
  | .none, v => v = .non
  | .bool b, v => v = .bl b
  | .int i, v => v = .int i
  | .str x, v => v = .str x
  | .tuple xs, v => ∃ a vs, v = .ref a ∧ SqT K H a vs ∧ DtAll K H xs vs
  | .list xs, v => ∃ a vs, v = .ref a ∧ SqL K H a vs ∧ DtAll K H xs vs
  | .dict _, _ => False
def DtAll (K : PySem.W.Frag) (H : Hp) : List PyData → List V → Prop
  | [], vs => vs = []
  | d :: ds, vs => ∃ v vr, vs = v :: vr ∧ Dt K H d v ∧ DtAll K H ds vr
end
section
variable {X : Cx} {pins : List (Addr × Obj)} {σ : St} {H : Hp} {s : Shared}
mutual
theorem Dt.reads (I : Inv X pins σ H s) : ∀ (d : PyData) (v : V) (u : Value), RelV v u → Dt X.K H d v → ∃ as, Reads s.heap u d as
  | .none, v, u, r, h => by unfold Dt at h; subst h; cases r; exact ⟨_, .none⟩
  | .bool b, v, u, r, h => by unfold Dt at h; subst h; cases r; exact ⟨_, .bool b⟩
  | .int i, v, u, r, h => by unfold Dt at h; subst h; obtain ⟨t, rfl⟩ := r; exact ⟨_, .int i t⟩
  | .str x, v, u, r, h => by unfold Dt at h; subst h; obtain ⟨t, rfl⟩ := r; exact ⟨_, .str x t⟩
  | .tuple xs, v, u, r, h => by
    unfold Dt at h
    obtain ⟨a, vs, rfl, hs, hd⟩ := h
    cases r
    obtain ⟨its, rv, ⟨o, e1, e2, n, e3⟩, hz⟩ := I.tuple hs
    obtain ⟨as, ra⟩ := DtAll.reads I xs vs its rv hd
    exact ⟨_, .tuple e1 e2 e3 (by simpa using ra)⟩
  | .list xs, v, u, r, h => by
    unfold Dt at h
    obtain ⟨a, vs, rfl, hs, hd⟩ := h
    cases r
    obtain ⟨its, rv, ht, hz⟩ := I.list hs
    obtain ⟨as, ra⟩ := DtAll.reads I xs vs its rv hd
    obtain ⟨o, e1, e2, n, e3⟩ := ht.isList
    exact ⟨_, .list e1 e2 e3 (by simpa using ra)⟩
  | .dict _, v, u, r, h => by unfold Dt at h; exact h.elim
theorem DtAll.reads (I : Inv X pins σ H s) : ∀ (ds : List PyData) (vs : List V) (us : List Value), Vals vs us → DtAll X.K H ds vs → ∃ as, ReadsAll s.heap us ds as
  | [], vs, us, r, h => by unfold DtAll at h; subst h; cases r; exact ⟨_, .nil⟩
  | d :: ds, vs, us, r, h => by
    unfold DtAll at h
    obtain ⟨v, vr, rfl, h1, h2⟩ := h
    cases r with
    | cons r1 r2 =>
      obtain ⟨as, q1⟩ := Dt.reads I d v _ r1 h1
      obtain ⟨bs, q2⟩ := DtAll.reads I ds vr _ r2 h2
      exact ⟨_, .cons q1 q2⟩
end
end
section
variable {X : Cx}
/-- x == y, x != y, told deep -/
def rEqD (K : PySem.W.Frag) (neg : Bool) : R2 := fun x y H Q => ∃ d e, Dt K H d x ∧ Dt K H e y ∧ SeqAt.shaped d = true ∧ SeqAt.shaped e = true ∧ Q (.bl (if neg then !PyData.eqv d e else PyData.eqv d e)) H
theorem op_eqD (hu : X.A.units + 64 < cLine) : OpR X (compareOp .Eq) (rEqD X.K false) := by
  intro pins s σ H x y v u Q I rx ry h
  obtain ⟨d, e, h1, h2, s1, s2, q⟩ := h
  obtain ⟨as, p1⟩ := Dt.reads I d x v rx h1
  obtain ⟨bs, p2⟩ := Dt.reads I e y u ry h2
  exact SeqAt.compareEq_shaped p1 p2 s1 s2 hu ⟨.bl _, H, I, rfl, q⟩
theorem op_neD (hu : X.A.units + 64 < cLine) : OpR X (compareOp .NotEq) (rEqD X.K true) := by
  intro pins s σ H x y v u Q I rx ry h
  obtain ⟨d, e, h1, h2, s1, s2, q⟩ := h
  obtain ⟨as, p1⟩ := Dt.reads I d x v rx h1
  obtain ⟨bs, p2⟩ := Dt.reads I e y u ry h2
  exact SeqAt.compareNe_shaped p1 p2 s1 s2 hu ⟨.bl _, H, I, rfl, q⟩
end
end L2
set_option Elab.async false
set_option linter.all false
set_option maxRecDepth 100000
set_option maxHeartbeats 4000000
namespace L2
open PySem PySem.Spec PyProof.Rows
open Classical in
noncomputable def eqD (h : Heap) (d : PyData) (u : Value) : Bool := if z : ∃ d', d'.canLay0 = true ∧ ∃ as, Reads h u d' as then PyData.eqv z.choose d else false
theorem eqD_of {h : Heap} {d d' : PyData} {u : Value} {as : List Addr} (c : d'.canLay0 = true) (r : Reads h u d' as) : eqD h d u = PyData.eqv d' d := by
  have z : ∃ d', d'.canLay0 = true ∧ ∃ as, Reads h u d' as := ⟨d', c, as, r⟩
  unfold eqD
  rw [dif_pos z]
  obtain ⟨c1, as', r1⟩ := z.choose_spec
  rw [SeqAt.Reads.unique _ _ _ _ _ c1 r1 r]
theorem any_eqD {h : Heap} {d : PyData} : ∀ {es : List PyData} {us : List Value} {as : List Addr}, ReadsAll h us es as → PyData.canLayAll0 es = true → us.any (eqD h d) = es.any fun e => PyData.eqv e d
  | [], us, as, r, _ => by cases r; rfl
  | e :: es, us, as, r, c => by
    have c' : e.canLay0 = true ∧ PyData.canLayAll0 es = true := by simpa [PyData.canLayAll0] using c
    cases r with
    | cons r1 r2 => rw [List.any_cons, List.any_cons, eqD_of c'.1 r1, any_eqD r2 c'.2]
theorem mem_reads {h : Heap} : ∀ {es : List PyData} {us : List Value} {as : List Addr}, ReadsAll h us es as → ∀ u ∈ us, ∃ e ∈ es, ∃ as, Reads h u e as
  | [], us, as, r, u, hu => by cases r; cases hu
  | e :: es, us, as, r, u, hu => by
    cases r with
    | cons r1 r2 =>
      rcases List.mem_cons.mp hu with rfl | hu
      · exact ⟨e, List.mem_cons_self, _, r1⟩
      · obtain ⟨e', he, x⟩ := mem_reads r2 u hu
        exact ⟨e', List.mem_cons_of_mem _ he, x⟩
theorem canAll {es : List PyData} (h : ∀ e ∈ es, SeqAt.shaped e = true) : PyData.canLayAll0 es = true := by
  induction es with
  | nil => rfl
  | cons e es ih =>
    simp only [PyData.canLayAll0, Bool.and_eq_true]
    exact ⟨SeqAt.canLay_of_shaped (h e List.mem_cons_self), ih fun e' he => h e' (List.mem_cons_of_mem _ he)⟩
section
variable {X : Cx}
/-- x in a list or tuple, told deep -/
def rInD (K : PySem.W.Frag) (neg : Bool) : R2 := fun x y H Q => ∃ d es p xs, y = .ref p ∧ (SqL K H p xs ∨ SqT K H p xs) ∧ Dt K H d x ∧ DtAll K H es xs ∧ SeqAt.shaped d = true ∧ (∀ e ∈ es, SeqAt.shaped e = true) ∧
  Q (.bl (if neg then !es.any (fun e => PyData.eqv e d) else es.any fun e => PyData.eqv e d)) H
theorem op_inD (hu : X.A.units + 65 < cLine) : OpR X (compareOp .In) (rInD X.K false) := by
  intro pins s σ H x y v u Q I rx ry h
  obtain ⟨d, es, p, xs, rfl, hq, hd, hes, sd, ses, q⟩ := h
  cases ry
  obtain ⟨as, rd⟩ := Dt.reads I d x v rx hd
  have key : ∀ its : List Value, Vals xs its → (∀ w ∈ its, SeqAt.EqAt X.A.in1 s w v (eqD s.heap d w)) ∧ its.any (eqD s.heap d) = es.any fun e => PyData.eqv e d := fun its r => by
    obtain ⟨bs, ra⟩ := DtAll.reads I es xs its r hes
    refine ⟨fun w hw => ?_, any_eqD ra (canAll ses)⟩
    obtain ⟨e, he, cs, re⟩ := mem_reads ra w hw
    rw [eqD_of (SeqAt.canLay_of_shaped (ses e he)) re]
    exact SeqAt.eqAt_reads e d X.A.in1 s w v cs as re rd (SeqAt.canLay_of_shaped (ses e he)) (SeqAt.canLay_of_shaped sd) (SeqAt.room_of_shaped (ses e he) (by show X.A.units + 1 + 64 < cLine; omega))
  rcases hq with hq | hq
  · obtain ⟨its, r, pl, hz⟩ := I.list hq
    obtain ⟨k1, k2⟩ := key its r
    refine SeqAt.in_listAt (eqD s.heap d) pl.isList (fun w hw => k1 w (by simpa using hw)) ⟨.bl _, H, I, rfl, ?_⟩
    rw [show its.toArray.any (eqD s.heap d) = its.any (eqD s.heap d) by simp, k2]
    exact q
  · obtain ⟨its, r, pl, hz⟩ := I.tuple hq
    obtain ⟨k1, k2⟩ := key its r
    refine SeqAt.in_tupleAt (eqD s.heap d) pl (fun w hw => k1 w (by simpa using hw)) ⟨.bl _, H, I, rfl, ?_⟩
    rw [show its.toArray.any (eqD s.heap d) = its.any (eqD s.heap d) by simp, k2]
    exact q
end
def csOk (sc S0 : Scope) : Bool := (sc.names.all fun y => (y.2 != .local || sc.names.lookup y.1 == some .local) && y.2 != .cell && (y.2 != .free || S0.names.lookup y.1 == some .cell))
theorem CS.of {sc S0 : Scope} (k : sc.kind = .function) (h : csOk sc S0 = true) : CS sc S0 := by
  have q : ∀ y ∈ sc.names, _ := List.all_eq_true.mp h
  refine ⟨k, fun y hy e => ?_, fun y hy e => ?_, fun y hy e => ?_⟩ <;> have z := q y hy <;> rw [Bool.and_eq_true, Bool.and_eq_true] at z <;> obtain ⟨⟨z1, z2⟩, z3⟩ := z
  · rw [e] at z1; simpa using z1
  · rw [e] at z2; simp at z2
  · rw [e] at z3; simpa using z3
theorem Room.units65 {k : Nat} {A : Around} (r : Room k A) : A.units + 65 < cLine := by have := r.un; omega
end L2
set_option Elab.async false
set_option linter.all false
set_option maxRecDepth 100000
set_option maxHeartbeats 4000000
namespace L2
open PySem PySem.Spec PyProof.Rows
section
variable {prog : Program} {w : World} {A : Around} {E : Value → Shared → Prop} {s : Shared}
theorem nextOf_tup {it t : Addr} {i : Nat} {items : Array Value} {x : Value} {Q : Value → Shared → Prop} (hit : s.heap.IsTupleIter it t i) (ht : s.heap.IsTuple t items) (hx : items[i]? = some x)
    (hQ : ∀ h', h'.IsTupleIter it t (i + 1) → Heap.SameBut it s.heap h' → Q x { s with heap := h' }) : wpAny (model prog w) A (Builtin.SmallTypes.nextOf (.ref it)) Q E s := by
  obtain ⟨o, ho, hc, hd⟩ := id hit
  obtain ⟨ot, hot, _, nt, hdt⟩ := ht
  unfold Builtin.SmallTypes.nextOf
  refine wpAny_bind (wpAny_callSpecial?_slot (name := Str.ofString "__next__") hit.typeIs F.slot_tuple_iterator_next (wpAny_call_entry F.slot_tuple_iterator_next hit.typeIs F.entry_tuple_iterator_next ?_ (F.args_tuple_iterator_next_1 _)))
  show wpAny _ _ (field (.ref it) 0 >>= _) _ _ s
  refine wpAny_bind (wpAny_field ho hd (x := .ref t) rfl ?_)
  show wpAny _ _ (if (Value.ref t == Value.none) = true then _ else _) _ _ s
  rw [if_neg (show ¬ ((Value.ref t == Value.none) = true) from Bool.false_ne_true)]
  show wpAny _ _ (field (.ref it) 1 >>= _) _ _ s
  refine wpAny_bind (wpAny_field ho hd (x := .int i 0) rfl ?_)
  show wpAny _ _ (seqItems? (.ref t) >>= _) _ _ s
  refine wpAny_bind (wpAny_seqItems hot hdt ?_)
  simp only [Int.toNat_natCast, hx]
  refine wpAny_bind (wpAny_setField ho hd (by simp) (wpAny_pure ⟨x, rfl, wpAny_pure (hQ _ ?_ (Heap.SameBut.update ..))⟩))
  refine ⟨_, Heap.get?_update_self _ ho (Obj.isFreed_of_fields (Obj.data_mapFields hd _)), (Obj.cls_mapFields ..).trans hc, ?_⟩
  rw [Obj.data_mapFields hd]
  simp [rawInt]
theorem nextOf_tup_end {it t : Addr} {i : Nat} {items : Array Value} {Q : Value → Shared → Prop} (hh : A.handled = none) (hit : s.heap.IsTupleIter it t i) (ht : s.heap.IsTuple t items) (hx : items[i]? = none)
    (hE : ∀ h' e, Heap.ExtBut it s.heap h' → (∃ o, h'.get? e = some o ∧ o.cls = .type "StopIteration") → E (.ref e) { s with heap := h' }) : wpAny (model prog w) A (Builtin.SmallTypes.nextOf (.ref it)) Q E s := by
  obtain ⟨o, ho, hc, hd⟩ := id hit
  obtain ⟨ot, hot, _, nt, hdt⟩ := ht
  unfold Builtin.SmallTypes.nextOf
  refine wpAny_bind (wpAny_callSpecial?_slot (name := Str.ofString "__next__") hit.typeIs F.slot_tuple_iterator_next (wpAny_call_entry F.slot_tuple_iterator_next hit.typeIs F.entry_tuple_iterator_next ?_ (F.args_tuple_iterator_next_1 _)))
  show wpAny _ _ (field (.ref it) 0 >>= _) _ _ s
  refine wpAny_bind (wpAny_field ho hd (x := .ref t) rfl ?_)
  show wpAny _ _ (if (Value.ref t == Value.none) = true then _ else _) _ _ s
  rw [if_neg (show ¬ ((Value.ref t == Value.none) = true) from Bool.false_ne_true)]
  show wpAny _ _ (field (.ref it) 1 >>= _) _ _ s
  refine wpAny_bind (wpAny_field ho hd (x := .int i 0) rfl ?_)
  show wpAny _ _ (seqItems? (.ref t) >>= _) _ _ s
  refine wpAny_bind (wpAny_seqItems hot hdt ?_)
  simp only [Int.toNat_natCast, hx]
  refine wpAny_bind (wpAny_rule (wpAny_bind (wpAny_setField ho hd (by simp) ?_)))
  show wpAny _ _ (newExc (.type "StopIteration") [] >>= _) _ _ _
  refine wpAny_bind ?_
  simp only [newExc, newTuple]
  refine wpAny_bind (wpAny_newObj_type ?_ (by size_fits))
  refine wpAny_bind (m := firstArgMember _ _) (wpAny_of_eq (a := Value.none) (by first | rfl | (simp only [firstArgMember]; rfl)) ?_)
  refine wpAny_newObj_type ?_ (by size_fits)
  simp only [raiseNew]
  refine wpAny_bind (wpAny_handled ?_)
  first | rw [show A.in1.handled = none from hh] | rw [hh]
  refine wpAny_bind (wpAny_pure (wpAny_throw ?_))
  exact hE _ _ (((Heap.SameBut.update ..).extBut.push _).push _) ⟨_, Heap.get?_push_size _ rfl, rfl⟩
end
def ItOf (k : Bool) (h : Heap) (it a : Addr) (i : Nat) : Prop := match k with | true => h.IsListIter it a i | false => h.IsTupleIter it a i
def SqOf (k : Bool) (h : Heap) (a : Addr) (items : Array Value) : Prop := match k with | true => h.IsList a items | false => h.IsTuple a items
def itName (k : Bool) : String := match k with | true => "list_iterator" | false => "tuple_iterator"
def SqX (K : PySem.W.Frag) (k : Bool) (H : Hp) (a : Addr) (xs : List V) : Prop := match k with | true => SqL K H a xs | false => SqT K H a xs
theorem ItOf.at {k : Bool} {h h' : Heap} {it a : Addr} {i : Nat} (x : ItOf k h it a i) (g : ∀ o, h.get? it = some o → h'.get? it = some o) : ItOf k h' it a i := by
  cases k
  · obtain ⟨o, e, r⟩ := x; exact ⟨o, g o e, r⟩
  · obtain ⟨o, e, r⟩ := x; exact ⟨o, g o e, r⟩
theorem ItOf.live {k : Bool} {h : Heap} {it a : Addr} {i : Nat} (x : ItOf k h it a i) : ∃ o, h.get? it = some o ∧ ∀ v, o.data ≠ .cell v := by
  cases k
  · obtain ⟨o, e, c, d⟩ := x; exact ⟨o, e, fun v z => by rw [d] at z; cases z⟩
  · obtain ⟨o, e, c, d⟩ := x; exact ⟨o, e, fun v z => by rw [d] at z; cases z⟩
theorem SqOf.at {k : Bool} {h h' : Heap} {a : Addr} {items : Array Value} (x : SqOf k h a items) (g : ∀ o, h.get? a = some o → h'.get? a = some o) : SqOf k h' a items := by
  cases k
  · obtain ⟨o, e, r⟩ := x; exact ⟨o, g o e, r⟩
  · obtain ⟨o, e, r⟩ := x; exact ⟨o, g o e, r⟩
theorem SqOf.there {k : Bool} {h : Heap} {a : Addr} {items : Array Value} (x : SqOf k h a items) : ∃ o, h.get? a = some o := by
  cases k
  · obtain ⟨o, e, r⟩ := x; exact ⟨o, e⟩
  · obtain ⟨o, e, r⟩ := x; exact ⟨o, e⟩
theorem SqOf.lt {k : Bool} {h : Heap} {a : Addr} {items : Array Value} (x : SqOf k h a items) : a < h.objs.size := let ⟨_, e⟩ := x.there; Heap.lt_size e
theorem ItOf.new (k : Bool) (h : Heap) (a : Addr) : ItOf k (h.push { cls := .type (itName k), data := .fields #[.ref a, .int 0 0] }) h.objs.size a 0 := by
  cases k
  · exact ⟨_, Heap.get?_push_size _ rfl, rfl, rfl⟩
  · exact ⟨_, Heap.get?_push_size _ rfl, rfl, rfl⟩
theorem Inv.sq {X : Cx} {pins : List (Addr × Obj)} {σ : St} {H : Hp} {s : Shared} {k : Bool} {a : Addr} {xs : List V} (I : Inv X pins σ H s) (h : SqX X.K k H a xs) : ∃ its : List Value, Vals xs its ∧ SqOf k s.heap a its.toArray := by
  cases k
  · obtain ⟨its, r, p, _⟩ := I.tuple h
    exact ⟨its, r, p⟩
  · obtain ⟨its, r, p, _⟩ := I.list h
    exact ⟨its, r, p.isList⟩
theorem Inv.sq_inj {X : Cx} {pins : List (Addr × Obj)} {σ : St} {H : Hp} {s : Shared} {k : Bool} {a : Addr} {xs ys : List V} (I : Inv X pins σ H s) (h : SqX X.K k H a xs) (h' : SqX X.K k H a ys) : xs = ys := by
  cases k
  · exact I.tuple_inj h h'
  · exact I.list_inj h h'
section
variable {prog : Program} {w : World} {A : Around} {E : Value → Shared → Prop} {s : Shared}
theorem iter_sq {k : Bool} {a : Addr} {items : Array Value} {Q : Value → Shared → Prop} (h : SqOf k s.heap a items) (hQ : Q (.ref s.heap.objs.size) { s with heap := s.heap.push { cls := .type (itName k), data := .fields #[.ref a, .int 0 0] } }) :
    wpAny (model prog w) A (pyIter (.ref a)) Q E s := by
  cases k
  · exact wpAny_pyIter_tuple h hQ
  · exact wpAny_pyIter_list h hQ
theorem draws_sq (hh : A.handled = none) (k : Bool) (it a : Addr) (hne : a ≠ it) (items : Array Value) : Draws prog w A it [it, a] items.size (fun i v => items[i]? = some v) (fun i h => ItOf k h it a i ∧ SqOf k h a items) where
  live := fun _ _ st => let ⟨o, ho, _⟩ := st.1.live; ⟨o, ho⟩
  frame := fun _ _ _ st hk => ⟨st.1.at fun o e => hk it (by simp) o e, st.2.at fun o e => hk a (by simp) o e⟩
  item := fun i s Q E hi st hQ => by
    have hx : items[i]? = some items[i] := by simp [hi]
    cases k
    · exact nextOf_tup st.1 st.2 hx fun h' hit' hs' => hQ _ h' s.toks hx ⟨hit', st.2.at fun o e => hs'.extBut a o hne e⟩ hs'
    · exact wpAny_nextOf_list_item st.1 st.2 hx fun h' hit' hs' => hQ _ h' s.toks hx ⟨hit', st.2.at fun o e => hs'.extBut a o hne e⟩ hs'
  done := fun s Q E st hE => by
    cases k
    · exact nextOf_tup_end hh st.1 st.2 (by simp) hE
    · exact wpAny_nextOf_list_end hh st.1 st.2 (by simp) hE
end
theorem Inv.turnedL {X : Cx} {pins : List (Addr × Obj)} {σ : St} {H : Hp} {s : Shared} {h' : Heap} {t' : Nat} {ch : List Addr} (I : Inv X pins σ H s) (k : ∀ b o, b ∉ ch → s.heap.get? b = some o → h'.get? b = some o) (hf : ∀ b ∈ ch, FpOk X pins H b) :
    Inv X pins σ H { s with heap := h', toks := t' } := by
  have nit : ∀ b u, H b = some u → b ∉ ch := fun b u e z => by rw [(hf b z).1] at e; cases e
  refine I.step (g' := s.gens) (d' := s.drawn) (ch := ch) (fun b hb => ?_) (fun b o _ _ hc e _ => k b o hc e) (fun b o _ _ hc e _ => ⟨o.slots, k b o hc e⟩) (fun _ _ _ _ n => n)
    (fun b o hc e => ⟨o, k b o hc e⟩) (fun _ _ e => e) (fun _ _ _ e => e) (fun b ps e => ⟨#[], by rw [e]; simp⟩) (fun m hm => ?_) (fun b u e => ?_) I.bare
  · obtain ⟨f0, f1, f2, f3, f4, f5⟩ := hf b hb
    exact ⟨f3, f1, f4, f5⟩
  · obtain ⟨o, es, ep, ho, r⟩ := hm
    exact ⟨o, es, ep, k _ o (fun z => (hf _ z).2.1 rfl) ho, r⟩
  · refine (I.hok b u e).stay (fun c v hc q => k c v ?_ q) (fun _ q => q) fun _ _ q => q
    rcases hc with z | z
    · rw [z]; exact nit b u e
    · exact nit c _ z
end L2
set_option Elab.async false
set_option linter.all false
set_option maxRecDepth 100000
set_option maxHeartbeats 4000000
namespace L2
open PySem PySem.Spec PyProof.Rows
open AutoSeq1 (wpAny_loadPart')
section
variable {prog : Program} {w : World} {A : Around} {E : Value → Shared → Prop} {s : Shared}
end
theorem sq_it {k k' : Bool} {h : Heap} {a it b : Addr} {i : Nat} {items : Array Value} (x : SqOf k h a items) (y : ItOf k' h it b i) : a ≠ it := by
  intro z
  subst z
  cases k <;> cases k' <;> obtain ⟨o, e, c, _⟩ := x <;> obtain ⟨o', e', c', _⟩ := y <;> rw [e] at e' <;> cases e' <;> rw [c] at c' <;> revert c' <;> decide
theorem ItOf.cls {k : Bool} {h : Heap} {it a : Addr} {i : Nat} (x : ItOf k h it a i) : ∃ o, h.get? it = some o ∧ o.cls = .type (itName k) := by
  cases k <;> obtain ⟨o, e, c, _⟩ := x <;> exact ⟨o, e, c⟩
def sqName (k : Bool) : String := match k with | true => "list" | false => "tuple"
theorem SqOf.cls {k : Bool} {h : Heap} {a : Addr} {items : Array Value} (x : SqOf k h a items) : ∃ o, h.get? a = some o ∧ o.cls = .type (sqName k) := by
  cases k <;> obtain ⟨o, e, c, _⟩ := x <;> exact ⟨o, e, c⟩
/-- a new pair handed out by an iterator, its records turned -/
theorem Inv.handed {X : Cx} {pins : List (Addr × Obj)} {σ : St} {H : Hp} {s : Shared} {h' : Heap} {t' : Nat} {ch : List Addr} {x y : V} {u v : Value} (I : Inv X pins σ H s) (rx : RelV x u) (ry : RelV y v)
    (hT : h'.get? s.heap.objs.size = some { cls := .type "tuple", data := .seq #[u, v] }) (k : ∀ b o, b ∉ ch → s.heap.get? b = some o → h'.get? b = some o) (hf : ∀ b ∈ ch, FpOk X pins H b) (hlt : ∀ b ∈ ch, b < s.heap.objs.size) :
    Inv X pins σ (upd H s.heap.objs.size (.tup [x, y])) { s with heap := h', toks := t' } ∧ (∀ b ∈ ch, upd H s.heap.objs.size (.tup [x, y]) b = none) := by
  have hn : ∀ b ∈ ch, upd H s.heap.objs.size (.tup [x, y]) b = none := fun b hb => by rw [upd_ne (Nat.ne_of_lt (hlt b hb))]; exact (hf b hb).1
  have I1 : Inv X pins σ (upd H s.heap.objs.size (.tup [x, y])) { s with heap := s.heap.push { cls := .type "tuple", data := .seq #[u, v] }, toks := s.toks } :=
    I.laid (fun b o e => Heap.get?_push_of_some _ e) (Nat.le_refl _) ⟨by simp only [List.length_cons, List.length_nil]; rw [sizeLine_eq]; decide, [u, v], .cons rx (.cons ry .nil), ⟨_, Heap.get?_push_size _ rfl, rfl, 0, rfl, rfl⟩⟩
  have I2 := Inv.turnedL (h' := h') (t' := t') (ch := ch) I1 (fun b o hb e => by
    rcases Heap.get?_push_cases e with ⟨rfl, rfl⟩ | e
    · exact hT
    · exact k b o hb e) (fun b hb => by
    obtain ⟨f0, f1, f2, f3, f4, f5⟩ := hf b hb
    exact ⟨hn b hb, f1, f2, f3, f4, f5⟩)
  exact ⟨I2, hn⟩
section
variable {X : Cx}
end
end L2
set_option Elab.async false
set_option linter.all false
set_option maxRecDepth 100000
set_option maxHeartbeats 4000000
namespace L2
open PySem PySem.Spec PyProof.Rows
structure ZAp (z TI TO i1 i2 : Addr) (fp1 fp2 : List Addr) : Prop where
  zTI : z ≠ TI
  zTO : z ≠ TO
  zi1 : z ≠ i1
  zi2 : z ≠ i2
  TOi1 : TO ≠ i1
  TOi2 : TO ≠ i2
  i12 : i1 ≠ i2
  TITO : TI ≠ TO
  TIi1 : TI ≠ i1
  TIi2 : TI ≠ i2
  z1 : z ∉ fp1
  z2 : z ∉ fp2
  t1 : TO ∉ fp1
  t2 : TO ∉ fp2
  i2f : i2 ∉ fp1
  i1f : i1 ∉ fp2
section
variable {prog : Program} {w : World} {A : Around} {E : Value → Shared → Prop} {s : Shared} {z TI TO i1 i2 : Addr} {fp1 fp2 : List Addr} {n1 n2 j : Nat} {P1 P2 : Nat → Value → Prop} {S1 S2 : Nat → Heap → Prop} {a b : Value}
theorem zipD_item {Q : Value → Shared → Prop} (D1 : Draws prog w A i1 fp1 n1 P1 S1) (D2 : Draws prog w A i2 fp2 n2 P2 S2) (ap : ZAp z TI TO i1 i2 fp1 fp2)
    (hz : IsZip s.heap z TI TO .none) (hTI : IsPair s.heap TI (.ref i1) (.ref i2)) (hTO : IsPair s.heap TO a b) (h1 : S1 j s.heap) (h2 : S2 j s.heap) (l1 : j < n1) (l2 : j < n2)
    (hQ : ∀ x y h' tk, P1 j x → P2 j y → IsZip h' z TI TO (rawInt s.heap.objs.size) → IsPair h' TO x y → S1 (j + 1) h' → S2 (j + 1) h' → IsPair h' s.heap.objs.size x y →
      (∀ c o, c ≠ z → c ≠ TO → c ≠ i1 → c ≠ i2 → s.heap.get? c = some o → h'.get? c = some o) → Q (.ref s.heap.objs.size) { s with heap := h', toks := tk }) :
    wpAny (model prog w) A (Builtin.«zip.__next__» ⟨[.ref z], []⟩) (fun fin s' => ∃ v, fin = .done (.ret v) ∧ Q v s') E s := by
  have fr1 : ∀ {i : Nat} {h h' : Heap} {c : Addr}, S1 i h → Heap.SameBut c h h' → c ∉ fp1 → S1 i h' := fun st sb hc => D1.frame _ _ _ st fun b hb o e => sb.extBut b o (fun q => hc (q ▸ hb)) e
  have fr2 : ∀ {i : Nat} {h h' : Heap} {c : Addr}, S2 i h → Heap.SameBut c h h' → c ∉ fp2 → S2 i h' := fun st sb hc => D2.frame _ _ _ st fun b hb o e => sb.extBut b o (fun q => hc (q ▸ hb)) e
  show wpAny _ _ (field (.ref z) 2 >>= _) _ _ _
  refine wpAny_bind (wpAny_field hz rfl (x := .bool false) rfl ?_)
  show wpAny _ _ (field (.ref z) 3 >>= _) _ _ _
  refine wpAny_bind (wpAny_field hz rfl (x := .ref TI) rfl ?_)
  refine wpAny_bind (wpAny_seqItems hTI rfl ?_)
  show wpAny _ _ (Builtin.SmallTypes.ownedTupleIsFree (.ref z) >>= _) _ _ _
  refine wpAny_bind ?_
  unfold Builtin.SmallTypes.ownedTupleIsFree
  refine wpAny_bind (wpAny_field hz rfl (x := .none) rfl (wpAny_pure ?_))
  simp only [if_true]
  refine wpAny_bind (wpAny_rule ?_)
  refine wpAny_bind (wpAny_field hz rfl (x := .ref TO) rfl ?_)
  refine wpAny_bind (wpAny_setField_rec hz (by simp) fun g1 z1 s1 => ?_)
  replace z1 : IsZip g1 z TI TO .ellipsis := z1
  refine wpAny_bind ?_
  simp only [List.zipIdx_cons, List.zipIdx_nil, List.forIn_cons, List.forIn_nil]
  -- the first one
  refine wpAny_bind (wpAny_bind (wpAny_onRaise ?_))
  show wpAny _ _ (Builtin.SmallTypes.nextOf (.ref i1) >>= _) _ _ _
  refine wpAny_bind (D1.item j _ _ _ l1 (fr1 h1 s1 ap.z1) fun x g2 tk2 px st2 s2 => wpAny_pure ?_)
  have o2 : IsPair g2 TO a b := s2.extBut _ _ ap.TOi1 (s1.extBut _ _ ap.zTO.symm hTO)
  refine wpAny_bind (wpAny_seqItems o2 rfl ?_)
  refine wpAny_bind (wpAny_updateSeq_pair o2 fun g3 o3 s3 => ?_)
  replace o3 : IsPair g3 TO x b := o3
  refine wpAny_bind (wpAny_letGo (wpAny_pure ?_))
  -- the second one
  refine wpAny_bind (wpAny_bind (wpAny_onRaise ?_))
  show wpAny _ _ (Builtin.SmallTypes.nextOf (.ref i2) >>= _) _ _ _
  refine wpAny_bind (D2.item j _ _ _ l2 (fr2 (fr2 (fr2 h2 s1 ap.z2) s2 ap.i1f) s3 ap.t2) fun y g4 tk4 py st4 s4 => wpAny_pure ?_)
  have o4 : IsPair g4 TO x b := s4.extBut _ _ ap.TOi2 o3
  refine wpAny_bind (wpAny_seqItems o4 rfl ?_)
  refine wpAny_bind (wpAny_updateSeq_pair o4 fun g5 o5 s5 => ?_)
  replace o5 : IsPair g5 TO x y := o5
  refine wpAny_bind (wpAny_letGo (wpAny_pure (wpAny_pure ?_)))
  -- the pair
  refine wpAny_bind (wpAny_seqItems o5 rfl ?_)
  refine wpAny_bind (wpAny_newTuple ?_)
  have sz : g5.objs.size = s.heap.objs.size := by rw [s5.1, s4.1, s3.1, s2.1, s1.1]
  have z5 : IsZip g5 z TI TO .ellipsis := s5.extBut _ _ ap.zTO (s4.extBut _ _ ap.zi2 (s3.extBut _ _ ap.zTO (s2.extBut _ _ ap.zi1 z1)))
  have k5 : ∀ c o, c ≠ z → c ≠ TO → c ≠ i1 → c ≠ i2 → s.heap.get? c = some o → g5.get? c = some o := fun c o c1 c2 c3 c4 e =>
    s5.extBut _ _ c2 (s4.extBut _ _ c4 (s3.extBut _ _ c2 (s2.extBut _ _ c3 (s1.extBut _ _ c1 e))))
  have st1 : S1 (j + 1) g5 := fr1 (fr1 (fr1 st2 s3 ap.t1) s4 ap.i2f) s5 ap.t1
  have st2' : S2 (j + 1) g5 := fr2 st4 s5 ap.t2
  have zlt : z < g5.objs.size := Heap.lt_size z5
  show wpAny _ _ (Builtin.SmallTypes.ownedTupleHandOut (.ref z) (.ref g5.objs.size) >>= _) _ _ _
  refine wpAny_bind ?_
  unfold Builtin.SmallTypes.ownedTupleHandOut
  have z6 : IsZip (g5.push { cls := .type "tuple", data := .seq #[x, y] }) z TI TO .ellipsis := Heap.get?_push_of_some _ z5
  refine wpAny_bind (wpAny_setField_rec z6 (by simp) fun g7 z7 s7 => ?_)
  replace z7 : IsZip g7 z TI TO (rawInt g5.objs.size) := z7
  refine wpAny_setField_rec z7 (by simp) fun g8 z8 s8 => ?_
  replace z8 : IsZip g8 z TI TO (rawInt g5.objs.size) := z8
  have up : ∀ c o, c ≠ z → g5.get? c = some o → g8.get? c = some o := fun c o c1 e => s8.extBut _ _ c1 (s7.extBut _ _ c1 (Heap.get?_push_of_some _ e))
  have t8 : IsPair g8 g5.objs.size x y := s8.extBut _ _ (Nat.ne_of_gt zlt) (s7.extBut _ _ (Nat.ne_of_gt zlt) (Heap.get?_push_size _ rfl))
  rw [sz] at z8 t8
  refine wpAny_pure ⟨_, rfl, ?_⟩
  show Q (.ref g5.objs.size) _
  rw [sz]
  exact hQ x y g8 _ px py z8 (up _ _ ap.zTO.symm o5) (D1.frame _ _ _ st1 fun b hb o e => up b o (fun q => ap.z1 (q ▸ hb)) e) (D2.frame _ _ _ st2' fun b hb o e => up b o (fun q => ap.z2 (q ▸ hb)) e) t8 fun c o c1 c2 c3 c4 e => up c o c1 (k5 c o c1 c2 c3 c4 e)
/-- both end together, or the first one ahead -/
theorem zipD_end {Q : PySem.Fin → Shared → Prop} (D1 : Draws prog w A i1 fp1 n1 P1 S1) (ap : ZAp z TI TO i1 i2 fp1 fp2)
    (hz : IsZip s.heap z TI TO .none) (hTI : IsPair s.heap TI (.ref i1) (.ref i2)) (hTO : IsPair s.heap TO a b) (h1 : S1 n1 s.heap)
    (hE : ∀ h' e, (∀ c o, c ≠ z → c ≠ TO → c ≠ i1 → c ≠ i2 → s.heap.get? c = some o → h'.get? c = some o) → (∃ o, h'.get? e = some o ∧ o.cls = .type "StopIteration") → E (.ref e) { s with heap := h' }) :
    wpAny (model prog w) A (Builtin.«zip.__next__» ⟨[.ref z], []⟩) Q E s := by
  show wpAny _ _ (field (.ref z) 2 >>= _) _ _ _
  refine wpAny_bind (wpAny_field hz rfl (x := .bool false) rfl ?_)
  show wpAny _ _ (field (.ref z) 3 >>= _) _ _ _
  refine wpAny_bind (wpAny_field hz rfl (x := .ref TI) rfl ?_)
  refine wpAny_bind (wpAny_seqItems hTI rfl ?_)
  show wpAny _ _ (Builtin.SmallTypes.ownedTupleIsFree (.ref z) >>= _) _ _ _
  refine wpAny_bind ?_
  unfold Builtin.SmallTypes.ownedTupleIsFree
  refine wpAny_bind (wpAny_field hz rfl (x := .none) rfl (wpAny_pure ?_))
  simp only [if_true]
  refine wpAny_bind (wpAny_rule ?_)
  refine wpAny_bind (wpAny_field hz rfl (x := .ref TO) rfl ?_)
  refine wpAny_bind (wpAny_setField_rec hz (by simp) fun g1 z1 s1 => ?_)
  replace z1 : IsZip g1 z TI TO .ellipsis := z1
  refine wpAny_bind ?_
  simp only [List.zipIdx_cons, List.zipIdx_nil, List.forIn_cons, List.forIn_nil]
  refine wpAny_bind (wpAny_bind (wpAny_onRaise ?_))
  show wpAny _ _ (Builtin.SmallTypes.nextOf (.ref i1) >>= _) _ _ _
  refine wpAny_bind (D1.done _ _ _ (D1.frame _ _ _ h1 fun b hb o e => s1.extBut b o (fun q => ap.z1 (q ▸ hb)) e) fun g2 e s2 he => ?_)
  obtain ⟨oe, hoe, hce⟩ := he
  have z2 : IsZip g2 z TI TO .ellipsis := s2 _ _ ap.zi1 z1
  have ez : e ≠ z := fun q => by subst q; rw [z2] at hoe; cases hoe; simp at hce
  exact wpAny_setField_rec z2 (by simp) fun g3 _ s3 => hE g3 e (fun c o c1 _ c3 _ q => s3.extBut _ _ c1 (s2 _ _ c3 (s1.extBut _ _ c1 q))) ⟨oe, s3.extBut _ _ ez hoe, hce⟩
end
theorem zip_new_sq (k1 k2 : Bool) (l1 l2 : Addr) (xs ys : Array Value) :
    Meets (Builtin.«zip.__new__» ⟨[.type "zip", .ref l1, .ref l2], []⟩) (fun _ R s => SqOf k1 s.heap l1 xs ∧ SqOf k2 s.heap l2 ys ∧
      ∀ (g1 g2 g3 g4 g5 : Heap), g1 = s.heap.push { cls := .type (itName k1), data := .fields #[.ref l1, .int 0 0] } → g2 = g1.push { cls := .type (itName k2), data := .fields #[.ref l2, .int 0 0] } →
        g3 = g2.push { cls := .type "tuple", data := .seq #[.ref s.heap.objs.size, .ref g1.objs.size] } → g4 = g3.push { cls := .type "tuple", data := .seq #[.none, .none] } →
        g5 = g4.push { cls := .type "zip", data := .fields #[.none, .bool false, .bool false, .ref g2.objs.size, .ref g3.objs.size] } → R (.ok (.ret (.ref g4.objs.size))) { s with heap := g5 }) :=
  .of_wp fun prog w A R s h => by
    obtain ⟨hp, g, d, tk, os⟩ := s; obtain ⟨hl1, hl2, h⟩ := h
    have hsub := sub_zip
    have hL1 : SqOf k1 (Shared.heap ⟨hp, g, d, tk, os⟩) l1 xs := hl1
    have hL2 : SqOf k2 (Shared.heap ⟨hp.push { cls := .type (itName k1), data := .fields #[.ref l1, .int 0 0] }, g, d, tk, os⟩) l2 ys := hl2.at fun o e => Heap.get?_push_of_some _ e
    have h := h _ _ _ _ _ rfl rfl rfl rfl rfl
    wp_walk using iter_sq hL1, iter_sq hL2
    exact ⟨_, rfl, h⟩
end L2
set_option Elab.async false
set_option linter.all false
set_option maxRecDepth 100000
set_option maxHeartbeats 4000000
namespace L2
open PySem PySem.Spec PyProof.Rows
section
variable {prog : Program} {w : World} {A : Around} {E : Value → Shared → Prop} {s : Shared}
theorem call_zip_sq {k1 k2 : Bool} {l1 l2 : Addr} {xs ys : Array Value} {Q : Value → Shared → Prop} (h1 : SqOf k1 s.heap l1 xs) (h2 : SqOf k2 s.heap l2 ys)
    (h : ∀ h', IsZip h' (s.heap.objs.size + 4) (s.heap.objs.size + 2) (s.heap.objs.size + 3) .none → IsPair h' (s.heap.objs.size + 2) (.ref s.heap.objs.size) (.ref (s.heap.objs.size + 1)) →
      IsPair h' (s.heap.objs.size + 3) .none .none → ItOf k1 h' s.heap.objs.size l1 0 → ItOf k2 h' (s.heap.objs.size + 1) l2 0 → (∀ c o, s.heap.get? c = some o → h'.get? c = some o) → Q (.ref (s.heap.objs.size + 4)) { s with heap := h' }) :
    wpAny (model prog w) A (call (.type "zip") [.ref l1, .ref l2]) Q E s := by
  refine callType_new F.called_zip (by decide) (F.typeCall_zip_2 _ _) (F.newCall_zip_2 _ _) (fun obj => F.args_object_init_3 obj _ _) F.entry_zip_new (zip_new_sq k1 k2 l1 l2 xs ys) ⟨h1, h2, ?_⟩
  intro g1 g2 g3 g4 g5 e1 e2 e3 e4 e5
  have z1 : g1.objs.size = s.heap.objs.size + 1 := by rw [e1]; exact Heap.size_push ..
  have z2 : g2.objs.size = s.heap.objs.size + 2 := by rw [e2, Heap.size_push, z1]
  have z3 : g3.objs.size = s.heap.objs.size + 3 := by rw [e3, Heap.size_push, z2]
  have z4 : g4.objs.size = s.heap.objs.size + 4 := by rw [e4, Heap.size_push, z3]
  have u1 : ∀ c o, s.heap.get? c = some o → g1.get? c = some o := fun c o e => by rw [e1]; exact Heap.get?_push_of_some _ e
  have u2 : ∀ c o, g1.get? c = some o → g2.get? c = some o := fun c o e => by rw [e2]; exact Heap.get?_push_of_some _ e
  have u3 : ∀ c o, g2.get? c = some o → g3.get? c = some o := fun c o e => by rw [e3]; exact Heap.get?_push_of_some _ e
  have u4 : ∀ c o, g3.get? c = some o → g4.get? c = some o := fun c o e => by rw [e4]; exact Heap.get?_push_of_some _ e
  have u5 : ∀ c o, g4.get? c = some o → g5.get? c = some o := fun c o e => by rw [e5]; exact Heap.get?_push_of_some _ e
  have b5 : IsZip g5 g4.objs.size g2.objs.size g3.objs.size .none := by rw [e5]; exact Heap.get?_push_size _ rfl
  have b4 : IsPair g5 g3.objs.size .none .none := u5 _ _ (by rw [e4]; exact Heap.get?_push_size _ rfl)
  have b3 : IsPair g5 g2.objs.size (.ref s.heap.objs.size) (.ref g1.objs.size) := u5 _ _ (u4 _ _ (by rw [e3]; exact Heap.get?_push_size _ rfl))
  have i1 : ItOf k1 g5 s.heap.objs.size l1 0 := ItOf.at (h := g1) (by rw [e1]; exact ItOf.new k1 s.heap l1) fun o e => u5 _ _ (u4 _ _ (u3 _ _ (u2 _ _ e)))
  have i2 : ItOf k2 g5 g1.objs.size l2 0 := ItOf.at (h := g2) (by rw [e2]; exact ItOf.new k2 g1 l2) fun o e => u5 _ _ (u4 _ _ (u3 _ _ e))
  show _ ∧ _
  rw [z2, z3, z4] at b5
  rw [z1, z2] at b3
  rw [z3] at b4
  rw [z1] at i2
  rw [z4]
  exact ⟨⟨_, b5, rfl⟩, h _ b5 b3 b4 i1 i2 fun c o x => u5 _ _ (u4 _ _ (u3 _ _ (u2 _ _ (u1 _ _ x))))⟩
end
/-- (x, y) of two; the first one ends first, or both together -/
def Itz (k1 k2 : Bool) (K : PySem.W.Frag) (a b : Addr) : It :=
  ⟨fun i H => ∃ xs ys x y, SqX K k1 H a xs ∧ SqX K k2 H b ys ∧ xs[i]? = some x ∧ ys[i]? = some y,
   fun i H v H' => ∃ T x y, H T = none ∧ v = .ref T ∧ (∀ xs, SqX K k1 H a xs → xs[i]? = some x) ∧ (∀ ys, SqX K k2 H b ys → ys[i]? = some y) ∧ H' = upd H T (.tup [x, y]),
   fun i H => ∃ xs, SqX K k1 H a xs ∧ xs.length = i⟩
theorem turn_zip {P : Program} {w : World} {K : PySem.W.Frag} {elts : List Expr} {x1} {pos : Pos} (k1 k2 : Bool) (a b z TI TO i1 i2 : Addr) (ap : ZAp z TI TO i1 i2 [i1, a] [i2, b]) :
    Turn P w K (.Tuple elts x1 pos) (Itz k1 k2 K a b) [z, TO, i1, i2, TI] z
      (fun i h => IsZip h z TI TO .none ∧ IsPair h TI (.ref i1) (.ref i2) ∧ (∃ u v, IsPair h TO u v) ∧ ItOf k1 h i1 a i ∧ ItOf k2 h i2 b i) where
  mem := by simp
  obj := fun i h st c hc => by
    obtain ⟨hz, hTI, ⟨u, v, hTO⟩, h1, h2⟩ := st
    simp only [List.mem_cons, List.not_mem_nil, or_false] at hc
    rcases hc with rfl | rfl | rfl | rfl | rfl
    · exact ⟨_, hz, fun v q => by cases q⟩
    · exact ⟨_, hTO, fun v q => by cases q⟩
    · exact h1.live
    · exact h2.live
    · exact ⟨_, hTI, fun v q => by cases q⟩
  keep := fun i h h' st kk => by
    obtain ⟨hz, hTI, ⟨u, v, hTO⟩, h1, h2⟩ := st
    exact ⟨kk z (by simp) _ hz, kk TI (by simp) _ hTI, ⟨u, v, kk TO (by simp) _ hTO⟩, h1.at fun o q => kk i1 (by simp) o q, h2.at fun o q => kk i2 (by simp) o q⟩
  item := by
    intro X hP hw hK hc i pins s σ H E I hf st hg
    subst hP hw hK
    obtain ⟨hz, hTI, ⟨u0, v0, hTO⟩, h1, h2⟩ := st
    obtain ⟨xs, ys, x, y, hq1, hq2, hx, hy⟩ := hg
    obtain ⟨its1, rv1, p1⟩ := I.sq hq1
    obtain ⟨its2, rv2, p2⟩ := I.sq hq2
    obtain ⟨u, hu, ru⟩ := rv1.get hx
    obtain ⟨v, hv, rv⟩ := rv2.get hy
    have D1 := draws_sq (prog := X.prog) (w := X.w) (A := X.A.in1) (I.ok.hd hc) k1 i1 a (sq_it p1 h1) its1.toArray
    have D2 := draws_sq (prog := X.prog) (w := X.w) (A := X.A.in1) (I.ok.hd hc) k2 i2 b (sq_it p2 h2) its2.toArray
    have hlt1 : i < its1.toArray.size := by simpa using (List.getElem?_eq_some_iff.mp hu).1
    have hlt2 : i < its2.toArray.size := by simpa using (List.getElem?_eq_some_iff.mp hv).1
    have hT : s.TypeIs (.ref z) "zip" := ⟨_, hz, rfl⟩
    unfold pyNext
    refine wpAny_bind (wpAny_attempt (wpAny_callSpecial?_slot (name := Str.ofString "__next__") hT F.slot_zip_next (wpAny_call_entry F.slot_zip_next hT F.entry_zip_next
      (zipD_item D1 D2 ap hz hTI hTO ⟨h1, p1⟩ ⟨h2, p2⟩ hlt1 hlt2 fun u' v' h' tk hu' hv' z' o' s1' s2' t' hk => wpAny_pure ?_) (F.args_zip_next_1 _))))
    have eu : u' = u := by
      have q : its1[i]? = some u' := by simpa using hu'
      rw [hu] at q
      exact (Option.some.inj q).symm
    have ev : v' = v := by
      have q : its2[i]? = some v' := by simpa using hv'
      rw [hv] at q
      exact (Option.some.inj q).symm
    subst eu ev
    refine ⟨_, rfl, wpAny_letOwnedTupleGo_zip z' fun g hz2 hs2 => ?_⟩
    have zlt : z < s.heap.objs.size := Heap.lt_size hz
    have TOlt : TO < s.heap.objs.size := Heap.lt_size hTO
    have i1lt : i1 < s.heap.objs.size := let ⟨_, e, _⟩ := h1.live; Heap.lt_size e
    have i2lt : i2 < s.heap.objs.size := let ⟨_, e, _⟩ := h2.live; Heap.lt_size e
    have TIlt : TI < s.heap.objs.size := Heap.lt_size hTI
    have hT2 : g.get? s.heap.objs.size = some { cls := .type "tuple", data := .seq #[u', v'] } := hs2.extBut _ _ (Nat.ne_of_gt zlt) t'
    obtain ⟨I2, n2⟩ := I.handed (t' := tk) (ch := [z, TO, i1, i2]) ru rv hT2 (fun c o hc' q => hs2.extBut c o (fun e => hc' (by simp [e])) (hk c o (fun e => hc' (by simp [e])) (fun e => hc' (by simp [e])) (fun e => hc' (by simp [e])) (fun e => hc' (by simp [e])) q))
      (fun c hc' => hf c (by simp at hc' ⊢; rcases hc' with e | e | e | e <;> simp [e]))
      (fun c hc' => by simp at hc'; rcases hc' with rfl | rfl | rfl | rfl <;> assumption)
    refine ⟨.ref s.heap.objs.size, _, I2, rfl, ⟨_, x, y, I.hok.fresh (Nat.le_refl _), rfl, (fun xs' hxs => by rw [I.sq_inj hxs hq1]; exact hx), (fun ys' hys => by rw [I.sq_inj hys hq2]; exact hy), rfl⟩, ?_, fun c hc' => ?_⟩
    · exact ⟨hz2, hs2.extBut _ _ ap.zTI.symm (hk _ _ ap.zTI.symm ap.TITO ap.TIi1 ap.TIi2 hTI), ⟨_, _, hs2.extBut _ _ ap.zTO.symm o'⟩, s1'.1.at fun o q => hs2.extBut i1 o ap.zi1.symm q, s2'.1.at fun o q => hs2.extBut i2 o ap.zi2.symm q⟩
    · by_cases e : c = TI
      · subst e
        rw [upd_ne (Nat.ne_of_lt TIlt)]
        exact (hf c (by simp)).1
      · exact n2 c (by simp at hc' ⊢; rcases hc' with q | q | q | q | q <;> simp_all)
  done := by
    intro X hP hw hK hc i pins s σ H E I hf st hg
    subst hP hw hK
    obtain ⟨hz, hTI, ⟨u0, v0, hTO⟩, h1, h2⟩ := st
    obtain ⟨xs, hq, hx⟩ := hg
    obtain ⟨its, rv, p⟩ := I.sq hq
    have D1 := draws_sq (prog := X.prog) (w := X.w) (A := X.A.in1) (I.ok.hd hc) k1 i1 a (sq_it p h1) its.toArray
    have hl : its.toArray.size = i := by rw [← hx, rv.length]; simp
    have hT : s.TypeIs (.ref z) "zip" := ⟨_, hz, rfl⟩
    unfold pyNext
    refine wpAny_bind (wpAny_attempt (wpAny_callSpecial?_slot (name := Str.ofString "__next__") hT F.slot_zip_next (wpAny_call_entry F.slot_zip_next hT F.entry_zip_next
      (zipD_end D1 ap hz hTI hTO ⟨hl ▸ h1, p⟩ fun h' e hk he => ?_) (F.args_zip_next_1 _))))
    obtain ⟨o, ho, hcl⟩ := he
    refine wpAny_bind (wpAny_isInstance (T := "StopIteration") (b := true) ⟨o, ho, hcl⟩ isSubtype_stop ?_)
    refine wpAny_pure ⟨rfl, I.turnedL (t' := s.toks) (ch := [z, TO, i1, i2]) (fun c o hc' q => hk c o (fun e => hc' (by simp [e])) (fun e => hc' (by simp [e])) (fun e => hc' (by simp [e])) (fun e => hc' (by simp [e])) q)
      (fun c hc' => hf c (by simp at hc' ⊢; rcases hc' with e | e | e | e <;> simp [e]))⟩
  self := fun _ _ _ _ _ st h => wpAny_pyIter_zip st.1 h
theorem zap (n a b : Nat) (ha : a < n) (hb : b < n) : ZAp (n + 4) (n + 2) (n + 3) n (n + 1) [n, a] [n + 1, b] := by
  have q : ∀ {x y u : Nat}, x ≠ y → x ≠ u → ¬ x ∈ [y, u] := fun h1 h2 h3 => by
    rcases List.mem_cons.mp h3 with e | e
    · exact h1 e
    · exact h2 (List.mem_singleton.mp e)
  have d : ∀ {x y : Nat}, x < y → y ≠ x := fun h => Nat.ne_of_gt h
  have e : ∀ {x y : Nat}, x < y → x ≠ y := fun h => Nat.ne_of_lt h
  exact ⟨d (by omega), d (by omega), d (by omega), d (by omega), d (by omega), d (by omega), e (by omega), e (by omega), d (by omega), d (by omega),
    q (d (by omega)) (d (by omega)), q (d (by omega)) (d (by omega)), q (d (by omega)) (d (by omega)), q (d (by omega)) (d (by omega)), q (d (by omega)) (d (by omega)), q (e (by omega)) (d (by omega))⟩
section
variable {X : Cx}
def iZip (k1 k2 : Bool) (K : PySem.W.Frag) (ta : TA) : TI := fun σ H R => ta σ H fun vs H1 => ∃ a b, vs = [.ref a, .ref b] ∧ (∃ xs, SqX K k1 H1 a xs) ∧ (∃ ys, SqX K k2 H1 b ys) ∧ R (Itz k1 k2 K a b) H1
theorem pi_zip (k1 k2 : Bool) {a b : Expr} {ta : TA} {p pos tpos : Pos} {elts : List Expr} {x1} (hg : Gl X "zip") (hm : X.mg "zip" = none) (ha : PA X [a, b] ta) (hs : starEach [a, b] X.env = [(false, eval a X.env), (false, eval b X.env)] := by rfl) (hs2 : starEach [b] X.env = [(false, eval b X.env)] := by rfl) :
    PI X (.Tuple elts x1 tpos) (.Call (.Name "zip" p) [a, b] [] pos) (iZip k1 k2 X.K ta) := by
  intro pins s σ H R I h
  refine Call_ (ld_blt I hg hm boot_zip (PyProof.Rows.callWith_type1 (thn (ha pos pins s σ H _ I h) fun us s1 ⟨vs, H1, I1, r1, q1⟩ => ?_) (by rw [hs, hs2]) (by rw [hs2]; rfl)))
  obtain ⟨l1, l2, rfl, ⟨xs, hq1⟩, ⟨ys, hq2⟩, q⟩ := q1
  obtain ⟨u, v, rfl, r, r'⟩ := vals2 r1
  cases r
  cases r'
  obtain ⟨its1, rv1, p1⟩ := I1.sq hq1
  obtain ⟨its2, rv2, p2⟩ := I1.sq hq2
  have lt1 := p1.lt
  have lt2 := p2.lt
  refine call_zip_sq p1 p2 fun h' hz hTI hTO h1 h2 hk => ?_
  refine wpAny_pyIter_zip (s := { s1 with heap := h' }) hz ?_
  have f : ∀ c, s1.heap.objs.size ≤ c → FpOk X pins H1 c := fun c hc => I1.fpOk hc (I1.hok.fresh hc)
  refine ⟨_, [s1.heap.objs.size + 4, s1.heap.objs.size + 3, s1.heap.objs.size, s1.heap.objs.size + 1, s1.heap.objs.size + 2], _, _, H1, rfl, I1.kept (t' := s1.toks) hk,
    turn_zip k1 k2 l1 l2 _ _ _ _ _ (zap _ _ _ lt1 lt2), ⟨hz, hTI, ⟨_, _, hTO⟩, h1, h2⟩, fun c hc => ?_, q⟩
  simp at hc
  rcases hc with rfl | rfl | rfl | rfl | rfl <;> exact f _ (by omega)
end
end L2
set_option Elab.async false
set_option linter.all false
set_option maxRecDepth 100000
set_option maxHeartbeats 4000000
namespace L2
open PySem PySem.Spec PyProof.Rows
section
variable {X : Cx} {tg iter el : Expr} {ifs : List Expr} {sc : Scope} {pos py spos : Pos} {Nc : List Str} {js : List (Option Nat)} {wi : TI} {i : Nat} {y : Str}
/-- name = [el for tg in iter if ..], the name a local one: it is stored ahead of the block's end -/
theorem ps_lc1x {g : TG} {bd : Addr → TB} (hx : X.xe = fun _ _ => False) (hc : X.calm = true) (hN : X.N.Nodup) (hiN : X.N[i]? = some y) (hy : Loc X.env.scope y) (hi : PI X tg iter wi) (S : CS sc X.env.scope) (cap : capOk js Nc X.N sc.names = true)
    (hg : ∀ C s₂ H₂ fp pins, PG (cxC X Nc sc C s₂ H₂ fp pins) tg g)
    (hb : ∀ C s₂ H₂ fp pins D L, PTl (cxC X Nc sc C s₂ H₂ fp pins) (tailOf ifs (cxC X Nc sc C s₂ H₂ fp pins).env (do let _ ← call (.builtin "list.append") [.ref D, ← eval el (cxC X Nc sc C s₂ H₂ fp pins).env]) L) L (bd D))
    (hs : ∀ x, foldedSetIterable iter X.env x = pure x := by intro _; rfl)
    (hsw : swapsWith (.ListComp el [⟨tg, iter, ifs, 0⟩] sc pos) (some (.Name y py)) spos.line X.env = pure true := by rfl)
    (hf : X.fn y = true ∨ X.env.scope.names.lookup y = some .local := by first | exact .inl rfl | exact .inr rfl | assumption) :
    PS X (.Assign [.Name y py] (.ListComp el [⟨tg, iter, ifs, 0⟩] sc pos) spos) (tAsg (tLC js wi g bd) (gName i)) := by
  intro pins s σ H D0 I h
  have hcl : closureFor sc X.env = pure (clOf sc X.env) := closure_of fun y hy hf => I.ok.has y.1 (.inl (S.free y hy hf))
  rw [exec_Assign_Name_used _ _ _ _ hsw]
  refine wpAny_bind (wpAny_standAt (wpAny_bind ?_))
  show wpAny _ X.A (do let _ ← comprehension (.ListComp el [⟨tg, iter, ifs, 0⟩] sc pos) sc X.env _ (newList []) false (eval iter X.env) (some (assign (.Name y py) X.env))) _ _ s
  refine wpAny_bind (wpAny_mono (wpAny_comprehension_free (use := some (assign (.Name y py) X.env)) (Q := fun _ s' => SP X pins D0 .next s') rfl hs hcl S.kind S.names
    (thn (hi pins s σ H _ I h) fun v s1 h1 => thn h1 fun itv s2 h2 => ?_)) (fun _ s' hq => wpAny_pure (wpAny_pure hq)) fun _ _ e => e)
  obtain ⟨it, fp, tn, J, H2, e, I2, T, st2, f2, hw⟩ := h2
  subst e
  have hlt : ∀ b ∈ fp, b < s2.heap.objs.size := fun b hb => let ⟨o, ho, _⟩ := T.obj _ _ st2 b hb; Heap.lt_size ho
  refine wpAny_newObj_type (wpAny_newFunctionEnv S.nocell (by intro y hy; simp at hy) (fun h₁ hns₁ hsb₁ => ?_) S.kind)
  dsimp only at hns₁ hsb₁ ⊢
  generalize hH2 : s2.heap.push { cls := .type "list", dict := none, data := .seq ([] : List Value).toArray } = G at hns₁ hsb₁ ⊢
  have hCs : G.objs.size = s2.heap.objs.size + 1 := by rw [← hH2, Heap.size_push]
  have hDC : s2.heap.objs.size ≠ G.objs.size := by omega
  have hCle : s2.heap.objs.size ≤ G.objs.size := by omega
  have old : ∀ b o, s2.heap.get? b = some o → h₁.get? b = some o := fun b o e => hsb₁.extBut b o (Nat.ne_of_lt (Nat.lt_of_lt_of_le (Heap.lt_size e) hCle)) (Heap.get?_push_of_some _ (hH2 ▸ Heap.get?_push_of_some _ e))
  have hacc : h₁.get? s2.heap.objs.size = some { cls := .type "list", dict := none, data := .seq ([] : List Value).toArray } := hsb₁.extBut _ _ hDC (Heap.get?_push_of_some _ (hH2 ▸ Heap.get?_push_size _ rfl))
  have new : ObjOk X.prog X.w (upd H2 s2.heap.objs.size (.lst [])) h₁ s2.heap.objs.size (.lst []) := ⟨Nat.zero_le _, [], _, .nil, hacc⟩
  have I4 := inv_comp (js := js) (Nc := Nc) (tk := s2.toks + ([] : List (Str × Value)).length) I2 S f2 hlt cap hCle (Nat.le_refl _) hDC old hns₁ new
  have hn : H2 s2.heap.objs.size = none := I2.fresh
  have f4 : ∀ b ∈ fp, FpOk (cxC X Nc sc G.objs.size s2 H2 fp pins) [] (upd H2 s2.heap.objs.size (.lst [])) b := fun b hb => by
    obtain ⟨h0, h1, h2, h3, h4, h5⟩ := f2 b hb
    refine ⟨?_, Nat.ne_of_lt (Nat.lt_of_lt_of_le (hlt b hb) hCle), fun z => ?_, .inl hb, fun x c z => ?_, fun p hp => ?_⟩
    · rw [upd_ne (Nat.ne_of_lt (hlt b hb))]; exact h0
    · rcases List.mem_cons.mp (I2.stkSub b z) with q | q
      · exact h1 q
      · exact h2 q
    · exact h4 x c (cl_in sc.names [] (fun z => nomatch z) z)
    · rcases List.mem_append.mp hp with z | z
      · exact h5 p z
      · exact absurd z (by simp)
  have st4 : tn 0 h₁ := T.keep _ _ _ st2 fun b hb o e => old b o e
  have loop : codeAny (model X.prog X.w) X.A (.compLoop (.ListComp el [⟨tg, iter, ifs, 0⟩] sc pos) 0 (.ref it) (.ref s2.heap.objs.size) (compEnvC sc (clOf sc X.env) G.objs.size X.env))
      (compPost (model X.prog X.w) X.A X.xe (some (assign (.Name y py) X.env)) (fun _ s' => SP X pins D0 .next s') (.ref s2.heap.objs.size) G.objs.size) { s2 with heap := h₁, toks := s2.toks + ([] : List (Str × Value)).length } := by
    refine comp_loop (X := cxC X Nc sc G.objs.size s2 H2 fp pins) (.inl ⟨el, rfl⟩) hx hc (turn_l1 _ _ _ _ _ _ _ _ _) T (hg _ _ _ _ _) (hb _ _ _ _ _ _ _) I4 st4 f4 (hw _ hn) fun σ' H' s' I' q => ?_
    obtain ⟨m', hm', _⟩ := I'.loc
    have IB : Inv X pins σ H' { s' with heap := s'.heap } := inv_back I2 f2 hCle I' (Heap.SameBut.refl ..)
    have nC : H' G.objs.size = none := I'.free
    have fC : FpOk X pins H' G.objs.size := I2.fpOk hCle nC
    show wpAny _ X.A (assign (.Name y py) X.env (.ref s2.heap.objs.size)) _ _ s'
    refine wpAny_assign_Name (store_ok2 (v := .ref s2.heap.objs.size) IB hN hiN hy rfl (fun s'' IC hsb => ?_) hf)
    obtain ⟨a, sb, ha⟩ := hsb
    have aC : G.objs.size ≠ a := by
      rcases ha with rfl | ha
      · exact fC.2.1
      · exact fun z => fC.2.2.2.2.1 y a ha z.symm
    refine ⟨m', hm'.sameBut sb aC, fun h' hs' => ?_⟩
    exact ⟨_, H', IC.turnedL (t' := s''.toks) (ch := [G.objs.size]) (fun b o hb' e => hs'.extBut b o (fun z => hb' (by simp [z])) e) (fun b hb' => by rw [List.mem_singleton.mp hb']; exact fC), q⟩
  exact comp_start (.inl ⟨el, rfl⟩) rfl rfl loop (T.self _ _ _ _ _ st4 loop)
end
end L2
set_option Elab.async false
set_option linter.all false
set_option maxRecDepth 100000
set_option maxHeartbeats 4000000
namespace L2
open PySem PySem.Spec PyProof.Rows
theorem range_all (bs : List Bool) : (List.range bs.length).all (fun i => bs.getD i false) = bs.all id := by
  rw [Bool.eq_iff_iff, List.all_eq_true, List.all_eq_true]
  constructor
  · intro h b hb
    obtain ⟨i, hi, rfl⟩ := List.mem_iff_getElem.mp hb
    have := h i (List.mem_range.mpr hi)
    simpa [List.getD_eq_getElem?_getD, hi] using this
  · intro h i hi
    have hl : i < bs.length := List.mem_range.mp hi
    have := h bs[i] (List.getElem_mem hl)
    simpa [List.getD_eq_getElem?_getD, hl] using this
theorem vals_bl : ∀ {bs : List Bool} {its : List Value}, Vals (bs.map V.bl) its → its = bs.map Value.bool
  | [], _, r => by cases r; rfl
  | b :: bs, _, r => by
    cases r with
    | cons r1 r2 =>
      cases r1
      rw [vals_bl r2]
      rfl
section
variable {X : Cx}
theorem truth_bl {prog : Program} {w : World} {A : Around} {bs : List Bool} {items : Array Value} (e : items = (bs.map Value.bool).toArray) : TruthOf prog w A (fun i v => items[i]? = some v) (fun i => bs.getD i false) := by
  intro i v s Q E h q
  rw [e] at h
  have h' : (bs.map Value.bool)[i]? = some v := by simpa using h
  rw [List.getElem?_map] at h'
  cases z : bs[i]? with
  | none => rw [z] at h'; cases h'
  | some b =>
    rw [z] at h'
    cases h'
    refine wpAny_truthy_bool ?_
    simpa [List.getD_eq_getElem?_getD, z] using q
theorem call_allL (hc : X.calm = true) : CallR X (.builtin "all") (fun xs H Q => ∃ (a : Addr) (bs : List Bool), xs = [.ref a] ∧ SqL X.K H a (bs.map V.bl) ∧ Q (.bl (bs.all id)) H) := by
  intro pins s σ H xs us Q I r h
  obtain ⟨a, bs, rfl, hS, q⟩ := h
  obtain ⟨u, rfl, r1⟩ := vals1 r
  cases r1
  obtain ⟨its, rv, ht, hz⟩ := I.list hS
  have hl := ht.isList
  have hne : a ≠ s.heap.objs.size := by obtain ⟨o, e, _⟩ := hl; exact Nat.ne_of_lt (Heap.lt_size e)
  have eits := vals_bl rv
  refine call_all_walk (wpAny_pyIter_list hl ⟨_, _, _, _, _, _, _, rfl, Walks.list (A := X.A.in1) (I.ok.hd hc) _ a hne its.toArray, ⟨⟨_, Heap.get?_push_size _ rfl, rfl, rfl⟩, hl.push _⟩, truth_bl (bs := bs) (by rw [eits]), fun h' tk hk => ?_⟩)
  have e : its.toArray.size = bs.length := by rw [eits]; simp
  rw [e, range_all]
  refine ⟨.bl _, H, I.kept fun b o e' => hk b o (fun z => ?_) (Heap.get?_push_of_some _ e'), rfl, q⟩
  rw [List.mem_singleton.mp z] at e'
  exact absurd (Heap.lt_size e') (Nat.lt_irrefl _)
end
end L2
set_option Elab.async false
set_option linter.all false
set_option maxRecDepth 100000
namespace L2
open PySem PySem.Spec PyProof.Rows

section
variable {κ : Type} [DecidableEq κ]
def valV (kvs : List (κ × V)) (k : κ) : Option V := (kvs.find? fun kv => decide (kv.1 = k)).map (·.2)
/-- in its place, or at the end -/
def putK (kvs : List (κ × V)) (k : κ) (v : V) : List (κ × V) :=
  if (kvs.any fun kv => decide (kv.1 = k)) = true then kvs.map (fun kv => if kv.1 = k then (kv.1, v) else kv) else kvs ++ [(k, v)]
def dropK (kvs : List (κ × V)) (k : κ) : List (κ × V) := kvs.filter fun kv => decide (kv.1 ≠ k)

theorem valV_pos {p : κ × V} {r : List (κ × V)} {k : κ} (e : p.1 = k) : valV (p :: r) k = some p.2 := by simp [valV, List.find?_cons, e]
theorem valV_neg {p : κ × V} {r : List (κ × V)} {k : κ} (e : ¬ p.1 = k) : valV (p :: r) k = valV r k := by simp [valV, List.find?_cons, e]
theorem RelO.getD {o : Option V} {u : Option Value} {d : V} {d' : Value} (r : RelO o u) (rd : RelV d d') : RelV (o.getD d) (u.getD d') := by
  cases o with
  | none => cases u with
    | none => exact rd
    | some _ => exact (show False from r).elim
  | some _ => cases u with
    | none => exact (show False from r).elim
    | some _ => exact r

/-- raw tables of the same keys -/
theorem KV.val {kvs : List (κ × V)} {vs : List (κ × Value)} (r : KV kvs vs) (k : κ) : RelO (valV kvs k) (valueAt vs k) := by
  unfold KV at r
  induction r with
  | nil => exact True.intro
  | @cons p q ps qs h t ih =>
    obtain ⟨h1, h2⟩ := h
    by_cases e : p.1 = k
    · have e' : q.1 = k := h1.symm.trans e
      have b : valueAt (q :: qs) k = some q.2 := by simp [valueAt, List.find?_cons, e']
      rw [valV_pos e, b]; exact h2
    · have e' : ¬ q.1 = k := fun z => e (h1.trans z)
      have b : valueAt (q :: qs) k = valueAt qs k := by simp [valueAt, List.find?_cons, e']
      rw [valV_neg e, b]; exact ih
theorem KV.any {kvs : List (κ × V)} {vs : List (κ × Value)} (r : KV kvs vs) (k : κ) : (kvs.any fun kv => decide (kv.1 = k)) = vs.any fun kv => decide (kv.1 = k) := by
  unfold KV at r
  induction r with
  | nil => rfl
  | cons h t ih => rw [List.any_cons, List.any_cons, ih, h.1]
theorem KV.drop {kvs : List (κ × V)} {vs : List (κ × Value)} (r : KV kvs vs) (k : κ) : KV (dropK kvs k) (without vs k) := by
  unfold KV at r ⊢
  unfold dropK without
  induction r with
  | nil => exact .nil
  | @cons p q ps qs h t ih =>
    obtain ⟨h1, h2⟩ := h
    rw [List.filter_cons, List.filter_cons]
    by_cases e : p.1 = k
    · have a : ¬ decide (p.1 ≠ k) = true := by simp [e]
      have b : ¬ decide (q.1 ≠ k) = true := by simp [h1.symm.trans e]
      rw [if_neg a, if_neg b]; exact ih
    · have e' : ¬ q.1 = k := fun z => e (h1.trans z)
      have a : decide (p.1 ≠ k) = true := by simp [e]
      have b : decide (q.1 ≠ k) = true := by simp [e']
      rw [if_pos a, if_pos b]; exact .cons ⟨h1, h2⟩ ih
theorem KV.keys {kvs : List (κ × V)} {vs : List (κ × Value)} (r : KV kvs vs) : kvs.map (·.1) = vs.map (·.1) := by
  unfold KV at r
  induction r with
  | nil => rfl
  | cons h t ih => rw [List.map_cons, List.map_cons, ih, h.1]
theorem KV.length {kvs : List (κ × V)} {vs : List (κ × Value)} (r : KV kvs vs) : kvs.length = vs.length := Paired.length r
end


/-- raw entries of a dict with tuple keys -/
abbrev KT (H : Hp) : List (List Key × V) → List (List Key × Addr × Value) → Prop := Paired fun p q => p.1 = q.1 ∧ H q.2.1 = some (.tup (p.1.map kV)) ∧ RelV p.2 q.2.2
theorem KT.val {H : Hp} {kvs : List (List Key × V)} {xs : List (List Key × Addr × Value)} (r : KT H kvs xs) (k : List Key) : RelO (valV kvs k) ((atKey xs k).map (·.2)) := by
  induction r with
  | nil => exact True.intro
  | @cons p q ps qs h t ih =>
    obtain ⟨h1, _, h2⟩ := h
    by_cases e : p.1 = k
    · have e' : q.1 = k := h1.symm.trans e
      have b : atKey (q :: qs) k = some q.2 := by simp [atKey, List.find?_cons, e']
      rw [valV_pos e, b]; exact h2
    · have e' : ¬ q.1 = k := fun z => e (h1.trans z)
      have b : atKey (q :: qs) k = atKey qs k := by simp [atKey, List.find?_cons, e']
      rw [valV_neg e, b]; exact ih
theorem KT.keeps {H H' : Hp} {kvs : List (List Key × V)} {xs : List (List Key × Addr × Value)} (r : KT H kvs xs) (ht : ∀ b ys, H b = some (.tup ys) → H' b = some (.tup ys)) : KT H' kvs xs :=
  Paired.mapP r fun _ _ z => ⟨z.1, ht _ _ z.2.1, z.2.2⟩

section
variable {P : Program} {w : World} {H : Hp} {h : Heap} {a : Addr}
end

/-- what the dict at a holds at the key y -/
def DGet (H : Hp) (a : Addr) (y : V) (r : Option V) : Prop :=
  (∃ kvs k, Rd H a (.dK kvs) ∧ y = kV k ∧ r = valV kvs k) ∨ ∃ kvs k b, Rd H a (.dT kvs) ∧ y = .ref b ∧ H b = some (.tup (k.map kV)) ∧ r = valV kvs k
/-- the heap behind a[y] = v -/
def DPut (H : Hp) (a : Addr) (y v : V) (H' : Hp) : Prop :=
  (∃ kvs k, H a = some (.dK kvs) ∧ y = kV k ∧ kvs.length < sizeLine ∧ H' = upd H a (.dK (putK kvs k v))) ∨
  ∃ kvs k b, H a = some (.dT kvs) ∧ y = .ref b ∧ H b = some (.tup (k.map kV)) ∧ kvs.length < sizeLine ∧ H' = upd H a (.dT (putK kvs k v))
theorem DGet.k {H : Hp} {a : Addr} {kvs : List (Key × V)} {k : Key} (e : H a = some (.dK kvs)) : DGet H a (kV k) (valV kvs k) := .inl ⟨kvs, k, .inl e, rfl, rfl⟩
theorem DGet.t {H : Hp} {a b : Addr} {kvs : List (List Key × V)} {k : List Key} (e : H a = some (.dT kvs)) (eb : H b = some (.tup (k.map kV))) : DGet H a (.ref b) (valV kvs k) := .inr ⟨kvs, k, b, .inl e, rfl, eb, rfl⟩
theorem DPut.k {H : Hp} {a : Addr} {kvs : List (Key × V)} {k : Key} {v : V} (e : H a = some (.dK kvs)) (hl : kvs.length < sizeLine) : DPut H a (kV k) v (upd H a (.dK (putK kvs k v))) := .inl ⟨kvs, k, e, rfl, hl, rfl⟩
theorem DPut.t {H : Hp} {a b : Addr} {kvs : List (List Key × V)} {k : List Key} {v : V} (e : H a = some (.dT kvs)) (eb : H b = some (.tup (k.map kV))) (hl : kvs.length < sizeLine) :
    DPut H a (.ref b) v (upd H a (.dT (putK kvs k v))) := .inr ⟨kvs, k, b, e, rfl, eb, hl, rfl⟩


section
variable {X : Cx} {pins : List (Addr × Obj)} {σ : St} {H : Hp} {s : Shared} {a : Addr} {y v : V} {u r : Value} {o : Option V} {A : Around} {E : Value → Shared → Prop}

end

section
variable {X : Cx} {pins : List (Addr × Obj)} {σ : St} {H : Hp} {s : Shared} {a : Addr} {kvs : List (Key × V)} {k : Key} {u : Value} {A : Around} {E : Value → Shared → Prop}
end


section
variable {X : Cx} {o i e value : Expr} {pos pos' tpos : Pos} {td ty tv : TE}
end


section
variable {X : Cx} {pos : Pos}
end

section
variable {X : Cx} {pins : List (Addr × Obj)} {σ : St} {H : Hp} {s : Shared} {a : Addr} {y d : V} {u r : Value} {o : Option V} {A : Around} {E : Value → Shared → Prop}
end

section
variable {X : Cx} {o e f : Expr} {apos cpos : Pos} {td ty tx : TE}
end

section
variable {X : Cx} {pins : List (Addr × Obj)} {σ : St} {H : Hp} {s : Shared} {a : Addr} {kvs : List (Key × V)} {A : Around} {E : Value → Shared → Prop}
end


section
variable {X : Cx} {pins : List (Addr × Obj)} {σ : St} {H : Hp} {s : Shared} {a : Addr} {y : V} {u : Value} {A : Around} {E : Value → Shared → Prop}
end
end L2

namespace L2
open PySem PySem.Spec PyProof.Rows
section
variable {κ : Type} [DecidableEq κ]
end
end L2
set_option Elab.async false
set_option linter.all false
set_option maxRecDepth 100000
set_option maxHeartbeats 4000000
namespace L2
open PySem PySem.Spec PyProof.Rows
section
variable {X : Cx}
end
mutual
/-- tuples, ints, truths, texts alone -/
def onlyT : PyData → Bool
  | .none | .bool _ | .int _ | .str _ => true
  | .tuple xs => onlyTs xs
  | .list _ | .dict _ => false
def onlyTs : List PyData → Bool
  | [] => true
  | x :: xs => onlyT x && onlyTs xs
end
mutual
theorem reads_no {h : Heap} : ∀ (d : PyData) (u : Value) (as : List Addr), Reads h u d as → onlyT d = true → as = []
  | .none, _, _, r, _ => by cases r; rfl
  | .bool _, _, _, r, _ => by cases r; rfl
  | .int _, _, _, r, _ => by cases r; rfl
  | .str _, _, _, r, _ => by cases r; rfl
  | .tuple xs, _, _, r, e => by
    cases r with
    | tuple h1 h2 h3 h4 => exact reads_nos xs _ _ h4 (by simpa [onlyT] using e)
  | .list _, _, _, _, e => by simp [onlyT] at e
  | .dict _, _, _, _, e => by simp [onlyT] at e
theorem reads_nos {h : Heap} : ∀ (ds : List PyData) (us : List Value) (as : List Addr), ReadsAll h us ds as → onlyTs ds = true → as = []
  | [], _, _, r, _ => by cases r; rfl
  | d :: ds, _, _, r, e => by
    have e' : onlyT d = true ∧ onlyTs ds = true := by simpa [onlyTs] using e
    cases r with
    | cons r1 r2 => rw [reads_no d _ _ r1 e'.1, reads_nos ds _ _ r2 e'.2]; rfl
end
section
variable {X : Cx}
def DtS (X : Cx) (H : Hp) (d : PyData) (v : V) : Prop := ∀ (pins : List (Addr × Obj)) (s : Shared) (σ : St) (u : Value), Inv X pins σ H s → RelV v u → ∃ as, Reads s.heap u d as ∧ sysModules ∉ as
theorem DtS.of {H : Hp} {d : PyData} {v : V} (h : Dt X.K H d v) (o : onlyT d = true) : DtS X H d v := fun pins s σ u I r => by
  obtain ⟨as, q⟩ := Dt.reads I d v u r h
  rw [reads_no d u as q o] at q
  exact ⟨[], q, by simp⟩
theorem DtS.pair {H : Hp} {a : Addr} {d e : PyData} {x y : V} (h : H a = some (.tup [x, y])) (h1 : DtS X H d x) (h2 : DtS X H e y) : DtS X H (.tuple [d, e]) (.ref a) := fun pins s σ u I r => by
  cases r
  obtain ⟨its, rv, ⟨o, e1, e2, n, e3⟩, hz⟩ := I.tuple (SqT.of (K := X.K) h)
  cases rv with
  | cons r1 rr =>
    cases rr with
    | cons r2 rr =>
      cases rr
      obtain ⟨as, q1, w1⟩ := h1 pins s σ _ I r1
      obtain ⟨bs, q2, w2⟩ := h2 pins s σ _ I r2
      refine ⟨_, .tuple e1 e2 e3 (by simpa using ReadsAll.cons q1 (ReadsAll.cons q2 .nil)), ?_⟩
      simp [w1, w2]
/-- a table from tuples of ints to ints -/
def kvD (p : List Int × Int) : PyData × PyData := (.tuple (p.1.map PyData.int), .int p.2)
theorem dt_ints {H : Hp} {P : Program} {w : World} {h : Heap} {b : Addr} {k : List Int} (ok : HOk P w H h) (e : H b = some (.tup (k.map V.int))) : Reads h (.ref b) (.tuple (k.map PyData.int)) [] := by
  obtain ⟨z, its, rv, ⟨o, e1, e2, n, e3, _⟩⟩ := (show ObjOk P w H h b (.tup (k.map V.int)) from ok b _ e)
  refine .tuple e1 e2 e3 ?_
  have : ∀ (k : List Int) (its : List Value), Vals (k.map V.int) its → ReadsAll h its (k.map PyData.int) [] := fun k => by
    induction k with
    | nil => intro its r; cases r; exact .nil
    | cons i k ih =>
      intro its r
      cases r with
      | cons r1 r2 =>
        obtain ⟨t, rfl⟩ := r1
        exact ReadsAll.cons (.int i t) (ih _ r2)
  simpa using this k its rv
def kvV (p : List Int × Int) : List Key × V := (p.1.map Sum.inl, .int p.2)
theorem kv_key (k : List Int) : (k.map (Sum.inl (α := Int) (β := Str))).map kV = k.map V.int := by
  rw [List.map_map]
  rfl
theorem DtS.table {H : Hp} {a : Addr} {ps : List (List Int × Int)} (h : H a = some (.dT (ps.map kvV))) : DtS X H (.dict (ps.map kvD)) (.ref a) := fun pins s σ u I r => by
  cases r
  obtain ⟨z, y, xs, pr, o, es, ep, h1, h2, h3, h4, h5⟩ := (show ObjOk X.prog X.w H s.heap a (.dT (ps.map kvV)) from I.hok a _ h)
  have key : ∀ (ps : List (List Int × Int)) (xs : List (List Key × Addr × Value)), Paired (fun (p : List Key × V) (q : List Key × Addr × Value) => p.1 = q.1 ∧ H q.2.1 = some (.tup (p.1.map kV)) ∧ RelV p.2 q.2.2) (ps.map kvV) xs →
      ReadsAll s.heap ((xs.map (entryOfKey (tupleKind (mixKind X.prog X.w)))).map (·.key)) ((ps.map kvD).map (·.1)) [] ∧ ReadsAll s.heap ((xs.map (entryOfKey (tupleKind (mixKind X.prog X.w)))).map (·.val)) ((ps.map kvD).map (·.2)) [] := fun ps => by
    induction ps with
    | nil => intro xs r; cases r; exact ⟨.nil, .nil⟩
    | cons p ps ih =>
      intro xs r
      cases r with
      | cons r1 r2 =>
        obtain ⟨e1, e2, e3⟩ := r1
        obtain ⟨i1, i2⟩ := ih _ r2
        have e2' := e2
        rw [show (kvV p).1.map kV = p.1.map V.int from kv_key p.1] at e2'
        obtain ⟨t, et⟩ := e3
        have hv : ∀ {q : List Key × Addr × Value}, q.2.2 = Value.int p.2 t → Reads s.heap (entryOfKey (tupleKind (mixKind X.prog X.w)) q).val (.int p.2) [] := fun {q} z => by
          show Reads s.heap q.2.2 (.int p.2) []
          rw [z]; exact .int _ _
        exact ⟨ReadsAll.cons (as := []) (bs := []) (dt_ints I.hok e2') i1, ReadsAll.cons (as := []) (bs := []) (hv et) i2⟩
  obtain ⟨k1, k2⟩ := key ps xs pr
  have hcls : o.cls = .type "dict" := h2.1
  refine ⟨a :: [] ++ [], .dict h1 hcls h3 (by rw [h4]; exact k1) (by rw [h4]; exact k2), ?_⟩
  intro w
  have e : sysModules = a := by simpa using w
  rw [e] at y
  simp at y
end
end L2
set_option Elab.async false
set_option linter.all false
set_option maxRecDepth 100000
set_option maxHeartbeats 4000000
namespace L2
open PySem PySem.Spec PyProof.Rows
section
variable {X : Cx} {tg iter el tg2 iter2 : Expr} {ifs ifs2 : List Expr} {sc : Scope} {pos : Pos} {Nc : List Str} {js : List (Option Nat)} {wi wi2 : TI} {g g2 : TG}
/-- the second clause, within a turn of the first -/
def bFor2 (wi2 : TI) (g2 : TG) (b2 : TB) : TB := fun N σ H => wi2 σ H fun J H1 => tWalk J g2 b2 N σ H1
theorem pt_tail2 {D : Addr} {b2 : TB} {L : Code} {e : Expr} (ee : e = .ListComp el [⟨tg, iter, [], 0⟩, ⟨tg2, iter2, ifs2, 0⟩] sc pos) (hx : X.xe = fun _ _ => False) (hc : X.calm = true) (hi : PI X tg2 iter2 wi2) (hg : PG X tg2 g2)
    (hb : ∀ L, PTl X (tailOf ifs2 X.env (do let _ ← call (.builtin "list.append") [.ref D, ← eval el X.env]) L) L b2) (hs : ∀ x, foldedSetIterable iter2 X.env x = pure x) :
    PTl X (tail2 [] X.env iter2 (fun i => .compStart e 1 i (.ref D) X.env) L) L (bFor2 wi2 g2 b2) := by
  subst ee
  intro pins s σ H N I h
  unfold tail2
  refine wpAny_bind (wpAny_tests_nil ?_)
  show wpAny _ _ (eval iter2 X.env >>= _) _ _ s
  refine wpAny_bind (thn (hi pins s σ H _ I h) fun v s1 h1 => ?_)
  refine wpAny_bind (wpAny_standAt (wpAny_bind (wpAny_of_eq (hs v) (wpAny_bind (wpAny_holding (thn h1 fun itv s2 h2 => ?_))))))
  obtain ⟨it, fp, tn, J, H2, e, I2, T, st2, f2, hw⟩ := h2
  subst e
  refine wpAny_bind (wpAny_runOwn ?_)
  have loop : codeAny (model X.prog X.w) X.A (.compLoop (.ListComp el [⟨tg, iter, [], 0⟩, ⟨tg2, iter2, ifs2, 0⟩] sc pos) 1 (.ref it) (.ref D) X.env)
      (fun r s' => match r with | .ok _ => wpAny (model X.prog X.w) X.A (again L) (fun fin s' => fin = .again L ∧ ∃ σ' H', Inv X pins σ' H' s' ∧ N σ' H') X.xe s' | .error e => cameBackBy (model X.prog X.w) X.A X.env X.xe e s') s2 :=
    comp_loop (.inl ⟨el, rfl⟩) hx hc (turn_l21 _ _ _ _ _ _ _ _ _ _ _ _) T hg (hb _) I2 st2 f2 hw fun σ' H' s' I' q => wpAny_pure ⟨rfl, σ', H', I', q⟩
  exact comp_start (.inl ⟨el, rfl⟩) rfl rfl loop (T.self _ _ _ _ _ st2 loop)
theorem pe_lc2x {bd : Addr → TB} (hx : X.xe = fun _ _ => False) (hc : X.calm = true) (hi : PI X tg iter wi) (S : CS sc X.env.scope) (cap : capOk js Nc X.N sc.names = true)
    (hg : ∀ C s₂ H₂ fp pins, PG (cxC X Nc sc C s₂ H₂ fp pins) tg g) (hi2 : ∀ C s₂ H₂ fp pins, PI (cxC X Nc sc C s₂ H₂ fp pins) tg2 iter2 wi2) (hg2 : ∀ C s₂ H₂ fp pins, PG (cxC X Nc sc C s₂ H₂ fp pins) tg2 g2)
    (hb : ∀ C s₂ H₂ fp pins D L, PTl (cxC X Nc sc C s₂ H₂ fp pins) (tailOf ifs2 (cxC X Nc sc C s₂ H₂ fp pins).env (do let _ ← call (.builtin "list.append") [.ref D, ← eval el (cxC X Nc sc C s₂ H₂ fp pins).env]) L) L (bd D))
    (hs : ∀ x, foldedSetIterable iter X.env x = pure x := by intro _; rfl) (hs2 : ∀ C s₂ H₂ fp pins x, foldedSetIterable iter2 (cxC X Nc sc C s₂ H₂ fp pins).env x = pure x := by intro _ _ _ _ _ _; rfl) :
    PE X (.ListComp el [⟨tg, iter, [], 0⟩, ⟨tg2, iter2, ifs2, 0⟩] sc pos) (tLC js wi g fun D => bFor2 wi2 g2 (bd D)) := by
  intro pins s σ H Q I h
  rw [eval_ListComp]
  have hcl : closureFor sc X.env = pure (clOf sc X.env) := closure_of fun y hy hf => I.ok.has y.1 (.inl (S.free y hy hf))
  refine wpAny_comprehension_free (use := none) rfl hs hcl S.kind S.names (thn (hi pins s σ H _ I h) fun v s1 h1 => thn h1 fun itv s2 h2 => ?_)
  obtain ⟨it, fp, tn, J, H2, e, I2, T, st2, f2, hw⟩ := h2
  subst e
  have hlt : ∀ b ∈ fp, b < s2.heap.objs.size := fun b hb => let ⟨o, ho, _⟩ := T.obj _ _ st2 b hb; Heap.lt_size ho
  refine wpAny_newObj_type (wpAny_newFunctionEnv S.nocell (by intro y hy; simp at hy) (fun h₁ hns₁ hsb₁ => ?_) S.kind)
  dsimp only at hns₁ hsb₁ ⊢
  generalize hH2 : s2.heap.push { cls := .type "list", dict := none, data := .seq ([] : List Value).toArray } = G at hns₁ hsb₁ ⊢
  have hCs : G.objs.size = s2.heap.objs.size + 1 := by rw [← hH2, Heap.size_push]
  have hDC : s2.heap.objs.size ≠ G.objs.size := by omega
  have hCle : s2.heap.objs.size ≤ G.objs.size := by omega
  have old : ∀ b o, s2.heap.get? b = some o → h₁.get? b = some o := fun b o e => hsb₁.extBut b o (Nat.ne_of_lt (Nat.lt_of_lt_of_le (Heap.lt_size e) hCle)) (Heap.get?_push_of_some _ (hH2 ▸ Heap.get?_push_of_some _ e))
  have hacc : h₁.get? s2.heap.objs.size = some { cls := .type "list", dict := none, data := .seq ([] : List Value).toArray } := hsb₁.extBut _ _ hDC (Heap.get?_push_of_some _ (hH2 ▸ Heap.get?_push_size _ rfl))
  have new : ObjOk X.prog X.w (upd H2 s2.heap.objs.size (.lst [])) h₁ s2.heap.objs.size (.lst []) := ⟨Nat.zero_le _, [], _, .nil, hacc⟩
  have I4 := inv_comp (js := js) (Nc := Nc) (tk := s2.toks + ([] : List (Str × Value)).length) I2 S f2 hlt cap hCle (Nat.le_refl _) hDC old hns₁ new
  have hn : H2 s2.heap.objs.size = none := I2.fresh
  have f4 : ∀ b ∈ fp, FpOk (cxC X Nc sc G.objs.size s2 H2 fp pins) [] (upd H2 s2.heap.objs.size (.lst [])) b := fun b hb => by
    obtain ⟨h0, h1, h2, h3, h4, h5⟩ := f2 b hb
    refine ⟨?_, Nat.ne_of_lt (Nat.lt_of_lt_of_le (hlt b hb) hCle), fun z => ?_, .inl hb, fun x c z => ?_, fun p hp => ?_⟩
    · rw [upd_ne (Nat.ne_of_lt (hlt b hb))]; exact h0
    · rcases List.mem_cons.mp (I2.stkSub b z) with q | q
      · exact h1 q
      · exact h2 q
    · exact h4 x c (cl_in sc.names [] (fun z => nomatch z) z)
    · rcases List.mem_append.mp hp with z | z
      · exact h5 p z
      · exact absurd z (by simp)
  have st4 : tn 0 h₁ := T.keep _ _ _ st2 fun b hb o e => old b o e
  have loop : codeAny (model X.prog X.w) X.A (.compLoop (.ListComp el [⟨tg, iter, [], 0⟩, ⟨tg2, iter2, ifs2, 0⟩] sc pos) 0 (.ref it) (.ref s2.heap.objs.size) (compEnvC sc (clOf sc X.env) G.objs.size X.env))
      (compPost (model X.prog X.w) X.A X.xe none (EP X pins σ Q) (.ref s2.heap.objs.size) G.objs.size) { s2 with heap := h₁, toks := s2.toks + ([] : List (Str × Value)).length } := by
    refine comp_loop (X := cxC X Nc sc G.objs.size s2 H2 fp pins) (.inl ⟨el, rfl⟩) hx hc (turn_l20 _ _ _ _ _ _ _ _ _ _ _ _) T (hg _ _ _ _ _)
      (pt_tail2 (X := cxC X Nc sc G.objs.size s2 H2 fp pins) rfl hx hc (hi2 _ _ _ _ _) (hg2 _ _ _ _ _) (fun L => hb _ _ _ _ _ _ L) (hs2 _ _ _ _ _)) I4 st4 f4 (hw _ hn) fun σ' H' s' I' q => ?_
    obtain ⟨m', hm', _⟩ := I'.loc
    exact ⟨m', hm', fun h' hs' => ⟨.ref s2.heap.objs.size, H', inv_back I2 f2 hCle I' hs', rfl, q⟩⟩
  exact comp_start (.inl ⟨el, rfl⟩) rfl rfl loop (T.self _ _ _ _ _ st4 loop)
end
end L2
set_option Elab.async false
set_option linter.all false
set_option maxRecDepth 100000
set_option maxHeartbeats 4000000
namespace L2
open PySem PySem.Spec PyProof.Rows
section
variable {X : Cx}
end
end L2
set_option Elab.async false
set_option linter.all false
set_option maxRecDepth 100000
set_option maxHeartbeats 4000000
namespace L2
open PySem PySem.Spec PyProof.Rows
open AutoSeq1 (wpAny_loadPart')
section
variable {X : Cx}
end
end L2
set_option Elab.async false
set_option linter.all false
set_option maxRecDepth 100000
set_option maxHeartbeats 4000000
namespace L2
open PySem PySem.Spec PyProof.Rows
section
variable {X : Cx}
end
end L2
set_option Elab.async false
set_option linter.all false
set_option maxRecDepth 100000
set_option maxHeartbeats 4000000
namespace L2
open PySem PySem.Spec PyProof.Rows
section
variable {prog : Program} {w : World} {A : Around} {E : Value → Shared → Prop} {s : Shared} {z TI TO i1 i2 : Addr} {fp1 fp2 : List Addr} {n1 n2 j : Nat} {P1 P2 : Nat → Value → Prop} {S1 S2 : Nat → Heap → Prop} {a b : Value}
/-- the second one ends first -/
theorem zipD_end2 {Q : PySem.Fin → Shared → Prop} (D1 : Draws prog w A i1 fp1 n1 P1 S1) (D2 : Draws prog w A i2 fp2 n2 P2 S2) (ap : ZAp z TI TO i1 i2 fp1 fp2)
    (hz : IsZip s.heap z TI TO .none) (hTI : IsPair s.heap TI (.ref i1) (.ref i2)) (hTO : IsPair s.heap TO a b) (h1 : S1 n2 s.heap) (h2 : S2 n2 s.heap) (l1 : n2 < n1)
    (hE : ∀ h' e tk, (∀ c o, c ≠ z → c ≠ TO → c ≠ i1 → c ≠ i2 → s.heap.get? c = some o → h'.get? c = some o) → (∃ o, h'.get? e = some o ∧ o.cls = .type "StopIteration") → E (.ref e) { s with heap := h', toks := tk }) :
    wpAny (model prog w) A (Builtin.«zip.__next__» ⟨[.ref z], []⟩) Q E s := by
  have fr1 : ∀ {i : Nat} {h h' : Heap} {c : Addr}, S1 i h → Heap.SameBut c h h' → c ∉ fp1 → S1 i h' := fun st sb hc => D1.frame _ _ _ st fun b hb o e => sb.extBut b o (fun q => hc (q ▸ hb)) e
  have fr2 : ∀ {i : Nat} {h h' : Heap} {c : Addr}, S2 i h → Heap.SameBut c h h' → c ∉ fp2 → S2 i h' := fun st sb hc => D2.frame _ _ _ st fun b hb o e => sb.extBut b o (fun q => hc (q ▸ hb)) e
  show wpAny _ _ (field (.ref z) 2 >>= _) _ _ _
  refine wpAny_bind (wpAny_field hz rfl (x := .bool false) rfl ?_)
  show wpAny _ _ (field (.ref z) 3 >>= _) _ _ _
  refine wpAny_bind (wpAny_field hz rfl (x := .ref TI) rfl ?_)
  refine wpAny_bind (wpAny_seqItems hTI rfl ?_)
  show wpAny _ _ (Builtin.SmallTypes.ownedTupleIsFree (.ref z) >>= _) _ _ _
  refine wpAny_bind ?_
  unfold Builtin.SmallTypes.ownedTupleIsFree
  refine wpAny_bind (wpAny_field hz rfl (x := .none) rfl (wpAny_pure ?_))
  simp only [if_true]
  refine wpAny_bind (wpAny_rule ?_)
  refine wpAny_bind (wpAny_field hz rfl (x := .ref TO) rfl ?_)
  refine wpAny_bind (wpAny_setField_rec hz (by simp) fun g1 z1 s1 => ?_)
  replace z1 : IsZip g1 z TI TO .ellipsis := z1
  refine wpAny_bind ?_
  simp only [List.zipIdx_cons, List.zipIdx_nil, List.forIn_cons, List.forIn_nil]
  -- the first one
  refine wpAny_bind (wpAny_bind (wpAny_onRaise ?_))
  show wpAny _ _ (Builtin.SmallTypes.nextOf (.ref i1) >>= _) _ _ _
  refine wpAny_bind (D1.item n2 _ _ _ l1 (fr1 h1 s1 ap.z1) fun x g2 tk2 px st2 s2 => wpAny_pure ?_)
  have o2 : IsPair g2 TO a b := s2.extBut _ _ ap.TOi1 (s1.extBut _ _ ap.zTO.symm hTO)
  refine wpAny_bind (wpAny_seqItems o2 rfl ?_)
  refine wpAny_bind (wpAny_updateSeq_pair o2 fun g3 o3 s3 => ?_)
  replace o3 : IsPair g3 TO x b := o3
  refine wpAny_bind (wpAny_letGo (wpAny_pure ?_))
  refine wpAny_bind (wpAny_bind (wpAny_onRaise ?_))
  show wpAny _ _ (Builtin.SmallTypes.nextOf (.ref i2) >>= _) _ _ _
  refine wpAny_bind (D2.done _ _ _ (fr2 (fr2 (fr2 h2 s1 ap.z2) s2 ap.i1f) s3 ap.t2) fun g4 e s4 he => ?_)
  obtain ⟨oe, hoe, hce⟩ := he
  have z3 : IsZip g3 z TI TO .ellipsis := s3.extBut _ _ ap.zTO (s2.extBut _ _ ap.zi1 z1)
  have z4 : IsZip g4 z TI TO .ellipsis := s4 _ _ ap.zi2 z3
  have ez : e ≠ z := fun q => by subst q; rw [z4] at hoe; cases hoe; simp at hce
  exact wpAny_setField_rec z4 (by simp) fun g5 _ s5 => hE g5 e _ (fun c o c1 c2 c3 c4 q => s5.extBut _ _ c1 (s4 _ _ c4 (s3.extBut _ _ c2 (s2.extBut _ _ c3 (s1.extBut _ _ c1 q))))) ⟨oe, s5.extBut _ _ ez hoe, hce⟩
end
/-- (x, y) of two; the second one ends first -/
def Itz2 (k1 k2 : Bool) (K : PySem.W.Frag) (a b : Addr) : It :=
  ⟨fun i H => ∃ xs ys x y, SqX K k1 H a xs ∧ SqX K k2 H b ys ∧ xs[i]? = some x ∧ ys[i]? = some y,
   fun i H v H' => ∃ T x y, H T = none ∧ v = .ref T ∧ (∀ xs, SqX K k1 H a xs → xs[i]? = some x) ∧ (∀ ys, SqX K k2 H b ys → ys[i]? = some y) ∧ H' = upd H T (.tup [x, y]),
   fun i H => ∃ xs ys x, SqX K k1 H a xs ∧ SqX K k2 H b ys ∧ xs[i]? = some x ∧ ys.length = i⟩
theorem turn_zip2 {P : Program} {w : World} {K : PySem.W.Frag} {elts : List Expr} {x1} {pos : Pos} (k1 k2 : Bool) (a b z TI TO i1 i2 : Addr) (ap : ZAp z TI TO i1 i2 [i1, a] [i2, b]) :
    Turn P w K (.Tuple elts x1 pos) (Itz2 k1 k2 K a b) [z, TO, i1, i2, TI] z
      (fun i h => IsZip h z TI TO .none ∧ IsPair h TI (.ref i1) (.ref i2) ∧ (∃ u v, IsPair h TO u v) ∧ ItOf k1 h i1 a i ∧ ItOf k2 h i2 b i) where
  mem := by simp
  obj := fun i h st c hc => by
    obtain ⟨hz, hTI, ⟨u, v, hTO⟩, h1, h2⟩ := st
    simp only [List.mem_cons, List.not_mem_nil, or_false] at hc
    rcases hc with rfl | rfl | rfl | rfl | rfl
    · exact ⟨_, hz, fun v q => by cases q⟩
    · exact ⟨_, hTO, fun v q => by cases q⟩
    · exact h1.live
    · exact h2.live
    · exact ⟨_, hTI, fun v q => by cases q⟩
  keep := fun i h h' st kk => by
    obtain ⟨hz, hTI, ⟨u, v, hTO⟩, h1, h2⟩ := st
    exact ⟨kk z (by simp) _ hz, kk TI (by simp) _ hTI, ⟨u, v, kk TO (by simp) _ hTO⟩, h1.at fun o q => kk i1 (by simp) o q, h2.at fun o q => kk i2 (by simp) o q⟩
  item := by
    intro X hP hw hK hc i pins s σ H E I hf st hg
    subst hP hw hK
    obtain ⟨hz, hTI, ⟨u0, v0, hTO⟩, h1, h2⟩ := st
    obtain ⟨xs, ys, x, y, hq1, hq2, hx, hy⟩ := hg
    obtain ⟨its1, rv1, p1⟩ := I.sq hq1
    obtain ⟨its2, rv2, p2⟩ := I.sq hq2
    obtain ⟨u, hu, ru⟩ := rv1.get hx
    obtain ⟨v, hv, rv⟩ := rv2.get hy
    have D1 := draws_sq (prog := X.prog) (w := X.w) (A := X.A.in1) (I.ok.hd hc) k1 i1 a (sq_it p1 h1) its1.toArray
    have D2 := draws_sq (prog := X.prog) (w := X.w) (A := X.A.in1) (I.ok.hd hc) k2 i2 b (sq_it p2 h2) its2.toArray
    have hlt1 : i < its1.toArray.size := by simpa using (List.getElem?_eq_some_iff.mp hu).1
    have hlt2 : i < its2.toArray.size := by simpa using (List.getElem?_eq_some_iff.mp hv).1
    have hT : s.TypeIs (.ref z) "zip" := ⟨_, hz, rfl⟩
    unfold pyNext
    refine wpAny_bind (wpAny_attempt (wpAny_callSpecial?_slot (name := Str.ofString "__next__") hT F.slot_zip_next (wpAny_call_entry F.slot_zip_next hT F.entry_zip_next
      (zipD_item D1 D2 ap hz hTI hTO ⟨h1, p1⟩ ⟨h2, p2⟩ hlt1 hlt2 fun u' v' h' tk hu' hv' z' o' s1' s2' t' hk => wpAny_pure ?_) (F.args_zip_next_1 _))))
    have eu : u' = u := by
      have q : its1[i]? = some u' := by simpa using hu'
      rw [hu] at q
      exact (Option.some.inj q).symm
    have ev : v' = v := by
      have q : its2[i]? = some v' := by simpa using hv'
      rw [hv] at q
      exact (Option.some.inj q).symm
    subst eu ev
    refine ⟨_, rfl, wpAny_letOwnedTupleGo_zip z' fun g hz2 hs2 => ?_⟩
    have zlt : z < s.heap.objs.size := Heap.lt_size hz
    have TOlt : TO < s.heap.objs.size := Heap.lt_size hTO
    have i1lt : i1 < s.heap.objs.size := let ⟨_, e, _⟩ := h1.live; Heap.lt_size e
    have i2lt : i2 < s.heap.objs.size := let ⟨_, e, _⟩ := h2.live; Heap.lt_size e
    have TIlt : TI < s.heap.objs.size := Heap.lt_size hTI
    have hT2 : g.get? s.heap.objs.size = some { cls := .type "tuple", data := .seq #[u', v'] } := hs2.extBut _ _ (Nat.ne_of_gt zlt) t'
    obtain ⟨I2, n2⟩ := I.handed (t' := tk) (ch := [z, TO, i1, i2]) ru rv hT2 (fun c o hc' q => hs2.extBut c o (fun e => hc' (by simp [e])) (hk c o (fun e => hc' (by simp [e])) (fun e => hc' (by simp [e])) (fun e => hc' (by simp [e])) (fun e => hc' (by simp [e])) q))
      (fun c hc' => hf c (by simp at hc' ⊢; rcases hc' with e | e | e | e <;> simp [e]))
      (fun c hc' => by simp at hc'; rcases hc' with rfl | rfl | rfl | rfl <;> assumption)
    refine ⟨.ref s.heap.objs.size, _, I2, rfl, ⟨_, x, y, I.hok.fresh (Nat.le_refl _), rfl, (fun xs' hxs => by rw [I.sq_inj hxs hq1]; exact hx), (fun ys' hys => by rw [I.sq_inj hys hq2]; exact hy), rfl⟩, ?_, fun c hc' => ?_⟩
    · exact ⟨hz2, hs2.extBut _ _ ap.zTI.symm (hk _ _ ap.zTI.symm ap.TITO ap.TIi1 ap.TIi2 hTI), ⟨_, _, hs2.extBut _ _ ap.zTO.symm o'⟩, s1'.1.at fun o q => hs2.extBut i1 o ap.zi1.symm q, s2'.1.at fun o q => hs2.extBut i2 o ap.zi2.symm q⟩
    · by_cases e : c = TI
      · subst e
        rw [upd_ne (Nat.ne_of_lt TIlt)]
        exact (hf c (by simp)).1
      · exact n2 c (by simp at hc' ⊢; rcases hc' with q | q | q | q | q <;> simp_all)
  done := by
    intro X hP hw hK hc i pins s σ H E I hf st hg
    subst hP hw hK
    obtain ⟨hz, hTI, ⟨u0, v0, hTO⟩, h1, h2⟩ := st
    obtain ⟨xs, ys, x, hq1, hq2, hx, hy⟩ := hg
    obtain ⟨its1, rv1, p1⟩ := I.sq hq1
    obtain ⟨its2, rv2, p2⟩ := I.sq hq2
    obtain ⟨u, hu, ru⟩ := rv1.get hx
    have D1 := draws_sq (prog := X.prog) (w := X.w) (A := X.A.in1) (I.ok.hd hc) k1 i1 a (sq_it p1 h1) its1.toArray
    have D2 := draws_sq (prog := X.prog) (w := X.w) (A := X.A.in1) (I.ok.hd hc) k2 i2 b (sq_it p2 h2) its2.toArray
    have hl : its2.toArray.size = i := by rw [← hy, rv2.length]; simp
    have hlt1 : i < its1.toArray.size := by simpa using (List.getElem?_eq_some_iff.mp hu).1
    have hT : s.TypeIs (.ref z) "zip" := ⟨_, hz, rfl⟩
    unfold pyNext
    refine wpAny_bind (wpAny_attempt (wpAny_callSpecial?_slot (name := Str.ofString "__next__") hT F.slot_zip_next (wpAny_call_entry F.slot_zip_next hT F.entry_zip_next
      (zipD_end2 D1 D2 ap hz hTI hTO ⟨hl ▸ h1, p1⟩ ⟨hl ▸ h2, p2⟩ (by omega) fun h' e tk hk he => ?_) (F.args_zip_next_1 _))))
    obtain ⟨o, ho, hcl⟩ := he
    refine wpAny_bind (wpAny_isInstance (T := "StopIteration") (b := true) ⟨o, ho, hcl⟩ isSubtype_stop ?_)
    refine wpAny_pure ⟨rfl, I.turnedL (t' := tk) (ch := [z, TO, i1, i2]) (fun c o hc' q => hk c o (fun e => hc' (by simp [e])) (fun e => hc' (by simp [e])) (fun e => hc' (by simp [e])) (fun e => hc' (by simp [e])) q)
      (fun c hc' => hf c (by simp at hc' ⊢; rcases hc' with e | e | e | e <;> simp [e]))⟩
  self := fun _ _ _ _ _ st h => wpAny_pyIter_zip st.1 h
section
variable {X : Cx}
def iZip2 (k1 k2 : Bool) (K : PySem.W.Frag) (ta : TA) : TI := fun σ H R => ta σ H fun vs H1 => ∃ a b, vs = [.ref a, .ref b] ∧ (∃ xs, SqX K k1 H1 a xs) ∧ (∃ ys, SqX K k2 H1 b ys) ∧ R (Itz2 k1 k2 K a b) H1
theorem pi_zip2 (k1 k2 : Bool) {a b : Expr} {ta : TA} {p pos tpos : Pos} {elts : List Expr} {x1} (hg : Gl X "zip") (hm : X.mg "zip" = none) (ha : PA X [a, b] ta) (hs : starEach [a, b] X.env = [(false, eval a X.env), (false, eval b X.env)] := by rfl) (hs2 : starEach [b] X.env = [(false, eval b X.env)] := by rfl) :
    PI X (.Tuple elts x1 tpos) (.Call (.Name "zip" p) [a, b] [] pos) (iZip2 k1 k2 X.K ta) := by
  intro pins s σ H R I h
  refine Call_ (ld_blt I hg hm boot_zip (PyProof.Rows.callWith_type1 (thn (ha pos pins s σ H _ I h) fun us s1 ⟨vs, H1, I1, r1, q1⟩ => ?_) (by rw [hs, hs2]) (by rw [hs2]; rfl)))
  obtain ⟨l1, l2, rfl, ⟨xs, hq1⟩, ⟨ys, hq2⟩, q⟩ := q1
  obtain ⟨u, v, rfl, r, r'⟩ := vals2 r1
  cases r
  cases r'
  obtain ⟨its1, rv1, p1⟩ := I1.sq hq1
  obtain ⟨its2, rv2, p2⟩ := I1.sq hq2
  have lt1 := p1.lt
  have lt2 := p2.lt
  refine call_zip_sq p1 p2 fun h' hz hTI hTO h1 h2 hk => ?_
  refine wpAny_pyIter_zip (s := { s1 with heap := h' }) hz ?_
  have f : ∀ c, s1.heap.objs.size ≤ c → FpOk X pins H1 c := fun c hc => I1.fpOk hc (I1.hok.fresh hc)
  refine ⟨_, [s1.heap.objs.size + 4, s1.heap.objs.size + 3, s1.heap.objs.size, s1.heap.objs.size + 1, s1.heap.objs.size + 2], _, _, H1, rfl, I1.kept (t' := s1.toks) hk,
    turn_zip2 k1 k2 l1 l2 _ _ _ _ _ (zap _ _ _ lt1 lt2), ⟨hz, hTI, ⟨_, _, hTO⟩, h1, h2⟩, fun c hc => ?_, q⟩
  simp at hc
  rcases hc with rfl | rfl | rfl | rfl | rfl <;> exact f _ (by omega)
end
end L2
set_option Elab.async false
set_option linter.all false
set_option maxRecDepth 100000
set_option maxHeartbeats 4000000
namespace L2
open PySem PySem.Spec PyProof.Rows
section
variable {X : Cx} {tg iter kx vx : Expr} {ifs : List Expr} {sc : Scope} {pos : Pos} {Nc : List Str} {js : List (Option Nat)} {wi : TI}
theorem getItem_tuple_all {prog : Program} {w : World} {A : Around} {E : Value → Shared → Prop} {s : Shared} {t sl : Addr} {items : Array Value} {vl vu : Value} {lo hi : Option Int} {Q : Value → Shared → Prop} (ht : IsTup s.heap t items) (hs : s.heap.IsSliceOf sl vl vu .none) (pl : IsPart vl lo) (pu : IsPart vu hi)
    (hw : HT.sIx items.size 0 lo = 0 ∧ HT.sIx items.size items.size hi = items.size) (h : Q (.ref t) s) : wpAny (model prog w) A (getItem (.ref t) (.ref sl)) Q E s := by
  obtain ⟨os, hos, hcs, hds⟩ := id hs
  have hTs : s.TypeIs (.ref sl) "slice" := ⟨os, hos, hcs⟩
  unfold getItem
  try with_reducible refine wpAny_holding ?_
  first | refine wpAny_bind (wpAny_pure ?_) | skip
  refine wpAny_bind (wpAny_sequenceKey ht.typeIs (by decide) ?_)
  refine wpAny_bind (wpAny_callSpecial?_slot (name := Str.ofString "__getitem__") ht.typeIs PyProof.Rows.slot_tuple_getitem
    (wpAny_call_entry PyProof.Rows.slot_tuple_getitem ht.typeIs entry_tuple_getitem ?_ (args_tuple_getitem _ _)))
  show wpAny _ _ (Builtin.Tuple.tupleItemsOf (.ref t) >>= _) _ _ s
  refine wpAny_bind (tupleItemsOf_ ht ?_)
  refine wpAny_bind (wpAny_typeOf hTs ?_)
  rw [if_pos (by decide)]
  refine wpAny_bind (HT.sliceApplied_gen hs pl pu ?_)
  show wpAny _ _ (if (((HT.sIx items.size 0 lo : Nat) : Int) == 0 && (1 : Int) == 1 && (HT.sIx items.size items.size hi - HT.sIx items.size 0 lo) == items.size) = true then _ else _) _ _ s
  rw [if_pos (by rw [hw.1, hw.2]; simp)]
  unfold Builtin.Tuple.tupleIsExact
  first
    | refine wpAny_bind (wpAny_bind (wpAny_typeOf ht.typeIs (wpAny_pure ?_)))
    | refine wpAny_bind (wpAny_typeOf ht.typeIs (wpAny_pure ?_))
  rw [if_pos (by decide)]
  exact wpAny_bind (wpAny_rule (wpAny_pure ⟨_, rfl, wpAny_pure h⟩))
/-- t[lo:hi], the whole of it: t itself -/
def rSlA (K : PySem.W.Frag) : V → Option Int → Option Int → Hp → VK → Prop := fun x lo hi H Q => ∃ a xs, x = .ref a ∧ SqT K H a xs ∧
  (HT.sIx xs.length 0 lo = 0 ∧ HT.sIx xs.length xs.length hi = xs.length) ∧ Q (.ref a) H
theorem sl_tupA : SlR X (rSlA X.K) := by
  intro pins s σ H x v vl vu lo hi sl Q I rx hs pl pu h
  obtain ⟨a, xs, rfl, hx, hw, q⟩ := h
  cases rx
  obtain ⟨its, r, ht, hz⟩ := I.tuple hx
  have hlen : its.toArray.size = xs.length := by rw [List.size_toArray]; exact r.length.symm
  refine ⟨"tuple", _, PyProof.Rows.slot_tuple_getitem.lookup, ht.typeIs, ?_⟩
  exact getItem_tuple_all ht hs pl pu (by rw [hlen]; exact hw) ⟨.ref a, H, I, rfl, q⟩
def rSlB (K : PySem.W.Frag) : V → Option Int → Option Int → Hp → VK → Prop := fun x lo hi H Q => rSlT K x lo hi H Q ∨ rSlA K x lo hi H Q
/-- t[lo:hi] -/
theorem sl_tupB : SlR X (rSlB X.K) := sl_tup.or sl_tupA
end
end L2
set_option Elab.async false
set_option linter.all false
set_option maxRecDepth 100000
set_option maxHeartbeats 4000000
namespace HT
open PySem PySem.Spec PyProof.Rows
section
variable {prog : Program} {w : World} {A : Around} {E : Value → Shared → Prop} {s : Shared}
theorem cat_tup0 {t b : Addr} {ws : List Value} {Q : Value → Shared → Prop} (ht : IsTup s.heap t ([] : List Value).toArray) (hb : IsTup s.heap b ws.toArray) (h : Q (.ref b) s) : wpAny (model prog w) A (binaryOp .Add (.ref t) (.ref b)) Q E s := by
  obtain ⟨⟨cls, dd, data, sl⟩, ho, hc, n, hd⟩ := id ht
  obtain ⟨⟨cls2, dd2, data2, sl2⟩, ho2, hc2, n2, hd2⟩ := id hb
  simp only at hc hd hc2 hd2
  subst hc hd hc2 hd2
  exact concat_meets ⟨_, ho, rfl⟩ ⟨_, ho2, rfl⟩ noFill_tuple_add seq_tuple_add PySem.F.slot_tuple_add PySem.F.entry_tuple_add (PySem.F.args_tuple_add_2 _ _)
      (tuple_addW0 t b _ ws.toArray n n2 dd dd2 sl sl2 (by simp)) ⟨ho, ho2, h⟩
theorem fm_all {α : Type} : ∀ ys : List α, (List.range ys.length).filterMap (fun (k : Nat) => ys[k]?) = ys
  | [] => rfl
  | y :: ys => by
    rw [List.length_cons, List.range_succ_eq_map, List.filterMap_cons]
    show y :: ((List.range ys.length).map Nat.succ).filterMap (fun (k : Nat) => (y :: ys)[k]?) = y :: ys
    rw [List.filterMap_map]
    exact congrArg (y :: ·) (fm_all ys)
theorem fm_congr {α β : Type} {f g : α → Option β} : ∀ l : List α, (∀ x ∈ l, f x = g x) → l.filterMap f = l.filterMap g
  | [], _ => rfl
  | x :: l, h => by rw [List.filterMap_cons, List.filterMap_cons, h x (by simp), fm_congr l fun y hy => h y (by simp [hy])]
theorem rev_list {α : Type} (xs : List α) : (List.range xs.length).filterMap (fun (k : Nat) => xs[(((xs.length : Int) - 1) + (k : Int) * (-1)).toNat]?) = xs.reverse := by
  have h := fm_all xs.reverse
  rw [List.length_reverse] at h
  rw [← h]
  refine fm_congr _ fun k hk => ?_
  have hk := List.mem_range.mp hk
  rw [List.getElem?_reverse hk]
  congr 1
  omega
theorem getItem_revN {t sl : Addr} {vs : List Value} {tk : Tok} {Q : Value → Shared → Prop} (ht : IsTup s.heap t vs.toArray) (hs : s.heap.IsSliceOf sl .none .none (.int (-1) tk)) (hz : vs.length ≤ sizeLine)
    (h : Q (.ref s.heap.objs.size) { s with heap := s.heap.push { cls := .type "tuple", data := .seq vs.reverse.toArray } }) : wpAny (model prog w) A (getItem (.ref t) (.ref sl)) Q E s := by
  obtain ⟨os, hos, hcs, hds⟩ := id hs
  have hTs : s.TypeIs (.ref sl) "slice" := ⟨os, hos, hcs⟩
  unfold getItem
  try (with_reducible refine wpAny_holding ?_)
  first | (refine wpAny_bind (wpAny_pure ?_)) | skip
  refine wpAny_bind (wpAny_sequenceKey ht.typeIs (by decide) (wpAny_bind (wpAny_callSpecial?_slot (name := Str.ofString "__getitem__") ht.typeIs PyProof.Rows.slot_tuple_getitem (wpAny_call_entry PyProof.Rows.slot_tuple_getitem ht.typeIs entry_tuple_getitem ?_ (args_tuple_getitem _ _)))))
  show wpAny _ _ (Builtin.Tuple.tupleItemsOf (.ref t) >>= fun _ => _) _ _ s
  refine wpAny_bind (tupleItemsOf_ ht (wpAny_bind (wpAny_typeOf hTs ?_)))
  rw [if_pos (by decide)]
  have pl : Builtin.Slice.slicePlaces ((vs.length : Int) - 1) (-1) (-1) = vs.length := by
    unfold Builtin.Slice.slicePlaces
    rw [if_neg (by decide)]
    by_cases c : (vs.length : Int) - 1 > -1
    · rw [if_pos c]
      simp only [Int.neg_neg, Int.ediv_one]
      omega
    · rw [if_neg c]
      omega
  have ap : ∀ {R : Int × Int × Nat → Shared → Prop}, R ((vs.length : Int) - 1, -1, vs.length) s → wpAny (model prog w) A.in1 (Builtin.Slice.sliceApplied (.ref sl) (pure ((vs.toArray.size : Nat) : Int))) R E s := fun {R} hR => by
    unfold Builtin.Slice.sliceApplied Builtin.Slice.sliceFields
    refine wpAny_bind (wpAny_bind (wpAny_field hos hds (x := .none) rfl (wpAny_bind (wpAny_field hos hds (x := .none) rfl (wpAny_bind (wpAny_field hos hds (x := .int (-1) tk) rfl (wpAny_pure ?_)))))))
    refine wpAny_bind (slicePart_int ?_)
    show wpAny _ _ (if (((-1 : Int)) == 0) = true then _ else _) _ _ s
    rw [if_neg (by decide)]
    refine wpAny_bind (slicePart_none (wpAny_bind (slicePart_none (wpAny_bind (wpAny_pure ?_)))))
    refine wpAny_pure ?_
    show R ((((vs.toArray.size : Nat) : Int) - 1), -1, Builtin.Slice.slicePlaces (((vs.toArray.size : Nat) : Int) - 1) (-1) (-1)) s
    rw [List.size_toArray, pl]
    exact hR
  refine wpAny_bind (ap ?_)
  have hok : sizeOk (.seq vs.reverse.toArray) := by show vs.reverse.toArray.size ≤ sizeLine; simpa using hz
  have key : ((List.range vs.length).filterMap fun (k : Nat) => vs.toArray[(((vs.length : Int) - 1) + (k : Int) * (-1)).toNat]?).toArray = vs.reverse.toArray := by
    have := rev_list vs
    simp only [List.getElem?_toArray]
    rw [this]
  show wpAny _ _ (if ((((vs.length : Int) - 1) == 0 && (-1 : Int) == 1 && vs.length == vs.toArray.size) = true) then _ else _) _ _ s
  rw [if_neg (by simp)]
  first
    | (rw [key]; exact wpAny_bind (m := Builtin.Tuple.tupleExact _) (wpAny_newObj_type (wpAny_pure ⟨_, rfl, wpAny_pure h⟩) hok))
    | (rw [key]; exact wpAny_bind (m := Builtin.Tuple.tupleExact _) (wpAny_newObj_type (wpAny_bind (wpAny_pure (wpAny_pure ⟨_, rfl, wpAny_pure h⟩))) hok))
    | (rw [key]; exact wpAny_bind (wpAny_bind (m := Builtin.Tuple.tupleExact _) (wpAny_newObj_type (wpAny_pure (wpAny_pure ⟨_, rfl, wpAny_pure h⟩)) hok)))
    | (rw [key]; exact wpAny_bind (wpAny_bind (m := Builtin.Tuple.tupleExact _) (wpAny_newObj_type (wpAny_pure ⟨_, rfl, wpAny_pure h⟩) hok)))
    | skip
end
end HT
namespace L2
open PySem PySem.Spec PyProof.Rows
/-- what is there stays -/
def Grow (H H' : Hp) : Prop := ∀ b o, H b = some o → H' b = some o
section
variable {X : Cx}
theorem grow_new {H : Hp} {p : Addr} (h : H p = none) (o : HO) : Grow H (upd H p o) := fun b u q => by rw [upd_ne (ne_of_none q h)]; exact q
/-- t[lo:hi] of a tuple, any -/
def rSlU (K : PySem.W.Frag) : V → Option Int → Option Int → Hp → VK → Prop := fun x lo hi H Q => ∃ a xs, x = .ref a ∧ H a = some (.tup xs) ∧ ∀ p H', Grow H H' → H' p = some (.tup (cutV xs lo hi)) → Q (.ref p) H'
theorem sl_tupU : SlR X (rSlU X.K) := by
  intro pins s σ H x v vl vu lo hi sl Q I rx hs pl pu h
  obtain ⟨a, xs, rfl, hx, q⟩ := h
  refine sl_tupB pins s σ H _ v vl vu lo hi sl Q I rx hs pl pu ?_
  by_cases c : HT.sIx xs.length 0 lo = 0 ∧ HT.sIx xs.length xs.length hi = xs.length
  · refine .inr ⟨a, xs, rfl, SqT.of hx, c, q a H (fun _ _ e => e) ?_⟩
    rw [hx]
    unfold cutV
    rw [c.1, c.2]
    simp
  · exact .inl ⟨a, xs, rfl, SqT.of hx, c, fun p np => q p _ (grow_new np _) upd_same⟩
/-- + of two tuples, any -/
def rCatU (K : PySem.W.Frag) : R2 := fun x y H Q => ∃ a b xs ys, x = .ref a ∧ y = .ref b ∧ H a = some (.tup xs) ∧ H b = some (.tup ys) ∧ xs.length + ys.length ≤ sizeLine ∧ ∀ p H', Grow H H' → H' p = some (.tup (xs ++ ys)) → Q (.ref p) H'
theorem op_catU : OpR X (binaryOp .Add) (rCatU X.K) := by
  intro pins s σ H x y v u Q I rx ry h
  obtain ⟨a, b, xs, ys, rfl, rfl, ha, hb, hz, q⟩ := h
  by_cases c : xs = []
  · subst c
    cases rx
    cases ry
    obtain ⟨its, r1, p1, _⟩ := I.tuple (SqT.of (K := X.K) ha)
    obtain ⟨its2, r2, p2, _⟩ := I.tuple (SqT.of (K := X.K) hb)
    cases r1
    exact HT.cat_tup0 p1 p2 ⟨.ref b, H, I, rfl, q b H (fun _ _ e => e) (by simpa using hb)⟩
  · refine op_catT pins s σ H _ _ v u Q I rx ry ⟨a, b, xs, ys, rfl, rfl, SqT.of ha, SqT.of hb, c, hz, fun e => q a H (fun _ _ z => z) (by rw [e, List.append_nil]; exact ha), fun _ p np => q p _ (grow_new np _) upd_same⟩
/-- t[::-1] of a tuple -/
def tRevU (K : PySem.W.Frag) (te : TE) (ts : TO) : TE := fun σ H Q => te σ H fun x H1 => ts σ H1 fun o H2 => ∃ a xs, x = .ref a ∧ o = some (-1) ∧ H2 a = some (.tup xs) ∧ ∀ p, H2 p = none → Q (.ref p) (upd H2 p (.tup xs.reverse))
theorem pe_revU {e st : Expr} {te : TE} {ts : TO} {p2 pos : Pos} (he : PE X e te) (hs : PO X (some st) ts) : PE X (.Subscript e (.Slice none none (some st) p2) pos) (tRevU X.K te ts) := by
  intro pins s σ H Q I h
  refine Subscript_ (thn (he pins s σ H _ I h) fun v s1 ⟨x, H1, I1, r1, q1⟩ => ?_)
  refine wpAny_Slice ?_
  rw [evalPart_none]
  refine wpAny_pure ?_
  refine wpAny_pure (thn (hs pins s1 σ H1 _ I1 q1) fun vt s3 ⟨o, H3, I3, pu, q3⟩ => ?_)
  obtain ⟨a, xs, rfl, rfl, ha, q⟩ := q3
  cases r1
  cases pu with
  | int i tk =>
    have I4 : Inv X pins σ H3 { s3 with heap := s3.heap.push { cls := .type "slice", data := .fields #[.none, .none, .int (-1) tk] } } := I3.kept (t' := s3.toks) fun b ob q => Heap.get?_push_of_some _ q
    obtain ⟨its, r, ht, hz⟩ := I4.tuple (SqT.of (K := X.K) ha)
    have hl := r.length
    show wpAny (model X.prog X.w) X.A (subscriptTail e (.Slice none none (some st) p2) (.ref a) (.ref s3.heap.objs.size)) (EP X pins σ Q) X.xe { s3 with heap := s3.heap.push { cls := .type "slice", data := .fields #[.none, .none, .int (-1) tk] } }
    refine tail_any (ops := [.ref a, .ref s3.heap.objs.size]) ht.typeIs PyProof.Rows.slot_tuple_getitem.lookup ?_ (by with_unfolding_all rfl)
    refine HT.getItem_revN ht (Heap.IsSliceOf.new ..) (by omega) ?_
    refine ⟨.ref _, _, I4.laid (t' := s3.toks) (o := .tup xs.reverse) (fun b ob q => Heap.get?_push_of_some _ q) (Nat.le_refl _) ?_, rfl, q _ (I4.hok.fresh (Nat.le_refl _))⟩
    exact ⟨by rw [List.length_reverse]; omega, its.reverse, r.reverse, IsTupN.new _ _⟩
/-- loops over zip -/
theorem for_zip {k1 k2 : Bool} {K : PySem.W.Frag} {a b : Addr} {xs ys : List V} {g : TG} {tb : TS} {D : Ends} {σ : St} {H : Hp} (Pv : Nat → St → Hp → Prop) (hxy : xs.length = ys.length) (h0 : Pv 0 σ H)
    (hl : ∀ i σ H, i ≤ xs.length → Pv i σ H → SqX K k1 H a xs ∧ SqX K k2 H b ys)
    (hs : ∀ i x y T σ H, xs[i]? = some x → ys[i]? = some y → H T = none → Pv i σ H → g (.ref T) σ (upd H T (.tup [x, y])) fun σ2 H2 => tb { D with nx := Pv (i + 1), ct := Pv (i + 1), bk := D.nx } σ2 H2) (hd : ∀ σ H, Pv xs.length σ H → D.nx σ H) :
    ∃ W : Nat → Nat → St → Hp → Prop, (∃ m, W 0 m σ H) ∧ ∀ i m σ H, W i m σ H →
      ((Itz k1 k2 K a b).stop i H ∧ D.nx σ H) ∨ ((Itz k1 k2 K a b).go i H ∧ ∃ N : St → Hp → Prop, (∀ σ' H', N σ' H' → ∃ m', m' < m ∧ W (i + 1) m' σ' H') ∧ ∀ x H', (Itz k1 k2 K a b).yld i H x H' → g x σ H' fun σ2 H2 => tb { D with nx := N, ct := N, bk := D.nx } σ2 H2) := by
  refine ⟨fun i m σ H => m = xs.length - i ∧ i ≤ xs.length ∧ Pv i σ H, ⟨xs.length, by simp, Nat.zero_le _, h0⟩, ?_⟩
  rintro i m σ H ⟨rfl, hle, p⟩
  obtain ⟨q1, q2⟩ := hl i σ H hle p
  by_cases hi : i < xs.length
  · refine .inr ⟨⟨xs, ys, xs[i], ys[i]'(by omega), q1, q2, by simp [hi], by simp [show i < ys.length by omega]⟩, Pv (i + 1), fun σ' H' q => ⟨xs.length - (i + 1), by omega, rfl, by omega, q⟩, fun x H' hy => ?_⟩
    obtain ⟨T, x1, x2, nT, rfl, e1, e2, rfl⟩ := hy
    exact hs i x1 x2 T σ H (e1 xs q1) (e2 ys q2) nT p
  · have : i = xs.length := by omega
    subst this
    exact .inl ⟨⟨xs, q1, rfl⟩, hd σ H p⟩
theorem for_zip2 {k1 k2 : Bool} {K : PySem.W.Frag} {a b : Addr} {xs ys : List V} {g : TG} {tb : TS} {D : Ends} {σ : St} {H : Hp} (Pv : Nat → St → Hp → Prop) (hxy : ys.length < xs.length) (h0 : Pv 0 σ H)
    (hl : ∀ i σ H, i ≤ ys.length → Pv i σ H → SqX K k1 H a xs ∧ SqX K k2 H b ys)
    (hs : ∀ i x y T σ H, xs[i]? = some x → ys[i]? = some y → H T = none → Pv i σ H → g (.ref T) σ (upd H T (.tup [x, y])) fun σ2 H2 => tb { D with nx := Pv (i + 1), ct := Pv (i + 1), bk := D.nx } σ2 H2) (hd : ∀ σ H, Pv ys.length σ H → D.nx σ H) :
    ∃ W : Nat → Nat → St → Hp → Prop, (∃ m, W 0 m σ H) ∧ ∀ i m σ H, W i m σ H →
      ((Itz2 k1 k2 K a b).stop i H ∧ D.nx σ H) ∨ ((Itz2 k1 k2 K a b).go i H ∧ ∃ N : St → Hp → Prop, (∀ σ' H', N σ' H' → ∃ m', m' < m ∧ W (i + 1) m' σ' H') ∧ ∀ x H', (Itz2 k1 k2 K a b).yld i H x H' → g x σ H' fun σ2 H2 => tb { D with nx := N, ct := N, bk := D.nx } σ2 H2) := by
  refine ⟨fun i m σ H => m = ys.length - i ∧ i ≤ ys.length ∧ Pv i σ H, ⟨ys.length, by simp, Nat.zero_le _, h0⟩, ?_⟩
  rintro i m σ H ⟨rfl, hle, p⟩
  obtain ⟨q1, q2⟩ := hl i σ H hle p
  by_cases hi : i < ys.length
  · refine .inr ⟨⟨xs, ys, xs[i]'(by omega), ys[i], q1, q2, by simp [show i < xs.length by omega], by simp [hi]⟩, Pv (i + 1), fun σ' H' q => ⟨ys.length - (i + 1), by omega, rfl, by omega, q⟩, fun x H' hy => ?_⟩
    obtain ⟨T, x1, x2, nT, rfl, e1, e2, rfl⟩ := hy
    exact hs i x1 x2 T σ H (e1 xs q1) (e2 ys q2) nT p
  · have : i = ys.length := by omega
    subst this
    exact .inl ⟨⟨xs, ys, xs[ys.length]'(by omega), q1, q2, by simp [hxy], rfl⟩, hd σ H p⟩
/-- f(e, ..), f told by an expression -/
def tCallE (P : Program) (w : World) (K : PySem.W.Frag) (mg : Str → Option Value) (base : Heap) (A : Around) (tf : TE) (t : TA) : TE := fun σ H Q => tf σ H fun v H1 => ∃ f, v = .ref f ∧ PySem.W.keepIn K (.ref f) = true ∧
  t σ H1 fun vs H2 => ∃ k fd ps sp, FnOk P w K mg base CX0 k f fd ps sp ∧ Room k A ∧ Binds K fd ps [] ∧ sp vs H2 Q E0
theorem pe_callE {fe : Expr} {tf : TE} {pos : Pos} {e : Expr} {es : List Expr} {t : TA} (hf : PE X fe tf) (ha : PA X (e :: es) t) (hcall : eval (.Call fe (e :: es) [] pos) X.env = (do callWith pos (← eval fe X.env) [] (backTo pos (starEach (e :: es) X.env)) (backToKw pos (keywordEach [] X.env))) := by rfl)
    (he : starEach (e :: es) X.env = (false, eval e X.env) :: starEach es X.env := by rfl) (hpl : (backTo pos (starEach es X.env)).any (·.1) = false := by rfl) : PE X (.Call fe (e :: es) [] pos) (tCallE X.prog X.w X.K X.mg X.base X.A tf t) := by
  intro pins s σ H Q I h
  refine PyProof.Rows.Call_ (thn (hf pins s σ H _ I h) fun v s1 ⟨x, H1, I1, r1, q1⟩ => ?_) hcall
  obtain ⟨f, rfl, hk, q1⟩ := q1
  cases r1
  refine PySem.W.callWith_K (h₀ := X.base) I1.ok.mod.kin hk (thn (ha pos pins s1 σ H1 _ I1 q1) fun us s2 ⟨vs, H2, I2, r, q⟩ => ⟨I2.kIn, ?_⟩) he hpl
  obtain ⟨k, fd, ps, sp, F, hr, hb, q⟩ := q
  exact run_fn F hr hb .nil pass0 I2 r (by simpa using q)
end
end L2
set_option Elab.async false
set_option linter.all false
set_option maxRecDepth 100000
set_option maxHeartbeats 4000000
namespace HT
open PySem PySem.Spec PyProof.Rows
section
variable {prog : Program} {w : World} {A : Around} {E : Value → Shared → Prop} {s : Shared}
theorem collect_range {Q : List Value → Shared → Prop} {r : Addr} {a b c : Int} {t u v : Tok} {n : Nat} (hh : A.handled = none) (hr : IsRange s.heap r a b c t u v) (hsmall : Builtin.Range.small a b c = true)
    (hn : Builtin.Range.rangeSize a b c = n) (hlen : n ≤ 2 ^ 24)
    (hQ : ∀ h' tk acc, (∀ b o, s.heap.get? b = some o → h'.get? b = some o) → s.heap.objs.size ≤ h'.objs.size → ItemsOf (fun i v => ∃ t, v = .int (a + i * c) t) acc n → Q acc.toList { s with heap := h', toks := tk }) : wpAny (model prog w) A (collect (.ref r)) Q E s := by
  unfold collect
  refine wpAny_bind (wpAny_runValue (codeAny_builtin F.entry_proto_collect ?_))
  rw [Around.under_plainId F.plain_proto_collect _]
  show wpAny _ A.in1 (newList [] >>= fun l => again (.builtin "list.__iadd__" ⟨[l, .ref r], []⟩)) _ _ s
  refine wpAny_bind (wpAny_newObj_type ?_)
  refine wpAny_pure ⟨plainId_quiet F.plain_list_iadd _, codeAny_builtin F.entry_list_iadd ?_⟩
  rw [Around.under_plainId F.plain_list_iadd _]
  show wpAny _ A.in1 (Builtin.List.listExtendWith (.ref s.heap.objs.size) (.ref r) (.ref s.heap.objs.size)) _ _ _
  have hS : (s.heap.push { cls := .type "list", data := .seq ([] : List Value).toArray }).get? s.heap.objs.size = some { cls := .type "list", data := .seq ([] : List Value).toArray } := Heap.get?_push_size _ rfl
  have fin' : ∀ s', (∃ h' tk acc' c', s' = ({ s with heap := h', toks := tk } : Shared) ∧ (∀ b o, b ≠ s.heap.objs.size → (s.heap.push { cls := .type "list", data := .seq ([] : List Value).toArray }).get? b = some o → h'.get? b = some o) ∧ h'.get? s.heap.objs.size = some { cls := .type "list", dict := none, data := .seq acc' c', slots := #[] } ∧ ItemsOf (fun i v => ∃ t, v = .int (a + i * c) t) acc' n) →
      wpAny (model prog w) A (load s.heap.objs.size >>= fun o => match o.data with | .seq xs _ => pure xs.toList | _ => unsupported "internal:collect") Q E s' := by
    rintro s' ⟨h', tk, acc', c', rfl, hk, hS', hacc⟩
    refine wpAny_bind (wpAny_load hS' ?_)
    exact wpAny_pure (hQ h' tk acc' (fun b o e => hk b o (Nat.ne_of_lt (Heap.lt_size e)) (Heap.get?_push_of_some _ e)) (Nat.le_of_lt (Heap.lt_size hS')) hacc)
  refine wpAny_mono (wpAny_extend_range (s := { s with heap := s.heap.push { cls := .type "list", data := .seq ([] : List Value).toArray } }) (A := A)
    (R := fun r s' => r = .ok (.ret (.ref s.heap.objs.size)) ∧ ∃ h' tk acc' c', s' = ({ s with heap := h', toks := tk } : Shared) ∧ (∀ b o, b ≠ s.heap.objs.size → (s.heap.push { cls := .type "list", data := .seq ([] : List Value).toArray }).get? b = some o → h'.get? b = some o) ∧ h'.get? s.heap.objs.size = some { cls := .type "list", dict := none, data := .seq acc' c', slots := #[] } ∧ ItemsOf (fun i v => ∃ t, v = .int (a + i * c) t) acc' n)
    hh (Heap.get?_push_of_some _ hr) hsmall hn hlen s.heap.objs.size (.ref s.heap.objs.size) 0 hS fun h' tk acc' c' hk hS' hacc => ⟨rfl, h', tk, acc', c', rfl, hk, hS', hacc⟩) (fun fin s' h => ?_) (fun e s' h => ?_)
  · cases fin with
    | done f =>
      obtain ⟨e, h⟩ := h
      cases e
      exact fin' s' h
    | again c' => exact ⟨h.1, codeAny_mono h.2 fun r s'' hr => by obtain ⟨rfl, h⟩ := hr; exact fin' s'' h⟩
  · exact absurd h.1 (by simp)
theorem meets_tuple_new_range {n : Nat} {t0 t1 t2 : Tok} (r : Addr) (hlen : n ≤ 1000) (hsmall : Builtin.Range.small 0 n 1 = true) (hn : Builtin.Range.rangeSize 0 n 1 = n) :
    Meets (Builtin.«tuple.__new__» ⟨[.type "tuple", .ref r], []⟩)
      (fun A R s => A.handled = none ∧ IsRange s.heap r 0 n 1 t0 t1 t2 ∧ ∀ (h' : Heap) (tk : Tok) (acc : Array Value), (∀ b o', s.heap.get? b = some o' → h'.get? b = some o') → ItemsOf (fun i v => ∃ t, v = .int ((0 : Int) + i * 1) t) acc n → R (.ok (.ret (.ref h'.objs.size))) { s with heap := h'.push { cls := .type "tuple", data := .seq acc }, toks := tk }) :=
  .of_wp fun prog w A R s h => by
    obtain ⟨hp, g, d, tk, os⟩ := s; obtain ⟨hh, ht, h⟩ := h
    have hsub := sub_tuple_self
    have hinit := init_tuple_lookup
    have hmh := madeHere_tuple
    have hT : Shared.TypeIs ⟨hp, g, d, tk, os⟩ (.ref r) "range" := ⟨_, ht, rfl⟩
    have hlen' : n ≤ 2 ^ 24 := by omega
    have hh' : A.in1.handled = none := hh
    wp_walk using wpAny_loadPart' ht, wpAny_typeOf hT, collect_range hh' ht hsmall hn hlen'
    intro h' tk' acc hk hsz hacc
    have sz : acc.size ≤ sizeLine := by rw [hacc.1]; exact Nat.le_trans hlen (by decide)
    show wpAny _ _ (Builtin.Tuple.tupleExact acc.toList.toArray >>= fun v => ret v) _ _ _
    unfold Builtin.Tuple.tupleExact
    refine wpAny_bind (wpAny_newObj_type ?_ (by show acc.toList.toArray.size ≤ sizeLine; simpa using sz))
    refine wpAny_pure ⟨_, rfl, ?_⟩
    have e : acc.toList.toArray = acc := by simp
    rw [e]
    exact h h' _ acc hk hacc
theorem call_tuple_range {n : Nat} {t0 t1 t2 : Tok} {r : Addr} {Q : Value → Shared → Prop} (hlen : n ≤ 1000) (hsmall : Builtin.Range.small 0 n 1 = true) (hn : Builtin.Range.rangeSize 0 n 1 = n) (hh : A.handled = none) (hr : IsRange s.heap r 0 n 1 t0 t1 t2)
    (h : ∀ (h' : Heap) (tk : Tok) (acc : Array Value), (∀ b o', s.heap.get? b = some o' → h'.get? b = some o') → ItemsOf (fun i v => ∃ t, v = .int ((0 : Int) + i * 1) t) acc n → Q (.ref h'.objs.size) { s with heap := h'.push { cls := .type "tuple", data := .seq acc }, toks := tk }) :
    wpAny (model prog w) A (call (.type "tuple") [.ref r]) Q E s :=
  callType_new F.called_tuple (by decide) (F.typeCall_tuple_1 _) (F.newCall_tuple_1 _) (fun obj => F.args_object_init_2 obj _) F.entry_tuple_new
    (meets_tuple_new_range r hlen hsmall hn) ⟨hh, hr, fun h' tk acc hk ha => ⟨⟨_, Heap.get?_push_size _ rfl, rfl⟩, h h' tk acc hk ha⟩⟩
end
end HT
namespace L2
open PySem PySem.Spec PyProof.Rows
section
variable {X : Cx}
def intsV (n : Nat) : List V := (List.range n).map fun (i : Nat) => V.int (i : Int)
theorem vals_rng {n : Nat} {acc : Array Value} (h : ItemsOf (fun i v => ∃ t, v = .int ((0 : Int) + i * 1) t) acc n) : Vals (intsV n) acc.toList := by
  obtain ⟨h1, h2⟩ := h
  have : ∀ (m : Nat) (l : List Value) (k : Nat), l.length = m → (∀ (j : Nat) (v : Value), l[j]? = some v → ∃ t, v = Value.int (((k + j : Nat) : Int)) t) → Vals ((List.range' k m).map fun (i : Nat) => V.int (i : Int)) l := fun m => by
    induction m with
    | zero => intro l k hl _; rw [List.length_eq_zero_iff.mp hl]; exact .nil
    | succ m ih =>
      intro l k hl hv
      match l, hl with
      | x :: l, hl =>
        rw [List.range'_succ, List.map_cons]
        refine .cons ?_ (ih l (k + 1) (by simpa using hl) fun j v e => ?_)
        · obtain ⟨t, rfl⟩ := hv 0 x rfl
          exact ⟨t, by simp⟩
        · obtain ⟨t, rfl⟩ := hv (j + 1) v (by simpa using e)
          exact ⟨t, by congr 1; omega⟩
  unfold intsV
  rw [List.range_eq_range']
  refine this n acc.toList 0 (by simpa using h1) fun j v e => ?_
  obtain ⟨t, rfl⟩ := h2 j v (by simpa using e)
  exact ⟨t, by simp⟩
/-- list(range(n)), tuple(range(n)) -/
def tRng (tp : Bool) (ta : TA) : TE := fun σ H Q => ta σ H fun vs H1 => ∃ n : Nat, vs = [.int (n : Int)] ∧ n ≤ 1000 ∧ ∀ l, H1 l = none → Q (.ref l) (upd H1 l (if tp then .tup (intsV n) else .lst (intsV n)))
theorem pe_rngT {a : Expr} {ta : TA} {p p2 pos pos2 : Pos} (hc : X.calm = true) (hg : Gl X "tuple") (hm : X.mg "tuple" = none) (hg2 : Gl X "range") (hm2 : X.mg "range" = none) (ha : PA X [a] ta) (hs : starEach [a] X.env = [(false, eval a X.env)] := by rfl)
    (hs2 : starEach [.Call (.Name "range" p2) [a] [] pos2] X.env = [(false, eval (.Call (.Name "range" p2) [a] [] pos2) X.env)] := by rfl) : PE X (.Call (.Name "tuple" p) [.Call (.Name "range" p2) [a] [] pos2] [] pos) (tRng true ta) := by
  intro pins s σ H Q I h
  refine Call_ (ld_blt I hg hm boot_tuple (PyProof.Rows.callWith_type1 ?_ hs2 rfl))
  refine PyProof.Rows.args_cons (Call_ (ld_blt I hg2 hm2 boot_range (PyProof.Rows.callWith_type1 (thn (ha pos2 pins s σ H _ I h) fun us s1 ⟨vs, H1, I1, r1, q1⟩ => ?_) hs rfl)))
  obtain ⟨n, rfl, hn, q⟩ := q1
  obtain ⟨u, rfl, t, rfl⟩ := vals1 r1
  refine call_range_1 ?_
  refine PyProof.Rows.args_nil ?_
  have I2 : Inv X pins σ H1 { s1 with heap := s1.heap.push { cls := .type "range", data := .fields #[.int 0 s1.toks, .int n t, .int 1 (s1.toks + 1)] }, toks := s1.toks + 1 + 1 } := I1.kept fun b o e => Heap.get?_push_of_some _ e
  refine HT.call_tuple_range (n := n) hn (small_one (by omega) (by omega) (by omega) (by omega)) (by rw [rangeSize_one]; split <;> omega) (I1.ok.hd hc) (IsRange.new ..) fun h' tk acc hk hacc => ?_
  have I3 : Inv X pins σ H1 { s1 with heap := h', toks := tk } := I2.kept (t' := tk) hk
  have I4 := I3.laid (t' := tk) (o := .tup (intsV n)) (fun b o e => Heap.get?_push_of_some _ e) (Nat.le_refl _) (show ObjOk X.prog X.w _ _ _ (.tup (intsV n)) from ⟨by unfold intsV; rw [List.length_map, List.length_range]; exact Nat.le_trans hn (by decide), acc.toList, vals_rng hacc, IsTupN.new _ _⟩)
  exact ⟨.ref h'.objs.size, _, I4, rfl, q _ (I3.hok.fresh (Nat.le_refl _))⟩
theorem pe_rngL {a : Expr} {ta : TA} {p p2 pos pos2 : Pos} (hc : X.calm = true) (hg : Gl X "list") (hm : X.mg "list" = none) (hg2 : Gl X "range") (hm2 : X.mg "range" = none) (ha : PA X [a] ta) (hs : starEach [a] X.env = [(false, eval a X.env)] := by rfl)
    (hs2 : starEach [.Call (.Name "range" p2) [a] [] pos2] X.env = [(false, eval (.Call (.Name "range" p2) [a] [] pos2) X.env)] := by rfl) : PE X (.Call (.Name "list" p) [.Call (.Name "range" p2) [a] [] pos2] [] pos) (tRng false ta) := by
  intro pins s σ H Q I h
  refine Call_ (ld_blt I hg hm boot_list (PyProof.Rows.callWith_type1 ?_ hs2 rfl))
  refine PyProof.Rows.args_cons (Call_ (ld_blt I hg2 hm2 boot_range (PyProof.Rows.callWith_type1 (thn (ha pos2 pins s σ H _ I h) fun us s1 ⟨vs, H1, I1, r1, q1⟩ => ?_) hs rfl)))
  obtain ⟨n, rfl, hn, q⟩ := q1
  obtain ⟨u, rfl, t, rfl⟩ := vals1 r1
  refine call_range_1 ?_
  refine PyProof.Rows.args_nil ?_
  have I2 : Inv X pins σ H1 { s1 with heap := s1.heap.push { cls := .type "range", data := .fields #[.int 0 s1.toks, .int n t, .int 1 (s1.toks + 1)] }, toks := s1.toks + 1 + 1 } := I1.kept fun b o e => Heap.get?_push_of_some _ e
  refine call_list_range (n := n) (I1.ok.hd hc) (IsRange.new ..) (small_one (by omega) (by omega) (by omega) (by omega)) (by rw [rangeSize_one]; split <;> omega) (by omega) fun h' tk acc c' hk hl hacc => ?_
  have I4 := I2.laid (t' := tk) (o := .lst (intsV n)) hk (Nat.le_refl _) (show ObjOk X.prog X.w _ _ _ (.lst (intsV n)) from ⟨by unfold intsV; rw [List.length_map, List.length_range]; exact Nat.le_trans hn (by decide), acc.toList, _, vals_rng hacc, by simpa using hl⟩)
  exact ⟨.ref _, _, I4, rfl, q _ (I2.hok.fresh (Nat.le_refl _))⟩
end
end L2
set_option Elab.async false
set_option linter.all false
namespace Mth
structure Fr (n d n' d' : Int) : Prop where
  pos : 0 < d'
  co : Int.gcd n' d' = 1
  eq : n' * d = n * d'
  ln : n'.natAbs ≤ n.natAbs
  ld : d'.natAbs ≤ d.natAbs
theorem gcd_pos {n d : Int} (h : d ≠ 0) : 0 < (Int.gcd n d : Int) := by
  have : Int.gcd n d ≠ 0 := by
    intro e
    exact h (Int.gcd_eq_zero_iff.mp e).2
  omega
theorem natAbs_mul_le {a b c : Int} (h : a = b * c) (hc : c ≠ 0) : b.natAbs ≤ a.natAbs := by
  rw [h, Int.natAbs_mul]
  exact Nat.le_mul_of_pos_right _ (Int.natAbs_pos.mpr hc)
theorem fr_of {n d g : Int} (hd : d ≠ 0) (hg : g = (Int.gcd n d : Int) ∨ g = -(Int.gcd n d : Int)) (hs : 0 < d.fdiv g) : Fr n d (n.fdiv g) (d.fdiv g) := by
  have gp := gcd_pos (n := n) hd
  have g0 : g ≠ 0 := by rcases hg with e | e <;> omega
  have dn : g ∣ n := by
    rcases hg with e | e
    · rw [e]; exact Int.gcd_dvd_left _ _
    · rw [e]; exact Int.neg_dvd.mpr (Int.gcd_dvd_left _ _)
  have dd : g ∣ d := by
    rcases hg with e | e
    · rw [e]; exact Int.gcd_dvd_right _ _
    · rw [e]; exact Int.neg_dvd.mpr (Int.gcd_dvd_right _ _)
  have en : n = n.fdiv g * g := by rw [Int.fdiv_eq_ediv_of_dvd dn, Int.ediv_mul_cancel dn]
  have ed : d = d.fdiv g * g := by rw [Int.fdiv_eq_ediv_of_dvd dd, Int.ediv_mul_cancel dd]
  have gabs : g.natAbs = Int.gcd n d := by rcases hg with e | e <;> omega
  refine ⟨hs, ?_, ?_, natAbs_mul_le en g0, natAbs_mul_le ed g0⟩
  · have e1 : Int.gcd (n.fdiv g * g) (d.fdiv g * g) = Int.gcd n d := by rw [← en, ← ed]
    rw [Int.gcd_mul_right, gabs] at e1
    have : 0 < Int.gcd n d := by omega
    exact Nat.eq_of_mul_eq_mul_right this (by omega)
  · calc n.fdiv g * d = n.fdiv g * (d.fdiv g * g) := by rw [← ed]
      _ = (n.fdiv g * g) * d.fdiv g := by rw [Int.mul_comm (d.fdiv g) g, Int.mul_assoc]
      _ = n * d.fdiv g := by rw [← en]
/-- the divisor has the sign of d -/
theorem fdiv_pos_of {n d g : Int} (hd : d ≠ 0) (hg : (0 < d ∧ g = (Int.gcd n d : Int)) ∨ (d < 0 ∧ g = -(Int.gcd n d : Int))) : 0 < d.fdiv g := by
  have gp := gcd_pos (n := n) hd
  have dd : g ∣ d := by
    rcases hg with ⟨_, e⟩ | ⟨_, e⟩
    · rw [e]; exact Int.gcd_dvd_right _ _
    · rw [e]; exact Int.neg_dvd.mpr (Int.gcd_dvd_right _ _)
  have ed : d = d.fdiv g * g := by rw [Int.fdiv_eq_ediv_of_dvd dd, Int.ediv_mul_cancel dd]
  rcases hg with ⟨h, e⟩ | ⟨h, e⟩
  · have g1 : 0 < g := by omega
    rw [ed] at h
    refine Int.not_le.mp fun z => ?_
    have := Int.mul_nonpos_of_nonpos_of_nonneg z (Int.le_of_lt g1)
    omega
  · have g1 : g < 0 := by omega
    refine Int.not_le.mp fun z => ?_
    have := Int.mul_nonneg_of_nonpos_of_nonpos z (Int.le_of_lt g1)
    omega
theorem gcd_le {n d : Int} (h : d ≠ 0) : Int.gcd n d ≤ d.natAbs := Nat.le_of_dvd (Int.natAbs_pos.mpr h) (Int.gcd_dvd_natAbs_right n d)
/-- one turn of Euclid's way -/
theorem gcd_turn (a b : Nat) : Nat.gcd b (a % b) = Nat.gcd a b := by
  rw [Nat.gcd_comm a b, Nat.gcd_rec b a, Nat.gcd_comm]
theorem mul_lt_pow {a b : Int} {i j : Nat} (h : a.natAbs < 2 ^ i) (h' : b.natAbs < 2 ^ j) : (a * b).natAbs < 2 ^ (i + j) := by
  rw [Int.natAbs_mul, Nat.pow_add]
  exact Nat.mul_lt_mul'' h h'
theorem add_lt_pow {a b : Int} {i : Nat} (h : a.natAbs < 2 ^ i) (h' : b.natAbs < 2 ^ i) : (a + b).natAbs < 2 ^ (i + 1) := by
  have := Int.natAbs_add_le a b
  rw [Nat.pow_succ]
  omega
theorem sub_lt_pow {a b : Int} {i : Nat} (h : a.natAbs < 2 ^ i) (h' : b.natAbs < 2 ^ i) : (a - b).natAbs < 2 ^ (i + 1) := by
  have := Int.natAbs_sub_le a b
  rw [Nat.pow_succ]
  omega
theorem up {a : Int} {i j : Nat} (h : a.natAbs < 2 ^ i) (hij : i ≤ j) : a.natAbs < 2 ^ j := Nat.lt_of_lt_of_le h (Nat.pow_le_pow_right (by decide) hij)
end Mth
set_option Elab.async false
set_option linter.all false
namespace Mth
structure Pt where
  n : Int
  d : Int
  m : Int
  e : Int
def sgn (i : Int) : Int := if i < 0 then -1 else if 0 < i then 1 else 0
theorem sgn_mul_pos {x y : Int} (h : 0 < y) : sgn (x * y) = sgn x := by
  unfold sgn
  rcases Int.lt_trichotomy x 0 with c | c | c
  · have := Int.mul_neg_of_neg_of_pos c h
    rw [if_pos this, if_pos c]
  · subst c; simp
  · have := Int.mul_pos c h
    rw [if_neg (by omega), if_pos this, if_neg (by omega), if_pos c]
def det3 (a b c k m n x y z : Int) : Int := (b * n - c * m) * x + (c * k - a * n) * y + (a * m - b * k) * z
def det (P Q R : Pt) : Int := det3 (P.n * P.e) (P.m * P.d) (P.d * P.e) (Q.n * Q.e) (Q.m * Q.d) (Q.d * Q.e) (R.n * R.e) (R.m * R.d) (R.d * R.e)
def lawdet (P Q R : Pt) : Int := (Q.n * P.d - P.n * Q.d) * (R.m * P.e - P.m * R.e) * (P.e * Q.e) * (P.d * R.d) - (Q.m * P.e - P.m * Q.e) * (R.n * P.d - P.n * R.d) * (P.d * Q.d) * (P.e * R.e)
theorem lawdet_eq (P Q R : Pt) : lawdet P Q R = det P Q R * (P.d * P.e) := by
  unfold lawdet det det3
  grind
/-- P moved: stretched by s over t, and B added -/
structure Mv (B : Pt) (s t : Int) (P P' : Pt) : Prop where
  x : P'.n * (P.d * t * B.d) = (P.n * s * B.d + B.n * (P.d * t)) * P'.d
  y : P'.m * (P.e * t * B.e) = (P.m * s * B.e + B.m * (P.e * t)) * P'.e
theorem Mv.rows {B P P' : Pt} {s t : Int} (h : Mv B s t P P') :
    (P.d * t * B.d * (P.e * t * B.e)) * (P'.n * P'.e) = (P'.d * P'.e * t) * ((s * B.d * B.e) * (P.n * P.e) + (B.n * B.e * t) * (P.d * P.e)) ∧
    (P.d * t * B.d * (P.e * t * B.e)) * (P'.m * P'.d) = (P'.d * P'.e * t) * ((s * B.d * B.e) * (P.m * P.d) + (B.m * B.d * t) * (P.d * P.e)) ∧
    (P.d * t * B.d * (P.e * t * B.e)) * (P'.d * P'.e) = (P'.d * P'.e * t) * ((t * B.d * B.e) * (P.d * P.e)) := by
  obtain ⟨hx, hy⟩ := h
  refine ⟨?_, ?_, ?_⟩
  · have : (P.d * t * B.d * (P.e * t * B.e)) * (P'.n * P'.e) = (P'.n * (P.d * t * B.d)) * ((P.e * t * B.e) * P'.e) := by grind
    rw [this, hx]; grind
  · have : (P.d * t * B.d * (P.e * t * B.e)) * (P'.m * P'.d) = (P'.m * (P.e * t * B.e)) * ((P.d * t * B.d) * P'.d) := by grind
    rw [this, hy]; grind
  · grind
end Mth
set_option linter.all false
set_option maxHeartbeats 1000000
namespace Sca
open Mth
theorem co_dvd {d n s : Int} (co : Int.gcd n d = 1) (h : d ∣ n * s) : d ∣ s := by
  have h1 : d.natAbs ∣ n.natAbs * s.natAbs := by rw [← Int.natAbs_mul]; exact Int.natAbs_dvd_natAbs.mpr h
  have h2 : Nat.Coprime d.natAbs n.natAbs := by
    show Nat.gcd _ _ = 1
    rw [Nat.gcd_comm]
    exact co
  exact Int.natAbs_dvd_natAbs.mp (h2.dvd_of_dvd_mul_left h1)
/-- the fraction (n, d) is X parts of S -/
def Sc (S X n d : Int) : Prop := 0 < d ∧ n * S = X * d
theorem Sc.up {S X n d : Int} (h : Sc S X n d) (c : Int) : Sc (S * c) (X * c) n d := ⟨h.1, by have := h.2; grind⟩
theorem cancel {a b c : Int} (h : 0 < c) (e : a * c = b * c) : a = b := Int.eq_of_mul_eq_mul_right (by omega) e
theorem Sc.plus {S X Y a0 a1 b0 b1 n d : Int} (h : Sc S X a0 a1) (k : Sc S Y b0 b1) (f : Fr (a0 * b1 + b0 * a1) (a1 * b1) n d) : Sc S (X + Y) n d := by
  refine ⟨f.pos, cancel (c := a1 * b1) (Int.mul_pos h.1 k.1) ?_⟩
  have e1 := f.eq
  have e2 := h.2
  have e3 := k.2
  grind
theorem Sc.less {S X Y a0 a1 b0 b1 n d : Int} (h : Sc S X a0 a1) (k : Sc S Y b0 b1) (f : Fr (a0 * b1 - b0 * a1) (a1 * b1) n d) : Sc S (X - Y) n d := by
  refine ⟨f.pos, cancel (c := a1 * b1) (Int.mul_pos h.1 k.1) ?_⟩
  have e1 := f.eq
  have e2 := h.2
  have e3 := k.2
  grind
theorem Sc.times {S T X Y a0 a1 b0 b1 n d : Int} (h : Sc S X a0 a1) (k : Sc T Y b0 b1) (f : Fr (a0 * b0) (a1 * b1) n d) : Sc (S * T) (X * Y) n d := by
  refine ⟨f.pos, cancel (c := a1 * b1) (Int.mul_pos h.1 k.1) ?_⟩
  have e1 := f.eq
  have e2 := h.2
  have e3 := k.2
  have : n * (S * T) * (a1 * b1) = (n * (a1 * b1)) * (S * T) := by grind
  rw [this, e1]
  have : a0 * b0 * d * (S * T) = (a0 * S) * (b0 * T) * d := by grind
  rw [this, e2, e3]
  grind
theorem Sc.size {S X n d : Int} (h : Sc S X n d) (co : Int.gcd n d = 1) (S0 : 0 < S) : n.natAbs ≤ X.natAbs ∧ d.natAbs ≤ S.natAbs := by
  have dv : d ∣ S := by
    have : d ∣ n * S := ⟨X, by rw [h.2, Int.mul_comm]⟩
    exact co_dvd co this
  obtain ⟨c, rfl⟩ := dv
  have c0 : 0 < c := by
    have := h.1
    rcases Int.lt_trichotomy c 0 with z | z | z
    · have := Int.mul_neg_of_pos_of_neg h.1 z
      omega
    · rw [z] at S0; simp at S0
    · exact z
  have e : n * c = X := cancel h.1 (by have := h.2; grind)
  refine ⟨?_, ?_⟩
  · rw [← e, Int.natAbs_mul]
    exact Nat.le_mul_of_pos_right _ (by omega)
  · rw [Int.natAbs_mul]
    exact Nat.le_mul_of_pos_right _ (by omega)
theorem Sc.inj {S X n d n' d' : Int} (h : Sc S X n d) (k : Sc S X n' d') (co : Int.gcd n d = 1) (co' : Int.gcd n' d' = 1) (S0 : 0 < S) : n = n' ∧ d = d' := by
  have e : n * d' = n' * d := cancel S0 (by
    have e1 := h.2
    have e2 := k.2
    grind)
  have d1 : d ∣ d' := co_dvd (n := n) co ⟨n', by rw [e, Int.mul_comm]⟩
  have d2 : d' ∣ d := co_dvd (n := n') co' ⟨n, by rw [← e, Int.mul_comm]⟩
  have ed : d = d' := Int.dvd_antisymm (by have := h.1; omega) (by have := k.1; omega) d1 d2
  subst ed
  exact ⟨cancel h.1 e, rfl⟩
theorem Sc.neg {S X n d : Int} (h : Sc S X n d) : Sc S (-X) (-n) d := ⟨h.1, by have := h.2; grind⟩
section
variable (X Y : Nat → Int)
def c (p q : Nat) : Int := X p * Y q - Y p * X q
theorem c_self (p : Nat) : c X Y p p = 0 := by unfold c; grind
theorem c_anti (p q : Nat) : c X Y q p = - c X Y p q := by unfold c; grind
def path : List Nat → Int
  | x :: y :: r => c X Y x y + path (y :: r)
  | _ => 0
def clo : List Nat → Int
  | [] => 0
  | h :: t => path X Y (h :: t ++ [h])
theorem path_app (x : Nat) : ∀ A B : List Nat, path X Y (A ++ x :: B) = path X Y (A ++ [x]) + path X Y (x :: B)
  | [], B => by simp [path]
  | [a], B => by simp [path]
  | a :: b :: A, B => by
    have ih := path_app x (b :: A) B
    simp only [List.cons_append, path] at ih ⊢
    rw [ih]
    omega
theorem path_rev : ∀ l : List Nat, path X Y l.reverse = - path X Y l
  | [] => by simp [path]
  | [a] => by simp [path]
  | a :: b :: l => by
    have ih := path_rev (b :: l)
    rw [List.reverse_cons, List.reverse_cons, List.append_assoc]
    show path X Y (l.reverse ++ b :: [a]) = _
    rw [path_app]
    rw [List.reverse_cons] at ih
    rw [ih]
    simp only [path]
    rw [c_anti X Y a b]
    omega
theorem clo_rot : ∀ A B : List Nat, clo X Y (A ++ B) = clo X Y (B ++ A)
  | [], B => by simp
  | A, [] => by simp
  | a :: A, b :: B => by
    show path X Y (a :: (A ++ b :: B) ++ [a]) = path X Y (b :: (B ++ a :: A) ++ [b])
    have e1 : a :: (A ++ b :: B) ++ [a] = (a :: A) ++ b :: (B ++ [a]) := by simp
    have e2 : b :: (B ++ a :: A) ++ [b] = (b :: B) ++ a :: (A ++ [b]) := by simp
    rw [e1, e2, path_app X Y b (a :: A) (B ++ [a]), path_app X Y a (b :: B) (A ++ [b])]
    simp only [List.cons_append]
    omega
theorem clo_rev (l : List Nat) : clo X Y l.reverse = - clo X Y l := by
  cases l with
  | nil => simp [clo]
  | cons h t =>
    rw [List.reverse_cons, clo_rot]
    show path X Y (h :: t.reverse ++ [h]) = - path X Y (h :: t ++ [h])
    rw [← path_rev]
    simp
theorem path_zip : ∀ (t : List Nat) (h z : Nat), (((h :: t).zip (t ++ [z])).map fun u => c X Y u.1 u.2).sum = path X Y (h :: t ++ [z])
  | [], h, z => by simp [path]
  | g :: t, h, z => by
    have ih := path_zip t g z
    simp only [List.cons_append, List.zip_cons_cons, List.map_cons, List.sum_cons, path] at ih ⊢
    rw [ih]
def prs (row : List Nat) : List (Nat × Nat) := row.zip (row.drop 1 ++ row.take 1)
theorem clo_prs (row : List Nat) : ((prs row).map fun u => c X Y u.1 u.2).sum = clo X Y row := by
  cases row with
  | nil => rfl
  | cons h t => exact path_zip X Y t h h
def ph (h p q : Nat) : Int := (X p - X h) * (Y q - Y h) - (Y p - Y h) * (X q - X h)
theorem fan_path (h : Nat) : ∀ (t : List Nat) (g : Nat), (((g :: t).zip t).map fun u => ph X Y h u.1 u.2).sum = path X Y (g :: t ++ [h]) + c X Y h g
  | [], g => by
    simp only [List.zip_nil_right, List.map_nil, List.sum_nil, List.cons_append, List.nil_append, path]
    rw [c_anti X Y h g]
    omega
  | k :: t, g => by
    have ih := fan_path h t k
    simp only [List.cons_append, List.zip_cons_cons, List.map_cons, List.sum_cons, path] at ih ⊢
    rw [ih]
    have : ph X Y h g k + c X Y h k = c X Y g k + c X Y h g := by unfold ph c; grind
    omega
theorem fan_clo (h : Nat) (t : List Nat) : ((t.zip (t.drop 1)).map fun u => ph X Y h u.1 u.2).sum = clo X Y (h :: t) := by
  cases t with
  | nil => simp [clo, path, c_self]
  | cons g t =>
    show (((g :: t).zip t).map _).sum = path X Y (h :: (g :: t) ++ [h])
    rw [fan_path]
    simp only [List.cons_append, path]
    omega
theorem clo_split (row : List Nat) (k : Nat) (h : k ≤ row.length) : clo X Y (row.take (k + 1)) + clo X Y (row.take 1 ++ row.drop k) = clo X Y row := by
  cases row with
  | nil => simp [clo]
  | cons a t =>
    rcases Nat.eq_zero_or_pos k with z | z
    · subst z
      show path X Y [a, a] + path X Y (a :: a :: t ++ [a]) = path X Y (a :: t ++ [a])
      simp only [List.cons_append, path, c_self]
      omega
    obtain ⟨j, rfl⟩ : ∃ j, k = j + 1 := ⟨k - 1, by omega⟩
    rcases Nat.lt_or_ge j t.length with l | l
    · have e : t = t.take j ++ t[j] :: t.drop (j + 1) := by rw [List.getElem_cons_drop, List.take_append_drop]
      have e1 : (a :: t).take (j + 1 + 1) = (a :: t.take j) ++ [t[j]] := by
        show a :: t.take (j + 1) = a :: (t.take j ++ [t[j]])
        rw [List.take_succ_eq_append_getElem l]
      have e2 : (a :: t).take 1 ++ (a :: t).drop (j + 1) = a :: t[j] :: t.drop (j + 1) := by
        show a :: t.drop j = a :: t[j] :: t.drop (j + 1)
        rw [List.drop_eq_getElem_cons l]
      rw [e1, e2]
      show path X Y (a :: (t.take j ++ [t[j]]) ++ [a]) + path X Y (a :: (t[j] :: t.drop (j + 1)) ++ [a]) = path X Y (a :: t ++ [a])
      have e3 : a :: (t.take j ++ [t[j]]) ++ [a] = (a :: t.take j) ++ t[j] :: [a] := by simp only [List.cons_append, List.append_assoc, List.nil_append]
      have e4 : a :: t ++ [a] = (a :: t.take j) ++ t[j] :: (t.drop (j + 1) ++ [a]) := by
        have : t ++ [a] = (t.take j ++ t[j] :: t.drop (j + 1)) ++ [a] := congrArg (· ++ [a]) e
        rw [List.cons_append, this]
        simp only [List.cons_append, List.append_assoc]
      rw [e3, e4, path_app X Y t[j] (a :: t.take j) [a], path_app X Y t[j] (a :: t.take j) (t.drop (j + 1) ++ [a])]
      simp only [List.cons_append, path]
      rw [c_anti X Y a t[j]]
      omega
    · have e1 : (a :: t).take (j + 1 + 1) = a :: t := List.take_of_length_le (by simp; omega)
      have e2 : (a :: t).drop (j + 1) = [] := List.drop_eq_nil_of_le (by simp; omega)
      rw [e1, e2]
      show clo X Y (a :: t) + path X Y [a, a] = _
      simp only [path, c_self]
      omega
def O (i j k : Nat) : Int := (X j - X i) * (Y k - Y i) - (Y j - Y i) * (X k - X i)
theorem O_cyc (i j k : Nat) : O X Y j k i = O X Y i j k := by unfold O; grind
theorem O_four (i j l k e : Nat) : O X Y j l k * O X Y e k i - O X Y i l k * O X Y e k j + O X Y i j k * O X Y e k l = 0 := by
  unfold O
  grind
/-- every edge has all others at its left hand -/
def Edges (m : Nat) : Prop := ∀ a, a < m → ∀ r, r < m → r ≠ a → r ≠ (a + 1) % m → 0 < O X Y a ((a + 1) % m) r
theorem bends_of {m : Nat} (h : Edges X Y m) : ∀ i j k, i < j → j < k → k < m → 0 < O X Y i j k := by
  have ed : ∀ a r, a + 1 < m → r < m → r ≠ a → r ≠ a + 1 → 0 < O X Y a (a + 1) r := fun a r h1 h2 h3 h4 => by
    have := h a (by omega) r h2 h3 (by rw [Nat.mod_eq_of_lt h1]; exact h4)
    rwa [Nat.mod_eq_of_lt h1] at this
  intro i j k ij jk km
  obtain ⟨n, rfl⟩ : ∃ n, j = i + 1 + n := ⟨j - i - 1, by omega⟩
  induction n with
  | zero => exact ed i k (by omega) km (by omega) (by omega)
  | succ n ih =>
    have ih := ih (by omega) (by omega)
    have e1 : k - 1 + 1 = k := by omega
    have f : ∀ x, x < m → x ≠ k - 1 → x ≠ k → 0 < O X Y (k - 1) k x := fun x hx h1 h2 => by
      have := ed (k - 1) x (by omega) hx h1 (by omega)
      rwa [e1] at this
    have id := O_four X Y i (i + 1 + n) (i + 1 + (n + 1)) k (k - 1)
    have fi := f i (by omega) (by omega) (by omega)
    have fj := f (i + 1 + n) (by omega) (by omega) (by omega)
    have ej := ed (i + 1 + n) k (by omega) km (by omega) (by omega)
    have a1 : 0 < O X Y (i + 1 + n) (i + 1 + (n + 1)) k * O X Y (k - 1) k i := Int.mul_pos ej fi
    have a2 : 0 ≤ O X Y i (i + 1 + n) k * O X Y (k - 1) k (i + 1 + (n + 1)) := by
      refine Int.mul_nonneg (by omega) ?_
      by_cases c : i + 1 + (n + 1) = k - 1
      · rw [c]
        have : O X Y (k - 1) k (k - 1) = 0 := by unfold O; grind
        omega
      · have := f (i + 1 + (n + 1)) (by omega) c (by omega)
        omega
    have a3 : 0 < O X Y i (i + 1 + (n + 1)) k * O X Y (k - 1) k (i + 1 + n) := by omega
    rcases Int.lt_trichotomy (O X Y i (i + 1 + (n + 1)) k) 0 with z | z | z
    · have := Int.mul_neg_of_neg_of_pos z fj
      omega
    · rw [z] at a3; simp at a3
    · exact z
theorem edges_of {m : Nat} (h : ∀ i j k, i < j → j < k → k < m → 0 < O X Y i j k) : Edges X Y m := by
  intro a ha r hr h1 h2
  rcases Nat.lt_or_ge (a + 1) m with l | l
  · rw [Nat.mod_eq_of_lt l] at h2 ⊢
    rcases Nat.lt_or_ge r a with z | z
    · rw [← O_cyc X Y a (a + 1) r, ← O_cyc X Y (a + 1) r a]
      exact h r a (a + 1) z (by omega) l
    · exact h a (a + 1) r (by omega) (by omega) hr
  · have e : a + 1 = m := by omega
    rw [e, Nat.mod_self] at h2 ⊢
    rw [← O_cyc X Y a 0 r]
    exact h 0 r a (by omega) (by omega) ha
end
def wrap (n k : Nat) : Nat := if k < n then k else k - n
theorem wrap_mod {n k : Nat} (h : k < 2 * n) : k % n = wrap n k := by
  unfold wrap
  by_cases c : k < n
  · rw [if_pos c, Nat.mod_eq_of_lt c]
  · rw [if_neg c, Nat.mod_eq_sub_mod (by omega), Nat.mod_eq_of_lt (by omega)]
theorem rot_get {α : Type} (l : List α) {i c : Nat} (hi : i < l.length) (hc : c < l.length) : (l.drop i ++ l.take i)[c]? = l[wrap l.length (i + c)]? := by
  unfold wrap
  by_cases z : i + c < l.length
  · rw [if_pos z, List.getElem?_append_left (by rw [List.length_drop]; omega), List.getElem?_drop]
  · rw [if_neg z, List.getElem?_append_right (by rw [List.length_drop]; omega), List.length_drop, List.getElem?_take, if_pos (by omega)]
    congr 1
    omega
/-- one edge: the others in the order in which they are met -/
theorem edge_iff (X Y : Nat → Int) {n i : Nat} (hn : 3 ≤ n) (hi : i < n) : (∀ c, c < n - 2 → 0 < O X Y i (wrap n (i + 1)) (wrap n (i + (c + 2)))) ↔ ∀ r, r < n → r ≠ i → r ≠ (i + 1) % n → 0 < O X Y i ((i + 1) % n) r := by
  rw [wrap_mod (show i + 1 < 2 * n by omega)]
  constructor
  · intro h r h1 h2 h3
    unfold wrap at h3
    by_cases z : i < r
    · have e := h (r - i - 2) (by split at h3 <;> omega)
      have : wrap n (i + (r - i - 2 + 2)) = r := by
        unfold wrap
        split at h3 <;> split <;> omega
      rwa [this] at e
    · have e := h (r + n - i - 2) (by split at h3 <;> omega)
      have : wrap n (i + (r + n - i - 2 + 2)) = r := by
        unfold wrap
        split at h3 <;> split <;> omega
      rwa [this] at e
  · intro h c hc
    refine h _ ?_ ?_ ?_
    · unfold wrap; split <;> omega
    · unfold wrap; split <;> omega
    · unfold wrap; split <;> split <;> omega
theorem edges_rev {X Y : Nat → Int} {n : Nat} (hn : 3 ≤ n) (h : Edges X Y n) : ¬ Edges (fun i => X (n - 1 - i)) (fun i => Y (n - 1 - i)) n := by
  intro k
  have a := bends_of X Y h (n - 3) (n - 2) (n - 1) (by omega) (by omega) (by omega)
  have b := bends_of _ _ k 0 1 2 (by omega) (by omega) (by omega)
  have e : O (fun i => X (n - 1 - i)) (fun i => Y (n - 1 - i)) 0 1 2 = O X Y (n - 1) (n - 2) (n - 3) := by
    unfold O
    dsimp only
    rw [show n - 1 - 0 = n - 1 by omega, show n - 1 - 1 = n - 2 by omega, show n - 1 - 2 = n - 3 by omega]
  rw [e] at b
  have f : O X Y (n - 1) (n - 2) (n - 3) = - O X Y (n - 3) (n - 2) (n - 1) := by unfold O; grind
  omega
/-- a point at the scales S, T -/
def Pc (S T x y : Int) (P : Pt) : Prop := Sc S x P.n P.d ∧ Sc T y P.m P.e
theorem det_O {S T : Int} (S0 : 0 < S) (T0 : 0 < T) {P Q R : Pt} {px py qx qy rx ry : Int} (hP : Pc S T px py P) (hQ : Pc S T qx qy Q) (hR : Pc S T rx ry R) : sgn (det P Q R) = sgn ((qx - px) * (ry - py) - (qy - py) * (rx - px)) := by
  obtain ⟨⟨p1, p2⟩, p3, p4⟩ := hP
  obtain ⟨⟨q1, q2⟩, q3, q4⟩ := hQ
  obtain ⟨⟨r1, r2⟩, r3, r4⟩ := hR
  have w : 0 < (P.d * P.e) * (Q.d * Q.e) * (R.d * R.e) := Int.mul_pos (Int.mul_pos (Int.mul_pos p1 p3) (Int.mul_pos q1 q3)) (Int.mul_pos r1 r3)
  have e : det P Q R * (S * T) = ((qx - px) * (ry - py) - (qy - py) * (rx - px)) * ((P.d * P.e) * (Q.d * Q.e) * (R.d * R.e)) := by
    have a : ∀ (n m x y d f : Int), n * S = x * d → m * T = y * f → n * m * (S * T) = x * d * (y * f) := fun n m x y d f h1 h2 => by rw [← h1, ← h2]; grind
    have b1 := a _ _ _ _ _ _ p2 q4
    have b2 := a _ _ _ _ _ _ p2 r4
    have b3 := a _ _ _ _ _ _ q2 p4
    have b4 := a _ _ _ _ _ _ q2 r4
    have b5 := a _ _ _ _ _ _ r2 p4
    have b6 := a _ _ _ _ _ _ r2 q4
    have ex : det P Q R * (S * T) = (Q.n * R.m * (S * T)) * (P.d * P.e) * (Q.e * R.d) - (R.n * Q.m * (S * T)) * (P.d * P.e) * (R.e * Q.d) - (P.n * R.m * (S * T)) * (Q.d * Q.e) * (P.e * R.d) + (R.n * P.m * (S * T)) * (Q.d * Q.e) * (R.e * P.d) + (P.n * Q.m * (S * T)) * (R.d * R.e) * (P.e * Q.d) - (Q.n * P.m * (S * T)) * (R.d * R.e) * (Q.e * P.d) := by
      unfold det det3
      grind
    rw [ex, b1, b2, b3, b4, b5, b6]
    grind
  rw [← sgn_mul_pos (x := det P Q R) (Int.mul_pos S0 T0), e, sgn_mul_pos w]
theorem low_unique {n d n' d' : Int} (h : 0 < d) (h' : 0 < d') (c : Int.gcd n d = 1) (c' : Int.gcd n' d' = 1) (e : n * d' = n' * d) : n = n' ∧ d = d' := by
  have d1 : d ∣ d' := co_dvd (n := n) c ⟨n', by rw [e, Int.mul_comm]⟩
  have d2 : d' ∣ d := co_dvd (n := n') c' ⟨n, by rw [← e, Int.mul_comm]⟩
  have ed : d = d' := Int.dvd_antisymm (by omega) (by omega) d1 d2
  subst ed
  exact ⟨cancel h e, rfl⟩
theorem pow_le_mul {a b : Int} {A B : Nat} (h : a.natAbs ≤ 2 ^ A) (k : b.natAbs ≤ 2 ^ B) : (a * b).natAbs ≤ 2 ^ (A + B) := by
  rw [Int.natAbs_mul, Nat.pow_add]
  exact Nat.mul_le_mul h k
/-- a scale for all points of a list -/
theorem scale_ex : ∀ L : List Pt, (∀ P ∈ L, 0 < P.d ∧ 0 < P.e ∧ P.n.natAbs < 2 ^ 206 ∧ P.d.natAbs < 2 ^ 206 ∧ P.m.natAbs < 2 ^ 206 ∧ P.e.natAbs < 2 ^ 206) →
    ∃ (S T : Int) (x y : Nat → Int), 0 < S ∧ 0 < T ∧ S.natAbs ≤ 2 ^ (206 * L.length) ∧ T.natAbs ≤ 2 ^ (206 * L.length) ∧ ∀ (i : Nat) (P : Pt), L[i]? = some P → Pc S T (x i) (y i) P ∧ (x i).natAbs ≤ 2 ^ (206 * L.length) ∧ (y i).natAbs ≤ 2 ^ (206 * L.length)
  | [], _ => ⟨1, 1, fun _ => 0, fun _ => 0, by decide, by decide, by decide, by decide, fun i P e => by simp at e⟩
  | P :: L, h => by
    obtain ⟨S, T, x, y, S0, T0, s1, t1, hx⟩ := scale_ex L fun Q hQ => h Q (List.mem_cons_of_mem _ hQ)
    obtain ⟨p1, p2, p3, p4, p5, p6⟩ := h P List.mem_cons_self
    have e : 206 * (P :: L).length = 206 + 206 * L.length := by rw [List.length_cons]; omega
    have e' : 206 * (P :: L).length = 206 * L.length + 206 := by rw [List.length_cons]; omega
    refine ⟨P.d * S, P.e * T, fun i => match i with | 0 => P.n * S | i + 1 => x i * P.d, fun i => match i with | 0 => P.m * T | i + 1 => y i * P.e, Int.mul_pos p1 S0, Int.mul_pos p2 T0, ?_, ?_, fun i Q hQ => ?_⟩
    · rw [e]; exact pow_le_mul (by omega) s1
    · rw [e]; exact pow_le_mul (by omega) t1
    · match i, hQ with
      | 0, hQ =>
        cases hQ
        refine ⟨⟨⟨p1, by show P.n * (P.d * S) = P.n * S * P.d; grind⟩, p2, by show P.m * (P.e * T) = P.m * T * P.e; grind⟩, ?_, ?_⟩
        · rw [e]; exact pow_le_mul (by omega) s1
        · rw [e]; exact pow_le_mul (by omega) t1
      | i + 1, hQ =>
        obtain ⟨⟨⟨a1, a2⟩, b1, b2⟩, c1, c2⟩ := hx i Q (by simpa using hQ)
        refine ⟨⟨⟨a1, by show Q.n * (P.d * S) = x i * P.d * Q.d; grind⟩, b1, by show Q.m * (P.e * T) = y i * P.e * Q.e; grind⟩, ?_, ?_⟩
        · rw [e']; exact pow_le_mul c1 (by omega)
        · rw [e']; exact pow_le_mul c2 (by omega)
end Sca
set_option Elab.async false
set_option linter.all false
set_option maxRecDepth 100000
set_option maxHeartbeats 4000000
namespace Prf
open PySem L2 Own Mth Sca
def top (i : Nat) : Stmt := PySem.Challenge.pw_restdraw_k45_areas_and_bends.main.body.getD i (.Pass ⟨0, 0, 0, 0⟩)
abbrev s_greatest_divisor : Stmt := top 1
theorem sc_greatest_divisor : FnScope ["one", "other"] ["one", "other"] (defScope s_greatest_divisor) := ⟨rfl, rfl, rfl, by decide +kernel, rfl, by decide +kernel, by decide +kernel⟩
abbrev s_fraction : Stmt := top 2
theorem sc_fraction : FnScope ["n", "d", "divisor"] ["n", "d"] (defScope s_fraction) := ⟨rfl, rfl, rfl, by decide +kernel, rfl, by decide +kernel, by decide +kernel⟩
abbrev s_plus : Stmt := top 3
theorem sc_plus : FnScope ["one", "other"] ["one", "other"] (defScope s_plus) := ⟨rfl, rfl, rfl, by decide +kernel, rfl, by decide +kernel, by decide +kernel⟩
abbrev s_less : Stmt := top 4
theorem sc_less : FnScope ["one", "other"] ["one", "other"] (defScope s_less) := ⟨rfl, rfl, rfl, by decide +kernel, rfl, by decide +kernel, by decide +kernel⟩
abbrev s_times : Stmt := top 5
theorem sc_times : FnScope ["one", "other"] ["one", "other"] (defScope s_times) := ⟨rfl, rfl, rfl, by decide +kernel, rfl, by decide +kernel, by decide +kernel⟩
abbrev s_sign : Stmt := top 6
theorem sc_sign : FnScope ["one"] ["one"] (defScope s_sign) := ⟨rfl, rfl, rfl, by decide +kernel, rfl, by decide +kernel, by decide +kernel⟩
abbrev s_spread : Stmt := top 8
theorem sc_spread : FnScope ["point", "n", "d", "m", "e"] ["point"] (defScope s_spread) := ⟨rfl, rfl, rfl, by decide +kernel, rfl, by decide +kernel, by decide +kernel⟩
abbrev s_across : Stmt := top 9
theorem sc_across : FnScope ["one", "other", "a", "b", "c", "k", "m", "n"] ["one", "other"] (defScope s_across) := ⟨rfl, rfl, rfl, by decide +kernel, rfl, by decide +kernel, by decide +kernel⟩
abbrev s_hand : Stmt := top 10
theorem sc_hand : FnScope ["p", "q", "r", "a", "b", "c", "x", "y", "z"] ["p", "q", "r"] (defScope s_hand) := ⟨rfl, rfl, rfl, by decide +kernel, rfl, by decide +kernel, by decide +kernel⟩
abbrev s_all_at_hand : Stmt := top 11
theorem sc_all_at_hand : FnScope ["points", "which", "many", "turned_on"] ["points", "which"] (defScope s_all_at_hand) := ⟨rfl, rfl, rfl, by decide +kernel, rfl, by decide +kernel, by decide +kernel⟩
abbrev s_area : Stmt := top 13
theorem sc_area : FnScope ["drawing", "row", "total", "p", "q", "x", "y", "further", "higher"] ["drawing", "row"] (defScope s_area) := ⟨rfl, rfl, rfl, by decide +kernel, rfl, by decide +kernel, by decide +kernel⟩
abbrev s_bends : Stmt := top 14
theorem sc_bends : FnScope ["drawing", "row"] ["drawing", "row"] (defScope s_bends) := ⟨rfl, rfl, rfl, by decide +kernel, rfl, by decide +kernel, by decide +kernel⟩
abbrev s_law_pot : Stmt := top 16
theorem sc_law_pot : FnScope ["_law_script", "_law_k", "_law_cell"] ["_law_script", "_law_k"] (defScope s_law_pot) := ⟨rfl, rfl, rfl, by decide +kernel, rfl, by decide +kernel, by decide +kernel⟩
abbrev s_law_digit : Stmt := top 17
theorem sc_law_digit : FnScope ["_law_pot_here", "_law_many", "_law_digit_here"] ["_law_pot_here", "_law_many"] (defScope s_law_digit) := ⟨rfl, rfl, rfl, by decide +kernel, rfl, by decide +kernel, by decide +kernel⟩
abbrev s_law_low : Stmt := top 18
theorem sc_law_low : FnScope ["_law_n", "_law_d", "_law_one", "_law_other"] ["_law_n", "_law_d"] (defScope s_law_low) := ⟨rfl, rfl, rfl, by decide +kernel, rfl, by decide +kernel, by decide +kernel⟩
abbrev s_law_plus : Stmt := top 19
theorem sc_law_plus : FnScope ["_law_one", "_law_other"] ["_law_one", "_law_other"] (defScope s_law_plus) := ⟨rfl, rfl, rfl, by decide +kernel, rfl, by decide +kernel, by decide +kernel⟩
abbrev s_law_less : Stmt := top 20
theorem sc_law_less : FnScope ["_law_one", "_law_other"] ["_law_one", "_law_other"] (defScope s_law_less) := ⟨rfl, rfl, rfl, by decide +kernel, rfl, by decide +kernel, by decide +kernel⟩
abbrev s_law_times : Stmt := top 21
theorem sc_law_times : FnScope ["_law_one", "_law_other"] ["_law_one", "_law_other"] (defScope s_law_times) := ⟨rfl, rfl, rfl, by decide +kernel, rfl, by decide +kernel, by decide +kernel⟩
abbrev s_law_sign : Stmt := top 22
theorem sc_law_sign : FnScope ["_law_one"] ["_law_one"] (defScope s_law_sign) := ⟨rfl, rfl, rfl, by decide +kernel, rfl, by decide +kernel, by decide +kernel⟩
abbrev s_law_number : Stmt := top 23
theorem sc_law_number : FnScope ["_law_pot_here", "_law_mode", "_law_far"] ["_law_pot_here", "_law_mode"] (defScope s_law_number) := ⟨rfl, rfl, rfl, by decide +kernel, rfl, by decide +kernel, by decide +kernel⟩
abbrev s_law_between : Stmt := top 24
theorem sc_law_between : FnScope ["_law_one", "_law_other", "_law_part"] ["_law_one", "_law_other", "_law_part"] (defScope s_law_between) := ⟨rfl, rfl, rfl, by decide +kernel, rfl, by decide +kernel, by decide +kernel⟩
abbrev s_law_point : Stmt := top 25
theorem sc_law_point : FnScope ["_law_pot_here", "_law_points_here", "_law_mode", "_law_p", "_law_q", "_law_part"] ["_law_pot_here", "_law_points_here", "_law_mode"] (defScope s_law_point) := ⟨rfl, rfl, rfl, by decide +kernel, rfl, by decide +kernel, by decide +kernel⟩
abbrev s_law_points : Stmt := top 26
theorem sc_law_points : FnScope ["_law_pot_here", "_law_many", "_law_mode", "_law_found", "_law_k", "_law_point_here"] ["_law_pot_here", "_law_many"] (defScope s_law_points) := ⟨rfl, rfl, rfl, by decide +kernel, rfl, by decide +kernel, by decide +kernel⟩
abbrev s_law_apart : Stmt := top 27
theorem sc_law_apart : FnScope ["_law_one", "_law_other"] ["_law_one", "_law_other"] (defScope s_law_apart) := ⟨rfl, rfl, rfl, by decide +kernel, rfl, by decide +kernel, by decide +kernel⟩
abbrev s_law_hand : Stmt := top 28
theorem sc_law_hand : FnScope ["_law_p", "_law_q", "_law_r", "_law_a", "_law_b", "_law_c", "_law_d"] ["_law_p", "_law_q", "_law_r"] (defScope s_law_hand) := ⟨rfl, rfl, rfl, by decide +kernel, rfl, by decide +kernel, by decide +kernel⟩
abbrev s_law_area : Stmt := top 29
theorem sc_law_area : FnScope ["_law_drawing", "_law_row_here", "_law_found", "_law_p", "_law_q", "_law_one", "_law_other"] ["_law_drawing", "_law_row_here"] (defScope s_law_area) := ⟨rfl, rfl, rfl, by decide +kernel, rfl, by decide +kernel, by decide +kernel⟩
abbrev s_law_bow : Stmt := top 30
theorem sc_law_bow : FnScope ["_law_pot_here", "_law_many", "_law_left", "_law_found", "_law_at"] ["_law_pot_here", "_law_many"] (defScope s_law_bow) := ⟨rfl, rfl, rfl, by decide +kernel, rfl, by decide +kernel, by decide +kernel⟩
abbrev s_law_row : Stmt := top 31
theorem sc_law_row : FnScope ["_law_pot_here", "_law_many"] ["_law_pot_here", "_law_many"] (defScope s_law_row) := ⟨rfl, rfl, rfl, by decide +kernel, rfl, by decide +kernel, by decide +kernel⟩
abbrev s_law_unlike : Stmt := top 32
theorem sc_law_unlike : FnScope ["_law_pot_here", "_law_many", "_law_left", "_law_at", "_law_found", "_law_k"] ["_law_pot_here", "_law_many"] (defScope s_law_unlike) := ⟨rfl, rfl, rfl, by decide +kernel, rfl, by decide +kernel, by decide +kernel⟩
abbrev s_law_is_fraction : Stmt := top 33
theorem sc_law_is_fraction : FnScope ["_law_one"] ["_law_one"] (defScope s_law_is_fraction) := ⟨rfl, rfl, rfl, by decide +kernel, rfl, by decide +kernel, by decide +kernel⟩
abbrev s_law_area_right : Stmt := top 34
theorem sc_law_area_right : FnScope ["_law_pot_here", "_law_drawing", "_law_row_here", "_law_due", "_law_at", "_law_found", "_law_first", "_law_rest"] ["_law_pot_here", "_law_drawing", "_law_row_here"] (defScope s_law_area_right) := ⟨rfl, rfl, rfl, by decide +kernel, rfl, by decide +kernel, by decide +kernel⟩
abbrev s_law_bends : Stmt := top 35
theorem sc_law_bends : FnScope ["_law_drawing", "_law_row_here", "_law_k", "_law_j", "_law_i"] ["_law_drawing", "_law_row_here"] (defScope s_law_bends) := ⟨rfl, rfl, rfl, by decide +kernel, rfl, by decide +kernel, by decide +kernel⟩
abbrev s_law : Stmt := top 36
theorem sc_law : FnScope ["_law_script", "_law_k", "_law_pot_here", "_law_many", "_law_drawing", "_law_p", "_law_q", "_law_row_here", "_law_due", "_law_found"] ["_law_script"] (defScope s_law) := ⟨rfl, rfl, rfl, by decide +kernel, rfl, by decide +kernel, by decide +kernel⟩
theorem same_new {H : Hp} {p : Addr} (h : H p = none) (o : HO) : Same H (upd H p o) := fun b u q => by rw [upd_ne (ne_of_none q h)]; exact q
def SameBut (a : Addr) (H H' : Hp) : Prop := ∀ b o, b ≠ a → H b = some o → H' b = some o
theorem abs_eq (i : Int) : (if i < 0 then -i else i) = (i.natAbs : Int) := by split <;> omega
def Gets (n d : Int) (H : Hp) (Q : VK) : Prop := ∀ (n' d' : Int) (p : Addr) (H' : Hp), Fr n d n' d' → Same H H' → H' p = some (.tup [.int n', .int d']) → Q (.ref p) H'
def spFr : Sp := fun vs H Q _ => ∃ n d : Int, vs = [.int n, .int d] ∧ d ≠ 0 ∧ d.natAbs < 2 ^ 9000 ∧ Gets n d H Q
def spBin (top bot : Int → Int → Int → Int → Int) : Sp := fun vs H Q _ => ∃ (a b : Addr) (a0 a1 b0 b1 : Int), vs = [.ref a, .ref b] ∧ H a = some (.tup [.int a0, .int a1]) ∧ H b = some (.tup [.int b0, .int b1]) ∧
  (a0.natAbs < 2 ^ 4000 ∧ a1.natAbs < 2 ^ 4000 ∧ b0.natAbs < 2 ^ 4000 ∧ b1.natAbs < 2 ^ 4000) ∧ bot a0 a1 b0 b1 ≠ 0 ∧ Gets (top a0 a1 b0 b1) (bot a0 a1 b0 b1) H Q
def spSign : Sp := fun vs H Q _ => ∃ (a : Addr) (a0 a1 : Int), vs = [.ref a] ∧ H a = some (.tup [.int a0, .int a1]) ∧ Q (.int (sgn a0)) H
def spPot (K : PySem.W.Frag) : Sp := fun vs H Q _ => ∃ (a : Addr) (ns : List Int) (k : Int), vs = [.ref a, .int k] ∧ SqL K H a (ns.map V.int) ∧ ns.length ≤ 63 ∧ 0 ≤ k ∧ k ≤ 63 ∧
  ∀ (p : Addr) (x y : Int) (H' : Hp), 0 ≤ x → Same H H' → H p = none → H' p = some (.lst [.int x, .int y]) → Q (.ref p) H'
def PotAt (H : Hp) (a : Addr) : Prop := ∃ x y : Int, H a = some (.lst [.int x, .int y]) ∧ 0 ≤ x
def spDigit : Sp := fun vs H Q _ => ∃ (a : Addr) (m : Int), vs = [.ref a, .int m] ∧ PotAt H a ∧ 0 < m ∧ m.natAbs < 2 ^ 9000 ∧
  ∀ (d : Int) (H' : Hp), 0 ≤ d → d < m → SameBut a H H' → PotAt H' a → Q (.int d) H'
/-- points on the heap -/
def Sz (B : Nat) (P : Pt) : Prop := 0 < P.d ∧ 0 < P.e ∧ P.n.natAbs < 2 ^ B ∧ P.d.natAbs < 2 ^ B ∧ P.m.natAbs < 2 ^ B ∧ P.e.natAbs < 2 ^ B
def PtAt (H : Hp) (p : Addr) (P : Pt) : Prop := ∃ x y, H p = some (.tup [.ref x, .ref y]) ∧ H x = some (.tup [.int P.n, .int P.d]) ∧ H y = some (.tup [.int P.m, .int P.e])
def Fz (B : Nat) (n d : Int) : Prop := 0 < d ∧ n.natAbs < 2 ^ B ∧ d.natAbs < 2 ^ B
def spSpread : Sp := fun vs H Q _ => ∃ (p : Addr) (P : Pt), vs = [.ref p] ∧ PtAt H p P ∧ Sz 1000 P ∧ ∀ q, H q = none → Q (.ref q) (upd H q (.tup [.int (P.n * P.e), .int (P.m * P.d), .int (P.d * P.e)]))
def spAcross : Sp := fun vs H Q _ => ∃ (p q : Addr) (a b c k m n : Int), vs = [.ref p, .ref q] ∧ H p = some (.tup [.int a, .int b, .int c]) ∧ H q = some (.tup [.int k, .int m, .int n]) ∧
  (a.natAbs < 2 ^ 4000 ∧ b.natAbs < 2 ^ 4000 ∧ c.natAbs < 2 ^ 4000 ∧ k.natAbs < 2 ^ 4000 ∧ m.natAbs < 2 ^ 4000 ∧ n.natAbs < 2 ^ 4000) ∧
  ∀ t, H t = none → Q (.ref t) (upd H t (.tup [.int (b * n - c * m), .int (c * k - a * n), .int (a * m - b * k)]))
def spHand (f : Pt → Pt → Pt → Int) : Sp := fun vs H Q _ => ∃ (p q r : Addr) (P P' R : Pt), vs = [.ref p, .ref q, .ref r] ∧ PtAt H p P ∧ PtAt H q P' ∧ PtAt H r R ∧ Sz 1000 P ∧ Sz 1000 P' ∧ Sz 1000 R ∧ ∀ H', Same H H' → Q (.int (sgn (f P P' R))) H'
/-- points drawn: lowest terms, small -/
def Lw (P : Pt) : Prop := 0 < P.d ∧ 0 < P.e ∧ Int.gcd P.n P.d = 1 ∧ Int.gcd P.m P.e = 1
/-- a fraction at the scale S, of at most V -/
def Cd (S V : Nat) (n d : Int) : Prop := ∃ X : Int, Sc (S : Int) X n d ∧ X.natAbs ≤ V * S
def sc : Nat → Nat
  | 0 => 6
  | i + 1 => sc i * (6 * ((7 + i) * (11 + i)))
def vv : Nat → Nat
  | 0 => 4
  | i + 1 => 5 * vv i + 6
def spNumber : Sp := fun vs H Q _ => ∃ (a : Addr) (mode : Int), vs = [.ref a, .int mode] ∧ PotAt H a ∧ 0 ≤ mode ∧
  ∀ (n d : Int) (p : Addr) (H' : Hp), Fz (if mode < 2 then 10 else 200) n d → Int.gcd n d = 1 → (mode < 2 → Cd 6 4 n d) → SameBut a H H' → PotAt H' a → H' p = some (.tup [.int n, .int d]) → Q (.ref p) H'
def spBetween : Sp := fun vs H Q _ => ∃ (a b c : Addr) (a0 a1 b0 b1 c0 c1 : Int) (B : Nat), vs = [.ref a, .ref b, .ref c] ∧ H a = some (.tup [.int a0, .int a1]) ∧ H b = some (.tup [.int b0, .int b1]) ∧ H c = some (.tup [.int c0, .int c1]) ∧
  Fz B a0 a1 ∧ Fz B b0 b1 ∧ Fz 2 c0 c1 ∧ B ≤ 300 ∧ ∀ (n d : Int) (p : Addr) (H' : Hp), (∀ S X Y C : Int, Sc S X a0 a1 → Sc S Y b0 b1 → Sc 6 C c0 c1 → Sc (S * 6) (X * 6 + C * (Y - X)) n d) → Int.gcd n d = 1 → Same H H' → H' p = some (.tup [.int n, .int d]) → Q (.ref p) H'
def Okp (mode : Int) (i : Nat) (P : Pt) : Prop := Lw P ∧ Sz 206 P ∧ (mode < 2 → Cd (sc i) (vv i) P.n P.d ∧ Cd (sc i) (vv i) P.m P.e)
def Okq (mode : Int) (i : Nat) (P : Pt) : Prop := Lw P ∧ Sz 200 P ∧ (mode < 2 → Cd (sc i * 6) (5 * vv i + 4) P.n P.d ∧ Cd (sc i * 6) (5 * vv i + 4) P.m P.e)
def ListAt (H : Hp) (l : Addr) (mode : Int) (i n : Nat) : Prop := ∃ ps : List Addr, H l = some (.lst (ps.map V.ref)) ∧ ps.length = n ∧ ∀ p ∈ ps, ∃ P, PtAt H p P ∧ Okp mode i P
def spPoint : Sp := fun vs H Q _ => ∃ (a l : Addr) (mode : Int) (i n : Nat), vs = [.ref a, .ref l, .int mode] ∧ PotAt H a ∧ ListAt H l mode i n ∧ a ≠ l ∧ 0 ≤ mode ∧ i ≤ 7 ∧ n ≤ 8 ∧
  ∀ (P : Pt) (p : Addr) (H' : Hp), Okq mode i P → SameBut a H H' → PotAt H' a → PtAt H' p P → Q (.ref p) H'
def spPoints : Sp := fun vs H Q _ => ∃ (a : Addr) (m : Nat), vs = [.ref a, .int (m : Int)] ∧ PotAt H a ∧ m ≤ 8 ∧
  ∀ (t : Addr) (ps : List Addr) (H' : Hp), SameBut a H H' → PotAt H' a → H' t = some (.tup (ps.map V.ref)) → ps.length = m → (∀ p ∈ ps, ∃ P, PtAt H' p P ∧ Sz 206 P ∧ Lw P) → Q (.ref t) H'
def spApart : Sp := fun vs H Q _ => ∃ (a b : Addr) (a0 a1 b0 b1 : Int), vs = [.ref a, .ref b] ∧ H a = some (.tup [.int a0, .int a1]) ∧ H b = some (.tup [.int b0, .int b1]) ∧
  (a0.natAbs < 2 ^ 1700 ∧ a1.natAbs < 2 ^ 1700 ∧ b0.natAbs < 2 ^ 1700 ∧ b1.natAbs < 2 ^ 1700) ∧ ∀ t, H t = none → Q (.ref t) (upd H t (.tup [.int (b0 * a1 - a0 * b1), .int (a1 * b1)]))
def spHandL : Sp := fun vs H Q _ => ∃ (p q r : Addr) (P P' R : Pt), vs = [.ref p, .ref q, .ref r] ∧ PtAt H p P ∧ PtAt H q P' ∧ PtAt H r R ∧ Sz 210 P ∧ Sz 210 P' ∧ Sz 1700 R ∧ ∀ H', Same H H' → Q (.int (sgn (lawdet P P' R))) H'
def spGcd : Sp := fun vs H Q _ => ∃ i j : Int, vs = [.int i, .int j] ∧ Q (.int (Int.gcd i j : Int)) H
def spLaw (K : PySem.W.Frag) : Sp := fun vs H Q _ => ∃ (a : Addr) (ns : List Int), vs = [.ref a] ∧ SqL K H a (ns.map V.int) ∧ ns.length ≤ 63 ∧ ∀ H', Q (.bl true) H'
section
variable {P : Program} {w : World} {K : PySem.W.Frag} {mg : Str → Option Value} {base : Heap}
theorem at0 {x y : V} : atI [x, y] 0 = some x := rfl
theorem at1 {x y : V} : atI [x, y] 1 = some y := rfl
theorem w9 {a : Int} {B : Nat} (h : a.natAbs < 2 ^ B) (hB : B ≤ 9000 := by decide) : a.natAbs < 2 ^ 9000 := up h hB
theorem m9 {a b : Int} {B C : Nat} (h : a.natAbs < 2 ^ B) (h' : b.natAbs < 2 ^ C) (hB : B + C ≤ 9000 := by decide) : (a * b).natAbs < 2 ^ 9000 := up (mul_lt_pow h h') hB
theorem cut_ints (ns : List Int) (lo hi : Option Int) : ∃ ms : List Int, cutV (ns.map V.int) lo hi = ms.map V.int ∧ ms.length ≤ ns.length := by
  refine ⟨(ns.drop (HT.sIx (ns.map V.int).length 0 lo)).take (HT.sIx (ns.map V.int).length (ns.map V.int).length hi - HT.sIx (ns.map V.int).length 0 lo), ?_, ?_⟩
  · unfold cutV
    rw [List.map_take, List.map_drop]
  · rw [List.length_take, List.length_drop]
    omega
theorem first_int (ms : List Int) : ∃ c : Int, atI (ms.map V.int ++ [V.int 0]) 0 = some (V.int c) := by
  cases ms with
  | nil => exact ⟨0, rfl⟩
  | cons x r => exact ⟨x, atI_nat (j := 0) rfl⟩
theorem small {n : Nat} (h : n ≤ 1000) : n ≤ sizeLine := Nat.le_of_lt (small1000 h)
theorem ok_law_pot {f : Addr} {fd : FuncData} (F : Fun K "_law_pot" "_law_pot" s_law_pot f fd) (z_abs : mg "abs" = none) (z_max : mg "max" = none) : FnOk P w K mg base CX0 1 f fd ["_law_script", "_law_k"] (spPot K) := by
  refine F.ok sc_law_pot (fun vs H Q E h => ?_) (fun cdv A outer s H vs Q E hr h => ?_)
  · obtain ⟨a, ns, k, rfl, _⟩ := h
    rfl
  obtain ⟨a, ns, k, rfl, hS, h63, k0, k1, q⟩ := h
  refine ⟨_, (pss_cons (ps_set (i := 2) sc_law_pot.nd rfl (Or.inl rfl) (pe_ix ix_list (pe_op op_cat (pe_slice sl_list (pv 0) (po_some (pv 1)) (po_some (pe_op op_add (pv 1) pe_int))) (pe_lst (pa_cons pe_int pa_nil))) pe_int (fun _ _ => rfl)))
      (pss_one (ps_ret (pe_lst (pa_cons (pe_callB (call_max2 rfl) rfl z_max PyProof.Rows.boot_max (pa_cons pe_int (pa_cons (pe_op op_sub (pv 2) (pe_op op_pow pe_int pe_int)) pa_nil))) (pa_cons (pe_op op_add (pe_op op_mod (pe_op op_add (pe_op op_add (pe_callB call_abs rfl z_abs PyProof.Rows.boot_abs (pa_cons (pv 2) pa_nil)) (pe_op op_mul pe_int (pv 1))) pe_int) pe_int) pe_int) pa_nil)))))), ?_⟩
  obtain ⟨ms, em, lm⟩ := cut_ints ns (some k) (some (k + 1))
  obtain ⟨c, hc⟩ := first_int ms
  refine ⟨_, rfl, _, rfl, k, rfl, _, rfl, _, _, rfl, rfl, k + 1, rfl, a, _, rfl, hS, fun p1 h1 => ?_⟩
  refine ⟨(by show 1 ≤ sizeLine; decide), fun p2 h2 => ?_⟩
  have n12 : p1 ≠ p2 := ne_of_none upd_same h2
  refine ⟨p1, p2, _, _, rfl, rfl, (by rw [upd_ne n12]; exact upd_same), upd_same, (by rw [em, List.length_map, List.length_singleton]; exact small (by omega)), fun p3 h3 => ?_⟩
  refine ⟨p3, _, _, _, rfl, rfl, SqL.of upd_same, (by rw [em]; exact hc), ?_⟩
  have g1 : Same H (upd H p1 (.lst (cutV (ns.map V.int) (some k) (some (k + 1))))) := same_new h1 _
  have g2 := same_new h2 (.lst [V.int 0])
  have g3 := same_new h3 (.lst (cutV (ns.map V.int) (some k) (some (k + 1)) ++ [V.int 0]))
  have g := g1.trans (g2.trans g3)
  refine ⟨_, rfl, _, _, rfl, rfl, ⟨by decide, by decide, by decide⟩, _, _, rfl, rfl, _, _, rfl, _, rfl, c, rfl, _, rfl, _, _, rfl, rfl, .inl ⟨by decide, by decide⟩, _, _, rfl, rfl, _, _, rfl, rfl, _, _, rfl, rfl, (by show (0 : Int) < 2147483629; decide), _, _, rfl, rfl, (by show 2 ≤ sizeLine; decide), fun p4 h4 => ?_⟩
  refine q p4 _ _ _ ?_ (g.trans (same_new h4 _)) (g.free h4) upd_same
  split <;> omega
theorem SameBut.refl (a : Addr) (H : Hp) : SameBut a H H := fun _ _ _ h => h
theorem SameBut.trans {a : Addr} {H H1 H2 : Hp} (x : SameBut a H H1) (y : SameBut a H1 H2) : SameBut a H H2 := fun b o n h => y b o n (x b o n h)
theorem SameBut.of {a : Addr} {H H' : Hp} (h : Same H H') : SameBut a H H' := fun b o _ e => h b o e
theorem but_upd {a : Addr} {H : Hp} {o : HO} : SameBut a H (upd H a o) := fun b u n h => by rw [upd_ne n]; exact h
theorem ok_law_digit {f : Addr} {fd : FuncData} (F : Fun K "_law_digit" "_law_digit" s_law_digit f fd) (z_divmod : mg "divmod" = none) : FnOk P w K mg base CX0 1 f fd ["_law_pot_here", "_law_many"] (spDigit) := by
  refine F.ok sc_law_digit (fun vs H Q E h => ?_) (fun cdv A outer s H vs Q E hr h => ?_)
  · obtain ⟨a, m, rfl, _⟩ := h
    rfl
  obtain ⟨a, m, rfl, ⟨x, y, ha, hx⟩, m0, m1, q⟩ := h
  refine ⟨_, (pss_cons (ps_if (pt_cmpR op_gt (pe_ix ix_list (pv 0) pe_int (fun _ _ => rfl)) pe_int (nomark _)) (pss_cons (ps_asg (pe_callB call_divmodW rfl z_divmod PyProof.Rows.boot_divmod (pa_cons (pe_ix ix_list (pv 0) pe_int (fun _ _ => rfl)) (pa_cons (pv 1) pa_nil))) (pg_tup rfl (pgs_cons (pg_sub (pv 0) pe_int set_list) (pgs_cons (pg_name (i := 2) sc_law_digit.nd rfl (Or.inl rfl)) pgs_nil))))
      (pss_one (ps_ret (pv 2)))) pss_nil)
      (pss_cons (ps_asg (pe_op op_mod (pe_op op_add (pe_op op_mul (pe_ix ix_list (pv 0) pe_int (fun _ _ => rfl)) pe_int) pe_int) pe_int) (pg_sub (pv 0) pe_int set_list))
      (pss_one (ps_ret (pe_op op_mod (pe_op op_fdiv (pe_op op_mod (pe_op op_mul (pe_ix ix_list (pv 0) pe_int (fun _ _ => rfl)) (pe_ix ix_list (pv 0) pe_int (fun _ _ => rfl))) pe_int) pe_int) (pv 1)))))), ?_⟩
  refine ⟨_, rfl, a, _, _, _, rfl, rfl, SqL.of ha, at0, _, _, rfl, rfl, _, rfl, ?_⟩
  refine ite2 (fun c => ?_) (fun c => ?_)
  · refine ⟨_, rfl, a, _, _, _, rfl, rfl, SqL.of ha, at0, _, rfl, x, m, rfl, ⟨m0, m1⟩, fun p hp => ?_⟩
    have nap : a ≠ p := ne_of_none ha hp
    refine ⟨p, _, rfl, SqT.of upd_same, rfl, _, _, rfl, _, rfl, a, _, _, 0, rfl, rfl, (by rw [upd_ne nap]; exact ha), rfl, _, _, rfl, rfl, ?_⟩
    refine ⟨_, rfl, ?_⟩
    refine q _ _ (Int.emod_nonneg _ (by omega)) (Int.emod_lt_of_pos _ m0) ((SameBut.of (same_new hp _)).trans but_upd) ⟨_, _, upd_same, ?_⟩
    exact Int.ediv_nonneg hx (by omega)
  · refine ⟨_, rfl, a, _, _, _, rfl, rfl, SqL.of ha, at1, _, _, rfl, rfl, .inr ⟨by decide, by decide⟩, _, _, rfl, rfl, _, _, rfl, rfl, (by show (0 : Int) < 2147483647; decide), ?_⟩
    refine ⟨_, rfl, a, _, _, 1, rfl, rfl, ha, rfl, ?_⟩
    have b1 : 0 ≤ (y * 48271 + 39373) % 2147483647 := Int.emod_nonneg _ (by decide)
    have b2 : (y * 48271 + 39373) % 2147483647 < 2147483647 := Int.emod_lt_of_pos _ (by decide)
    refine ⟨_, rfl, a, _, _, _, rfl, rfl, SqL.of upd_same, at1, _, rfl, a, _, _, _, rfl, rfl, SqL.of upd_same, at1, _, _, rfl, rfl, .inl ⟨?_, ?_⟩, _, _, rfl, rfl, (by show (0 : Int) < 2147483629; decide), _, _, rfl, rfl, ⟨by decide, by decide⟩, _, rfl, _, _, rfl, rfl, m0, ?_⟩
    · show -(2 ^ 64) < (y * 48271 + 39373) % 2147483647
      omega
    · show (y * 48271 + 39373) % 2147483647 < 2 ^ 64
      omega
    · exact q _ _ (Int.emod_nonneg _ (by omega)) (Int.emod_lt_of_pos _ m0) but_upd ⟨_, _, upd_same, hx⟩
theorem keep {H H1 H2 : Hp} {p : Addr} (g : Same H H1) (n : H p = none) (b : SameBut p H1 H2) : Same H H2 := fun c o e => b c o (ne_of_none e n) (g c o e)
theorem PotAt.kept {H H' : Hp} {p : Addr} (h : PotAt H p) (g : Same H H') : PotAt H' p := by
  obtain ⟨x, y, e, z⟩ := h
  exact ⟨x, y, g _ _ e, z⟩
theorem ok_sign {f : Addr} {fd : FuncData} (F : Fun K "sign" "sign" s_sign f fd) : FnOk P w K mg base CX0 1 f fd ["one"] (spSign) := by
  refine F.ok sc_sign (fun vs H Q E h => ?_) (fun cdv A outer s H vs Q E hr h => ?_)
  · obtain ⟨a, a0, a1, rfl, _⟩ := h
    rfl
  obtain ⟨a, a0, a1, rfl, ha, q⟩ := h
  refine ⟨_, (pss_cons (ps_if (pt_cmpR op_lt (pe_ix ix_tup (pv 0) pe_int (fun _ _ => rfl)) pe_int (nomark _)) (pss_one (ps_ret (pe_un un_neg pe_int))) pss_nil)
      (pss_one (ps_ret (pe_ifExp (pt_cmpR op_gt (pe_ix ix_tup (pv 0) pe_int (fun _ _ => rfl)) pe_int (nomark _)) pe_int pe_int)))), ?_⟩
  refine ⟨_, rfl, a, _, _, _, rfl, rfl, SqT.of ha, at0, _, _, rfl, rfl, _, rfl, ?_⟩
  refine ite2 (fun c => ?_) (fun c => ?_)
  · have c' : a0 < 0 := of_decide_eq_true c
    refine ⟨_, rfl, ?_⟩
    rw [show sgn a0 = -1 by unfold sgn; rw [if_pos c']] at q
    exact q
  · have c' : ¬ a0 < 0 := of_decide_eq_false (Bool.eq_false_iff.mpr c)
    refine ⟨_, rfl, a, _, _, _, rfl, rfl, SqT.of ha, at0, _, _, rfl, rfl, _, rfl, ?_⟩
    refine ite2 (fun c => ?_) (fun c => ?_)
    · have c2 : 0 < a0 := of_decide_eq_true c
      rw [show sgn a0 = 1 by unfold sgn; rw [if_neg c', if_pos c2]] at q
      exact q
    · have c2 : ¬ 0 < a0 := of_decide_eq_false (Bool.eq_false_iff.mpr c)
      rw [show sgn a0 = 0 by unfold sgn; rw [if_neg c', if_neg c2]] at q
      exact q
theorem ok_law_low {f : Addr} {fd : FuncData} (F : Fun K "_law_low" "_law_low" s_law_low f fd) (z_abs : mg "abs" = none) : FnOk P w K mg base CX0 1 f fd ["_law_n", "_law_d"] (spFr) := by
  refine F.ok sc_law_low (fun vs H Q E h => ?_) (fun cdv A outer s H vs Q E hr h => ?_)
  · obtain ⟨n, d, rfl, _⟩ := h
    rfl
  obtain ⟨n, d, rfl, d0, hz, q⟩ := h
  refine ⟨_, (pss_cons (ps_par (i := 2) (j := 3) rfl sc_law_low.nd rfl rfl (by decide) rfl rfl (pa_cons (pe_callB call_abs rfl z_abs PyProof.Rows.boot_abs (pa_cons (pv 0) pa_nil)) (pa_cons (pe_callB call_abs rfl z_abs PyProof.Rows.boot_abs (pa_cons (pv 1) pa_nil)) pa_nil)) rfl)
      (pss_cons (ps_while PassesOwn.never (pt_cmpR op_gt (pv 3) pe_int (nomark _)) (pss_one (ps_par (i := 2) (j := 3) rfl sc_law_low.nd rfl rfl (by decide) rfl rfl (pa_cons (pv 3) (pa_cons (pe_op op_mod (pv 2) (pv 3)) pa_nil)) rfl)))
      (pss_cons (ps_if (pt_cmpR op_lt (pv 1) pe_int (nomark _)) (pss_one (ps_set (i := 2) sc_law_low.nd rfl (Or.inl rfl) (pe_un un_neg (pv 2)))) pss_nil)
      (pss_one (ps_ret (pe_tup (pa_cons (pe_op Own.op_fdivW (pv 0) (pv 2)) (pa_cons (pe_op Own.op_fdivW (pv 1) (pv 2)) pa_nil)))))))), ?_⟩
  have gl := gcd_le (n := n) d0
  have gp := gcd_pos (n := n) d0
  refine ⟨_, rfl, n, rfl, _, rfl, d, rfl, _, _, rfl, ?_⟩
  refine while_by (fun σ H1 => H1 = H ∧ ∃ a b : Nat, σ = [some (.int n), some (.int d), some (.int a), some (.int b)] ∧ Nat.gcd a b = Int.gcd n d) (fun σ _ => match σ with | [_, _, _, some (.int b)] => b.toNat | _ => 0) ⟨rfl, n.natAbs, d.natAbs, ?_, rfl⟩ ?_ ?_
  · show [some (V.int n), some (V.int d), some (V.int (if n < 0 then -n else n)), some (V.int (if d < 0 then -d else d))] = _
    rw [abs_eq, abs_eq]
  · rintro σ H1 ⟨rfl, a, b, rfl, e⟩
    refine ⟨_, rfl, _, _, rfl, rfl, _, rfl, ?_⟩
    refine ite2 (fun c => ?_) (fun c => ?_)
    · have hb : (0 : Int) < b := of_decide_eq_true c
      refine ⟨_, rfl, _, rfl, _, rfl, _, _, rfl, rfl, (by omega), _, _, rfl, ⟨rfl, b, a % b, ?_, ?_⟩, ?_⟩
      · rw [Int.natCast_emod] <;> rfl
      · rw [gcd_turn]; exact e
      · show ((a : Int) % (b : Int)).toNat < ((b : Nat) : Int).toNat
        rw [← Int.natCast_emod, Int.toNat_natCast, Int.toNat_natCast]
        exact Nat.mod_lt _ (by omega)
    · have hb : ¬ (0 : Int) < b := of_decide_eq_false (Bool.eq_false_iff.mpr c)
      have hb : b = 0 := by omega
      subst hb
      rw [Nat.gcd_zero_right] at e
      subst e
      refine ⟨_, rfl, _, _, rfl, rfl, _, rfl, ?_⟩
      refine ite2 (fun c => ?_) (fun c => ?_)
      · have c' : d < 0 := of_decide_eq_true c
        refine ⟨_, rfl, _, rfl, ?_⟩
        have hd : CDivW n (-(Int.gcd n d : Int)) := ⟨by omega, by omega⟩
        refine ⟨_, rfl, _, rfl, _, _, rfl, rfl, hd, _, rfl, _, rfl, _, _, rfl, rfl, hd, (by show 2 ≤ sizeLine; decide), fun p hp => ?_⟩
        exact q _ _ p _ (fr_of d0 (.inr rfl) (fdiv_pos_of d0 (.inr ⟨c', rfl⟩))) (same_new hp _) upd_same
      · have c' : ¬ d < 0 := of_decide_eq_false (Bool.eq_false_iff.mpr c)
        have hd : CDivW n (Int.gcd n d : Int) := ⟨by omega, by omega⟩
        refine ⟨_, rfl, _, rfl, _, _, rfl, rfl, hd, _, rfl, _, rfl, _, _, rfl, rfl, hd, (by show 2 ≤ sizeLine; decide), fun p hp => ?_⟩
        exact q _ _ p _ (fr_of d0 (.inl rfl) (fdiv_pos_of d0 (.inl ⟨by omega, rfl⟩))) (same_new hp _) upd_same
  · rintro σ H1 Q1 Q2 m ⟨v, e1, i1, j1, e3, e4, k, e2, q1⟩
    exact ⟨v, e1, i1, j1, e3, e4, k, e2, m _ _ q1⟩
theorem ok_law_plus {f : Addr} {fd : FuncData} (F : Fun K "_law_plus" "_law_plus" s_law_plus f fd) (h_law_low : Own.Has P w K mg base "_law_low" ["_law_n", "_law_d"] 1 (spFr)) : FnOk P w K mg base CX0 2 f fd ["_law_one", "_law_other"] (spBin (fun a0 a1 b0 b1 => a0 * b1 + b0 * a1) (fun _ a1 _ b1 => a1 * b1)) := by
  refine F.ok sc_law_plus (fun vs H Q E h => ?_) (fun cdv A outer s H vs Q E hr h => ?_)
  · obtain ⟨a, b, a0, a1, b0, b1, rfl, _⟩ := h
    rfl
  obtain ⟨a, b, a0, a1, b0, b1, rfl, ha, hb, ⟨z1, z2, z3, z4⟩, nz, q⟩ := h
  refine ⟨_, (pss_one (ps_ret (Own.pe_has h_law_low (hr.mono (by decide)) rfl (pa_cons (pe_op op_add (pe_op Own.op_mulW (pe_ix ix_tup (pv 0) pe_int (fun _ _ => rfl)) (pe_ix ix_tup (pv 1) pe_int (fun _ _ => rfl))) (pe_op Own.op_mulW (pe_ix ix_tup (pv 1) pe_int (fun _ _ => rfl)) (pe_ix ix_tup (pv 0) pe_int (fun _ _ => rfl)))) (pa_cons (pe_op Own.op_mulW (pe_ix ix_tup (pv 0) pe_int (fun _ _ => rfl)) (pe_ix ix_tup (pv 1) pe_int (fun _ _ => rfl))) pa_nil))))), ?_⟩
  refine ⟨_, rfl, a, _, _, _, rfl, rfl, SqT.of ha, at0, _, rfl, b, _, _, _, rfl, rfl, SqT.of hb, at1, _, _, rfl, rfl, ⟨w9 z1, w9 z4⟩, ?_⟩
  refine ⟨_, rfl, b, _, _, _, rfl, rfl, SqT.of hb, at0, _, rfl, a, _, _, _, rfl, rfl, SqT.of ha, at1, _, _, rfl, rfl, ⟨w9 z3, w9 z2⟩, _, _, rfl, rfl, ?_⟩
  refine ⟨_, rfl, a, _, _, _, rfl, rfl, SqT.of ha, at1, _, rfl, b, _, _, _, rfl, rfl, SqT.of hb, at1, _, _, rfl, rfl, ⟨w9 z2, w9 z4⟩, ?_⟩
  exact ⟨_, _, rfl, nz, m9 z2 z4, q⟩
theorem ok_law_less {f : Addr} {fd : FuncData} (F : Fun K "_law_less" "_law_less" s_law_less f fd) (h_law_low : Own.Has P w K mg base "_law_low" ["_law_n", "_law_d"] 1 (spFr)) : FnOk P w K mg base CX0 2 f fd ["_law_one", "_law_other"] (spBin (fun a0 a1 b0 b1 => a0 * b1 - b0 * a1) (fun _ a1 _ b1 => a1 * b1)) := by
  refine F.ok sc_law_less (fun vs H Q E h => ?_) (fun cdv A outer s H vs Q E hr h => ?_)
  · obtain ⟨a, b, a0, a1, b0, b1, rfl, _⟩ := h
    rfl
  obtain ⟨a, b, a0, a1, b0, b1, rfl, ha, hb, ⟨z1, z2, z3, z4⟩, nz, q⟩ := h
  refine ⟨_, (pss_one (ps_ret (Own.pe_has h_law_low (hr.mono (by decide)) rfl (pa_cons (pe_op op_sub (pe_op Own.op_mulW (pe_ix ix_tup (pv 0) pe_int (fun _ _ => rfl)) (pe_ix ix_tup (pv 1) pe_int (fun _ _ => rfl))) (pe_op Own.op_mulW (pe_ix ix_tup (pv 1) pe_int (fun _ _ => rfl)) (pe_ix ix_tup (pv 0) pe_int (fun _ _ => rfl)))) (pa_cons (pe_op Own.op_mulW (pe_ix ix_tup (pv 0) pe_int (fun _ _ => rfl)) (pe_ix ix_tup (pv 1) pe_int (fun _ _ => rfl))) pa_nil))))), ?_⟩
  refine ⟨_, rfl, a, _, _, _, rfl, rfl, SqT.of ha, at0, _, rfl, b, _, _, _, rfl, rfl, SqT.of hb, at1, _, _, rfl, rfl, ⟨w9 z1, w9 z4⟩, ?_⟩
  refine ⟨_, rfl, b, _, _, _, rfl, rfl, SqT.of hb, at0, _, rfl, a, _, _, _, rfl, rfl, SqT.of ha, at1, _, _, rfl, rfl, ⟨w9 z3, w9 z2⟩, _, _, rfl, rfl, ?_⟩
  refine ⟨_, rfl, a, _, _, _, rfl, rfl, SqT.of ha, at1, _, rfl, b, _, _, _, rfl, rfl, SqT.of hb, at1, _, _, rfl, rfl, ⟨w9 z2, w9 z4⟩, ?_⟩
  exact ⟨_, _, rfl, nz, m9 z2 z4, q⟩
theorem ok_law_times {f : Addr} {fd : FuncData} (F : Fun K "_law_times" "_law_times" s_law_times f fd) (h_law_low : Own.Has P w K mg base "_law_low" ["_law_n", "_law_d"] 1 (spFr)) : FnOk P w K mg base CX0 2 f fd ["_law_one", "_law_other"] (spBin (fun a0 a1 b0 b1 => a0 * b0) (fun _ a1 _ b1 => a1 * b1)) := by
  refine F.ok sc_law_times (fun vs H Q E h => ?_) (fun cdv A outer s H vs Q E hr h => ?_)
  · obtain ⟨a, b, a0, a1, b0, b1, rfl, _⟩ := h
    rfl
  obtain ⟨a, b, a0, a1, b0, b1, rfl, ha, hb, ⟨z1, z2, z3, z4⟩, nz, q⟩ := h
  refine ⟨_, (pss_one (ps_ret (Own.pe_has h_law_low (hr.mono (by decide)) rfl (pa_cons (pe_op Own.op_mulW (pe_ix ix_tup (pv 0) pe_int (fun _ _ => rfl)) (pe_ix ix_tup (pv 1) pe_int (fun _ _ => rfl))) (pa_cons (pe_op Own.op_mulW (pe_ix ix_tup (pv 0) pe_int (fun _ _ => rfl)) (pe_ix ix_tup (pv 1) pe_int (fun _ _ => rfl))) pa_nil))))), ?_⟩
  refine ⟨_, rfl, a, _, _, _, rfl, rfl, SqT.of ha, at0, _, rfl, b, _, _, _, rfl, rfl, SqT.of hb, at0, _, _, rfl, rfl, ⟨w9 z1, w9 z3⟩, ?_⟩
  refine ⟨_, rfl, a, _, _, _, rfl, rfl, SqT.of ha, at1, _, rfl, b, _, _, _, rfl, rfl, SqT.of hb, at1, _, _, rfl, rfl, ⟨w9 z2, w9 z4⟩, ?_⟩
  exact ⟨_, _, rfl, nz, m9 z2 z4, q⟩
theorem ok_law_sign {f : Addr} {fd : FuncData} (F : Fun K "_law_sign" "_law_sign" s_law_sign f fd) (z_int : mg "int" = none) : FnOk P w K mg base CX0 1 f fd ["_law_one"] (spSign) := by
  refine F.ok sc_law_sign (fun vs H Q E h => ?_) (fun cdv A outer s H vs Q E hr h => ?_)
  · obtain ⟨a, a0, a1, rfl, _⟩ := h
    rfl
  obtain ⟨a, a0, a1, rfl, ha, q⟩ := h
  refine ⟨_, (pss_one (ps_ret (pe_op op_sub (pe_callTy call_int1 rfl z_int PyProof.Rows.boot_int (pa_cons (pe_cmpR op_gt (pe_ix ix_tup (pv 0) pe_int (fun _ _ => rfl)) pe_int (nomark _)) pa_nil)) (pe_callTy call_int1 rfl z_int PyProof.Rows.boot_int (pa_cons (pe_cmpR op_lt (pe_ix ix_tup (pv 0) pe_int (fun _ _ => rfl)) pe_int (nomark _)) pa_nil))))), ?_⟩
  refine ⟨_, rfl, a, _, _, _, rfl, rfl, SqT.of ha, at0, _, _, rfl, rfl, .inr ⟨_, rfl, ?_⟩⟩
  refine ⟨_, rfl, a, _, _, _, rfl, rfl, SqT.of ha, at0, _, _, rfl, rfl, .inr ⟨_, rfl, _, _, rfl, rfl, ?_⟩⟩
  have e : sgn a0 = (if decide (0 < a0) = true then (1 : Int) else 0) - (if decide (a0 < 0) = true then 1 else 0) := by
    unfold sgn
    by_cases h1 : a0 < 0
    · have h2 : ¬ 0 < a0 := by omega
      simp [h1, h2]
    · by_cases h2 : 0 < a0 <;> simp [h1, h2]
  rw [e] at q
  exact q
theorem ok_spread {f : Addr} {fd : FuncData} (F : Fun K "spread" "spread" s_spread f fd) : FnOk P w K mg base CX0 1 f fd ["point"] (spSpread) := by
  refine F.ok sc_spread (fun vs H Q E h => ?_) (fun cdv A outer s H vs Q E hr h => ?_)
  · obtain ⟨p, P, rfl, _⟩ := h
    rfl
  obtain ⟨p, P, rfl, ⟨x, y, hp, hx, hy⟩, ⟨_, _, z1, z2, z3, z4⟩, q⟩ := h
  refine ⟨_, (pss_cons (ps_asg (pv 0) (pg_tup rfl (pgs_cons (pg_tup rfl (pgs_cons (pg_name (i := 1) sc_spread.nd rfl (Or.inl rfl)) (pgs_cons (pg_name (i := 2) sc_spread.nd rfl (Or.inl rfl)) pgs_nil))) (pgs_cons (pg_tup rfl (pgs_cons (pg_name (i := 3) sc_spread.nd rfl (Or.inl rfl)) (pgs_cons (pg_name (i := 4) sc_spread.nd rfl (Or.inl rfl)) pgs_nil))) pgs_nil))))
      (pss_one (ps_ret (pe_tup (pa_cons (pe_op Own.op_mulW (pv 1) (pv 4)) (pa_cons (pe_op Own.op_mulW (pv 3) (pv 2)) (pa_cons (pe_op Own.op_mulW (pv 2) (pv 4)) pa_nil))))))), ?_⟩
  refine ⟨_, rfl, p, _, rfl, SqT.of hp, rfl, _, _, rfl, x, _, rfl, SqT.of hx, rfl, _, _, rfl, _, _, rfl, rfl, _, _, rfl, y, _, rfl, SqT.of hy, rfl, _, _, rfl, _, _, rfl, rfl, rfl, ?_⟩
  exact ⟨_, rfl, _, rfl, _, _, rfl, rfl, ⟨w9 z1, w9 z4⟩, _, rfl, _, rfl, _, _, rfl, rfl, ⟨w9 z3, w9 z2⟩, _, rfl, _, rfl, _, _, rfl, rfl, ⟨w9 z2, w9 z4⟩, (by show 3 ≤ sizeLine; decide), q⟩
theorem ok_across {f : Addr} {fd : FuncData} (F : Fun K "across" "across" s_across f fd) : FnOk P w K mg base CX0 1 f fd ["one", "other"] (spAcross) := by
  refine F.ok sc_across (fun vs H Q E h => ?_) (fun cdv A outer s H vs Q E hr h => ?_)
  · obtain ⟨p, q', a, b, c, k, m, n, rfl, _⟩ := h
    rfl
  obtain ⟨p, q', a, b, c, k, m, n, rfl, hp, hq, ⟨z1, z2, z3, z4, z5, z6⟩, q⟩ := h
  refine ⟨_, (pss_cons (ps_asg (pv 0) (pg_tup rfl (pgs_cons (pg_name (i := 2) sc_across.nd rfl (Or.inl rfl)) (pgs_cons (pg_name (i := 3) sc_across.nd rfl (Or.inl rfl)) (pgs_cons (pg_name (i := 4) sc_across.nd rfl (Or.inl rfl)) pgs_nil)))))
      (pss_cons (ps_asg (pv 1) (pg_tup rfl (pgs_cons (pg_name (i := 5) sc_across.nd rfl (Or.inl rfl)) (pgs_cons (pg_name (i := 6) sc_across.nd rfl (Or.inl rfl)) (pgs_cons (pg_name (i := 7) sc_across.nd rfl (Or.inl rfl)) pgs_nil)))))
      (pss_one (ps_ret (pe_tup (pa_cons (pe_op op_sub (pe_op Own.op_mulW (pv 3) (pv 7)) (pe_op Own.op_mulW (pv 4) (pv 6))) (pa_cons (pe_op op_sub (pe_op Own.op_mulW (pv 4) (pv 5)) (pe_op Own.op_mulW (pv 2) (pv 7))) (pa_cons (pe_op op_sub (pe_op Own.op_mulW (pv 2) (pv 6)) (pe_op Own.op_mulW (pv 3) (pv 5))) pa_nil)))))))), ?_⟩
  have u : ∀ {i : Int}, i.natAbs < 2 ^ 4000 → i.natAbs < 2 ^ 9000 := fun h => up h (by decide)
  refine ⟨_, rfl, p, _, rfl, SqT.of hp, rfl, _, _, rfl, _, _, rfl, _, _, rfl, rfl, ?_⟩
  refine ⟨_, rfl, q', _, rfl, SqT.of hq, rfl, _, _, rfl, _, _, rfl, _, _, rfl, rfl, ?_⟩
  refine ⟨_, rfl, _, rfl, _, _, rfl, rfl, ⟨u z2, u z6⟩, _, rfl, _, rfl, _, _, rfl, rfl, ⟨u z3, u z5⟩, _, _, rfl, rfl, ?_⟩
  refine ⟨_, rfl, _, rfl, _, _, rfl, rfl, ⟨u z3, u z4⟩, _, rfl, _, rfl, _, _, rfl, rfl, ⟨u z1, u z6⟩, _, _, rfl, rfl, ?_⟩
  exact ⟨_, rfl, _, rfl, _, _, rfl, rfl, ⟨u z1, u z5⟩, _, rfl, _, rfl, _, _, rfl, rfl, ⟨u z2, u z4⟩, _, _, rfl, rfl, (by show 3 ≤ sizeLine; decide), q⟩
theorem ok_law_apart {f : Addr} {fd : FuncData} (F : Fun K "_law_apart" "_law_apart" s_law_apart f fd) : FnOk P w K mg base CX0 1 f fd ["_law_one", "_law_other"] (spApart) := by
  refine F.ok sc_law_apart (fun vs H Q E h => ?_) (fun cdv A outer s H vs Q E hr h => ?_)
  · obtain ⟨a, b, a0, a1, b0, b1, rfl, _⟩ := h
    rfl
  obtain ⟨a, b, a0, a1, b0, b1, rfl, ha, hb, ⟨z1, z2, z3, z4⟩, q⟩ := h
  refine ⟨_, (pss_one (ps_ret (pe_tup (pa_cons (pe_op op_sub (pe_op Own.op_mulW (pe_ix ix_tup (pv 1) pe_int (fun _ _ => rfl)) (pe_ix ix_tup (pv 0) pe_int (fun _ _ => rfl))) (pe_op Own.op_mulW (pe_ix ix_tup (pv 0) pe_int (fun _ _ => rfl)) (pe_ix ix_tup (pv 1) pe_int (fun _ _ => rfl)))) (pa_cons (pe_op Own.op_mulW (pe_ix ix_tup (pv 0) pe_int (fun _ _ => rfl)) (pe_ix ix_tup (pv 1) pe_int (fun _ _ => rfl))) pa_nil))))), ?_⟩
  have w9 : ∀ {i : Int}, i.natAbs < 2 ^ 1700 → i.natAbs < 2 ^ 9000 := fun h => up h (by decide)
  refine ⟨_, rfl, b, _, _, _, rfl, rfl, SqT.of hb, at0, _, rfl, a, _, _, _, rfl, rfl, SqT.of ha, at1, _, _, rfl, rfl, ⟨w9 z3, w9 z2⟩, ?_⟩
  refine ⟨_, rfl, a, _, _, _, rfl, rfl, SqT.of ha, at0, _, rfl, b, _, _, _, rfl, rfl, SqT.of hb, at1, _, _, rfl, rfl, ⟨w9 z1, w9 z4⟩, _, _, rfl, rfl, ?_⟩
  exact ⟨_, rfl, a, _, _, _, rfl, rfl, SqT.of ha, at1, _, rfl, b, _, _, _, rfl, rfl, SqT.of hb, at1, _, _, rfl, rfl, ⟨w9 z2, w9 z4⟩, (by show 2 ≤ sizeLine; decide), q⟩
theorem ok_greatest_divisor {f : Addr} {fd : FuncData} (F : Fun K "greatest_divisor" "greatest_divisor" s_greatest_divisor f fd) (z_abs : mg "abs" = none) : FnOk P w K mg base CX0 1 f fd ["one", "other"] (spGcd) := by
  refine F.ok sc_greatest_divisor (fun vs H Q E h => ?_) (fun cdv A outer s H vs Q E hr h => ?_)
  · obtain ⟨i, j, rfl, _⟩ := h
    rfl
  obtain ⟨i, j, rfl, q⟩ := h
  refine ⟨_, (pss_cons (ps_set (i := 0) sc_greatest_divisor.nd rfl (Or.inl rfl) (pe_callB call_abs rfl z_abs PyProof.Rows.boot_abs (pa_cons (pv 0) pa_nil)))
      (pss_cons (ps_set (i := 1) sc_greatest_divisor.nd rfl (Or.inl rfl) (pe_callB call_abs rfl z_abs PyProof.Rows.boot_abs (pa_cons (pv 1) pa_nil)))
      (pss_cons (ps_while PassesOwn.never (pt_cmpR op_ne (pv 1) pe_int (nomark _)) (pss_one (ps_par (i := 0) (j := 1) rfl sc_greatest_divisor.nd rfl rfl (by decide) rfl rfl (pa_cons (pv 1) (pa_cons (pe_op op_mod (pv 0) (pv 1)) pa_nil)) rfl)))
      (pss_one (ps_ret (pv 0)))))), ?_⟩
  refine ⟨_, rfl, i, rfl, _, rfl, j, rfl, ?_⟩
  refine while_by (fun σ H1 => H1 = H ∧ ∃ a b : Nat, σ = [some (.int a), some (.int b)] ∧ Nat.gcd a b = Int.gcd i j) (fun σ _ => match σ with | [_, some (.int b)] => b.toNat | _ => 0) ⟨rfl, i.natAbs, j.natAbs, ?_, rfl⟩ ?_ ?_
  · show [some (V.int (if i < 0 then -i else i)), some (V.int (if j < 0 then -j else j))] = _
    rw [abs_eq, abs_eq]
  · rintro σ H1 ⟨rfl, a, b, rfl, e⟩
    refine ⟨_, rfl, rfl, _, rfl, ?_⟩
    refine ite2 (fun c => ?_) (fun c => ?_)
    · have hb : b ≠ 0 := fun z => by subst z; simp at c
      refine ⟨_, rfl, _, rfl, _, rfl, _, _, rfl, rfl, (by omega), _, _, rfl, ⟨rfl, b, a % b, ?_, ?_⟩, ?_⟩
      · rw [Int.natCast_emod] <;> rfl
      · rw [gcd_turn]; exact e
      · show ((a : Int) % (b : Int)).toNat < ((b : Nat) : Int).toNat
        rw [← Int.natCast_emod, Int.toNat_natCast, Int.toNat_natCast]
        exact Nat.mod_lt _ (by omega)
    · have hb : b = 0 := by
        simp at c
        omega
      subst hb
      refine ⟨_, rfl, ?_⟩
      rw [Nat.gcd_zero_right] at e
      rw [← e] at q
      exact q
  · rintro σ H1 Q1 Q2 m ⟨v, e1, s1, k, e2, q1⟩
    exact ⟨v, e1, s1, k, e2, m _ _ q1⟩
theorem ok_fraction {f : Addr} {fd : FuncData} (F : Fun K "fraction" "fraction" s_fraction f fd) (h_greatest_divisor : Own.Has P w K mg base "greatest_divisor" ["one", "other"] 1 (spGcd)) : FnOk P w K mg base CX0 2 f fd ["n", "d"] (spFr) := by
  refine F.ok sc_fraction (fun vs H Q E h => ?_) (fun cdv A outer s H vs Q E hr h => ?_)
  · obtain ⟨n, d, rfl, _⟩ := h
    rfl
  obtain ⟨n, d, rfl, d0, hz, q⟩ := h
  refine ⟨_, (pss_cons (ps_set (i := 2) sc_fraction.nd rfl (Or.inl rfl) (Own.pe_has h_greatest_divisor (hr.mono (by decide)) rfl (pa_cons (pv 0) (pa_cons (pv 1) pa_nil))))
      (pss_cons (ps_if (pt_cmpR op_lt (pv 1) pe_int (nomark _)) (pss_one (ps_set (i := 2) sc_fraction.nd rfl (Or.inl rfl) (pe_un un_neg (pv 2)))) pss_nil)
      (pss_one (ps_ret (pe_tup (pa_cons (pe_op Own.op_fdivW (pv 0) (pv 2)) (pa_cons (pe_op Own.op_fdivW (pv 1) (pv 2)) pa_nil))))))), ?_⟩
  have gl := gcd_le (n := n) d0
  have gp := gcd_pos (n := n) d0
  refine ⟨_, rfl, _, rfl, n, d, rfl, ?_⟩
  refine ⟨_, rfl, _, _, rfl, rfl, _, rfl, ?_⟩
  refine ite2 (fun c => ?_) (fun c => ?_)
  · have c' : d < 0 := of_decide_eq_true c
    refine ⟨_, rfl, _, rfl, ?_⟩
    have hd : CDivW n (-(Int.gcd n d : Int)) := ⟨by omega, by omega⟩
    refine ⟨_, rfl, _, rfl, _, _, rfl, rfl, hd, _, rfl, _, rfl, _, _, rfl, rfl, hd, (by show 2 ≤ sizeLine; decide), fun p hp => ?_⟩
    exact q _ _ p _ (fr_of d0 (.inr rfl) (fdiv_pos_of d0 (.inr ⟨c', rfl⟩))) (same_new hp _) upd_same
  · have c' : ¬ d < 0 := of_decide_eq_false (Bool.eq_false_iff.mpr c)
    have hd : CDivW n (Int.gcd n d : Int) := ⟨by omega, by omega⟩
    refine ⟨_, rfl, _, rfl, _, _, rfl, rfl, hd, _, rfl, _, rfl, _, _, rfl, rfl, hd, (by show 2 ≤ sizeLine; decide), fun p hp => ?_⟩
    exact q _ _ p _ (fr_of d0 (.inl rfl) (fdiv_pos_of d0 (.inl ⟨by omega, rfl⟩))) (same_new hp _) upd_same
theorem ok_plus {f : Addr} {fd : FuncData} (F : Fun K "plus" "plus" s_plus f fd) (h_fraction : Own.Has P w K mg base "fraction" ["n", "d"] 2 (spFr)) : FnOk P w K mg base CX0 3 f fd ["one", "other"] (spBin (fun a0 a1 b0 b1 => a0 * b1 + b0 * a1) (fun _ a1 _ b1 => a1 * b1)) := by
  refine F.ok sc_plus (fun vs H Q E h => ?_) (fun cdv A outer s H vs Q E hr h => ?_)
  · obtain ⟨a, b, a0, a1, b0, b1, rfl, _⟩ := h
    rfl
  obtain ⟨a, b, a0, a1, b0, b1, rfl, ha, hb, ⟨z1, z2, z3, z4⟩, nz, q⟩ := h
  refine ⟨_, (pss_one (ps_ret (Own.pe_has h_fraction (hr.mono (by decide)) rfl (pa_cons (pe_op op_add (pe_op Own.op_mulW (pe_ix ix_tup (pv 0) pe_int (fun _ _ => rfl)) (pe_ix ix_tup (pv 1) pe_int (fun _ _ => rfl))) (pe_op Own.op_mulW (pe_ix ix_tup (pv 1) pe_int (fun _ _ => rfl)) (pe_ix ix_tup (pv 0) pe_int (fun _ _ => rfl)))) (pa_cons (pe_op Own.op_mulW (pe_ix ix_tup (pv 0) pe_int (fun _ _ => rfl)) (pe_ix ix_tup (pv 1) pe_int (fun _ _ => rfl))) pa_nil))))), ?_⟩
  refine ⟨_, rfl, a, _, _, _, rfl, rfl, SqT.of ha, at0, _, rfl, b, _, _, _, rfl, rfl, SqT.of hb, at1, _, _, rfl, rfl, ⟨w9 z1, w9 z4⟩, ?_⟩
  refine ⟨_, rfl, b, _, _, _, rfl, rfl, SqT.of hb, at0, _, rfl, a, _, _, _, rfl, rfl, SqT.of ha, at1, _, _, rfl, rfl, ⟨w9 z3, w9 z2⟩, _, _, rfl, rfl, ?_⟩
  refine ⟨_, rfl, a, _, _, _, rfl, rfl, SqT.of ha, at1, _, rfl, b, _, _, _, rfl, rfl, SqT.of hb, at1, _, _, rfl, rfl, ⟨w9 z2, w9 z4⟩, ?_⟩
  exact ⟨_, _, rfl, nz, m9 z2 z4, q⟩
theorem ok_less {f : Addr} {fd : FuncData} (F : Fun K "less" "less" s_less f fd) (h_fraction : Own.Has P w K mg base "fraction" ["n", "d"] 2 (spFr)) : FnOk P w K mg base CX0 3 f fd ["one", "other"] (spBin (fun a0 a1 b0 b1 => a0 * b1 - b0 * a1) (fun _ a1 _ b1 => a1 * b1)) := by
  refine F.ok sc_less (fun vs H Q E h => ?_) (fun cdv A outer s H vs Q E hr h => ?_)
  · obtain ⟨a, b, a0, a1, b0, b1, rfl, _⟩ := h
    rfl
  obtain ⟨a, b, a0, a1, b0, b1, rfl, ha, hb, ⟨z1, z2, z3, z4⟩, nz, q⟩ := h
  refine ⟨_, (pss_one (ps_ret (Own.pe_has h_fraction (hr.mono (by decide)) rfl (pa_cons (pe_op op_sub (pe_op Own.op_mulW (pe_ix ix_tup (pv 0) pe_int (fun _ _ => rfl)) (pe_ix ix_tup (pv 1) pe_int (fun _ _ => rfl))) (pe_op Own.op_mulW (pe_ix ix_tup (pv 1) pe_int (fun _ _ => rfl)) (pe_ix ix_tup (pv 0) pe_int (fun _ _ => rfl)))) (pa_cons (pe_op Own.op_mulW (pe_ix ix_tup (pv 0) pe_int (fun _ _ => rfl)) (pe_ix ix_tup (pv 1) pe_int (fun _ _ => rfl))) pa_nil))))), ?_⟩
  refine ⟨_, rfl, a, _, _, _, rfl, rfl, SqT.of ha, at0, _, rfl, b, _, _, _, rfl, rfl, SqT.of hb, at1, _, _, rfl, rfl, ⟨w9 z1, w9 z4⟩, ?_⟩
  refine ⟨_, rfl, b, _, _, _, rfl, rfl, SqT.of hb, at0, _, rfl, a, _, _, _, rfl, rfl, SqT.of ha, at1, _, _, rfl, rfl, ⟨w9 z3, w9 z2⟩, _, _, rfl, rfl, ?_⟩
  refine ⟨_, rfl, a, _, _, _, rfl, rfl, SqT.of ha, at1, _, rfl, b, _, _, _, rfl, rfl, SqT.of hb, at1, _, _, rfl, rfl, ⟨w9 z2, w9 z4⟩, ?_⟩
  exact ⟨_, _, rfl, nz, m9 z2 z4, q⟩
theorem ok_times {f : Addr} {fd : FuncData} (F : Fun K "times" "times" s_times f fd) (h_fraction : Own.Has P w K mg base "fraction" ["n", "d"] 2 (spFr)) : FnOk P w K mg base CX0 3 f fd ["one", "other"] (spBin (fun a0 a1 b0 b1 => a0 * b0) (fun _ a1 _ b1 => a1 * b1)) := by
  refine F.ok sc_times (fun vs H Q E h => ?_) (fun cdv A outer s H vs Q E hr h => ?_)
  · obtain ⟨a, b, a0, a1, b0, b1, rfl, _⟩ := h
    rfl
  obtain ⟨a, b, a0, a1, b0, b1, rfl, ha, hb, ⟨z1, z2, z3, z4⟩, nz, q⟩ := h
  refine ⟨_, (pss_one (ps_ret (Own.pe_has h_fraction (hr.mono (by decide)) rfl (pa_cons (pe_op Own.op_mulW (pe_ix ix_tup (pv 0) pe_int (fun _ _ => rfl)) (pe_ix ix_tup (pv 1) pe_int (fun _ _ => rfl))) (pa_cons (pe_op Own.op_mulW (pe_ix ix_tup (pv 0) pe_int (fun _ _ => rfl)) (pe_ix ix_tup (pv 1) pe_int (fun _ _ => rfl))) pa_nil))))), ?_⟩
  refine ⟨_, rfl, a, _, _, _, rfl, rfl, SqT.of ha, at0, _, rfl, b, _, _, _, rfl, rfl, SqT.of hb, at0, _, _, rfl, rfl, ⟨w9 z1, w9 z3⟩, ?_⟩
  refine ⟨_, rfl, a, _, _, _, rfl, rfl, SqT.of ha, at1, _, rfl, b, _, _, _, rfl, rfl, SqT.of hb, at1, _, _, rfl, rfl, ⟨w9 z2, w9 z4⟩, ?_⟩
  exact ⟨_, _, rfl, nz, m9 z2 z4, q⟩
theorem PtAt.kept {H H' : Hp} {p : Addr} {P : Pt} (h : PtAt H p P) (g : Same H H') : PtAt H' p P := by
  obtain ⟨x, y, h1, h2, h3⟩ := h
  exact ⟨x, y, g _ _ h1, g _ _ h2, g _ _ h3⟩
theorem PtAt.but {H H' : Hp} {p a : Addr} {P : Pt} {xs : List V} (h : PtAt H p P) (ha : H a = some (.lst xs)) (g : SameBut a H H') : PtAt H' p P := by
  obtain ⟨x, y, h1, h2, h3⟩ := h
  exact ⟨x, y, g _ _ (ne_of h1 ha (by intro z; cases z)) h1, g _ _ (ne_of h2 ha (by intro z; cases z)) h2, g _ _ (ne_of h3 ha (by intro z; cases z)) h3⟩
theorem sp_lt {P : Pt} (z : Sz 1000 P) : (P.n * P.e).natAbs < 2 ^ 2000 ∧ (P.m * P.d).natAbs < 2 ^ 2000 ∧ (P.d * P.e).natAbs < 2 ^ 2000 := by
  obtain ⟨_, _, z1, z2, z3, z4⟩ := z
  exact ⟨mul_lt_pow z1 z4, mul_lt_pow z3 z2, mul_lt_pow z2 z4⟩
theorem ok_hand {f : Addr} {fd : FuncData} (F : Fun K "hand" "hand" s_hand f fd) (h_across : Own.Has P w K mg base "across" ["one", "other"] 1 (spAcross)) (h_spread : Own.Has P w K mg base "spread" ["point"] 1 (spSpread)) (h_sign : Own.Has P w K mg base "sign" ["one"] 1 (spSign)) : FnOk P w K mg base CX0 2 f fd ["p", "q", "r"] (spHand det) := by
  refine F.ok sc_hand (fun vs H Q E h => ?_) (fun cdv A outer s H vs Q E hr h => ?_)
  · obtain ⟨p, q', r, P, P', R, rfl, _⟩ := h
    rfl
  obtain ⟨p, q', r, P, P', R, rfl, hp, hq, hR, zp, zq, zr, q⟩ := h
  refine ⟨_, (pss_cons (ps_asg (Own.pe_has h_across (hr.mono (by decide)) rfl (pa_cons (Own.pe_has h_spread (hr.mono (by decide)) rfl (pa_cons (pv 0) pa_nil)) (pa_cons (Own.pe_has h_spread (hr.mono (by decide)) rfl (pa_cons (pv 1) pa_nil)) pa_nil))) (pg_tup rfl (pgs_cons (pg_name (i := 3) sc_hand.nd rfl (Or.inl rfl)) (pgs_cons (pg_name (i := 4) sc_hand.nd rfl (Or.inl rfl)) (pgs_cons (pg_name (i := 5) sc_hand.nd rfl (Or.inl rfl)) pgs_nil)))))
      (pss_cons (ps_asg (Own.pe_has h_spread (hr.mono (by decide)) rfl (pa_cons (pv 2) pa_nil)) (pg_tup rfl (pgs_cons (pg_name (i := 6) sc_hand.nd rfl (Or.inl rfl)) (pgs_cons (pg_name (i := 7) sc_hand.nd rfl (Or.inl rfl)) (pgs_cons (pg_name (i := 8) sc_hand.nd rfl (Or.inl rfl)) pgs_nil)))))
      (pss_one (ps_ret (Own.pe_has h_sign (hr.mono (by decide)) rfl (pa_cons (pe_tup (pa_cons (pe_op op_add (pe_op op_add (pe_op Own.op_mulW (pv 3) (pv 6)) (pe_op Own.op_mulW (pv 4) (pv 7))) (pe_op Own.op_mulW (pv 5) (pv 8))) (pa_cons pe_int pa_nil))) pa_nil)))))), ?_⟩
  obtain ⟨s1, s2, s3⟩ := sp_lt zp
  obtain ⟨t1, t2, t3⟩ := sp_lt zq
  obtain ⟨u1, u2, u3⟩ := sp_lt zr
  have v : ∀ {i : Int}, i.natAbs < 2 ^ 2000 → i.natAbs < 2 ^ 4000 := fun h => up h (by decide)
  have v9 : ∀ {i : Int}, i.natAbs < 2 ^ 2000 → i.natAbs < 2 ^ 9000 := fun h => up h (by decide)
  refine ⟨_, rfl, p, P, rfl, hp, zp, fun a1 n1 => ?_⟩
  have g1 := same_new n1 (.tup [.int (P.n * P.e), .int (P.m * P.d), .int (P.d * P.e)])
  refine ⟨_, rfl, q', P', rfl, hq.kept g1, zq, fun a2 n2 => ?_⟩
  have g2 := same_new n2 (.tup [.int (P'.n * P'.e), .int (P'.m * P'.d), .int (P'.d * P'.e)])
  refine ⟨a1, a2, _, _, _, _, _, _, rfl, g2 _ _ upd_same, upd_same, ⟨v s1, v s2, v s3, v t1, v t2, v t3⟩, fun a3 n3 => ?_⟩
  refine ⟨a3, _, rfl, SqT.of upd_same, rfl, _, _, rfl, _, _, rfl, _, _, rfl, rfl, ?_⟩
  have g3 := (g1.trans g2).trans (same_new n3 (.tup [.int (P.m * P.d * (P'.d * P'.e) - P.d * P.e * (P'.m * P'.d)), .int (P.d * P.e * (P'.n * P'.e) - P.n * P.e * (P'.d * P'.e)), .int (P.n * P.e * (P'.m * P'.d) - P.m * P.d * (P'.n * P'.e))]))
  refine ⟨_, rfl, r, R, rfl, hR.kept g3, zr, fun a4 n4 => ?_⟩
  have g4 := g3.trans (same_new n4 (.tup [.int (R.n * R.e), .int (R.m * R.d), .int (R.d * R.e)]))
  refine ⟨a4, _, rfl, SqT.of upd_same, rfl, _, _, rfl, _, _, rfl, _, _, rfl, rfl, ?_⟩
  have w : ∀ {i j k l : Int}, i.natAbs < 2 ^ 2000 → j.natAbs < 2 ^ 2000 → k.natAbs < 2 ^ 2000 → l.natAbs < 2 ^ 2000 → (i * j - k * l).natAbs < 2 ^ 9000 := fun h1 h2 h3 h4 => up (sub_lt_pow (mul_lt_pow h1 h2) (mul_lt_pow h3 h4)) (by decide)
  refine ⟨_, rfl, _, rfl, _, _, rfl, rfl, ⟨w s2 t3 s3 t2, v9 u1⟩, _, rfl, _, rfl, _, _, rfl, rfl, ⟨w s3 t1 s1 t3, v9 u2⟩, _, _, rfl, rfl, _, rfl, _, rfl, _, _, rfl, rfl, ⟨w s1 t2 s2 t1, v9 u3⟩, _, _, rfl, rfl, (by show 2 ≤ sizeLine; decide), fun a5 n5 => ?_⟩
  refine ⟨a5, _, _, rfl, upd_same, ?_⟩
  exact q _ (g4.trans (same_new n5 _))
theorem ok_law_hand {f : Addr} {fd : FuncData} (F : Fun K "_law_hand" "_law_hand" s_law_hand f fd) (h_law_apart : Own.Has P w K mg base "_law_apart" ["_law_one", "_law_other"] 1 (spApart)) (h_law_sign : Own.Has P w K mg base "_law_sign" ["_law_one"] 1 (spSign)) : FnOk P w K mg base CX0 2 f fd ["_law_p", "_law_q", "_law_r"] (spHandL) := by
  refine F.ok sc_law_hand (fun vs H Q E h => ?_) (fun cdv A outer s H vs Q E hr h => ?_)
  · obtain ⟨p, q', r, P, P', R, rfl, _⟩ := h
    rfl
  obtain ⟨p, q', r, P, P', R, rfl, ⟨px, py, hp, hpx, hpy⟩, ⟨qx, qy, hq, hqx, hqy⟩, ⟨rx, ry, hR, hrx, hry⟩, ⟨_, _, p1, p2, p3, p4⟩, ⟨_, _, q1, q2, q3, q4⟩, ⟨_, _, r1, r2, r3, r4⟩, q⟩ := h
  refine ⟨_, (pss_cons (ps_par (i := 3) (j := 4) rfl sc_law_hand.nd rfl rfl (by decide) rfl rfl (pa_cons (Own.pe_has h_law_apart (hr.mono (by decide)) rfl (pa_cons (pe_ix ix_tup (pv 0) pe_int (fun _ _ => rfl)) (pa_cons (pe_ix ix_tup (pv 1) pe_int (fun _ _ => rfl)) pa_nil))) (pa_cons (Own.pe_has h_law_apart (hr.mono (by decide)) rfl (pa_cons (pe_ix ix_tup (pv 0) pe_int (fun _ _ => rfl)) (pa_cons (pe_ix ix_tup (pv 1) pe_int (fun _ _ => rfl)) pa_nil))) pa_nil)) rfl)
      (pss_cons (ps_par (i := 5) (j := 6) rfl sc_law_hand.nd rfl rfl (by decide) rfl rfl (pa_cons (Own.pe_has h_law_apart (hr.mono (by decide)) rfl (pa_cons (pe_ix ix_tup (pv 0) pe_int (fun _ _ => rfl)) (pa_cons (pe_ix ix_tup (pv 2) pe_int (fun _ _ => rfl)) pa_nil))) (pa_cons (Own.pe_has h_law_apart (hr.mono (by decide)) rfl (pa_cons (pe_ix ix_tup (pv 0) pe_int (fun _ _ => rfl)) (pa_cons (pe_ix ix_tup (pv 2) pe_int (fun _ _ => rfl)) pa_nil))) pa_nil)) rfl)
      (pss_one (ps_ret (Own.pe_has h_law_sign (hr.mono (by decide)) rfl (pa_cons (pe_tup (pa_cons (pe_op op_sub (pe_op Own.op_mulW (pe_op Own.op_mulW (pe_op Own.op_mulW (pe_ix ix_tup (pv 3) pe_int (fun _ _ => rfl)) (pe_ix ix_tup (pv 6) pe_int (fun _ _ => rfl))) (pe_ix ix_tup (pv 4) pe_int (fun _ _ => rfl))) (pe_ix ix_tup (pv 5) pe_int (fun _ _ => rfl))) (pe_op Own.op_mulW (pe_op Own.op_mulW (pe_op Own.op_mulW (pe_ix ix_tup (pv 4) pe_int (fun _ _ => rfl)) (pe_ix ix_tup (pv 5) pe_int (fun _ _ => rfl))) (pe_ix ix_tup (pv 3) pe_int (fun _ _ => rfl))) (pe_ix ix_tup (pv 6) pe_int (fun _ _ => rfl)))) (pa_cons pe_int pa_nil))) pa_nil)))))), ?_⟩
  have ul : ∀ {i : Int}, i.natAbs < 2 ^ 210 → i.natAbs < 2 ^ 1700 := fun h => up h (by decide)
  -- a, b
  refine ⟨_, rfl, p, _, _, _, rfl, rfl, SqT.of hp, at0, _, rfl, q', _, _, _, rfl, rfl, SqT.of hq, at0, px, qx, _, _, _, _, rfl, hpx, hqx, ⟨ul p1, ul p2, ul q1, ul q2⟩, fun t1 n1 => ?_⟩
  have g1 := same_new n1 (.tup [.int (P'.n * P.d - P.n * P'.d), .int (P.d * P'.d)])
  refine ⟨_, rfl, p, _, _, _, rfl, rfl, SqT.of (g1 _ _ hp), at1, _, rfl, q', _, _, _, rfl, rfl, SqT.of (g1 _ _ hq), at1, py, qy, _, _, _, _, rfl, g1 _ _ hpy, g1 _ _ hqy, ⟨ul p3, ul p4, ul q3, ul q4⟩, fun t2 n2 => ?_⟩
  refine ⟨_, _, rfl, ?_⟩
  have g2 := g1.trans (same_new n2 (.tup [.int (P'.m * P.e - P.m * P'.e), .int (P.e * P'.e)]))
  have b1 := (same_new n2 (.tup [.int (P'.m * P.e - P.m * P'.e), .int (P.e * P'.e)])) _ _ (upd_same (H := H) (a := t1) (o := .tup [.int (P'.n * P.d - P.n * P'.d), .int (P.d * P'.d)]))
  have b2 := upd_same (H := upd H t1 (.tup [.int (P'.n * P.d - P.n * P'.d), .int (P.d * P'.d)])) (a := t2) (o := .tup [.int (P'.m * P.e - P.m * P'.e), .int (P.e * P'.e)])
  generalize upd (upd H t1 (.tup [.int (P'.n * P.d - P.n * P'.d), .int (P.d * P'.d)])) t2 (.tup [.int (P'.m * P.e - P.m * P'.e), .int (P.e * P'.e)]) = H2 at *
  -- c, d
  refine ⟨_, rfl, p, _, _, _, rfl, rfl, SqT.of (g2 _ _ hp), at0, _, rfl, r, _, _, _, rfl, rfl, SqT.of (g2 _ _ hR), at0, px, rx, _, _, _, _, rfl, g2 _ _ hpx, g2 _ _ hrx, ⟨ul p1, ul p2, r1, r2⟩, fun t3 n3 => ?_⟩
  have g3 := same_new n3 (.tup [.int (R.n * P.d - P.n * R.d), .int (P.d * R.d)])
  have h3 := g2.trans g3
  refine ⟨_, rfl, p, _, _, _, rfl, rfl, SqT.of (h3 _ _ hp), at1, _, rfl, r, _, _, _, rfl, rfl, SqT.of (h3 _ _ hR), at1, py, ry, _, _, _, _, rfl, h3 _ _ hpy, h3 _ _ hry, ⟨ul p3, ul p4, r3, r4⟩, fun t4 n4 => ?_⟩
  refine ⟨_, _, rfl, ?_⟩
  have g4 := same_new n4 (.tup [.int (R.m * P.e - P.m * R.e), .int (P.e * R.e)])
  have h4 := h3.trans g4
  have b3 := g4 _ _ (upd_same (H := H2) (a := t3) (o := .tup [.int (R.n * P.d - P.n * R.d), .int (P.d * R.d)]))
  have b4 := upd_same (H := upd H2 t3 (.tup [.int (R.n * P.d - P.n * R.d), .int (P.d * R.d)])) (a := t4) (o := .tup [.int (R.m * P.e - P.m * R.e), .int (P.e * R.e)])
  have b1 := (g3.trans g4) _ _ b1
  have b2 := (g3.trans g4) _ _ b2
  generalize upd (upd H2 t3 (.tup [.int (R.n * P.d - P.n * R.d), .int (P.d * R.d)])) t4 (.tup [.int (R.m * P.e - P.m * R.e), .int (P.e * R.e)]) = H4 at *
  have c1 : (P'.n * P.d - P.n * P'.d).natAbs < 2 ^ 421 := sub_lt_pow (mul_lt_pow q1 p2) (mul_lt_pow p1 q2)
  have c3 : (P'.m * P.e - P.m * P'.e).natAbs < 2 ^ 421 := sub_lt_pow (mul_lt_pow q3 p4) (mul_lt_pow p3 q4)
  have c2 : (R.m * P.e - P.m * R.e).natAbs < 2 ^ 1911 := sub_lt_pow (up (mul_lt_pow r3 p4) (by decide)) (up (mul_lt_pow p3 r4) (by decide))
  have c4 : (R.n * P.d - P.n * R.d).natAbs < 2 ^ 1911 := sub_lt_pow (up (mul_lt_pow r1 p2) (by decide)) (up (mul_lt_pow p1 r2) (by decide))
  have v1 : ∀ {i : Int}, i.natAbs < 2 ^ 421 → i.natAbs < 2 ^ 9000 := fun h => up h (by decide)
  have v2 : ∀ {i : Int}, i.natAbs < 2 ^ 1911 → i.natAbs < 2 ^ 9000 := fun h => up h (by decide)
  have m2 : ∀ {i j : Int}, i.natAbs < 2 ^ 210 → j.natAbs < 2 ^ 210 → (i * j).natAbs < 2 ^ 9000 := fun h1 h2 => up (mul_lt_pow h1 h2) (by decide)
  have m3 : ∀ {i j : Int}, i.natAbs < 2 ^ 210 → j.natAbs < 2 ^ 1700 → (i * j).natAbs < 2 ^ 9000 := fun h1 h2 => up (mul_lt_pow h1 h2) (by decide)
  have u4 : ∀ {i j : Int}, i.natAbs < 2 ^ 421 → j.natAbs < 2 ^ 1911 → (i * j).natAbs < 2 ^ 9000 := fun h h' => up (mul_lt_pow h h') (by decide)
  have u6 : ∀ {i j k l : Int}, i.natAbs < 2 ^ 421 → j.natAbs < 2 ^ 1911 → k.natAbs < 2 ^ 210 → l.natAbs < 2 ^ 210 → (i * j * (k * l)).natAbs < 2 ^ 9000 := fun h h' h2 h3 => up (mul_lt_pow (mul_lt_pow h h') (mul_lt_pow h2 h3)) (by decide)
  refine ⟨_, rfl, t1, _, _, _, rfl, rfl, SqT.of b1, at0, _, rfl, t4, _, _, _, rfl, rfl, SqT.of b4, at0, _, _, rfl, rfl, ⟨v1 c1, v2 c2⟩, _, rfl, t2, _, _, _, rfl, rfl, SqT.of b2, at1, _, _, rfl, rfl, ⟨u4 c1 c2, m2 p4 q4⟩, _, rfl, t3, _, _, _, rfl, rfl, SqT.of b3, at1, _, _, rfl, rfl, ⟨u6 c1 c2 p4 q4, m3 p2 r2⟩, ?_⟩
  refine ⟨_, rfl, t2, _, _, _, rfl, rfl, SqT.of b2, at0, _, rfl, t3, _, _, _, rfl, rfl, SqT.of b3, at0, _, _, rfl, rfl, ⟨v1 c3, v2 c4⟩, _, rfl, t1, _, _, _, rfl, rfl, SqT.of b1, at1, _, _, rfl, rfl, ⟨u4 c3 c4, m2 p2 q2⟩, _, rfl, t4, _, _, _, rfl, rfl, SqT.of b4, at1, _, _, rfl, rfl, ⟨u6 c3 c4 p2 q2, m3 p4 r4⟩, _, _, rfl, rfl, (by show 2 ≤ sizeLine; decide), fun t5 n5 => ?_⟩
  refine ⟨t5, _, _, rfl, upd_same, ?_⟩
  exact q _ (h4.trans (same_new n5 _))
theorem lit9 {i : Int} (h : i.natAbs < 2 ^ 200) : i.natAbs < 2 ^ 9000 := up h (by decide)
theorem Fz.of_fr {B : Nat} {n d n' d' : Int} (fr : Fr n d n' d') (hn : n.natAbs < 2 ^ B) (hd : d.natAbs < 2 ^ B) : Fz B n' d' := ⟨fr.pos, Nat.lt_of_le_of_lt fr.ln hn, Nat.lt_of_le_of_lt fr.ld hd⟩
theorem fars {d : Int} (h0 : 0 ≤ d) (h1 : d < 3) : ∃ f : Int, atI [V.int (10 ^ (3 : Int).toNat), V.int (10 ^ (12 : Int).toNat), V.int (10 ^ (57 : Int).toNat)] d = some (.int f) ∧ 0 < f ∧ f.natAbs < 2 ^ 190 := by
  have : d = 0 ∨ d = 1 ∨ d = 2 := by omega
  rcases this with rfl | rfl | rfl
  · exact ⟨_, rfl, by decide, by decide⟩
  · exact ⟨_, rfl, by decide, by decide⟩
  · exact ⟨_, rfl, by decide, by decide⟩
end
--SPLIT
section
variable {P : Program} {w : World} {K : PySem.W.Frag} {mg : Str → Option Value} {base : Heap}
theorem cd_small {n d n' d' : Int} (h0 : n.natAbs ≤ 4) (h1 : 0 < d) (h2 : d ≤ 3) (f : Fr n d n' d') : Cd 6 4 n' d' := by
  have e := f.eq
  have : d = 1 ∨ d = 2 ∨ d = 3 := by omega
  rcases this with rfl | rfl | rfl
  · have z : n' * 6 = 6 * n * d' := by
      have : n' = n * d' := by omega
      rw [this]
      grind
    exact ⟨6 * n, ⟨f.pos, z⟩, by omega⟩
  · have z : n' * 6 = 3 * n * d' := by
      have : n' * 6 = 3 * (n' * 2) := by omega
      rw [this, e]
      grind
    exact ⟨3 * n, ⟨f.pos, z⟩, by omega⟩
  · have z : n' * 6 = 2 * n * d' := by
      have : n' * 6 = 2 * (n' * 3) := by omega
      rw [this, e]
      grind
    exact ⟨2 * n, ⟨f.pos, z⟩, by omega⟩
theorem ok_law_number {f : Addr} {fd : FuncData} (F : Fun K "_law_number" "_law_number" s_law_number f fd) (h_law_low : Own.Has P w K mg base "_law_low" ["_law_n", "_law_d"] 1 (spFr)) (h_law_digit : Own.Has P w K mg base "_law_digit" ["_law_pot_here", "_law_many"] 1 (spDigit)) : FnOk P w K mg base CX0 2 f fd ["_law_pot_here", "_law_mode"] (spNumber) := by
  refine F.ok sc_law_number (fun vs H Q E h => ?_) (fun cdv A outer s H vs Q E hr h => ?_)
  · obtain ⟨a, mode, rfl, _⟩ := h
    rfl
  obtain ⟨a, mode, rfl, ha, m0, q⟩ := h
  refine ⟨_, (pss_cons (ps_if (pt_cmpR op_eq (pv 1) pe_int (nomark _)) (pss_one (ps_ret (Own.pe_has h_law_low (hr.mono (by decide)) rfl (pa_cons (pe_op op_sub (Own.pe_has h_law_digit (hr.mono (by decide)) rfl (pa_cons (pv 0) (pa_cons pe_int pa_nil))) pe_int) (pa_cons (pe_op op_add pe_int (Own.pe_has h_law_digit (hr.mono (by decide)) rfl (pa_cons (pv 0) (pa_cons pe_int pa_nil)))) pa_nil))))) pss_nil)
      (pss_cons (ps_if (pt_cmpR op_eq (pv 1) pe_int (nomark _)) (pss_one (ps_ret (pe_tup (pa_cons (pe_op op_sub (Own.pe_has h_law_digit (hr.mono (by decide)) rfl (pa_cons (pv 0) (pa_cons pe_int pa_nil))) pe_int) (pa_cons pe_int pa_nil))))) pss_nil)
      (pss_cons (ps_set (i := 2) sc_law_number.nd rfl (Or.inl rfl) (pe_ix ix_list (pe_lst (pa_cons (pe_op op_pow pe_int pe_int) (pa_cons (pe_op op_pow pe_int pe_int) (pa_cons (pe_op op_pow pe_int pe_int) pa_nil)))) (Own.pe_has h_law_digit (hr.mono (by decide)) rfl (pa_cons (pv 0) (pa_cons pe_int pa_nil))) (fun _ _ => rfl)))
      (pss_one (ps_ret (Own.pe_has h_law_low (hr.mono (by decide)) rfl (pa_cons (pe_op op_sub (Own.pe_has h_law_digit (hr.mono (by decide)) rfl (pa_cons (pv 0) (pa_cons (pe_op Own.op_mulW pe_int (pv 2)) pa_nil))) (pv 2)) (pa_cons (pe_op op_add pe_int (Own.pe_has h_law_digit (hr.mono (by decide)) rfl (pa_cons (pv 0) (pa_cons (pv 2) pa_nil)))) pa_nil)))))))), ?_⟩
  refine ⟨_, rfl, rfl, _, rfl, ?_⟩
  refine ite2 (fun e => ?_) (fun e => ?_)
  · have e' : mode = 0 := by simpa using e
    rw [if_pos (by omega)] at q
    refine ⟨_, rfl, a, 9, rfl, ha, by decide, lit9 (by decide), fun c H1 c0 c1 s1 p1 => ⟨_, _, rfl, rfl, ?_⟩⟩
    refine ⟨_, rfl, a, 3, rfl, p1, by decide, lit9 (by decide), fun d H2 d0 d1 s2 p2 => ⟨_, _, rfl, rfl, ?_⟩⟩
    refine ⟨_, _, rfl, (by omega), lit9 (Nat.lt_trans (m := 10) (by omega) (by decide)), fun n' d' p H3 fr g hp => ?_⟩
    exact q n' d' p H3 (Fz.of_fr fr (Nat.lt_trans (m := 10) (by omega) (by decide)) (Nat.lt_trans (m := 10) (by omega) (by decide))) fr.co (fun _ => cd_small (by omega) (by omega) (by omega) fr) (s1.trans (s2.trans (.of g))) (p2.kept g) hp
  refine ⟨_, rfl, rfl, _, rfl, ?_⟩
  refine ite2 (fun e => ?_) (fun e2 => ?_)
  · have e' : mode = 1 := by simpa using e
    rw [if_pos (by omega)] at q
    refine ⟨_, rfl, a, 7, rfl, ha, by decide, lit9 (by decide), fun c H1 c0 c1 s1 p1 => ⟨_, _, rfl, rfl, (by show 2 ≤ sizeLine; decide), fun p hp => ?_⟩⟩
    exact q _ _ p _ ⟨by decide, Nat.lt_trans (m := 10) (by omega) (by decide), by decide⟩ (Int.gcd_one_right ..) (fun _ => ⟨(c - 3) * 6, ⟨by decide, by omega⟩, by omega⟩) (s1.trans (.of (same_new hp _))) (p1.kept (same_new hp _)) upd_same
  have e' : mode ≠ 0 := fun z => e (by subst z; rfl)
  have e2' : mode ≠ 1 := fun z => e2 (by subst z; rfl)
  rw [if_neg (by omega)] at q
  refine ⟨_, _, rfl, rfl, ⟨by decide, by decide, by decide⟩, _, _, rfl, rfl, ⟨by decide, by decide, by decide⟩, _, _, rfl, rfl, ⟨by decide, by decide, by decide⟩, (by show 3 ≤ sizeLine; decide), fun l hl => ?_⟩
  have g0 := same_new hl (.lst [V.int (10 ^ (3 : Int).toNat), V.int (10 ^ (12 : Int).toNat), V.int (10 ^ (57 : Int).toNat)])
  have la : l ≠ a := by
    obtain ⟨x, y, z, _⟩ := ha
    exact (ne_of_none z hl).symm
  refine ⟨_, rfl, a, 3, rfl, ha.kept g0, by decide, lit9 (by decide), fun c H1 c0 c1 s1 p1 => ?_⟩
  obtain ⟨f, hf, f0, f1⟩ := fars c0 c1
  refine ⟨l, _, _, _, rfl, rfl, SqL.of (s1 _ _ la upd_same), hf, ?_⟩
  have k1 := (SameBut.of (a := a) g0).trans s1
  have f9 : f.natAbs < 2 ^ 9000 := up f1 (by decide)
  have f2 : (2 * f).natAbs < 2 ^ 191 := by
    rw [show (2 : Nat) ^ 191 = 2 ^ 190 * 2 by decide]
    omega
  refine ⟨_, rfl, _, rfl, _, _, rfl, rfl, ⟨lit9 (by decide), f9⟩, a, _, rfl, p1, (by omega), up f2 (by decide), fun d H2 d0 d1 s2 p2 => ⟨_, rfl, _, _, rfl, rfl, ?_⟩⟩
  refine ⟨_, rfl, _, rfl, a, _, rfl, p2, f0, f9, fun d' H3 d0' d1' s3 p3 => ⟨_, _, rfl, rfl, ?_⟩⟩
  have b1 : (d - f).natAbs < 2 ^ 200 := Nat.lt_of_le_of_lt (m := (2 * f).natAbs) (by omega) (up f2 (by decide))
  have b2 : (1 + d').natAbs < 2 ^ 200 := Nat.lt_of_le_of_lt (m := (2 * f).natAbs) (by omega) (up f2 (by decide))
  refine ⟨_, _, rfl, (by omega), lit9 b2, fun n' d' p H4 fr g hp => ?_⟩
  exact q n' d' p H4 (Fz.of_fr fr b1 b2) fr.co (fun z => by omega) (k1.trans (s2.trans (s3.trans (.of g)))) (p3.kept g) hp
theorem mul_ne {a b : Int} (h : a ≠ 0) (h' : b ≠ 0) : a * b ≠ 0 := fun e => by
  rcases Int.mul_eq_zero.mp e with z | z
  · exact h z
  · exact h' z
theorem pos_ne {a : Int} (h : 0 < a) : a ≠ 0 := by omega
theorem ok_law_between {f : Addr} {fd : FuncData} (F : Fun K "_law_between" "_law_between" s_law_between f fd) (h_law_plus : Own.Has P w K mg base "_law_plus" ["_law_one", "_law_other"] 2 (spBin (fun a0 a1 b0 b1 => a0 * b1 + b0 * a1) (fun _ a1 _ b1 => a1 * b1))) (h_law_times : Own.Has P w K mg base "_law_times" ["_law_one", "_law_other"] 2 (spBin (fun a0 a1 b0 b1 => a0 * b0) (fun _ a1 _ b1 => a1 * b1))) (h_law_less : Own.Has P w K mg base "_law_less" ["_law_one", "_law_other"] 2 (spBin (fun a0 a1 b0 b1 => a0 * b1 - b0 * a1) (fun _ a1 _ b1 => a1 * b1))) : FnOk P w K mg base CX0 3 f fd ["_law_one", "_law_other", "_law_part"] (spBetween) := by
  refine F.ok sc_law_between (fun vs H Q E h => ?_) (fun cdv A outer s H vs Q E hr h => ?_)
  · obtain ⟨a, b, c, a0, a1, b0, b1, c0, c1, B, rfl, _⟩ := h
    rfl
  obtain ⟨a, b, c, a0, a1, b0, b1, c0, c1, B, rfl, ha, hb, hc, ⟨ap, az, ay⟩, ⟨bp, bz, bY⟩, ⟨cp, cz, cy⟩, hB, q⟩ := h
  refine ⟨_, (pss_one (ps_ret (Own.pe_has h_law_plus (hr.mono (by decide)) rfl (pa_cons (pv 0) (pa_cons (Own.pe_has h_law_times (hr.mono (by decide)) rfl (pa_cons (pv 2) (pa_cons (Own.pe_has h_law_less (hr.mono (by decide)) rfl (pa_cons (pv 1) (pa_cons (pv 0) pa_nil))) pa_nil))) pa_nil))))), ?_⟩
  have u : ∀ {i : Int}, i.natAbs < 2 ^ B → i.natAbs < 2 ^ 4000 := fun h => up h (by omega)
  have u2 : ∀ {i : Int}, i.natAbs < 2 ^ 2 → i.natAbs < 2 ^ 4000 := fun h => up h (by omega)
  refine ⟨_, rfl, _, rfl, _, rfl, _, rfl, b, a, b0, b1, a0, a1, rfl, hb, ha, ⟨u bz, u bY, u az, u ay⟩, mul_ne (pos_ne bp) (pos_ne ap), fun n1 d1 p1 H1 fr1 g1 hp1 => ?_⟩
  have x1 : n1.natAbs < 2 ^ (B + B + 1) := Nat.lt_of_le_of_lt fr1.ln (sub_lt_pow (mul_lt_pow bz ay) (mul_lt_pow az bY))
  have x2 : d1.natAbs < 2 ^ (B + B) := Nat.lt_of_le_of_lt fr1.ld (mul_lt_pow bY ay)
  refine ⟨c, p1, c0, c1, n1, d1, rfl, g1 _ _ hc, hp1, ⟨u2 cz, u2 cy, up x1 (by omega), up x2 (by omega)⟩, mul_ne (pos_ne cp) (pos_ne fr1.pos), fun n2 d2 p2 H2 fr2 g2 hp2 => ?_⟩
  have y1 : n2.natAbs < 2 ^ (2 + (B + B + 1)) := Nat.lt_of_le_of_lt fr2.ln (mul_lt_pow cz x1)
  have y2 : d2.natAbs < 2 ^ (2 + (B + B)) := Nat.lt_of_le_of_lt fr2.ld (mul_lt_pow cy x2)
  refine ⟨a, p2, a0, a1, n2, d2, rfl, (g1.trans g2) _ _ ha, hp2, ⟨u az, u ay, up y1 (by omega), up y2 (by omega)⟩, mul_ne (pos_ne ap) (pos_ne fr2.pos), fun n3 d3 p3 H3 fr3 g3 hp3 => ?_⟩
  refine q n3 d3 p3 H3 (fun S X Y C h1 h2 h3 => ?_) fr3.co (g1.trans (g2.trans g3)) hp3
  have e := (h1.up 6).plus ((h3.times (h2.less h1 fr1) fr2).up 1 |> fun z => (by rw [Int.mul_one, Int.mul_one, Int.mul_comm 6 S] at z; exact z)) fr3
  exact e
theorem Sz.up {B C : Nat} {P : Pt} (h : Sz B P) (hbc : B ≤ C) : Sz C P := by
  obtain ⟨z1, z2, z3, z4, z5, z6⟩ := h
  exact ⟨z1, z2, Mth.up z3 hbc, Mth.up z4 hbc, Mth.up z5 hbc, Mth.up z6 hbc⟩
theorem ListAt.but {H H' : Hp} {l a : Addr} {mode : Int} {i n : Nat} (h : ListAt H l mode i n) (ha : PotAt H a) (ne : l ≠ a) (g : SameBut a H H') : ListAt H' l mode i n := by
  obtain ⟨ps, h1, h2, h3⟩ := h
  obtain ⟨x, y, e, _⟩ := ha
  refine ⟨ps, g _ _ ne h1, h2, fun p hp => ?_⟩
  obtain ⟨P, k1, k2⟩ := h3 p hp
  exact ⟨P, k1.but e g, k2⟩
theorem ListAt.pick {H : Hp} {l : Addr} {mode : Int} {i n : Nat} (h : ListAt H l mode i n) {d : Int} (d0 : 0 ≤ d) (d1 : d < n) : ∃ (ps : List Addr) (p : Addr) (P : Pt), H l = some (.lst (ps.map V.ref)) ∧ atI (ps.map V.ref) d = some (.ref p) ∧ PtAt H p P ∧ Okp mode i P := by
  obtain ⟨ps, h1, h2, h3⟩ := h
  obtain ⟨j, rfl⟩ := Int.eq_ofNat_of_zero_le d0
  have hj : j < ps.length := by omega
  obtain ⟨P, k1, k2⟩ := h3 ps[j] (List.getElem_mem hj)
  refine ⟨ps, ps[j], P, h1, atI_nat ?_, k1, k2⟩
  rw [List.getElem?_map, List.getElem?_eq_getElem hj]
  rfl
theorem parts {d : Int} (h0 : 0 ≤ d) (h1 : d < 4) {a b c e : V} : ∃ v, atI [a, b, c, e] d = some v ∧ (v = a ∨ v = b ∨ v = c ∨ v = e) := by
  have : d = 0 ∨ d = 1 ∨ d = 2 ∨ d = 3 := by omega
  rcases this with rfl | rfl | rfl | rfl
  · exact ⟨_, rfl, .inl rfl⟩
  · exact ⟨_, rfl, .inr (.inl rfl)⟩
  · exact ⟨_, rfl, .inr (.inr (.inl rfl))⟩
  · exact ⟨_, rfl, .inr (.inr (.inr rfl))⟩
theorem Fz.sz {B : Nat} {n d m e : Int} (h : Fz B n d) (h' : Fz B m e) : Sz B ⟨n, d, m, e⟩ := ⟨h.1, h'.1, h.2.1, h.2.2, h'.2.1, h'.2.2⟩
theorem Fz.up {B C : Nat} {n d : Int} (h : Fz B n d) (hbc : B ≤ C) : Fz C n d := ⟨h.1, Mth.up h.2.1 hbc, Mth.up h.2.2 hbc⟩
end
--SPLIT
section
variable {P : Program} {w : World} {K : PySem.W.Frag} {mg : Str → Option Value} {base : Heap}
theorem Cd.wide {n d : Int} (h : Cd 6 4 n d) (i : Nat) : Cd (sc i * 6) (5 * vv i + 4) n d := by
  obtain ⟨X, h1, h2⟩ := h
  have e := h1.up (sc i : Int)
  rw [Int.mul_comm] at e
  refine ⟨X * sc i, by rw [show ((sc i * 6 : Nat) : Int) = (sc i : Int) * ((6 : Nat) : Int) by omega]; exact e, ?_⟩
  rw [Int.natAbs_mul]
  have a : X.natAbs * (sc i : Int).natAbs ≤ 24 * sc i := Nat.mul_le_mul (by omega) (by omega)
  have b : (5 * vv i + 4) * (sc i * 6) = 24 * sc i + 5 * vv i * (sc i * 6) := by rw [Nat.add_mul]; omega
  omega
theorem Cd.pos {S V : Nat} {n d : Int} (h : Cd S V n d) : 0 < d := let ⟨_, h1, _⟩ := h; h1.1
theorem Cd.btw {S V : Nat} {a0 a1 b0 b1 c0 c1 C n d : Int} (h : Cd S V a0 a1) (k : Cd S V b0 b1) (hC : Sc 6 C c0 c1) (c12 : C.natAbs ≤ 12) (z : ∀ S X Y C : Int, Sc S X a0 a1 → Sc S Y b0 b1 → Sc 6 C c0 c1 → Sc (S * 6) (X * 6 + C * (Y - X)) n d) : Cd (S * 6) (5 * V + 4) n d := by
  obtain ⟨X, h1, h2⟩ := h
  obtain ⟨Y, k1, k2⟩ := k
  refine ⟨_, by rw [show ((S * 6 : Nat) : Int) = (S : Int) * 6 by omega]; exact z _ _ _ _ h1 k1 hC, ?_⟩
  have a : (C * (Y - X)).natAbs ≤ 12 * (2 * (V * S)) := by
    rw [Int.natAbs_mul]
    exact Nat.mul_le_mul c12 (by omega)
  have b : (5 * V + 4) * (S * 6) = 30 * (V * S) + 24 * S := by
    rw [Nat.add_mul, show 5 * V * (S * 6) = 30 * (V * S) by rw [Nat.mul_mul_mul_comm, Nat.mul_comm 5 S, ← Nat.mul_assoc] <;> grind]
    omega
  omega
theorem sc_small : ∀ i, i ≤ 7 → (5 * vv i + 4) * (sc i * 6) < 2 ^ 200 ∧ sc i * 6 < 2 ^ 200 := by decide
theorem sc_small8 : ∀ i, i ≤ 8 → vv i * sc i < 2 ^ 206 ∧ sc i < 2 ^ 206 ∧ 0 < sc i := by decide
theorem Cd.size {S V : Nat} {n d : Int} (h : Cd S V n d) (co : Int.gcd n d = 1) (S0 : 0 < S) : n.natAbs ≤ V * S ∧ d.natAbs ≤ S := by
  obtain ⟨X, h1, h2⟩ := h
  obtain ⟨s1, s2⟩ := h1.size co (by omega)
  omega
theorem Cd.fz {i : Nat} {n d : Int} (h : Cd (sc i * 6) (5 * vv i + 4) n d) (hi : i ≤ 7) (co : Int.gcd n d = 1) : Fz 200 n d := by
  obtain ⟨s1, s2⟩ := sc_small i hi
  have p := (sc_small8 i (by omega)).2.2
  obtain ⟨a, b⟩ := h.size co (by omega)
  exact ⟨h.pos, by omega, by omega⟩
theorem Cd.up {S V : Nat} {n d : Int} (h : Cd S V n d) (c W : Nat) (hW : V ≤ W) : Cd (S * c) W n d := by
  obtain ⟨X, h1, h2⟩ := h
  refine ⟨X * c, by rw [show ((S * c : Nat) : Int) = (S : Int) * (c : Int) by simp]; exact h1.up c, ?_⟩
  rw [Int.natAbs_mul]
  have a : X.natAbs * (c : Int).natAbs ≤ V * S * c := Nat.mul_le_mul h2 (by omega)
  have b : V * S * c ≤ W * (S * c) := by rw [Nat.mul_assoc]; exact Nat.mul_le_mul hW (Nat.le_refl _)
  omega
theorem ok_law_point {f : Addr} {fd : FuncData} (F : Fun K "_law_point" "_law_point" s_law_point f fd) (h_law_digit : Own.Has P w K mg base "_law_digit" ["_law_pot_here", "_law_many"] 1 (spDigit)) (h_law_between : Own.Has P w K mg base "_law_between" ["_law_one", "_law_other", "_law_part"] 3 (spBetween)) (h_law_number : Own.Has P w K mg base "_law_number" ["_law_pot_here", "_law_mode"] 2 (spNumber)) (z_len : mg "len" = none) : FnOk P w K mg base CX0 4 f fd ["_law_pot_here", "_law_points_here", "_law_mode"] (spPoint) := by
  refine F.ok sc_law_point (fun vs H Q E h => ?_) (fun cdv A outer s H vs Q E hr h => ?_)
  · obtain ⟨a, l, mode, i, n, rfl, _⟩ := h
    rfl
  obtain ⟨a, l, mode, i, n, rfl, ha, hl, nal, m0, hi, hn, q⟩ := h
  refine ⟨_, (pss_cons (ps_if (PW.pt (pw_and (pt_cmpR op_lt (pv 2) pe_int (nomark _)) (pw_and (pt_cmpR op_gt (pe_callB call_len_seq rfl z_len PySem.boot_len (pa_cons (pv 1) pa_nil)) pe_int (nomark _)) (pw_and1 (pt_cmpR op_eq (Own.pe_has h_law_digit (hr.mono (by decide)) rfl (pa_cons (pv 0) (pa_cons pe_int pa_nil))) pe_int (nomark _)))))) (pss_cons (ps_set (i := 3) sc_law_point.nd rfl (Or.inl rfl) (pe_ix ix_list (pv 1) (Own.pe_has h_law_digit (hr.mono (by decide)) rfl (pa_cons (pv 0) (pa_cons (pe_callB call_len_seq rfl z_len PySem.boot_len (pa_cons (pv 1) pa_nil)) pa_nil))) (fun _ _ => rfl)))
      (pss_cons (ps_set (i := 4) sc_law_point.nd rfl (Or.inl rfl) (pe_ix ix_list (pv 1) (Own.pe_has h_law_digit (hr.mono (by decide)) rfl (pa_cons (pv 0) (pa_cons (pe_callB call_len_seq rfl z_len PySem.boot_len (pa_cons (pv 1) pa_nil)) pa_nil))) (fun _ _ => rfl)))
      (pss_cons (ps_set (i := 5) sc_law_point.nd rfl (Or.inl rfl) (pe_ix ix_list (pe_lst (pa_cons (pe_tup (pa_cons pe_int (pa_cons pe_int pa_nil))) (pa_cons (pe_tup (pa_cons pe_int (pa_cons pe_int pa_nil))) (pa_cons (pe_tup (pa_cons (pe_un un_neg pe_int) (pa_cons pe_int pa_nil))) (pa_cons (pe_tup (pa_cons pe_int (pa_cons pe_int pa_nil))) pa_nil))))) (Own.pe_has h_law_digit (hr.mono (by decide)) rfl (pa_cons (pv 0) (pa_cons pe_int pa_nil))) (fun _ _ => rfl)))
      (pss_one (ps_ret (pe_tup (pa_cons (Own.pe_has h_law_between (hr.mono (by decide)) rfl (pa_cons (pe_ix ix_tup (pv 3) pe_int (fun _ _ => rfl)) (pa_cons (pe_ix ix_tup (pv 4) pe_int (fun _ _ => rfl)) (pa_cons (pv 5) pa_nil)))) (pa_cons (Own.pe_has h_law_between (hr.mono (by decide)) rfl (pa_cons (pe_ix ix_tup (pv 3) pe_int (fun _ _ => rfl)) (pa_cons (pe_ix ix_tup (pv 4) pe_int (fun _ _ => rfl)) (pa_cons (pv 5) pa_nil)))) pa_nil)))))))) pss_nil)
      (pss_one (ps_ret (pe_tup (pa_cons (Own.pe_has h_law_number (hr.mono (by decide)) rfl (pa_cons (pv 0) (pa_cons (pv 2) pa_nil))) (pa_cons (Own.pe_has h_law_number (hr.mono (by decide)) rfl (pa_cons (pv 0) (pa_cons (pv 2) pa_nil))) pa_nil)))))), ?_⟩
  have last : ∀ H4, SameBut a H H4 → PotAt H4 a → (tRet (tTup (tCons (tCall spNumber [] E0 (tCons (tVar 0) (tCons (tVar 2) tNil))) (tCons (tCall spNumber [] E0 (tCons (tVar 0) (tCons (tVar 2) tNil))) tNil))))
      { nx := fun _ H' => Q .non H', rt := Q } [some (.ref a), some (.ref l), some (.int mode), none, none, none] H4 := fun H4 g p4 => by
    refine ⟨_, rfl, _, rfl, a, mode, rfl, p4, m0, fun n1 d1 r1 H5 z1 co1 cd1 s5 p5 h1 => ?_⟩
    refine ⟨_, rfl, _, rfl, a, mode, rfl, p5, m0, fun n2 d2 r2 H6 z2 co2 cd2 s6 p6 h2 => ⟨(by show 2 ≤ sizeLine; decide), fun p hp => ?_⟩⟩
    have g7 := same_new hp (.tup [.ref r1, .ref r2])
    have h1' : H6 r1 = some (.tup [.int n1, .int d1]) := by
      obtain ⟨x, y, e, _⟩ := p5
      exact s6 _ _ (ne_of h1 e (by intro z; cases z)) h1
    refine q ⟨n1, d1, n2, d2⟩ p _ ⟨⟨z1.1, z2.1, co1, co2⟩, ?_, fun c => ⟨(cd1 c).wide i, (cd2 c).wide i⟩⟩ (g.trans (s5.trans (s6.trans (.of g7)))) (p6.kept g7) ⟨r1, r2, upd_same, g7 _ _ h1', g7 _ _ h2⟩
    have z := z1.sz z2
    refine z.up ?_
    split <;> omega
  obtain ⟨ps, hps, hlen, hpt⟩ := id hl
  refine ⟨_, rfl, _, _, rfl, rfl, _, rfl, ?_⟩
  refine ite2 (fun c => ?_) (fun c => last H (SameBut.refl a H) ha)
  have c' : mode < 2 := of_decide_eq_true c
  refine ⟨_, rfl, l, _, rfl, .inl (SqL.of hps), _, _, rfl, rfl, _, rfl, ?_⟩
  refine ite2 (fun c2 => ?_) (fun c2 => last H (SameBut.refl a H) ha)
  have c2' : 1 < n := by
    have := of_decide_eq_true c2
    rw [List.length_map] at this
    omega
  have hl4 : ((ps.map V.ref).length : Int) = n := by rw [List.length_map, hlen]
  have n9 : ((n : Int)).natAbs < 2 ^ 9000 := lit9 (Nat.lt_trans (m := 10) (by omega) (by decide))
  refine ⟨_, rfl, a, 4, rfl, ha, by decide, lit9 (by decide), fun d1 H1 _ _ s1 p1 => ?_⟩
  have l1 := hl.but ha nal.symm s1
  refine ⟨rfl, _, rfl, ?_⟩
  refine ite2 (fun c3 => ?_) (fun c3 => last H1 s1 p1)
  -- p
  obtain ⟨ps1, e1, _⟩ := id l1
  have ps1e : H1 l = some (.lst (ps.map V.ref)) := s1 _ _ nal.symm hps
  refine ⟨_, rfl, _, rfl, _, rfl, l, _, rfl, .inl (SqL.of ps1e), a, _, rfl, p1, (by rw [hl4]; omega), (by rw [hl4]; exact n9), fun d2 H2 x0 x1 s2 p2 => ?_⟩
  rw [hl4] at x1
  have l2 := l1.but p1 nal.symm s2
  obtain ⟨ps2, pa, PA, hp2, at2, kA, lA, zA, cA⟩ := l2.pick x0 x1
  refine ⟨l, _, _, _, rfl, rfl, SqL.of hp2, at2, ?_⟩
  -- q
  have ps2e : H2 l = some (.lst (ps.map V.ref)) := s2 _ _ nal.symm ps1e
  refine ⟨_, rfl, _, rfl, _, rfl, l, _, rfl, .inl (SqL.of ps2e), a, _, rfl, p2, (by rw [hl4]; omega), (by rw [hl4]; exact n9), fun d3 H3 y0 y1 s3 p3 => ?_⟩
  rw [hl4] at y1
  have l3 := l2.but p2 nal.symm s3
  obtain ⟨ps3, pb, PB, hp3, at3, kB, lB, zB, cB⟩ := l3.pick y0 y1
  refine ⟨l, _, _, _, rfl, rfl, SqL.of hp3, at3, ?_⟩
  obtain ⟨xx, yy, potA, _⟩ := id p2
  have kA := kA.but potA s3
  -- part
  refine ⟨(by show 2 ≤ sizeLine; decide), fun t1 n1 => ⟨(by show 2 ≤ sizeLine; decide), fun t2 n2 => ⟨_, rfl, (by show 2 ≤ sizeLine; decide), fun t3 n3 => ⟨(by show 2 ≤ sizeLine; decide), fun t4 n4 => ⟨(by show 4 ≤ sizeLine; decide), fun lp nlp => ?_⟩⟩⟩⟩⟩
  have g1 := same_new n1 (.tup [.int 1, .int 2])
  have g2 := same_new n2 (.tup [.int 2, .int 1])
  have g3 := same_new n3 (.tup [.int (-1), .int 1])
  have g4 := same_new n4 (.tup [.int 1, .int 3])
  have g5 := same_new nlp (.lst [.ref t1, .ref t2, .ref t3, .ref t4])
  have b1 := g5 _ _ (g4 _ _ (g3 _ _ (g2 _ _ (upd_same (H := H3) (a := t1) (o := .tup [.int 1, .int 2])))))
  have b2 := g5 _ _ (g4 _ _ (g3 _ _ (upd_same (H := upd H3 t1 (.tup [.int 1, .int 2])) (a := t2) (o := .tup [.int 2, .int 1]))))
  have b3 := g5 _ _ (g4 _ _ (upd_same (H := upd (upd H3 t1 (.tup [.int 1, .int 2])) t2 (.tup [.int 2, .int 1])) (a := t3) (o := .tup [.int (-1), .int 1])))
  have b4 := g5 _ _ (upd_same (H := upd (upd (upd H3 t1 (.tup [.int 1, .int 2])) t2 (.tup [.int 2, .int 1])) t3 (.tup [.int (-1), .int 1])) (a := t4) (o := .tup [.int 1, .int 3]))
  have bl := upd_same (H := upd (upd (upd (upd H3 t1 (.tup [.int 1, .int 2])) t2 (.tup [.int 2, .int 1])) t3 (.tup [.int (-1), .int 1])) t4 (.tup [.int 1, .int 3])) (a := lp) (o := .lst [.ref t1, .ref t2, .ref t3, .ref t4])
  have gg : Same H3 _ := g1.trans (g2.trans (g3.trans (g4.trans g5)))
  generalize upd (upd (upd (upd (upd H3 t1 (.tup [.int 1, .int 2])) t2 (.tup [.int 2, .int 1])) t3 (.tup [.int (-1), .int 1])) t4 (.tup [.int 1, .int 3])) lp (.lst [.ref t1, .ref t2, .ref t3, .ref t4]) = H4 at *
  have p4 := p3.kept gg
  obtain ⟨x4, y4, pot4, _⟩ := id p4
  have lpa : lp ≠ a := by
    intro z
    subst z
    rw [bl] at pot4
    cases pot4
  refine ⟨_, rfl, a, 4, rfl, p4, by decide, lit9 (by decide), fun d4 H5 z0 z1 s5 p5 => ?_⟩
  obtain ⟨v, hv, ev⟩ := parts z0 z1 (a := .ref t1) (b := .ref t2) (c := .ref t3) (e := .ref t4)
  refine ⟨lp, _, _, _, rfl, rfl, SqL.of (s5 _ _ lpa bl), hv, ?_⟩
  have nt : ∀ {t : Addr} {xs : List V}, H4 t = some (.tup xs) → H5 t = some (.tup xs) := fun h => s5 _ _ (ne_of h pot4 (by intro z; cases z)) h
  have hc : ∃ (t : Addr) (c0 c1 C : Int), v = .ref t ∧ H5 t = some (.tup [.int c0, .int c1]) ∧ Fz 2 c0 c1 ∧ Sc 6 C c0 c1 ∧ C.natAbs ≤ 12 := by
    rcases ev with rfl | rfl | rfl | rfl
    · exact ⟨_, _, _, 3, rfl, nt b1, ⟨by decide, by decide, by decide⟩, ⟨by decide, by decide⟩, by decide⟩
    · exact ⟨_, _, _, 12, rfl, nt b2, ⟨by decide, by decide, by decide⟩, ⟨by decide, by decide⟩, by decide⟩
    · exact ⟨_, _, _, -6, rfl, nt b3, ⟨by decide, by decide, by decide⟩, ⟨by decide, by decide⟩, by decide⟩
    · exact ⟨_, _, _, 2, rfl, nt b4, ⟨by decide, by decide, by decide⟩, ⟨by decide, by decide⟩, by decide⟩
  obtain ⟨t, c0, c1, C, rfl, ht, zt, cC, c12⟩ := hc
  have kA := (kA.kept gg).but pot4 s5
  have kB := (kB.kept gg).but pot4 s5
  have sAll : SameBut a H H5 := s1.trans (s2.trans (s3.trans ((SameBut.of gg).trans s5)))
  obtain ⟨ax, ay, hA, hAx, hAy⟩ := kA
  obtain ⟨bx, bY, hB, hBx, hBy⟩ := kB
  obtain ⟨a1, a2, a3, a4, a5, a6⟩ := zA
  obtain ⟨b1, b2, b3, b4, b5, b6⟩ := zB
  refine ⟨_, rfl, pa, _, _, _, rfl, rfl, SqT.of hA, at0, _, rfl, pb, _, _, _, rfl, rfl, SqT.of hB, at0, _, rfl, ax, bx, t, _, _, _, _, _, _, 206, rfl, hAx, hBx, ht, ⟨a1, a3, a4⟩, ⟨b1, b3, b4⟩, zt, by decide, fun n1 d1 r1 H6 z1 co1 g6 h1 => ?_⟩
  refine ⟨_, rfl, pa, _, _, _, rfl, rfl, SqT.of (g6 _ _ hA), at1, _, rfl, pb, _, _, _, rfl, rfl, SqT.of (g6 _ _ hB), at1, _, rfl, ay, bY, t, _, _, _, _, _, _, 206, rfl, g6 _ _ hAy, g6 _ _ hBy, g6 _ _ ht, ⟨a2, a5, a6⟩, ⟨b2, b5, b6⟩, zt, by decide, fun n2 d2 r2 H7 z2 co2 g7 h2 => ⟨(by show 2 ≤ sizeLine; decide), fun p hp => ?_⟩⟩
  have g8 := same_new hp (.tup [.ref r1, .ref r2])
  have gx := g6.trans (g7.trans g8)
  obtain ⟨cAx, cAy⟩ := cA c'
  obtain ⟨cBx, cBy⟩ := cB c'
  have x1 := cAx.btw cBx cC c12 z1
  have x2 := cAy.btw cBy cC c12 z2
  exact q ⟨n1, d1, n2, d2⟩ p _ ⟨⟨x1.pos, x2.pos, co1, co2⟩, (x1.fz (by omega) co1).sz (x2.fz (by omega) co2), fun _ => ⟨x1, x2⟩⟩ (sAll.trans (.of gx)) (p5.kept gx) ⟨r1, r2, upd_same, g8 _ _ (g7 _ _ h1), g8 _ _ h2⟩
def ptD (P : Pt) : PyData := .tuple [.tuple [.int P.n, .int P.d], .tuple [.int P.m, .int P.e]]
theorem ptD_ok (P : Pt) : SeqAt.shaped (ptD P) = true := by
  unfold ptD SeqAt.shaped
  simp [PyData.canLay0, PyData.canLayAll0, PyData.depth, PyData.depthAll]
theorem PtAt.dt {K : PySem.W.Frag} {H : Hp} {p : Addr} {P : Pt} (h : PtAt H p P) : Dt K H (ptD P) (.ref p) := by
  obtain ⟨x, y, h1, h2, h3⟩ := h
  have two : ∀ {z : Addr} {i j : Int}, H z = some (.tup [.int i, .int j]) → Dt K H (.tuple [.int i, .int j]) (.ref z) := fun {z i j} e => by
    unfold Dt
    refine ⟨z, _, rfl, SqT.of e, ?_⟩
    unfold DtAll
    refine ⟨_, _, rfl, (by unfold Dt; rfl), ?_⟩
    unfold DtAll
    refine ⟨_, _, rfl, (by unfold Dt; rfl), ?_⟩
    unfold DtAll
    rfl
  unfold ptD Dt
  refine ⟨p, _, rfl, SqT.of h1, ?_⟩
  unfold DtAll
  refine ⟨_, _, rfl, two h2, ?_⟩
  unfold DtAll
  refine ⟨_, _, rfl, two h3, ?_⟩
  unfold DtAll
  rfl
theorem pts_dt {K : PySem.W.Frag} {H : Hp} : ∀ {ps : List Addr}, (∀ p ∈ ps, ∃ P, PtAt H p P) → ∃ es, DtAll K H es (ps.map V.ref) ∧ ∀ e ∈ es, SeqAt.shaped e = true
  | [], _ => ⟨[], (by unfold DtAll; rfl), fun e he => by cases he⟩
  | p :: ps, h => by
    obtain ⟨P, hP⟩ := h p List.mem_cons_self
    obtain ⟨es, h1, h2⟩ := pts_dt (K := K) (ps := ps) fun p' hp' => h p' (List.mem_cons_of_mem _ hp')
    refine ⟨ptD P :: es, ?_, fun e he => ?_⟩
    · unfold DtAll
      exact ⟨_, _, rfl, hP.dt, h1⟩
    · rcases List.mem_cons.mp he with rfl | he
      · exact ptD_ok P
      · exact h2 e he
theorem PtAt.upd {H : Hp} {p l : Addr} {P : Pt} {xs : List V} {o : HO} (h : PtAt H p P) (hl : H l = some (.lst xs)) : PtAt (upd H l o) p P := h.but hl but_upd
theorem PotAt.other {H : Hp} {a l : Addr} {o : HO} (h : PotAt H a) (n : a ≠ l) : PotAt (upd H l o) a := by
  obtain ⟨x, y, e, z⟩ := h
  exact ⟨x, y, by rw [upd_ne n]; exact e, z⟩
theorem Okq.next {mode : Int} {i : Nat} {P : Pt} (h : Okq mode i P) : Okp mode (i + 1) P := by
  obtain ⟨lw, z, c⟩ := h
  refine ⟨lw, z.up (by decide), fun m => ?_⟩
  obtain ⟨c1, c2⟩ := c m
  have e : sc i * 6 * ((7 + i) * (11 + i)) = sc (i + 1) := by show _ = sc i * (6 * ((7 + i) * (11 + i))); rw [Nat.mul_assoc]
  have v : 5 * vv i + 4 ≤ vv (i + 1) := by show _ ≤ 5 * vv i + 6; omega
  have d1 := c1.up ((7 + i) * (11 + i)) (vv (i + 1)) v
  have d2 := c2.up ((7 + i) * (11 + i)) (vv (i + 1)) v
  rw [e] at d1 d2
  exact ⟨d1, d2⟩
theorem Okp.up {mode : Int} {i : Nat} {P : Pt} (h : Okp mode i P) : Okp mode (i + 1) P := by
  obtain ⟨lw, z, c⟩ := h
  refine ⟨lw, z, fun m => ?_⟩
  obtain ⟨c1, c2⟩ := c m
  have v : vv i ≤ vv (i + 1) := by show _ ≤ 5 * vv i + 6; omega
  exact ⟨c1.up _ (vv (i + 1)) v, c2.up _ (vv (i + 1)) v⟩
theorem Cd.shift {S V u v : Nat} {a0 a1 n d : Int} (h : Cd S V a0 a1) (u0 : 0 < v) (uv : u ≤ v) (c : Nat) (f : Fr (a0 * (v : Int) + (u : Int) * a1) (a1 * (v : Int)) n d) : Cd (S * (v * c)) (V + 1) n d := by
  obtain ⟨X, h1, h2⟩ := h
  have k : Sc (v : Int) (u : Int) (u : Int) (v : Int) := ⟨by omega, rfl⟩
  have e := (h1.up (v * c : Nat)).plus ((k.up (S * c : Nat)) |> fun z => (by rw [show (v : Int) * ((S * c : Nat) : Int) = (S : Int) * ((v * c : Nat) : Int) by simp; grind] at z; exact z)) f
  refine ⟨_, by rw [show ((S * (v * c) : Nat) : Int) = (S : Int) * ((v * c : Nat) : Int) by simp]; exact e, ?_⟩
  have a : (X * ((v * c : Nat) : Int)).natAbs ≤ V * S * (v * c) := by
    rw [Int.natAbs_mul]
    exact Nat.mul_le_mul h2 (by omega)
  have b : ((u : Int) * ((S * c : Nat) : Int)).natAbs ≤ S * (v * c) := by
    rw [Int.natAbs_mul, Int.natAbs_natCast, Int.natAbs_natCast, show S * (v * c) = v * (S * c) by grind]
    exact Nat.mul_le_mul uv (Nat.le_refl _)
  have g : (V + 1) * (S * (v * c)) = V * S * (v * c) + S * (v * c) := by rw [Nat.add_mul, Nat.one_mul, Nat.mul_assoc]
  omega
theorem ok_law_points {f : Addr} {fd : FuncData} (F : Fun K "_law_points" "_law_points" s_law_points f fd) (h_law_digit : Own.Has P w K mg base "_law_digit" ["_law_pot_here", "_law_many"] 1 (spDigit)) (h_law_point : Own.Has P w K mg base "_law_point" ["_law_pot_here", "_law_points_here", "_law_mode"] 4 (spPoint)) (h_law_plus : Own.Has P w K mg base "_law_plus" ["_law_one", "_law_other"] 2 (spBin (fun a0 a1 b0 b1 => a0 * b1 + b0 * a1) (fun _ a1 _ b1 => a1 * b1))) (z_range : mg "range" = none) (z_tuple : mg "tuple" = none) : FnOk P w K mg base CX0 5 f fd ["_law_pot_here", "_law_many"] (spPoints) := by
  refine F.ok sc_law_points (fun vs H Q E h => ?_) (fun cdv A outer s H vs Q E hr h => ?_)
  · obtain ⟨a, m, rfl, _⟩ := h
    rfl
  obtain ⟨a, m, rfl, ha, m8, q⟩ := h
  refine ⟨_, (pss_cons (ps_set (i := 2) sc_law_points.nd rfl (Or.inl rfl) (Own.pe_has h_law_digit (hr.mono (by decide)) rfl (pa_cons (pv 0) (pa_cons pe_int pa_nil))))
      (pss_cons (ps_set (i := 3) sc_law_points.nd rfl (Or.inl rfl) (pe_lst pa_nil))
      (pss_cons (ps_for PassesOwn.never rfl (pi_range1 rfl z_range (pa_cons (pv 1) pa_nil)) (pg_name (i := 4) sc_law_points.nd rfl (Or.inl rfl)) (pss_cons (ps_set (i := 5) sc_law_points.nd rfl (Or.inl rfl) (Own.pe_has h_law_point (hr.mono (by decide)) rfl (pa_cons (pv 0) (pa_cons (pv 3) (pa_cons (pv 2) pa_nil)))))
      (pss_cons (ps_if (PW.pt (pw_and (pt_cmpR (op_inD (Room.units65 hr)) (pv 5) (pv 3) rfl) (pw_and1 (pt_cmpR op_gt (Own.pe_has h_law_digit (hr.mono (by decide)) rfl (pa_cons (pv 0) (pa_cons pe_int pa_nil))) pe_int (nomark _))))) (pss_one (ps_set (i := 5) sc_law_points.nd rfl (Or.inl rfl) (pe_tup (pa_cons (Own.pe_has h_law_plus (hr.mono (by decide)) rfl (pa_cons (pe_ix ix_tup (pv 5) pe_int (fun _ _ => rfl)) (pa_cons (pe_tup (pa_cons (pe_op op_add (pv 4) pe_int) (pa_cons (pe_op op_add pe_int (pv 4)) pa_nil))) pa_nil))) (pa_cons (Own.pe_has h_law_plus (hr.mono (by decide)) rfl (pa_cons (pe_ix ix_tup (pv 5) pe_int (fun _ _ => rfl)) (pa_cons (pe_tup (pa_cons pe_int (pa_cons (pe_op op_add pe_int (pv 4)) pa_nil))) pa_nil))) pa_nil))))) pss_nil)
      (pss_one (ps_expr (pe_bm PySem.F.plainAttrs_list PySem.F.slot_list_append PySem.F.type_list_append mt_append (pv 3) (pa_cons (pv 5) pa_nil)))))))
      (pss_one (ps_ret (pe_callTy call_tuple_of rfl z_tuple PyProof.Rows.boot_tuple (pa_cons (pv 3) pa_nil))))))), ?_⟩
  refine ⟨_, rfl, a, 3, rfl, ha, by decide, lit9 (by decide), fun mode H1 m0 _ s1 p1 => ?_⟩
  refine ⟨(by show 0 ≤ sizeLine; decide), fun l nl => ?_⟩
  have la : l ≠ a := by
    obtain ⟨x, y, z, _⟩ := p1
    exact (ne_of_none z nl).symm
  have g0 := same_new nl (.lst [])
  refine ⟨_, rfl, m, rfl, by omega, by omega, ?_⟩
  rw [show (m : Int).toNat = m by omega]
  refine for_range (lo := 0) (n := m) (fun i σ H2 => ∃ (x y : Option V), σ = [some (.ref a), some (.int (m : Int)), some (.int mode), some (.ref l), x, y] ∧ SameBut a H1 H2 ∧ PotAt H2 a ∧ ListAt H2 l mode i i)
    ⟨none, none, rfl, .of g0, p1.kept g0, [], upd_same, rfl, fun p hp => by cases hp⟩ ?_ ?_
  · rintro i σ H2 hi ⟨x, y, rfl, s2, p2, l2⟩
    refine ⟨_, rfl, _, rfl, _, rfl, a, l, mode, i, i, rfl, p2, l2, la.symm, m0, by omega, by omega, fun P p H3 okP s3 p3 hP => ?_⟩
    have l3 := l2.but p2 la s3
    have fin : ∀ (H5 : Hp) (p' : Addr) (P' : Pt), SameBut a H3 H5 → PotAt H5 a → PtAt H5 p' P' → Okp mode (i + 1) P' → ∃ xs, H5 l = some (.lst xs) ∧ xs.length < sizeLine ∧ SameBut a H1 (upd H5 l (.lst (xs ++ [.ref p']))) ∧ PotAt (upd H5 l (.lst (xs ++ [.ref p']))) a ∧ ListAt (upd H5 l (.lst (xs ++ [.ref p']))) l mode (i + 1) (i + 1) := fun H5 p' P' s5 p5 hP' okP' => by
      obtain ⟨ps, h1, h2, h3⟩ := l3.but p3 la s5
      refine ⟨_, h1, (by rw [List.length_map, h2]; exact small1000 (by omega)), fun b o nb e => ?_, p5.other la.symm, ps ++ [p'], (by rw [List.map_append]; exact upd_same), (by rw [List.length_append, h2]; rfl), fun r hr' => ?_⟩
      · have e5 := s5 b o nb (s3 b o nb (s2 b o nb e))
        rw [upd_ne (ne_of_none e nl)]
        exact e5
      · rcases List.mem_append.mp hr' with z | z
        · obtain ⟨R, k1, k2⟩ := h3 r z
          exact ⟨R, k1.upd h1, k2.up⟩
        · have : r = p' := by simpa using z
          subst this
          exact ⟨P', hP'.upd h1, okP'⟩
    obtain ⟨ps3, e3, len3, pts3⟩ := id l3
    obtain ⟨es, des, ses⟩ := pts_dt (K := K) (H := H3) (ps := ps3) fun r hr' => let ⟨R, k, _⟩ := pts3 r hr'; ⟨R, k⟩
    refine ⟨_, rfl, _, rfl, ptD P, es, l, _, rfl, .inl (SqL.of e3), hP.dt, des, ptD_ok P, ses, _, rfl, ?_⟩
    have go : ∀ (H5 : Hp), SameBut a H3 H5 → PotAt H5 a → ∃ xs, H5 l = some (.lst xs) ∧ xs.length < sizeLine ∧ SameBut a H1 (upd H5 l (.lst (xs ++ [.ref p]))) ∧ PotAt (upd H5 l (.lst (xs ++ [.ref p]))) a ∧ ListAt (upd H5 l (.lst (xs ++ [.ref p]))) l mode (i + 1) (i + 1) := fun H5 s5 p5 => by
      obtain ⟨x, y, e, _⟩ := id p3
      exact fin H5 p P s5 p5 (hP.but e s5) okP.next
    refine ite2 (fun c => ?_) (fun c => ?_)
    · refine ⟨_, rfl, a, 8, rfl, p3, by decide, lit9 (by decide), fun d H4 _ _ s4 p4 => ⟨_, _, rfl, rfl, _, rfl, ?_⟩⟩
      refine ite2 (fun c2 => ?_) (fun c2 => ?_)
      · obtain ⟨x3, y3, e3', _⟩ := id p3
        obtain ⟨px, py, h1, h2, h3⟩ := hP.but e3' s4
        obtain ⟨lwP, ⟨z1, z2, z3, z4, z5, z6⟩, cP⟩ := id okP
        have u : ∀ {j : Int}, j.natAbs < 2 ^ 200 → j.natAbs < 2 ^ 4000 := fun h => Mth.up h (by omega)
        have u4 : ∀ {j : Int}, j.natAbs < 2 ^ 5 → j.natAbs < 2 ^ 4000 := fun h => Mth.up h (by decide)
        refine ⟨_, rfl, p, _, _, _, rfl, rfl, SqT.of h1, at0, _, rfl, _, _, rfl, rfl, _, rfl, _, _, rfl, rfl, (by show 2 ≤ sizeLine; decide), fun t1 n1 => ?_⟩
        have g1 := same_new n1 (.tup [.int (0 + ↑i + 1), .int (7 + (0 + ↑i))])
        have k1 : (0 + (i : Int) + 1).natAbs < 2 ^ 5 := Nat.lt_of_lt_of_le (m := 31) (by omega) (by decide)
        have k2 : (7 + (0 + (i : Int))).natAbs < 2 ^ 5 := Nat.lt_of_lt_of_le (m := 31) (by omega) (by decide)
        have k3 : (1 : Int).natAbs < 2 ^ 5 := by decide
        have k4 : (11 + (0 + (i : Int))).natAbs < 2 ^ 5 := Nat.lt_of_lt_of_le (m := 31) (by omega) (by decide)
        refine ⟨px, t1, _, _, _, _, rfl, g1 _ _ h2, upd_same, ⟨u z3, u z4, u4 k1, u4 k2⟩, mul_ne (pos_ne z1) (by omega), fun n2 d2 r2 H6 f2 g2 hr2 => ?_⟩
        have g12 := g1.trans g2
        refine ⟨_, rfl, p, _, _, _, rfl, rfl, SqT.of (g12 _ _ h1), at1, _, rfl, _, _, rfl, rfl, (by show 2 ≤ sizeLine; decide), fun t3 n3 => ?_⟩
        have g3 := same_new n3 (.tup [.int 1, .int (11 + (0 + ↑i))])
        have g13 := g12.trans g3
        refine ⟨py, t3, _, _, _, _, rfl, g13 _ _ h3, upd_same, ⟨u z5, u z6, u4 k3, u4 k4⟩, mul_ne (pos_ne z2) (by omega), fun n4 d4 r4 H7 f4 g4 hr4 => ?_⟩
        refine ⟨(by show 2 ≤ sizeLine; decide), fun t5 n5 => ?_⟩
        have g5 := same_new n5 (.tup [.ref r2, .ref r4])
        have gg := g13.trans (g4.trans g5)
        have fz2 : Fz 206 n2 d2 := Fz.of_fr f2 (Mth.up (i := 200 + 5 + 1) (add_lt_pow (mul_lt_pow z3 k2) (Mth.up (mul_lt_pow k1 z4) (by omega))) (by omega)) (Mth.up (mul_lt_pow z4 k2) (by omega))
        have fz4 : Fz 206 n4 d4 := Fz.of_fr f4 (Mth.up (i := 200 + 5 + 1) (add_lt_pow (mul_lt_pow z5 k4) (Mth.up (mul_lt_pow k3 z6) (by omega))) (by omega)) (Mth.up (mul_lt_pow z6 k4) (by omega))
        have ok' : Okp mode (i + 1) ⟨n2, d2, n4, d4⟩ := by
          refine ⟨⟨f2.pos, f4.pos, f2.co, f4.co⟩, fz2.sz fz4, fun m => ?_⟩
          obtain ⟨c1, c2⟩ := cP m
          rw [show (7 : Int) + (0 + (i : Int)) = ((7 + i : Nat) : Int) by omega, show (0 : Int) + (i : Int) + 1 = ((i + 1 : Nat) : Int) by omega] at f2
          rw [show (11 : Int) + (0 + (i : Int)) = ((11 + i : Nat) : Int) by omega, show (1 : Int) = ((1 : Nat) : Int) by omega] at f4
          have v : 5 * vv i + 4 + 1 ≤ vv (i + 1) := by show _ ≤ 5 * vv i + 6; omega
          have y1 := (c1.shift (by omega) (by omega) (11 + i) f2).up 1 (vv (i + 1)) v
          have y2 := (c2.shift (by omega) (by omega) (7 + i) f4).up 1 (vv (i + 1)) v
          have e1 : sc i * 6 * ((7 + i) * (11 + i)) * 1 = sc (i + 1) := by show _ = sc i * (6 * ((7 + i) * (11 + i))); rw [Nat.mul_one, Nat.mul_assoc]
          have e2 : sc i * 6 * ((11 + i) * (7 + i)) * 1 = sc (i + 1) := by rw [Nat.mul_comm (11 + i)]; exact e1
          rw [e1] at y1
          rw [e2] at y2
          exact ⟨y1, y2⟩
        obtain ⟨xs, w1, w2, w3, w4, w5⟩ := fin _ t5 ⟨n2, d2, n4, d4⟩ (s4.trans (.of gg)) (p4.kept gg) ⟨r2, r4, upd_same, g5 _ _ (g4 _ _ (g3 _ _ hr2)), g5 _ _ hr4⟩ ok'
        exact ⟨_, rfl, .inl ⟨rfl, _, SqL.of w1⟩, _, rfl, l, _, _, rfl, rfl, w1, w2, _, _, rfl, w3, w4, w5⟩
      · obtain ⟨xs, w1, w2, w3, w4, w5⟩ := go H4 s4 p4
        exact ⟨_, rfl, .inl ⟨rfl, _, SqL.of w1⟩, _, rfl, l, _, _, rfl, rfl, w1, w2, _, _, rfl, w3, w4, w5⟩
    · obtain ⟨xs, w1, w2, w3, w4, w5⟩ := go H3 (SameBut.refl a H3) p3
      exact ⟨_, rfl, .inl ⟨rfl, _, SqL.of w1⟩, _, rfl, l, _, _, rfl, rfl, w1, w2, _, _, rfl, w3, w4, w5⟩
  · rintro σ H2 ⟨x, y, rfl, s2, p2, ps, h1, h2, h3⟩
    refine ⟨_, rfl, l, _, rfl, .inl ⟨SqL.of h1, fun t nt => ?_⟩⟩
    have gt := same_new nt (.tup (ps.map V.ref))
    refine q t ps _ (s1.trans (s2.trans (.of gt))) (p2.kept gt) upd_same h2 fun p hp => ?_
    obtain ⟨P, k1, lw, sz, _⟩ := h3 p hp
    exact ⟨P, k1.kept gt, sz, lw⟩
end
--SPLIT
theorem ix2 {α : Type} {x y z : α} {i : Nat} (h : [x, y][i]? = some z) : (i = 0 ∧ z = x) ∨ (i = 1 ∧ z = y) := by
  match i, h with
  | 0, h => exact .inl ⟨rfl, by simpa using h.symm⟩
  | 1, h => exact .inr ⟨rfl, by simpa using h.symm⟩
  | n + 2, h => simp at h
theorem dt2 {K : PySem.W.Frag} {H : Hp} {z : Addr} {i j : Int} (e : H z = some (.tup [.int i, .int j])) : Dt K H (.tuple [.int i, .int j]) (.ref z) := by
  unfold Dt
  refine ⟨z, _, rfl, SqT.of e, ?_⟩
  unfold DtAll
  refine ⟨_, _, rfl, (by unfold Dt; rfl), ?_⟩
  unfold DtAll
  refine ⟨_, _, rfl, (by unfold Dt; rfl), ?_⟩
  unfold DtAll
  rfl
theorem sh2 (i j : Int) : SeqAt.shaped (.tuple [.int i, .int j]) = true := by
  simp [SeqAt.shaped, PyData.canLay0, PyData.canLayAll0, PyData.depth, PyData.depthAll]
theorem eqv2 (a b c d : Int) : PyData.eqv (.tuple [.int a, .int b]) (.tuple [.int c, .int d]) = decide (a = c ∧ b = d) := by
  rw [Bool.eq_iff_iff]
  simp [PyData.eqv, PyData.eqvAll]
section
variable {P : Program} {w : World} {K : PySem.W.Frag} {mg : Str → Option Value} {base : Heap}
theorem nil_dt {K : PySem.W.Frag} {H : Hp} {z : Addr} (e : H z = some (.lst [])) : Dt K H (.list []) (.ref z) := by
  unfold Dt
  exact ⟨z, _, rfl, SqL.of e, by unfold DtAll; rfl⟩
def spIsFr : Sp := fun vs H Q' _ => ∃ (x : Addr) (n d : Int), vs = [.ref x] ∧ H x = some (.tup [.int n, .int d]) ∧ 0 < d ∧ Int.gcd n d = 1 ∧ d.natAbs < 2 ^ 4000 ∧ ∀ H' : Hp, Same H H' → Q' (.bl true) H'
theorem ok_law_is_fraction {f : Addr} {fd : FuncData} (F : Fun K "_law_is_fraction" "_law_is_fraction" s_law_is_fraction f fd) (h_law_low : Own.Has P w K mg base "_law_low" ["_law_n", "_law_d"] 1 (spFr)) (z_isinstance : mg "isinstance" = none) (z_bool : mg "bool" = none) (z_len : mg "len" = none) (z_tuple : mg "tuple" = none) (z_int : mg "int" = none) : FnOk P w K mg base CX0 2 f fd ["_law_one"] (spIsFr) := by
  refine F.ok sc_law_is_fraction (fun vs H Q E h => ?_) (fun cdv A outer s H vs Q_ E hr h => ?_)
  · obtain ⟨x, n, d, rfl, _⟩ := h
    rfl
  obtain ⟨x, n, d, rfl, hx, d0, co, zd, k⟩ := h
  refine ⟨_, (pss_cons (ps_if (PW.pt (pw_or (pt_not (pt_val (pe_callB Own.call_isi rfl z_isinstance PyProof.Rows.boot_isinstance (pa_cons (pv 0) (pa_cons (pe_bltn (v := .ty "tuple") rfl z_tuple PyProof.Rows.boot_tuple rfl) pa_nil))))) (pw_or (pt_cmpR op_ne (pe_callB call_len_seq rfl z_len PySem.boot_len (pa_cons (pv 0) pa_nil)) pe_int (nomark _)) (pw_or1 (pt_cmpR (op_neD hr.units) (pe_lc1x (Nc := ["_law_n"]) (js := [none]) rfl rfl (pi_tup (pv 0)) (CS.of rfl rfl) rfl (fun C s₂ H₂ fp pins => (pg_name (i := 0) (show List.Nodup (α := Str) ["_law_n"] by decide +kernel) rfl (Or.inl rfl))) (fun C s₂ H₂ fp pins D L => (pt_tail1 (pt_val (pe_callB (show CallR _ _ (fun xs H Q => ∃ x t T b, xs = [x, .ty T] ∧ TyOf K H x t ∧ PySem.W.kitOne K t (.type T) = some b ∧ Q (.bl b) H) from Own.call_isi) rfl z_isinstance PyProof.Rows.boot_isinstance (pa_cons (pv 0) (pa_cons (pe_bltn (v := .ty "bool") rfl z_bool PyProof.Rows.boot_bool rfl) pa_nil)))) (pb_app (pv 0))))) (pe_lst pa_nil) (nomark _)))))) (pss_one (ps_ret pe_bl)) pss_nil)
      (pss_one (ps_ret (pe_and (pe_callB Own.call_isi rfl z_isinstance PyProof.Rows.boot_isinstance (pa_cons (pe_ix ix_tup (pv 0) pe_int (fun _ _ => rfl)) (pa_cons (pe_bltn (v := .ty "int") rfl z_int PyProof.Rows.boot_int rfl) pa_nil))) (pe_and (pe_callB Own.call_isi rfl z_isinstance PyProof.Rows.boot_isinstance (pa_cons (pe_ix ix_tup (pv 0) pe_int (fun _ _ => rfl)) (pa_cons (pe_bltn (v := .ty "int") rfl z_int PyProof.Rows.boot_int rfl) pa_nil))) (pe_and (pe_cmpR op_gt (pe_ix ix_tup (pv 0) pe_int (fun _ _ => rfl)) pe_int (nomark _)) (pe_one (pe_cmpR (op_eqD hr.units) (Own.pe_has h_law_low (hr.mono (by decide)) rfl (pa_cons (pe_ix ix_tup (pv 0) pe_int (fun _ _ => rfl)) (pa_cons (pe_ix ix_tup (pv 0) pe_int (fun _ _ => rfl)) pa_nil))) (pv 0) (nomark _))))))))), ?_⟩
  refine ⟨_, rfl, _, _, _, _, rfl, .tup hx, rfl, _, rfl, iteF ?_⟩
  refine ⟨_, rfl, x, _, rfl, .inr (SqT.of hx), rfl, _, rfl, iteF ?_⟩
  refine ⟨_, rfl, x, rfl, ⟨_, SqT.of hx⟩, fun D nD => ?_⟩
  refine walk_tup (xs := [.int n, .int d]) (fun m σ H1 => ∃ (u : Option V), σ = [u] ∧ H1 D = some (.lst []) ∧ Same H H1) ⟨none, rfl, upd_same, same_new nD _⟩ ?_ ?_ ?_
  · rintro m σ H1 _ ⟨u, rfl, hD, g⟩
    exact SqT.of (g _ _ hx)
  · rintro m y σ H1 hy ⟨u, rfl, hD, g⟩
    obtain ⟨i, rfl⟩ : ∃ i : Int, y = .int i := by rcases ix2 hy with ⟨_, rfl⟩ | ⟨_, rfl⟩ <;> exact ⟨_, rfl⟩
    exact ⟨_, rfl, _, _, _, _, rfl, .int _, rfl, _, rfl, iteF ⟨_, rfl, hD, g⟩⟩
  · rintro σ H1 ⟨u, rfl, hD, g⟩
    refine ⟨(by show 0 ≤ sizeLine; decide), fun e ne => ?_⟩
    have ge := same_new ne (.lst [])
    refine ⟨.list [], .list [], nil_dt (ge _ _ hD), nil_dt upd_same, rfl, rfl, _, rfl, iteF ?_⟩
    have g2 := g.trans ge
    have hx2 := g2 _ _ hx
    refine ⟨_, rfl, x, _, _, _, rfl, rfl, SqT.of hx2, at0, _, _, _, _, rfl, .int _, rfl, _, rfl, iteT ?_⟩
    refine ⟨_, rfl, x, _, _, _, rfl, rfl, SqT.of hx2, at1, _, _, _, _, rfl, .int _, rfl, _, rfl, iteT ?_⟩
    refine ⟨_, rfl, x, _, _, _, rfl, rfl, SqT.of hx2, at1, _, _, rfl, rfl, _, rfl, ?_⟩
    rw [decide_eq_true (show d > 0 from d0)]
    refine iteT ⟨_, rfl, x, _, _, _, rfl, rfl, SqT.of hx2, at0, _, rfl, x, _, _, _, rfl, rfl, SqT.of hx2, at1, n, d, rfl, pos_ne d0, up zd (by decide), fun n' d' p H3 fr g3 hp => ?_⟩
    obtain ⟨e1, e2⟩ := low_unique fr.pos d0 fr.co co fr.eq
    refine ⟨_, rfl, _, _, dt2 hp, dt2 (g3 _ _ hx2), sh2 _ _, sh2 _ _, ?_⟩
    rw [if_neg (show ¬ (false = true) by decide), eqv2, decide_eq_true ⟨e1, e2⟩]
    exact k _ (g2.trans g3)

def vn (n : Nat) : V := .int (n : Int)
/-- a drawing on the heap -/
def Drw (H : Hp) (t : Addr) (L : List Pt) : Prop := ∃ ps : List Addr, H t = some (.tup (ps.map V.ref)) ∧ ps.length = L.length ∧ ∀ (i : Nat) (p : Addr) (P : Pt), ps[i]? = some p → L[i]? = some P → PtAt H p P
theorem Drw.kept {H H' : Hp} {t : Addr} {L : List Pt} (h : Drw H t L) (g : Same H H') : Drw H' t L := by
  obtain ⟨ps, h1, h2, h3⟩ := h
  exact ⟨ps, g _ _ h1, h2, fun i p P e1 e2 => (h3 i p P e1 e2).kept g⟩
theorem Drw.at {H : Hp} {t : Addr} {L : List Pt} (h : Drw H t L) {i : Nat} (hi : i < L.length) : ∃ (ps : List Addr) (p : Addr), H t = some (.tup (ps.map V.ref)) ∧ atI (ps.map V.ref) (i : Int) = some (.ref p) ∧ PtAt H p L[i] := by
  obtain ⟨ps, h1, h2, h3⟩ := h
  have hi' : i < ps.length := by omega
  refine ⟨ps, ps[i], h1, atI_nat ?_, h3 i _ _ (List.getElem?_eq_getElem hi') (List.getElem?_eq_getElem hi)⟩
  rw [List.getElem?_map, List.getElem?_eq_getElem hi']
  rfl
/-- its scales -/
structure Scl (L : List Pt) (S T : Int) (x y : Nat → Int) : Prop where
  S0 : 0 < S
  T0 : 0 < T
  s : S.natAbs ≤ 2 ^ 1648
  t : T.natAbs ≤ 2 ^ 1648
  pt : ∀ (i : Nat) (P : Pt), L[i]? = some P → Pc S T (x i) (y i) P ∧ (x i).natAbs ≤ 2 ^ 1648 ∧ (y i).natAbs ≤ 2 ^ 1648
  ok : ∀ P ∈ L, Sz 206 P ∧ Lw P
theorem scl_ex {L : List Pt} (h : ∀ P ∈ L, Sz 206 P ∧ Lw P) (h8 : L.length ≤ 8) : ∃ S T x y, Scl L S T x y := by
  obtain ⟨S, T, x, y, a, b, c, d, e⟩ := scale_ex L fun P hP => (h P hP).1
  have u : ∀ {z : Int}, z.natAbs ≤ 2 ^ (206 * L.length) → z.natAbs ≤ 2 ^ 1648 := fun hz => Nat.le_trans hz (Nat.pow_le_pow_right (by decide) (by omega))
  exact ⟨S, T, x, y, a, b, u c, u d, fun i P hi => ⟨(e i P hi).1, u (e i P hi).2.1, u (e i P hi).2.2⟩, h⟩
theorem sum_le {l : List Int} {B n : Nat} (h : ∀ z ∈ l, z.natAbs ≤ 2 ^ B) (hl : l.length ≤ 2 ^ n) : l.sum.natAbs ≤ 2 ^ (B + n) := by
  have : ∀ l : List Int, (∀ z ∈ l, z.natAbs ≤ 2 ^ B) → l.sum.natAbs ≤ l.length * 2 ^ B := fun l => by
    induction l with
    | nil => intro _; simp
    | cons z l ih =>
      intro h
      have h1 := h z (by simp)
      have h2 := ih fun y hy => h y (by simp [hy])
      rw [List.sum_cons, List.length_cons, Nat.add_mul, Nat.one_mul]
      omega
  have a := this l h
  rw [Nat.pow_add, Nat.mul_comm (2 ^ B)]
  exact Nat.le_trans a (Nat.mul_le_mul hl (Nat.le_refl _))
theorem c_le {L : List Pt} {S T : Int} {x y : Nat → Int} (h : Scl L S T x y) {p q : Nat} (hp : p < L.length) (hq : q < L.length) : (c x y p q).natAbs ≤ 2 ^ 3297 := by
  obtain ⟨_, a1, a2⟩ := h.pt p _ (List.getElem?_eq_getElem hp)
  obtain ⟨_, b1, b2⟩ := h.pt q _ (List.getElem?_eq_getElem hq)
  have e1 := pow_le_mul a1 b2
  have e2 := pow_le_mul a2 b1
  unfold c
  rw [show (2 : Nat) ^ 3297 = 2 ^ (1648 + 1648) + 2 ^ (1648 + 1648) by rw [← Nat.two_mul, ← Nat.pow_succ']]
  omega
theorem ST_le {L : List Pt} {S T : Int} {x y : Nat → Int} (h : Scl L S T x y) : (S * T).natAbs ≤ 2 ^ 3296 := pow_le_mul h.s h.t
theorem prs_at {row : List Nat} {i : Nat} (h : i < row.length) : ∃ p q, (prs row)[i]? = some (p, q) ∧ row[i]? = some p ∧ (row.drop 1 ++ row.take 1)[i]? = some q := by
  have hl : (row.drop 1 ++ row.take 1).length = row.length := by simp; omega
  refine ⟨row[i], (row.drop 1 ++ row.take 1)[i]'(by omega), ?_, List.getElem?_eq_getElem h, List.getElem?_eq_getElem _⟩
  unfold prs
  rw [List.getElem?_zip_eq_some]
  exact ⟨List.getElem?_eq_getElem h, List.getElem?_eq_getElem _⟩
theorem prs_len (row : List Nat) : (prs row).length = row.length := by unfold prs; rw [List.length_zip]; simp; omega
theorem cut_row (row : List Nat) (k : Nat) : cutV (row.map vn) (some (k : Int)) none = (row.drop k).map vn ∧ cutV (row.map vn) none (some (k : Int)) = (row.take k).map vn := by
  unfold cutV
  rw [HT.sIx_nat, HT.sIx_nat, HT.sIx_none, HT.sIx_none, List.length_map]
  refine ⟨?_, ?_⟩
  · rw [List.map_drop]
    by_cases h : k ≤ row.length
    · rw [Nat.min_eq_left h, List.take_of_length_le (by simp)]
    · rw [Nat.min_eq_right (by omega), List.drop_eq_nil_of_le (by simp), List.drop_eq_nil_of_le (by simp; omega)]
      simp
  · rw [List.drop_zero, Nat.sub_zero, List.map_take]
    by_cases h : k ≤ row.length
    · rw [Nat.min_eq_left h]
    · rw [Nat.min_eq_right (by omega), List.take_of_length_le (by simp), List.take_of_length_le (by simp; omega)]
theorem _root_.Sca.Sc.lt {S X n d : Int} {A : Nat} (h : Sc S X n d) (co : Int.gcd n d = 1) (S0 : 0 < S) (hX : X.natAbs ≤ 2 ^ A) (hS : S.natAbs ≤ 2 ^ A) (hA : A < 4000) : n.natAbs < 2 ^ 4000 ∧ d.natAbs < 2 ^ 4000 := by
  obtain ⟨a, b⟩ := h.size co S0
  have := Nat.pow_lt_pow_right (a := 2) (by decide) hA
  exact ⟨Nat.lt_of_le_of_lt (Nat.le_trans a hX) this, Nat.lt_of_le_of_lt (Nat.le_trans b hS) this⟩
def spArea : Sp := fun vs H Q _ => ∃ (t r : Addr) (L : List Pt) (S T : Int) (x y : Nat → Int) (row : List Nat), vs = [.ref t, .ref r] ∧ Drw H t L ∧ Scl L S T x y ∧ H r = some (.tup (row.map vn)) ∧ (∀ p ∈ row, p < L.length) ∧ row.length ≤ 20 ∧
  ∀ (n d : Int) (p : Addr) (H' : Hp), Sc (S * T) (clo x y row) n d → Int.gcd n d = 1 → Same H H' → H' p = some (.tup [.int n, .int d]) → Q (.ref p) H'
theorem ok_area {f : Addr} {fd : FuncData} (F : Fun K "area" "area" s_area f fd) (h_plus : Own.Has P w K mg base "plus" ["one", "other"] 3 (spBin (fun a0 a1 b0 b1 => a0 * b1 + b0 * a1) (fun _ a1 _ b1 => a1 * b1))) (h_less : Own.Has P w K mg base "less" ["one", "other"] 3 (spBin (fun a0 a1 b0 b1 => a0 * b1 - b0 * a1) (fun _ a1 _ b1 => a1 * b1))) (h_times : Own.Has P w K mg base "times" ["one", "other"] 3 (spBin (fun a0 a1 b0 b1 => a0 * b0) (fun _ a1 _ b1 => a1 * b1))) (z_zip : mg "zip" = none) : FnOk P w K mg base CX0 4 f fd ["drawing", "row"] (spArea) := by
  refine F.ok sc_area (fun vs H Q E h => ?_) (fun cdv A outer s H vs Q E hr h => ?_)
  · obtain ⟨t, r, L, S, T, x, y, row, rfl, _⟩ := h
    rfl
  obtain ⟨t, r, L, S, T, x, y, row, rfl, hD, sc', hr', rng, l20, k⟩ := h
  refine ⟨_, (pss_cons (ps_set (i := 2) sc_area.nd rfl (Or.inl rfl) (pe_tup (pa_cons pe_int (pa_cons pe_int pa_nil))))
      (pss_cons (ps_for PassesOwn.never rfl (pi_zip false false rfl z_zip (pa_cons (pv 1) (pa_cons (pe_op op_catU (pe_slice sl_tupU (pv 1) (po_some pe_int) po_none) (pe_slice sl_tupU (pv 1) po_none (po_some pe_int))) pa_nil))) (pg_tup rfl (pgs_cons (pg_name (i := 3) sc_area.nd rfl (Or.inl rfl)) (pgs_cons (pg_name (i := 4) sc_area.nd rfl (Or.inl rfl)) pgs_nil))) (pss_cons (ps_asg (pe_ix ix_tup (pv 0) (pv 3) (fun _ _ => rfl)) (pg_tup rfl (pgs_cons (pg_name (i := 5) sc_area.nd rfl (Or.inl rfl)) (pgs_cons (pg_name (i := 6) sc_area.nd rfl (Or.inl rfl)) pgs_nil))))
      (pss_cons (ps_asg (pe_ix ix_tup (pv 0) (pv 4) (fun _ _ => rfl)) (pg_tup rfl (pgs_cons (pg_name (i := 7) sc_area.nd rfl (Or.inl rfl)) (pgs_cons (pg_name (i := 8) sc_area.nd rfl (Or.inl rfl)) pgs_nil))))
      (pss_one (ps_set (i := 2) sc_area.nd rfl (Or.inl rfl) (Own.pe_has h_plus (hr.mono (by decide)) rfl (pa_cons (pv 2) (pa_cons (Own.pe_has h_less (hr.mono (by decide)) rfl (pa_cons (Own.pe_has h_times (hr.mono (by decide)) rfl (pa_cons (pv 5) (pa_cons (pv 8) pa_nil))) (pa_cons (Own.pe_has h_times (hr.mono (by decide)) rfl (pa_cons (pv 6) (pa_cons (pv 7) pa_nil))) pa_nil))) pa_nil))))))))
      (pss_one (ps_ret (pv 2))))), ?_⟩
  have two : ∀ a b : V, [a, b].length ≤ sizeLine := fun _ _ => (by decide : 2 ≤ sizeLine)
  refine ⟨two _ _, fun t0 n0 => ?_⟩
  have g0 := same_new n0 (.tup [.int 0, .int 1])
  have b0 := upd_same (H := H) (a := t0) (o := .tup [.int 0, .int 1])
  generalize upd H t0 (.tup [.int 0, .int 1]) = H0 at *
  have r0 := g0 _ _ hr'
  refine ⟨_, rfl, _, rfl, _, rfl, r, _, rfl, r0, fun q1 H1 g1 c1 => ?_⟩
  have c1 : H1 q1 = some (.tup ((row.drop 1).map vn)) := by rw [← (cut_row row 1).1]; exact c1
  refine ⟨_, rfl, _, rfl, r, _, rfl, g1 _ _ r0, fun q2 H2 g2 c2 => ?_⟩
  have c2 : H2 q2 = some (.tup ((row.take 1).map vn)) := by rw [← (cut_row row 1).2]; exact c2
  refine ⟨q1, q2, _, _, rfl, rfl, g2 _ _ c1, c2, (by simp only [List.length_map, List.length_drop, List.length_take]; exact Nat.le_of_lt (small1000 (by omega))), fun q3 H3 g3 c3 => ?_⟩
  rw [← List.map_append] at c3
  have g03 : Same H H3 := fun b o e => g3 b o (g2 b o (g1 b o (g0 b o e)))
  have b3 := g3 _ _ (g2 _ _ (g1 _ _ b0))
  have ST0 : 0 < S * T := Int.mul_pos sc'.S0 sc'.T0
  have hlen : (row.drop 1 ++ row.take 1).length = row.length := by simp; omega
  refine ⟨r, q3, rfl, ⟨_, SqT.of (g03 _ _ hr')⟩, ⟨_, SqT.of c3⟩, ?_⟩
  refine for_zip (xs := row.map vn) (ys := (row.drop 1 ++ row.take 1).map vn) (fun i σ H4 => ∃ (tt : Addr) (n d : Int) (y1 y2 y3 y4 y5 y6 : Option V), σ = [some (.ref t), some (.ref r), some (.ref tt), y1, y2, y3, y4, y5, y6] ∧ H4 tt = some (.tup [.int n, .int d]) ∧ Sc (S * T) (((prs row).take i).map fun u => c x y u.1 u.2).sum n d ∧ Int.gcd n d = 1 ∧ Same H3 H4)
    (by rw [List.length_map, List.length_map, hlen]) ⟨t0, 0, 1, none, none, none, none, none, none, rfl, b3, ⟨by decide, by simp⟩, rfl, fun _ _ e => e⟩ ?_ ?_ ?_
  · rintro i σ H4 _ ⟨tt, n, d, y1, y2, y3, y4, y5, y6, rfl, ht, hs, co, g4⟩
    exact ⟨SqT.of (g4 _ _ (g03 _ _ hr')), SqT.of (g4 _ _ c3)⟩
  · rintro i vx vy Tz σ H4 hx hy nT ⟨tt, n, d, y1, y2, y3, y4, y5, y6, rfl, ht, hs, co, g4⟩
    have hi : i < row.length := by have := (List.getElem?_eq_some_iff.mp hx).1; rwa [List.length_map] at this
    obtain ⟨p, q, e1, e2, e3⟩ := prs_at hi
    rw [List.getElem?_map, e2] at hx
    rw [List.getElem?_map, e3] at hy
    cases hx
    cases hy
    have gz := same_new nT (.tup [vn p, vn q])
    have hz := upd_same (H := H4) (a := Tz) (o := .tup [vn p, vn q])
    have ht5 := gz _ _ ht
    have g5 := g4.trans gz
    generalize upd H4 Tz (.tup [vn p, vn q]) = H5 at *
    have g05 := g03.trans g5
    have hp : p < L.length := rng p (List.mem_of_getElem? e2)
    have hq : q < L.length := rng q (by
      have := List.mem_of_getElem? e3
      rcases List.mem_append.mp this with z | z
      · exact List.mem_of_mem_drop z
      · exact List.mem_of_mem_take z)
    obtain ⟨ps, pp, a1, a2, px, py, a3, a4, a5⟩ := (hD.kept g05).at hp
    obtain ⟨qs, qq, b1, b2, qx, qy, b3', b4, b5⟩ := (hD.kept g05).at hq
    obtain ⟨⟨scx, scy⟩, bx, by'⟩ := sc'.pt p _ (List.getElem?_eq_getElem hp)
    obtain ⟨⟨tcx, tcy⟩, cx, cy⟩ := sc'.pt q _ (List.getElem?_eq_getElem hq)
    obtain ⟨⟨_, _, z1, z2, z3, z4⟩, l1⟩ := sc'.ok _ (List.getElem_mem hp)
    obtain ⟨⟨_, _, w1, w2, w3, w4⟩, l2⟩ := sc'.ok _ (List.getElem_mem hq)
    have cl := c_le sc' hp hq
    have u : ∀ {j : Int}, j.natAbs < 2 ^ 206 → j.natAbs < 2 ^ 4000 := fun h => Mth.up h (by decide)
    generalize L[p] = P at *
    generalize L[q] = R at *
    refine ⟨Tz, _, rfl, SqT.of hz, rfl, _, _, rfl, _, _, rfl, rfl, ?_⟩
    refine ⟨_, rfl, _, rfl, t, _, _, _, rfl, rfl, SqT.of a1, a2, pp, _, rfl, SqT.of a3, rfl, _, _, rfl, _, _, rfl, rfl, ?_⟩
    refine ⟨_, rfl, _, rfl, t, _, _, _, rfl, rfl, SqT.of b1, b2, qq, _, rfl, SqT.of b3', rfl, _, _, rfl, _, _, rfl, rfl, ?_⟩
    refine ⟨_, rfl, _, rfl, _, rfl, px, qy, _, _, _, _, rfl, a4, b5, ⟨u z1, u z2, u w3, u w4⟩, mul_ne (pos_ne scx.1) (pos_ne tcy.1), fun n1 d1 r1 H6 f1 g6 h1 => ?_⟩
    refine ⟨_, rfl, _, rfl, py, qx, _, _, _, _, rfl, g6 _ _ a5, g6 _ _ b4, ⟨u z3, u z4, u w1, u w2⟩, mul_ne (pos_ne scy.1) (pos_ne tcx.1), fun n2 d2 r2 H7 f2 g7 h2 => ?_⟩
    have v1 := scx.times tcy f1
    have v2 := scy.times tcx f2
    rw [Int.mul_comm T S] at v2
    obtain ⟨s1, s2⟩ := v1.lt f1.co ST0 (pow_le_mul bx cy) (ST_le sc') (by decide)
    obtain ⟨s3, s4⟩ := v2.lt f2.co ST0 (pow_le_mul by' cx) (ST_le sc') (by decide)
    refine ⟨r1, r2, _, _, _, _, rfl, g7 _ _ h1, h2, ⟨s1, s2, s3, s4⟩, mul_ne (pos_ne f1.pos) (pos_ne f2.pos), fun n3 d3 r3 H8 f3 g8 h3 => ?_⟩
    have v3 := v1.less v2 f3
    obtain ⟨s5, s6⟩ := v3.lt f3.co ST0 (A := 3297) cl (Nat.le_trans (ST_le sc') (Nat.pow_le_pow_right (by decide) (by decide))) (by decide)
    have sl : (((prs row).take i).map fun u => c x y u.1 u.2).sum.natAbs ≤ 2 ^ (3297 + 5) := sum_le (fun z hz => by
      obtain ⟨v, hv, rfl⟩ := List.mem_map.mp hz
      have hv := List.mem_of_mem_take hv
      unfold prs at hv
      have hv1 := List.of_mem_zip hv
      refine c_le sc' (rng _ hv1.1) (rng _ ?_)
      rcases List.mem_append.mp hv1.2 with z | z
      · exact List.mem_of_mem_drop z
      · exact List.mem_of_mem_take z) (by rw [List.length_map, List.length_take, prs_len]; exact Nat.le_trans (show min i row.length ≤ 20 by omega) (by decide))
    obtain ⟨s7, s8⟩ := hs.lt co ST0 sl (Nat.le_trans (ST_le sc') (Nat.pow_le_pow_right (by decide) (by decide))) (by decide)
    have g58 := g6.trans (g7.trans g8)
    refine ⟨tt, r3, _, _, _, _, rfl, g58 _ _ ht5, h3, ⟨s7, s8, s5, s6⟩, mul_ne (pos_ne hs.1) (pos_ne f3.pos), fun n4 d4 r4 H9 f4 g9 h4 => ?_⟩
    refine ⟨r4, n4, d4, _, _, _, _, _, _, rfl, h4, ?_, f4.co, g5.trans (g58.trans g9)⟩
    have v4 := hs.plus v3 f4
    have e : (((some (p, q) : Option (Nat × Nat)).toList).map fun u => c x y u.1 u.2).sum = x p * y q - y p * x q := by simp [c]
    rw [List.take_succ, e1, List.map_append, List.sum_append, e]
    exact v4
  · rintro σ H4 ⟨tt, n, d, y1, y2, y3, y4, y5, y6, rfl, ht, hs, co, g4⟩
    rw [List.length_map, List.take_of_length_le (by rw [prs_len]; exact Nat.le_refl _), clo_prs] at hs
    exact ⟨_, rfl, k n d tt H4 hs co (g03.trans g4) ht⟩
end
--SPLIT
section
variable {P : Program} {w : World} {K : PySem.W.Frag} {mg : Str → Option Value} {base : Heap}
theorem ph_le {L : List Pt} {S T : Int} {x y : Nat → Int} (h : Scl L S T x y) {a p q : Nat} (ha : a < L.length) (hp : p < L.length) (hq : q < L.length) : (ph x y a p q).natAbs ≤ 2 ^ 3299 ∧ ((x p - x a) * (y q - y a)).natAbs ≤ 2 ^ 3298 ∧ ((y p - y a) * (x q - x a)).natAbs ≤ 2 ^ 3298 := by
  obtain ⟨_, a1, a2⟩ := h.pt a _ (List.getElem?_eq_getElem ha)
  obtain ⟨_, p1, p2⟩ := h.pt p _ (List.getElem?_eq_getElem hp)
  obtain ⟨_, q1, q2⟩ := h.pt q _ (List.getElem?_eq_getElem hq)
  have d : ∀ {u v : Int}, u.natAbs ≤ 2 ^ 1648 → v.natAbs ≤ 2 ^ 1648 → (u - v).natAbs ≤ 2 ^ 1649 := fun h1 h2 => by
    rw [show (2 : Nat) ^ 1649 = 2 ^ 1648 + 2 ^ 1648 by rw [← Nat.two_mul, ← Nat.pow_succ']]
    omega
  have e1 := pow_le_mul (d p1 a1) (d q2 a2)
  have e2 := pow_le_mul (d p2 a2) (d q1 a1)
  refine ⟨?_, e1, e2⟩
  unfold ph
  rw [show (2 : Nat) ^ 3299 = 2 ^ (1649 + 1649) + 2 ^ (1649 + 1649) by rw [← Nat.two_mul, ← Nat.pow_succ']]
  omega
theorem d1649 {u v : Int} (h1 : u.natAbs ≤ 2 ^ 1648) (h2 : v.natAbs ≤ 2 ^ 1648) : (u - v).natAbs ≤ 2 ^ 1649 := by
  rw [show (2 : Nat) ^ 1649 = 2 ^ 1648 + 2 ^ 1648 by rw [← Nat.two_mul, ← Nat.pow_succ']]
  generalize (2 : Nat) ^ 1648 = B at *
  omega
theorem fan_le {L : List Pt} {S T : Int} {x y : Nat → Int} (sc' : Scl L S T x y) {h : Nat} {t : List Nat} (ha : h < L.length) (rng : ∀ p ∈ t, p < L.length) (l20 : t.length ≤ 20) (i : Nat) : (((t.zip (t.drop 1)).take i).map fun u => ph x y h u.1 u.2).sum.natAbs ≤ 2 ^ (3299 + 5) := by
  refine sum_le (fun z hz => ?_) ?_
  · obtain ⟨v, hv, rfl⟩ := List.mem_map.mp hz
    have hv1 := List.of_mem_zip (List.mem_of_mem_take hv)
    exact (ph_le sc' ha (rng _ hv1.1) (rng _ (List.mem_of_mem_drop hv1.2))).1
  · rw [List.length_map, List.length_take, List.length_zip]
    exact Nat.le_trans (show min i (min t.length (t.drop 1).length) ≤ 20 by omega) (by decide)
def spLArea : Sp := fun vs H Q _ => ∃ (t r : Addr) (L : List Pt) (S T : Int) (x y : Nat → Int) (row : List Nat), vs = [.ref t, .ref r] ∧ Drw H t L ∧ Scl L S T x y ∧ H r = some (.tup (row.map vn)) ∧ (∀ p ∈ row, p < L.length) ∧ row.length ≤ 20 ∧
  ∀ (n d : Int) (p : Addr) (H' : Hp), Sc (S * T) (clo x y row) n d → Int.gcd n d = 1 → Same H H' → H' p = some (.tup [.int n, .int d]) → Q (.ref p) H'
theorem ok_law_area {f : Addr} {fd : FuncData} (F : Fun K "_law_area" "_law_area" s_law_area f fd) (h_law_times : Own.Has P w K mg base "_law_times" ["_law_one", "_law_other"] 2 (spBin (fun a0 a1 b0 b1 => a0 * b0) (fun _ a1 _ b1 => a1 * b1))) (h_law_less : Own.Has P w K mg base "_law_less" ["_law_one", "_law_other"] 2 (spBin (fun a0 a1 b0 b1 => a0 * b1 - b0 * a1) (fun _ a1 _ b1 => a1 * b1))) (h_law_plus : Own.Has P w K mg base "_law_plus" ["_law_one", "_law_other"] 2 (spBin (fun a0 a1 b0 b1 => a0 * b1 + b0 * a1) (fun _ a1 _ b1 => a1 * b1))) (z_zip : mg "zip" = none) : FnOk P w K mg base CX0 3 f fd ["_law_drawing", "_law_row_here"] (spLArea) := by
  refine F.ok sc_law_area (fun vs H Q E h => ?_) (fun cdv A outer s H vs Q E hr h => ?_)
  · obtain ⟨t, r, L, S, T, x, y, row, rfl, _⟩ := h
    rfl
  obtain ⟨t, r, L, S, T, x, y, row, rfl, hD, sc', hr', rng, l20, k⟩ := h
  have two : ∀ a b : V, [a, b].length ≤ sizeLine := fun _ _ => (by decide : 2 ≤ sizeLine)
  have ST0 : 0 < S * T := Int.mul_pos sc'.S0 sc'.T0
  by_cases l2 : row.length ≤ 1
  · refine ⟨_, (pss_cons (ps_set (i := 2) sc_law_area.nd rfl (Or.inl rfl) (pe_tup (pa_cons pe_int (pa_cons pe_int pa_nil))))
      (pss_cons (ps_for PassesOwn.never rfl (pi_zip false false rfl z_zip (pa_cons (pe_slice sl_tupU (pv 1) (po_some pe_int) po_none) (pa_cons (pe_slice sl_tupU (pv 1) (po_some pe_int) po_none) pa_nil))) (pg_tup rfl (pgs_cons (pg_name (i := 3) sc_law_area.nd rfl (Or.inl rfl)) (pgs_cons (pg_name (i := 4) sc_law_area.nd rfl (Or.inl rfl)) pgs_nil))) (pss_cons (ps_set (i := 5) sc_law_area.nd rfl (Or.inl rfl) (Own.pe_has h_law_times (hr.mono (by decide)) rfl (pa_cons (Own.pe_has h_law_less (hr.mono (by decide)) rfl (pa_cons (pe_ix ix_tup (pe_ix ix_tup (pv 0) (pv 3) (fun _ _ => rfl)) pe_int (fun _ _ => rfl)) (pa_cons (pe_ix ix_tup (pe_ix ix_tup (pv 0) (pe_ix ix_tup (pv 1) pe_int (fun _ _ => rfl)) (fun _ _ => rfl)) pe_int (fun _ _ => rfl)) pa_nil))) (pa_cons (Own.pe_has h_law_less (hr.mono (by decide)) rfl (pa_cons (pe_ix ix_tup (pe_ix ix_tup (pv 0) (pv 4) (fun _ _ => rfl)) pe_int (fun _ _ => rfl)) (pa_cons (pe_ix ix_tup (pe_ix ix_tup (pv 0) (pe_ix ix_tup (pv 1) pe_int (fun _ _ => rfl)) (fun _ _ => rfl)) pe_int (fun _ _ => rfl)) pa_nil))) pa_nil))))
      (pss_cons (ps_set (i := 6) sc_law_area.nd rfl (Or.inl rfl) (Own.pe_has h_law_times (hr.mono (by decide)) rfl (pa_cons (Own.pe_has h_law_less (hr.mono (by decide)) rfl (pa_cons (pe_ix ix_tup (pe_ix ix_tup (pv 0) (pv 3) (fun _ _ => rfl)) pe_int (fun _ _ => rfl)) (pa_cons (pe_ix ix_tup (pe_ix ix_tup (pv 0) (pe_ix ix_tup (pv 1) pe_int (fun _ _ => rfl)) (fun _ _ => rfl)) pe_int (fun _ _ => rfl)) pa_nil))) (pa_cons (Own.pe_has h_law_less (hr.mono (by decide)) rfl (pa_cons (pe_ix ix_tup (pe_ix ix_tup (pv 0) (pv 4) (fun _ _ => rfl)) pe_int (fun _ _ => rfl)) (pa_cons (pe_ix ix_tup (pe_ix ix_tup (pv 0) (pe_ix ix_tup (pv 1) pe_int (fun _ _ => rfl)) (fun _ _ => rfl)) pe_int (fun _ _ => rfl)) pa_nil))) pa_nil))))
      (pss_one (ps_set (i := 2) sc_law_area.nd rfl (Or.inl rfl) (Own.pe_has h_law_plus (hr.mono (by decide)) rfl (pa_cons (pv 2) (pa_cons (Own.pe_has h_law_less (hr.mono (by decide)) rfl (pa_cons (pv 5) (pa_cons (pv 6) pa_nil))) pa_nil))))))))
      (pss_one (ps_ret (pv 2))))), ?_⟩
    refine ⟨two _ _, fun t0 n0 => ?_⟩
    have g0 := same_new n0 (.tup [.int 0, .int 1])
    have b0 := upd_same (H := H) (a := t0) (o := .tup [.int 0, .int 1])
    generalize upd H t0 (.tup [.int 0, .int 1]) = H0 at *
    have r0 := g0 _ _ hr'
    refine ⟨_, rfl, _, rfl, r, _, rfl, r0, fun q1 H1 g1 c1 => ?_⟩
    have c1 : H1 q1 = some (.tup ((row.drop 1).map vn)) := by rw [← (cut_row row 1).1]; exact c1
    refine ⟨_, rfl, _, rfl, r, _, rfl, g1 _ _ r0, fun q2 H2 g2 c2 => ?_⟩
    have c2 : H2 q2 = some (.tup ((row.drop 2).map vn)) := by rw [← (cut_row row 2).1]; exact c2
    rw [List.drop_eq_nil_of_le l2] at c1
    rw [List.drop_eq_nil_of_le (by omega)] at c2
    have g02 : Same H H2 := fun b o e => g2 b o (g1 b o (g0 b o e))
    refine ⟨q1, q2, rfl, ⟨_, SqT.of (g2 _ _ c1)⟩, ⟨_, SqT.of c2⟩, ?_⟩
    refine for_zip (xs := []) (ys := []) (fun i σ H4 => σ = [some (.ref t), some (.ref r), some (.ref t0), none, none, none, none] ∧ H4 = H2) rfl ⟨rfl, rfl⟩ ?_ ?_ ?_
    · rintro i σ H4 _ ⟨rfl, rfl⟩
      exact ⟨SqT.of (g2 _ _ c1), SqT.of c2⟩
    · rintro i vx vy Tz σ H4 hx
      simp at hx
    · rintro σ H4 ⟨rfl, rfl⟩
      refine ⟨_, rfl, k 0 1 t0 _ ⟨by decide, ?_⟩ rfl g02 (g2 _ _ (g1 _ _ b0))⟩
      match row, l2 with
      | [], _ => simp [clo]
      | [h], _ => simp [clo, path, c_self]
  obtain ⟨h, t', rfl⟩ : ∃ h t', row = h :: t' := by
    match row, l2 with
    | h :: t', _ => exact ⟨h, t', rfl⟩
  have t1 : 0 < t'.length := by have := l2; rw [List.length_cons] at this; omega
  have l20' : t'.length ≤ 20 := by have := l20; rw [List.length_cons] at this; omega
  refine ⟨_, (pss_cons (ps_set (i := 2) sc_law_area.nd rfl (Or.inl rfl) (pe_tup (pa_cons pe_int (pa_cons pe_int pa_nil))))
      (pss_cons (ps_for PassesOwn.never rfl (pi_zip2 false false rfl z_zip (pa_cons (pe_slice sl_tupU (pv 1) (po_some pe_int) po_none) (pa_cons (pe_slice sl_tupU (pv 1) (po_some pe_int) po_none) pa_nil))) (pg_tup rfl (pgs_cons (pg_name (i := 3) sc_law_area.nd rfl (Or.inl rfl)) (pgs_cons (pg_name (i := 4) sc_law_area.nd rfl (Or.inl rfl)) pgs_nil))) (pss_cons (ps_set (i := 5) sc_law_area.nd rfl (Or.inl rfl) (Own.pe_has h_law_times (hr.mono (by decide)) rfl (pa_cons (Own.pe_has h_law_less (hr.mono (by decide)) rfl (pa_cons (pe_ix ix_tup (pe_ix ix_tup (pv 0) (pv 3) (fun _ _ => rfl)) pe_int (fun _ _ => rfl)) (pa_cons (pe_ix ix_tup (pe_ix ix_tup (pv 0) (pe_ix ix_tup (pv 1) pe_int (fun _ _ => rfl)) (fun _ _ => rfl)) pe_int (fun _ _ => rfl)) pa_nil))) (pa_cons (Own.pe_has h_law_less (hr.mono (by decide)) rfl (pa_cons (pe_ix ix_tup (pe_ix ix_tup (pv 0) (pv 4) (fun _ _ => rfl)) pe_int (fun _ _ => rfl)) (pa_cons (pe_ix ix_tup (pe_ix ix_tup (pv 0) (pe_ix ix_tup (pv 1) pe_int (fun _ _ => rfl)) (fun _ _ => rfl)) pe_int (fun _ _ => rfl)) pa_nil))) pa_nil))))
      (pss_cons (ps_set (i := 6) sc_law_area.nd rfl (Or.inl rfl) (Own.pe_has h_law_times (hr.mono (by decide)) rfl (pa_cons (Own.pe_has h_law_less (hr.mono (by decide)) rfl (pa_cons (pe_ix ix_tup (pe_ix ix_tup (pv 0) (pv 3) (fun _ _ => rfl)) pe_int (fun _ _ => rfl)) (pa_cons (pe_ix ix_tup (pe_ix ix_tup (pv 0) (pe_ix ix_tup (pv 1) pe_int (fun _ _ => rfl)) (fun _ _ => rfl)) pe_int (fun _ _ => rfl)) pa_nil))) (pa_cons (Own.pe_has h_law_less (hr.mono (by decide)) rfl (pa_cons (pe_ix ix_tup (pe_ix ix_tup (pv 0) (pv 4) (fun _ _ => rfl)) pe_int (fun _ _ => rfl)) (pa_cons (pe_ix ix_tup (pe_ix ix_tup (pv 0) (pe_ix ix_tup (pv 1) pe_int (fun _ _ => rfl)) (fun _ _ => rfl)) pe_int (fun _ _ => rfl)) pa_nil))) pa_nil))))
      (pss_one (ps_set (i := 2) sc_law_area.nd rfl (Or.inl rfl) (Own.pe_has h_law_plus (hr.mono (by decide)) rfl (pa_cons (pv 2) (pa_cons (Own.pe_has h_law_less (hr.mono (by decide)) rfl (pa_cons (pv 5) (pa_cons (pv 6) pa_nil))) pa_nil))))))))
      (pss_one (ps_ret (pv 2))))), ?_⟩
  refine ⟨two _ _, fun t0 n0 => ?_⟩
  have g0 := same_new n0 (.tup [.int 0, .int 1])
  have b0 := upd_same (H := H) (a := t0) (o := .tup [.int 0, .int 1])
  generalize upd H t0 (.tup [.int 0, .int 1]) = H0 at *
  have r0 := g0 _ _ hr'
  refine ⟨_, rfl, _, rfl, r, _, rfl, r0, fun q1 H1 g1 c1 => ?_⟩
  have c1 : H1 q1 = some (.tup (t'.map vn)) := by
    have := (cut_row (h :: t') 1).1
    rw [List.drop_succ_cons, List.drop_zero] at this
    rw [← this]; exact c1
  refine ⟨_, rfl, _, rfl, r, _, rfl, g1 _ _ r0, fun q2 H2 g2 c2 => ?_⟩
  have c2 : H2 q2 = some (.tup ((t'.drop 1).map vn)) := by
    have := (cut_row (h :: t') 2).1
    rw [List.drop_succ_cons] at this
    rw [← this]; exact c2
  have g02 : Same H H2 := fun b o e => g2 b o (g1 b o (g0 b o e))
  have b2 := g2 _ _ (g1 _ _ b0)
  have ha : h < L.length := rng h (by simp)
  have zl : (t'.zip (t'.drop 1)).length = t'.length - 1 := by rw [List.length_zip, List.length_drop]; omega
  refine ⟨q1, q2, rfl, ⟨_, SqT.of (g2 _ _ c1)⟩, ⟨_, SqT.of c2⟩, ?_⟩
  refine for_zip2 (xs := t'.map vn) (ys := (t'.drop 1).map vn) (fun i σ H4 => ∃ (tt : Addr) (n d : Int) (y1 y2 y3 y4 : Option V), σ = [some (.ref t), some (.ref r), some (.ref tt), y1, y2, y3, y4] ∧ H4 tt = some (.tup [.int n, .int d]) ∧ Sc (S * T) (((t'.zip (t'.drop 1)).take i).map fun u => ph x y h u.1 u.2).sum n d ∧ Int.gcd n d = 1 ∧ Same H2 H4)
    (by rw [List.length_map, List.length_map, List.length_drop]; omega) ⟨t0, 0, 1, none, none, none, none, rfl, b2, ⟨by decide, by simp⟩, rfl, fun _ _ e => e⟩ ?_ ?_ ?_
  · rintro i σ H4 _ ⟨tt, n, d, y1, y2, y3, y4, rfl, ht, hs, co, g4⟩
    exact ⟨SqT.of (g4 _ _ (g2 _ _ c1)), SqT.of (g4 _ _ c2)⟩
  · rintro i vx vy Tz σ H4 hx hy nT ⟨tt, n, d, y1, y2, y3, y4, rfl, ht, hs, co, g4⟩
    rw [List.getElem?_map] at hx hy
    obtain ⟨p, e2, rfl⟩ := Option.map_eq_some_iff.mp hx
    obtain ⟨q, e3, rfl⟩ := Option.map_eq_some_iff.mp hy
    have e1 : (t'.zip (t'.drop 1))[i]? = some (p, q) := by rw [List.getElem?_zip_eq_some]; exact ⟨e2, e3⟩
    have gz := same_new nT (.tup [vn p, vn q])
    have hz := upd_same (H := H4) (a := Tz) (o := .tup [vn p, vn q])
    have ht5 := gz _ _ ht
    have g5 := g4.trans gz
    generalize upd H4 Tz (.tup [vn p, vn q]) = H5 at *
    have g05 := g02.trans g5
    have hp : p < L.length := rng p (List.mem_cons_of_mem _ (List.mem_of_getElem? e2))
    have hq : q < L.length := rng q (List.mem_cons_of_mem _ (List.mem_of_mem_drop (List.mem_of_getElem? e3)))
    obtain ⟨ps, pp, a1, a2, px, py, a3, a4, a5⟩ := (hD.kept g05).at hp
    obtain ⟨qs, qq, b1, b2, qx, qy, b3, b4, b5⟩ := (hD.kept g05).at hq
    obtain ⟨hs', hh, d1, d2, hx, hy, d3, d4, d5⟩ := (hD.kept g05).at ha
    have dr := g05 _ _ hr'
    obtain ⟨⟨scx, scy⟩, bx, by'⟩ := sc'.pt p _ (List.getElem?_eq_getElem hp)
    obtain ⟨⟨tcx, tcy⟩, cx, cy⟩ := sc'.pt q _ (List.getElem?_eq_getElem hq)
    obtain ⟨⟨ucx, ucy⟩, ex, ey⟩ := sc'.pt h _ (List.getElem?_eq_getElem ha)
    obtain ⟨⟨_, _, z1, z2, z3, z4⟩, l1⟩ := sc'.ok _ (List.getElem_mem hp)
    obtain ⟨⟨_, _, w1, w2, w3, w4⟩, l2'⟩ := sc'.ok _ (List.getElem_mem hq)
    obtain ⟨⟨_, _, o1, o2, o3, o4⟩, l3⟩ := sc'.ok _ (List.getElem_mem ha)
    obtain ⟨pl, pl1, pl2⟩ := ph_le sc' ha hp hq
    have u : ∀ {j : Int}, j.natAbs < 2 ^ 206 → j.natAbs < 2 ^ 4000 := fun h => Mth.up h (by decide)
    have sub_lt : ∀ {a b c d : Int}, a.natAbs < 2 ^ 206 → b.natAbs < 2 ^ 206 → c.natAbs < 2 ^ 206 → d.natAbs < 2 ^ 206 → (a * b - c * d).natAbs < 2 ^ 4000 ∧ (b * d).natAbs < 2 ^ 4000 := fun h1 h2 h3 h4 => ⟨Mth.up (sub_lt_pow (mul_lt_pow h1 h2) (mul_lt_pow h3 h4)) (by decide), Mth.up (mul_lt_pow h2 h4) (by decide)⟩
    generalize L[p] = P at *
    generalize L[q] = R at *
    generalize L[h] = O' at *
    have at0' : atI ((h :: t').map vn) 0 = some (vn h) := atI_nat (j := 0) rfl
    refine ⟨Tz, _, rfl, SqT.of hz, rfl, _, _, rfl, _, _, rfl, rfl, ?_⟩
    -- one
    refine ⟨_, rfl, _, rfl, t, _, _, _, rfl, rfl, SqT.of a1, a2, pp, _, _, _, rfl, rfl, SqT.of a3, at0, _, rfl, _, rfl, r, _, _, _, rfl, rfl, SqT.of dr, at0', t, _, _, _, rfl, rfl, SqT.of d1, d2, hh, _, _, _, rfl, rfl, SqT.of d3, at0,
      px, hx, _, _, _, _, rfl, a4, d4, ⟨u z1, u z2, u o1, u o2⟩, mul_ne (pos_ne scx.1) (pos_ne ucx.1), fun n1 d1' r1 H6 f1 g6 h1 => ?_⟩
    have g6' := g05.trans g6
    refine ⟨_, rfl, _, rfl, t, _, _, _, rfl, rfl, SqT.of (g6 _ _ b1), b2, qq, _, _, _, rfl, rfl, SqT.of (g6 _ _ b3), at1, _, rfl, _, rfl, r, _, _, _, rfl, rfl, SqT.of (g6 _ _ dr), at0', t, _, _, _, rfl, rfl, SqT.of (g6 _ _ d1), d2, hh, _, _, _, rfl, rfl, SqT.of (g6 _ _ d3), at1,
      qy, hy, _, _, _, _, rfl, g6 _ _ b5, g6 _ _ d5, ⟨u w3, u w4, u o3, u o4⟩, mul_ne (pos_ne tcy.1) (pos_ne ucy.1), fun n2 d2' r2 H7 f2 g7 h2 => ?_⟩
    have S49 : S.natAbs ≤ 2 ^ 1649 := Nat.le_trans sc'.s (Nat.pow_le_pow_right (by decide) (by decide))
    have T49 : T.natAbs ≤ 2 ^ 1649 := Nat.le_trans sc'.t (Nat.pow_le_pow_right (by decide) (by decide))
    have ST98 : (S * T).natAbs ≤ 2 ^ 3298 := Nat.le_trans (ST_le sc') (Nat.pow_le_pow_right (by decide) (by decide))
    have v1 := scx.less ucx f1
    have v2 := tcy.less ucy f2
    obtain ⟨s1, s2⟩ := v1.lt f1.co sc'.S0 (d1649 bx ex) S49 (by decide)
    obtain ⟨s3, s4⟩ := v2.lt f2.co sc'.T0 (d1649 cy ey) T49 (by decide)
    refine ⟨r1, r2, _, _, _, _, rfl, g7 _ _ h1, h2, ⟨s1, s2, s3, s4⟩, mul_ne (pos_ne f1.pos) (pos_ne f2.pos), fun n3 d3' r3 H8 f3 g8 h3 => ?_⟩
    have v3 := v1.times v2 f3
    have g58 := g6.trans (g7.trans g8)
    have g08 := g05.trans g58
    clear h1 h2 g6 g7 g8 g6'
    -- other
    refine ⟨_, rfl, _, rfl, t, _, _, _, rfl, rfl, SqT.of (g58 _ _ a1), a2, pp, _, _, _, rfl, rfl, SqT.of (g58 _ _ a3), at1, _, rfl, _, rfl, r, _, _, _, rfl, rfl, SqT.of (g58 _ _ dr), at0', t, _, _, _, rfl, rfl, SqT.of (g58 _ _ d1), d2, hh, _, _, _, rfl, rfl, SqT.of (g58 _ _ d3), at1,
      py, hy, _, _, _, _, rfl, g58 _ _ a5, g58 _ _ d5, ⟨u z3, u z4, u o3, u o4⟩, mul_ne (pos_ne scy.1) (pos_ne ucy.1), fun n4 d4' r4 H9 f4 g9 h4 => ?_⟩
    have g59 := g58.trans g9
    refine ⟨_, rfl, _, rfl, t, _, _, _, rfl, rfl, SqT.of (g59 _ _ b1), b2, qq, _, _, _, rfl, rfl, SqT.of (g59 _ _ b3), at0, _, rfl, _, rfl, r, _, _, _, rfl, rfl, SqT.of (g59 _ _ dr), at0', t, _, _, _, rfl, rfl, SqT.of (g59 _ _ d1), d2, hh, _, _, _, rfl, rfl, SqT.of (g59 _ _ d3), at0,
      qx, hx, _, _, _, _, rfl, g59 _ _ b4, g59 _ _ d4, ⟨u w1, u w2, u o1, u o2⟩, mul_ne (pos_ne tcx.1) (pos_ne ucx.1), fun n5 d5' r5 HA f5 gA h5 => ?_⟩
    have v4 := scy.less ucy f4
    have v5 := tcx.less ucx f5
    obtain ⟨s5, s6⟩ := v4.lt f4.co sc'.T0 (d1649 by' ey) T49 (by decide)
    obtain ⟨s7, s8⟩ := v5.lt f5.co sc'.S0 (d1649 cx ex) S49 (by decide)
    refine ⟨r4, r5, _, _, _, _, rfl, gA _ _ h4, h5, ⟨s5, s6, s7, s8⟩, mul_ne (pos_ne f4.pos) (pos_ne f5.pos), fun n6 d6' r6 HB f6 gB h6 => ?_⟩
    have v6 := v4.times v5 f6
    rw [Int.mul_comm T S] at v6
    have g8B := g9.trans (gA.trans gB)
    have g5B := g58.trans g8B
    obtain ⟨s1, s2⟩ := v3.lt f3.co ST0 pl1 ST98 (by decide)
    obtain ⟨s3, s4⟩ := v6.lt f6.co ST0 pl2 ST98 (by decide)
    refine ⟨_, rfl, _, rfl, _, rfl, r3, r6, _, _, _, _, rfl, g8B _ _ h3, h6, ⟨s1, s2, s3, s4⟩, mul_ne (pos_ne f3.pos) (pos_ne f6.pos), fun n7 d7' r7 HC f7 gC h7 => ?_⟩
    have v7 := v3.less v6 f7
    obtain ⟨s5, s6⟩ := v7.lt f7.co ST0 (A := 3299) pl (Nat.le_trans ST98 (Nat.pow_le_pow_right (by decide) (by decide))) (by decide)
    obtain ⟨s7, s8⟩ := hs.lt co ST0 (fan_le sc' ha (fun p h => rng p (List.mem_cons_of_mem _ h)) l20' i) (Nat.le_trans ST98 (Nat.pow_le_pow_right (by decide) (by decide))) (by decide)
    have g5C := g5B.trans gC
    refine ⟨tt, r7, _, _, _, _, rfl, g5C _ _ ht5, h7, ⟨s7, s8, s5, s6⟩, mul_ne (pos_ne hs.1) (pos_ne f7.pos), fun n8 d8' r8 HD f8 gD h8 => ?_⟩
    refine ⟨r8, n8, d8', _, _, _, _, rfl, h8, ?_, f8.co, g5.trans (g5C.trans gD)⟩
    have v8 := hs.plus v7 f8
    have e : (((some (p, q) : Option (Nat × Nat)).toList).map fun u => ph x y h u.1 u.2).sum = (x p - x h) * (y q - y h) - (y p - y h) * (x q - x h) := by simp [ph]
    rw [List.take_succ, e1, List.map_append, List.sum_append, e]
    exact v8
  · rintro σ H4 ⟨tt, n, d, y1, y2, y3, y4, rfl, ht, hs, co, g4⟩
    rw [List.length_map, List.length_drop, List.take_of_length_le (by rw [zl]; exact Nat.le_refl _), fan_clo] at hs
    exact ⟨_, rfl, k n d tt H4 hs co (g02.trans g4) ht⟩
end
--SPLIT
section
variable {P : Program} {w : World} {K : PySem.W.Frag} {mg : Str → Option Value} {base : Heap}
theorem but_at {a D : Addr} {H H1 : Hp} {o : HO} (nD : H D = none) (g : SameBut a H H1) : SameBut a H (upd H1 D o) := fun b o' nb e => by
  rw [upd_ne (ne_of_none e nD)]
  exact g b o' nb e
theorem nat9 {n : Nat} (h : n ≤ 1000) : ((n : Int)).natAbs < 2 ^ 9000 := lit9 (Nat.lt_of_le_of_lt (m := 1000) (by omega) (by decide))
theorem ixN_nat {n k : Nat} (h : k < n) : ixN n (k : Int) = some k := by
  unfold ixN
  rw [if_pos (by omega), if_pos (by omega)]; simp
theorem erase_map {α β : Type} (f : α → β) : ∀ (l : List α) (k : Nat), (l.map f).eraseIdx k = (l.eraseIdx k).map f
  | [], _ => rfl
  | _ :: _, 0 => rfl
  | x :: l, k + 1 => by simp only [List.map_cons, List.eraseIdx_cons_succ, erase_map f l k]
/-- digits in a list -/
theorem nat_of {d m : Int} (h0 : 0 ≤ d) (h1 : d < m) : ∃ k : Nat, V.int d = vn k ∧ k < m.toNat := ⟨d.toNat, by unfold vn; rw [Int.toNat_of_nonneg h0], by omega⟩
def spRow : Sp := fun vs H Q _ => ∃ (a : Addr) (m : Nat), vs = [.ref a, .int (m : Int)] ∧ PotAt H a ∧ 0 < m ∧ m ≤ 8 ∧
  ∀ (t : Addr) (row : List Nat) (H' : Hp), SameBut a H H' → PotAt H' a → H' t = some (.tup (row.map vn)) → (∀ p ∈ row, p < m) → row.length ≤ 10 → Q (.ref t) H'
theorem ok_law_row {f : Addr} {fd : FuncData} (F : Fun K "_law_row" "_law_row" s_law_row f fd) (h_law_digit : Own.Has P w K mg base "_law_digit" ["_law_pot_here", "_law_many"] 1 (spDigit)) (z_tuple : mg "tuple" = none) (z_range : mg "range" = none) : FnOk P w K mg base CX0 3 f fd ["_law_pot_here", "_law_many"] (spRow) := by
  refine F.ok sc_law_row (fun vs H Q E h => ?_) (fun cdv A outer s H vs Q E hr h => ?_)
  · obtain ⟨a, m, rfl, _⟩ := h
    rfl
  obtain ⟨a, m, rfl, ha, m0, m8, k⟩ := h
  refine ⟨_, (pss_one (ps_ret (pe_callTy call_tuple_of rfl z_tuple PyProof.Rows.boot_tuple (pa_cons (pe_lc1x (Nc := ["_law_k", "_law_pot_here", "_law_many"]) (js := [none, some 0, some 1]) rfl rfl (pi_range1 rfl z_range (pa_cons (Own.pe_has h_law_digit (hr.mono (by decide)) rfl (pa_cons (pv 0) (pa_cons pe_int pa_nil))) pa_nil)) (CS.of rfl rfl) rfl (fun C s₂ H₂ fp pins => (pg_name (i := 0) (show List.Nodup (α := Str) ["_law_k", "_law_pot_here", "_law_many"] by decide +kernel) rfl (Or.inl rfl))) (fun C s₂ H₂ fp pins D L => (pt_tail0 (pb_app (Own.pe_has h_law_digit (hr.mono (by decide)) rfl (pa_cons (pv 1) (pa_cons (pv 2) pa_nil))))))) pa_nil)))), ?_⟩
  refine ⟨_, rfl, a, 10, rfl, ha, by decide, lit9 (by decide), fun n H1 n0 n1 s1 p1 => ?_⟩
  refine ⟨n, rfl, by omega, by omega, fun D nD => ?_⟩
  have Da : D ≠ a := by
    obtain ⟨x, y, z, _⟩ := p1
    exact (ne_of_none z nD).symm
  refine walk_range (lo := 0) (n := n.toNat) (fun i σ H2 => ∃ (u : Option V) (row : List Nat), σ = [u, some (.ref a), some (.int (m : Int))] ∧ H2 D = some (.lst (row.map vn)) ∧ row.length = i ∧ (∀ p ∈ row, p < m) ∧ SameBut a H1 H2 ∧ PotAt H2 a)
    ⟨none, [], rfl, upd_same, rfl, (fun p hp => by cases hp), .of (same_new nD _), p1.kept (same_new nD _)⟩ ?_ ?_
  · rintro i σ H2 hi ⟨u, row, rfl, hD, hl, hm, s2, p2⟩
    refine ⟨_, rfl, _, rfl, a, m, rfl, p2, by omega, nat9 (by omega), fun d H3 d0 d1 s3 p3 => ?_⟩
    obtain ⟨k, e, hk⟩ := nat_of d0 d1
    rw [e]
    refine ⟨_, s3 _ _ Da hD, (by rw [List.length_map, hl]; exact small1000 (by omega)), ?_⟩
    refine ⟨_, row ++ [k], rfl, (by rw [List.map_append]; exact upd_same), (by rw [List.length_append, hl]; rfl), (fun p hp => ?_), but_at nD (s2.trans s3), p3.other Da.symm⟩
    rcases List.mem_append.mp hp with z | z
    · exact hm p z
    · have : p = k := by simpa using z
      omega
  · rintro σ H2 ⟨u, row, rfl, hD, hl, hm, s2, p2⟩
    refine ⟨D, _, rfl, .inl ⟨SqL.of hD, fun t nt => ?_⟩⟩
    have gt := same_new nt (.tup (row.map vn))
    exact k t row _ (s1.trans (s2.trans (.of gt))) (p2.kept gt) upd_same hm (by omega)
/-- points in a list -/
def PsAt (H : Hp) (l : Addr) (n : Nat) : Prop := ∃ ps : List Addr, H l = some (.lst (ps.map V.ref)) ∧ ps.length = n ∧ ∀ p ∈ ps, ∃ P, PtAt H p P ∧ Sz 206 P ∧ Lw P
theorem PsAt.but {H H' : Hp} {l a : Addr} {n : Nat} (h : PsAt H l n) (ha : PotAt H a) (ne : l ≠ a) (g : SameBut a H H') : PsAt H' l n := by
  obtain ⟨x, y, e, _⟩ := ha
  obtain ⟨ps, h1, h2, h3⟩ := h
  exact ⟨ps, g _ _ ne h1, h2, fun p hp => let ⟨P, k1, k2⟩ := h3 p hp; ⟨P, k1.but e g, k2⟩⟩
def spBow : Sp := fun vs H Q _ => ∃ (a : Addr) (m : Nat), vs = [.ref a, .int (m : Int)] ∧ PotAt H a ∧ 0 < m ∧ m ≤ 8 ∧
  ∀ (t : Addr) (ps : List Addr) (H' : Hp), SameBut a H H' → PotAt H' a → H' t = some (.tup (ps.map V.ref)) → ps.length = m → (∀ p ∈ ps, ∃ P, PtAt H' p P ∧ Sz 206 P ∧ Lw P) → Q (.ref t) H'
theorem ok_law_bow {f : Addr} {fd : FuncData} (F : Fun K "_law_bow" "_law_bow" s_law_bow f fd) (h_law_digit : Own.Has P w K mg base "_law_digit" ["_law_pot_here", "_law_many"] 1 (spDigit)) (h_law_low : Own.Has P w K mg base "_law_low" ["_law_n", "_law_d"] 1 (spFr)) (h_law_number : Own.Has P w K mg base "_law_number" ["_law_pot_here", "_law_mode"] 2 (spNumber)) (z_range : mg "range" = none) (z_tuple : mg "tuple" = none) : FnOk P w K mg base CX0 5 f fd ["_law_pot_here", "_law_many"] (spBow) := by
  refine F.ok sc_law_bow (fun vs H Q E h => ?_) (fun cdv A outer s H vs Q E hr h => ?_)
  · obtain ⟨a, m, rfl, _⟩ := h
    rfl
  obtain ⟨a, m, rfl, ha, m1, m8, q⟩ := h
  refine ⟨_, (pss_cons (ps_set (i := 2) sc_law_bow.nd rfl (Or.inr rfl) (pe_op op_add pe_int (Own.pe_has h_law_digit (hr.mono (by decide)) rfl (pa_cons (pv 0) (pa_cons pe_int pa_nil)))))
      (pss_cons (ps_lc1x (i := 3) (Nc := ["_law_k", "_law_left", "_law_pot_here"]) (js := [none, some 2, some 0]) rfl rfl sc_law_bow.nd rfl (Or.inl rfl) (pi_range1 rfl z_range (pa_cons (pv 1) pa_nil)) (CS.of rfl rfl) rfl (fun C s₂ H₂ fp pins => (pg_name (i := 0) (show List.Nodup (α := Str) ["_law_k", "_law_left", "_law_pot_here"] by decide +kernel) rfl (Or.inl rfl))) (fun C s₂ H₂ fp pins D L => (pt_tail0 (pb_app (pe_tup (pa_cons (Own.pe_has h_law_low (hr.mono (by decide)) rfl (pa_cons (pe_op op_add (pe_op Own.op_mulW (pv 0) (pv 1)) (Own.pe_has h_law_digit (hr.mono (by decide)) rfl (pa_cons (pv 2) (pa_cons pe_int pa_nil)))) (pa_cons pe_int pa_nil))) (pa_cons (pe_tup (pa_cons (pe_op Own.op_mulW (pe_op Own.op_mulW (pv 0) (pv 0)) (pv 1)) (pa_cons pe_int pa_nil))) pa_nil)))))))
      (pss_cons (ps_set (i := 4) sc_law_bow.nd rfl (Or.inl rfl) (Own.pe_has h_law_digit (hr.mono (by decide)) rfl (pa_cons (pv 0) (pa_cons (pv 1) pa_nil))))
      (pss_cons (ps_if (pt_cmpR op_eq (Own.pe_has h_law_digit (hr.mono (by decide)) rfl (pa_cons (pv 0) (pa_cons pe_int pa_nil))) pe_int (nomark _)) (pss_one (ps_asg (pe_tup (pa_cons (pe_ix ix_tup (pe_ix ix_list (pv 3) (pv 4) (fun _ _ => rfl)) pe_int (fun _ _ => rfl)) (pa_cons (Own.pe_has h_law_number (hr.mono (by decide)) rfl (pa_cons (pv 0) (pa_cons pe_int pa_nil))) pa_nil))) (pg_sub (pv 3) (pv 4) set_list))) pss_nil)
      (pss_one (ps_ret (pe_callTy call_tuple_of rfl z_tuple PyProof.Rows.boot_tuple (pa_cons (pv 3) pa_nil)))))))), ?_⟩
  refine ⟨_, rfl, a, 9, rfl, ha, by decide, lit9 (by decide), fun f H1 f0 f1 s1 p1 => ⟨_, _, rfl, rfl, ?_⟩⟩
  refine ⟨_, rfl, m, rfl, by omega, by omega, fun D nD => ?_⟩
  rw [show (m : Int).toNat = m by omega]
  have Da : D ≠ a := by
    obtain ⟨x, y, z, _⟩ := p1
    exact (ne_of_none z nD).symm
  refine walk_range (lo := 0) (n := m) (fun i σ H2 => ∃ (u : Option V), σ = [u, some (.int (1 + f)), some (.ref a)] ∧ PsAt H2 D i ∧ SameBut a H1 H2 ∧ PotAt H2 a)
    ⟨none, rfl, ⟨[], upd_same, rfl, (fun p hp => by cases hp)⟩, .of (same_new nD _), p1.kept (same_new nD _)⟩ ?_ ?_
  · rintro i σ H2 hi ⟨u, rfl, hD, s2, p2⟩
    have two : ∀ a b : V, [a, b].length ≤ sizeLine := fun _ _ => (by decide : 2 ≤ sizeLine)
    have i20 : (0 + (i : Int)).natAbs < 2 ^ 4 := Nat.lt_of_le_of_lt (m := 15) (by omega) (by decide)
    have f20 : (1 + f).natAbs < 2 ^ 4 := Nat.lt_of_le_of_lt (m := 15) (by omega) (by decide)
    have b1 := mul_lt_pow i20 f20
    have b2 := mul_lt_pow i20 i20
    have b3 := mul_lt_pow b2 f20
    refine ⟨_, rfl, _, rfl, _, _, rfl, rfl, ⟨w9 i20, w9 f20⟩, ?_⟩
    refine ⟨_, rfl, a, 2, rfl, p2, by decide, lit9 (by decide), fun d H3 d0 d1 s3 p3 => ⟨_, _, rfl, rfl, ?_⟩⟩
    refine ⟨_, 3, rfl, by decide, lit9 (by decide), fun n' d' p H4 fr g4 hp => ?_⟩
    refine ⟨_, rfl, _, rfl, _, _, rfl, rfl, ⟨w9 i20, w9 i20⟩, _, rfl, _, _, rfl, rfl, ⟨w9 b2, w9 f20⟩, two _ _, fun t1 n1 => ?_⟩
    have g5 := same_new n1 (.tup [.int ((0 + (i : Int)) * (0 + i) * (1 + f)), .int 1])
    have h5 := upd_same (H := H4) (a := t1) (o := .tup [.int ((0 + (i : Int)) * (0 + i) * (1 + f)), .int 1])
    generalize upd H4 t1 (.tup [.int ((0 + (i : Int)) * (0 + i) * (1 + f)), .int 1]) = H5 at *
    refine ⟨two _ _, fun t2 n2 => ?_⟩
    have g6 := same_new n2 (.tup [.ref p, .ref t1])
    have h6 := upd_same (H := H5) (a := t2) (o := .tup [.ref p, .ref t1])
    generalize upd H5 t2 (.tup [.ref p, .ref t1]) = H6 at *
    have g36 := g4.trans (g5.trans g6)
    have p6 := p3.kept g36
    obtain ⟨ps, e1, e2, e3⟩ := hD.but p2 Da (s3.trans (.of g36))
    refine ⟨_, e1, (by rw [List.length_map, e2]; exact small1000 (by omega)), ?_⟩
    refine ⟨_, rfl, ⟨ps ++ [t2], (by rw [List.map_append]; exact upd_same), (by rw [List.length_append, e2]; rfl), fun r hr' => ?_⟩, but_at nD (s2.trans (s3.trans (.of g36))), p6.other Da.symm⟩
    rcases List.mem_append.mp hr' with z | z
    · obtain ⟨R, k1, k2⟩ := e3 r z
      exact ⟨R, k1.upd e1, k2⟩
    · have : r = t2 := by simpa using z
      subst this
      have b4 : ((0 + (i : Int)) * (1 + f) + d).natAbs < 2 ^ 206 := Nat.lt_of_le_of_lt (m := 2 ^ (4 + 4) + 1) (by omega) (by decide)
      have zz : Fz 206 n' d' := Fz.of_fr fr b4 (by decide)
      have hP : PtAt H6 r ⟨n', d', (0 + (i : Int)) * (0 + i) * (1 + f), 1⟩ := ⟨p, t1, h6, g6 _ _ (g5 _ _ hp), g6 _ _ h5⟩
      exact ⟨_, hP.upd e1, zz.sz ⟨by decide, Mth.up b3 (by decide), by decide⟩, fr.pos, (show (0 : Int) < 1 by decide), fr.co, Int.gcd_one_right ..⟩
  · rintro σ H2 ⟨u, rfl, hD, s2, p2⟩
    refine ⟨_, rfl, _, rfl, a, m, rfl, p2, by omega, nat9 (by omega), fun k H3 k0 k1 s3 p3 => ?_⟩
    have hD3 := hD.but p2 Da s3
    have fin : ∀ H4 : Hp, SameBut a H1 H4 → PotAt H4 a → PsAt H4 D m → ∃ (p : Addr) (ys : List V), ([V.ref D] : List V) = [V.ref p] ∧ ((SqL K H4 p ys ∧ ∀ l, H4 l = none → Q (.ref l) (upd H4 l (.tup ys))) ∨ SqT K H4 p ys ∧ Q (.ref p) H4) := fun H4 s4 p4 hD4 => by
      obtain ⟨ps, e1, e2, e3⟩ := hD4
      refine ⟨D, _, rfl, .inl ⟨SqL.of e1, fun t nt => ?_⟩⟩
      have gt := same_new nt (.tup (ps.map V.ref))
      refine q t ps _ (s1.trans (s4.trans (.of gt))) (p4.kept gt) upd_same e2 fun p hp => ?_
      obtain ⟨P, k1, k2⟩ := e3 p hp
      exact ⟨P, k1.kept gt, k2⟩
    refine ⟨_, rfl, a, 3, rfl, p3, by decide, lit9 (by decide), fun j H4 _ _ s4 p4 => ⟨rfl, _, rfl, ?_⟩⟩
    have hD4 := hD3.but p3 Da s4
    refine ite2 (fun c => ?_) (fun c => ?_)
    · obtain ⟨kk, ek, hk⟩ : ∃ kk : Nat, k = (kk : Int) ∧ kk < m := ⟨k.toNat, by omega, by omega⟩
      subst ek
      obtain ⟨ps, e1, e2, e3⟩ := id hD4
      have hk' : kk < ps.length := by omega
      have ai : atI (ps.map V.ref) (kk : Int) = some (.ref ps[kk]) := atI_nat (by rw [List.getElem?_map, List.getElem?_eq_getElem hk']; rfl)
      obtain ⟨P, ⟨px, py, h1, h2, h3⟩, hz, hl⟩ := e3 _ (List.getElem_mem hk')
      refine ⟨_, rfl, _, rfl, D, _, _, _, rfl, rfl, SqL.of e1, ai, ps[kk], _, _, _, rfl, rfl, SqT.of h1, at0, ?_⟩
      refine ⟨_, rfl, a, 1, rfl, p4, by decide, fun n' d' p H5 fz co _ s5 p5 hp => ?_⟩
      refine ⟨(by show 2 ≤ sizeLine; decide), fun t nt => ?_⟩
      have g6 := same_new nt (.tup [.ref px, .ref p])
      have h6 := upd_same (H := H5) (a := t) (o := .tup [.ref px, .ref p])
      generalize upd H5 t (.tup [.ref px, .ref p]) = H6 at *
      have s16 := s2.trans (s3.trans (s4.trans (s5.trans (.of g6))))
      have p6 := p5.kept g6
      obtain ⟨qs, q1, q2, q3⟩ := hD4.but p4 Da (s5.trans (.of g6))
      have hP6 : PtAt H6 t ⟨P.n, P.d, n', d'⟩ := ⟨px, p, h6, (by
        obtain ⟨x, y, e, _⟩ := p4
        exact g6 _ _ (s5 _ _ (ne_of h2 e (by simp)) h2)), g6 _ _ hp⟩
      refine ⟨_, rfl, _, rfl, D, _, _, kk, rfl, rfl, q1, ixN_nat (by rw [List.length_map]; omega), ?_⟩
      refine ⟨_, rfl, fin _ (but_at nD s16) (p6.other Da.symm) ⟨qs.set kk t, (by rw [List.map_set]; exact upd_same), (by rw [List.length_set]; exact q2), fun r hr' => ?_⟩⟩
      rcases List.mem_or_eq_of_mem_set hr' with z | rfl
      · obtain ⟨R, k1, k2⟩ := q3 r z
        exact ⟨R, k1.upd q1, k2⟩
      · obtain ⟨z1, z2, z3, z4, z5, z6⟩ := hz
        obtain ⟨l1, l2, l3, l4⟩ := hl
        rw [if_pos (by decide)] at fz
        exact ⟨_, hP6.upd q1, ⟨z1, fz.1, z3, z4, Mth.up fz.2.1 (by decide), Mth.up fz.2.2 (by decide)⟩, l1, fz.1, l3, co⟩
    · exact ⟨_, rfl, fin H4 (s2.trans (s3.trans s4)) p4 hD4⟩
theorem ok_law_unlike {f : Addr} {fd : FuncData} (F : Fun K "_law_unlike" "_law_unlike" s_law_unlike f fd) (h_law_digit : Own.Has P w K mg base "_law_digit" ["_law_pot_here", "_law_many"] 1 (spDigit)) (z_list : mg "list" = none) (z_range : mg "range" = none) (z_tuple : mg "tuple" = none) (z_len : mg "len" = none) : FnOk P w K mg base CX0 3 f fd ["_law_pot_here", "_law_many"] (spRow) := by
  refine F.ok sc_law_unlike (fun vs H Q E h => ?_) (fun cdv A outer s H vs Q E hr h => ?_)
  · obtain ⟨a, m, rfl, _⟩ := h
    rfl
  obtain ⟨a, m, rfl, ha, m0, m8, q⟩ := h
  refine ⟨_, (pss_cons (ps_set (i := 2) sc_law_unlike.nd rfl (Or.inl rfl) (pe_rngL rfl rfl z_list rfl z_range (pa_cons (pv 1) pa_nil)))
      (pss_cons (ps_if (pt_cmpR op_eq (Own.pe_has h_law_digit (hr.mono (by decide)) rfl (pa_cons (pv 0) (pa_cons pe_int pa_nil))) pe_int (nomark _)) (pss_cons (ps_set (i := 3) sc_law_unlike.nd rfl (Or.inl rfl) (Own.pe_has h_law_digit (hr.mono (by decide)) rfl (pa_cons (pv 0) (pa_cons (pv 1) pa_nil))))
      (pss_cons (ps_set (i := 2) sc_law_unlike.nd rfl (Or.inl rfl) (pe_op op_cat (pe_slice sl_list (pv 2) (po_some (pv 3)) po_none) (pe_slice sl_list (pv 2) po_none (po_some (pv 3)))))
      (pss_one (ps_ret (pe_callTy call_tuple_of rfl z_tuple PyProof.Rows.boot_tuple (pa_cons (pe_slice sl_list (pv 2) po_none (po_some (Own.pe_has h_law_digit (hr.mono (by decide)) rfl (pa_cons (pv 0) (pa_cons (pe_op op_add (pv 1) pe_int) pa_nil))))) pa_nil)))))) pss_nil)
      (pss_cons (ps_set (i := 4) sc_law_unlike.nd rfl (Or.inl rfl) (pe_lst pa_nil))
      (pss_cons (ps_for PassesOwn.never rfl (pi_range1 rfl z_range (pa_cons (Own.pe_has h_law_digit (hr.mono (by decide)) rfl (pa_cons (pv 0) (pa_cons (pe_op op_add (pv 1) pe_int) pa_nil))) pa_nil)) (pg_name (i := 5) sc_law_unlike.nd rfl (Or.inl rfl)) (pss_one (ps_expr (pe_bm PySem.F.plainAttrs_list PySem.F.slot_list_append PySem.F.type_list_append mt_append (pv 4) (pa_cons (pe_bm PySem.F.plainAttrs_list PySem.F.slot_list_pop PySem.F.type_list_pop mt_popAt (pv 2) (pa_cons (Own.pe_has h_law_digit (hr.mono (by decide)) rfl (pa_cons (pv 0) (pa_cons (pe_callB call_len_seq rfl z_len PySem.boot_len (pa_cons (pv 2) pa_nil)) pa_nil))) pa_nil)) pa_nil)))))
      (pss_one (ps_ret (pe_callTy call_tuple_of rfl z_tuple PyProof.Rows.boot_tuple (pa_cons (pv 4) pa_nil)))))))), ?_⟩
  refine ⟨_, rfl, m, rfl, by omega, fun l nl => ?_⟩
  have la : l ≠ a := by
    obtain ⟨x, y, z, _⟩ := id ha
    exact (ne_of_none z nl).symm
  have p0 : PotAt (upd H l (if false = true then .tup (intsV m) else .lst (intsV m))) a := ha.kept (same_new nl _)
  have s0 : SameBut a H (upd H l (if false = true then .tup (intsV m) else .lst (intsV m))) := .of (same_new nl _)
  have h0 : (upd H l (if false = true then .tup (intsV m) else .lst (intsV m))) l = some (.lst ((List.range m).map vn)) := upd_same
  have lm : ∀ p ∈ List.range m, p < m := fun p hp => List.mem_range.mp hp
  have ll : (List.range m).length = m := List.length_range
  generalize List.range m = L0 at *
  generalize upd H l (if false = true then .tup (intsV m) else .lst (intsV m)) = H1 at *
  refine ⟨_, rfl, a, 2, rfl, p0, by decide, lit9 (by decide), fun j H2 _ _ s2 p2 => ⟨rfl, _, rfl, ?_⟩⟩
  have h2 := s2 _ _ la h0
  have s02 := s0.trans s2
  clear h0 s0 p0 s2
  refine ite2 (fun c => ?_) (fun c => ?_)
  · refine ⟨_, rfl, _, rfl, a, m, rfl, p2, by omega, nat9 (by omega), fun k H3 k0 k1 s3 p3 => ?_⟩
    obtain ⟨kk, ek, hk⟩ : ∃ kk : Nat, k = (kk : Int) ∧ kk < m := ⟨k.toNat, by omega, by omega⟩
    subst ek
    have h3 := s3 _ _ la h2
    refine ⟨_, rfl, _, rfl, _, rfl, l, _, rfl, SqL.of h3, fun q1 n1 => ?_⟩
    have g4 := same_new n1 (.lst (cutV (L0.map vn) (some (kk : Int)) none))
    have c4 : (upd H3 q1 (.lst (cutV (L0.map vn) (some (kk : Int)) none))) q1 = some (.lst ((L0.drop kk).map vn)) := by rw [← (cut_row L0 kk).1]; exact upd_same
    generalize upd H3 q1 (.lst (cutV (L0.map vn) (some (kk : Int)) none)) = H4 at *
    have h4 := g4 _ _ h3
    refine ⟨_, rfl, _, rfl, _, rfl, l, _, rfl, SqL.of h4, fun q2 n2 => ?_⟩
    have g5 := same_new n2 (.lst (cutV (L0.map vn) none (some (kk : Int))))
    have c5 : (upd H4 q2 (.lst (cutV (L0.map vn) none (some (kk : Int))))) q2 = some (.lst ((L0.take kk).map vn)) := by rw [← (cut_row L0 kk).2]; exact upd_same
    generalize upd H4 q2 (.lst (cutV (L0.map vn) none (some (kk : Int)))) = H5 at *
    refine ⟨q1, q2, _, _, rfl, rfl, g5 _ _ c4, c5, (by simp only [List.length_map, List.length_drop, List.length_take]; exact Nat.le_of_lt (small1000 (by omega))), fun q3 n3 => ?_⟩
    rw [← List.map_append]
    have g6 := same_new n3 (.lst ((L0.drop kk ++ L0.take kk).map vn))
    have c6 := upd_same (H := H5) (a := q3) (o := .lst ((L0.drop kk ++ L0.take kk).map vn))
    generalize upd H5 q3 (.lst ((L0.drop kk ++ L0.take kk).map vn)) = H6 at *
    have g36 := g4.trans (g5.trans g6)
    have p6 := p3.kept g36
    have q3a : q3 ≠ a := by
      obtain ⟨x, y, z, _⟩ := id p3
      exact (ne_of_none (g5 _ _ (g4 _ _ z)) n3).symm
    have lm' : ∀ p ∈ L0.drop kk ++ L0.take kk, p < m := fun p hp => by
      rcases List.mem_append.mp hp with z | z
      · exact lm p (List.mem_of_mem_drop z)
      · exact lm p (List.mem_of_mem_take z)
    have ll' : (L0.drop kk ++ L0.take kk).length ≤ 8 := by simp; omega
    generalize L0.drop kk ++ L0.take kk = L1 at *
    refine ⟨_, rfl, _, rfl, _, rfl, _, _, rfl, rfl, a, (m : Int) + 1, rfl, p6, by omega, lit9 (Nat.lt_of_le_of_lt (m := 1000) (by omega) (by decide)), fun e H7 e0 e1 s7 p7 => ?_⟩
    obtain ⟨ee, re, he⟩ : ∃ ee : Nat, e = (ee : Int) ∧ ee ≤ m := ⟨e.toNat, by omega, by omega⟩
    subst re
    have c7 := s7 _ _ q3a c6
    refine ⟨_, rfl, q3, _, rfl, SqL.of c7, fun q4 n4 => ?_⟩
    have g8 := same_new n4 (.lst (cutV (L1.map vn) none (some (ee : Int))))
    have c8 : (upd H7 q4 (.lst (cutV (L1.map vn) none (some (ee : Int))))) q4 = some (.lst ((L1.take ee).map vn)) := by rw [← (cut_row L1 ee).2]; exact upd_same
    generalize upd H7 q4 (.lst (cutV (L1.map vn) none (some (ee : Int)))) = H8 at *
    refine ⟨q4, _, rfl, .inl ⟨SqL.of c8, fun t nt => ?_⟩⟩
    have gt := same_new nt (.tup ((L1.take ee).map vn))
    exact q t (L1.take ee) _ (s02.trans (s3.trans ((SameBut.of g36).trans (s7.trans (.of (g8.trans gt)))))) (p7.kept (g8.trans gt)) upd_same (fun p hp => lm' p (List.mem_of_mem_take hp)) (by rw [List.length_take]; omega)
  · refine ⟨(by show 0 ≤ sizeLine; decide), fun fo nf => ?_⟩
    have foa : fo ≠ a := by
      obtain ⟨x, y, z, _⟩ := id p2
      exact (ne_of_none z nf).symm
    have fol : fo ≠ l := (ne_of_none h2 nf).symm
    have g3 := same_new nf (.lst [])
    have h3 := g3 _ _ h2
    have p3 := p2.kept g3
    have c3 := upd_same (H := H2) (a := fo) (o := .lst [])
    have s03 := s02.trans (.of g3)
    have nfH : H fo = none := by
      cases z : H fo with
      | none => rfl
      | some o => have := s02 _ _ foa z; rw [nf] at this; cases this
    generalize upd H2 fo (.lst []) = H3 at *
    refine ⟨_, rfl, _, rfl, _, _, rfl, rfl, a, (m : Int) + 1, rfl, p3, by omega, lit9 (Nat.lt_of_le_of_lt (m := 1000) (by omega) (by decide)), fun e H4 e0 e1 s4 p4 => ?_⟩
    refine ⟨e, rfl, by omega, by omega, ?_⟩
    refine for_range (lo := 0) (n := e.toNat) (fun i σ H5 => ∃ (u : Option V) (L R : List Nat), σ = [some (.ref a), some (.int (m : Int)), some (.ref l), none, some (.ref fo), u] ∧ H5 l = some (.lst (L.map vn)) ∧ L.length + i = m ∧ (∀ p ∈ L, p < m) ∧ H5 fo = some (.lst (R.map vn)) ∧ R.length = i ∧ (∀ p ∈ R, p < m) ∧ SameBut a H H5 ∧ PotAt H5 a)
      ⟨none, L0, [], rfl, s4 _ _ la h3, ll, lm, s4 _ _ foa c3, rfl, (fun p hp => by cases hp), s03.trans s4, p4⟩ ?_ ?_
    · rintro i σ H5 hi ⟨u, L, R, rfl, hL, eL, mL, hR, eR, mR, s5, p5⟩
      refine ⟨_, rfl, .inl ⟨rfl, _, SqL.of hR⟩, _, rfl, .inl ⟨rfl, _, SqL.of hL⟩, _, rfl, _, rfl, l, _, rfl, .inl (SqL.of hL), a, _, rfl, p5, (by rw [List.length_map]; omega), (by rw [List.length_map]; exact nat9 (by omega)), fun d H6 d0 d1 s6 p6 => ?_⟩
      rw [List.length_map] at d1
      obtain ⟨dd, ed, hd⟩ : ∃ dd : Nat, d = (dd : Int) ∧ dd < L.length := ⟨d.toNat, by omega, by omega⟩
      subst ed
      have hL6 := s6 _ _ la hL
      have hR6 := s6 _ _ foa hR
      refine ⟨l, _, _, dd, vn L[dd], rfl, rfl, hL6, by omega, by omega, (by rw [List.length_map]; exact seqIndex_of d0 d1), (by rw [List.getElem?_map, List.getElem?_eq_getElem hd]; rfl), ?_⟩
      refine ⟨fo, _, _, rfl, rfl, (by rw [upd_ne fol]; exact hR6), (by rw [List.length_map]; exact small1000 (by omega)), ?_⟩
      refine ⟨_, L.eraseIdx dd, R ++ [L[dd]], rfl, (by rw [upd_ne fol.symm, upd_same, erase_map]), (by rw [List.length_eraseIdx_of_lt hd]; omega), (fun p hp => mL p (List.mem_of_mem_eraseIdx hp)), (by rw [List.map_append]; exact upd_same), (by rw [List.length_append, eR]; rfl), (fun p hp => ?_), but_at nfH (but_at nl (s5.trans s6)), (p6.other la.symm).other foa.symm⟩
      rcases List.mem_append.mp hp with z | z
      · exact mR p z
      · have : p = L[dd] := by simpa using z
        rw [this]
        exact mL _ (List.getElem_mem hd)
    · rintro σ H5 ⟨u, L, R, rfl, hL, eL, mL, hR, eR, mR, s5, p5⟩
      refine ⟨_, rfl, fo, _, rfl, .inl ⟨SqL.of hR, fun t nt => ?_⟩⟩
      have gt := same_new nt (.tup (R.map vn))
      exact q t R _ (s5.trans (.of gt)) (p5.kept gt) upd_same mR (by omega)
end
--SPLIT
section
variable {P : Program} {w : World} {K : PySem.W.Frag} {mg : Str → Option Value} {base : Heap}
/-- points on the heap, at the scales S, T -/
def Pts (H : Hp) (ps : List Addr) (S T : Int) (X Y : Nat → Int) : Prop := ∀ (i : Nat) (p : Addr), ps[i]? = some p → ∃ P, PtAt H p P ∧ Sz 206 P ∧ Lw P ∧ Pc S T (X i) (Y i) P
theorem Pts.kept {H H' : Hp} {ps : List Addr} {S T : Int} {X Y : Nat → Int} (h : Pts H ps S T X Y) (g : Same H H') : Pts H' ps S T X Y := fun i p e => let ⟨P, k1, k2⟩ := h i p e; ⟨P, k1.kept g, k2⟩
def spAll : Sp := fun vs H Q _ => ∃ (l : Addr) (ps : List Addr) (S T : Int) (X Y : Nat → Int), vs = [.ref l, .int 1] ∧ H l = some (.lst (ps.map V.ref)) ∧ Pts H ps S T X Y ∧ 0 < S ∧ 0 < T ∧ 3 ≤ ps.length ∧ ps.length ≤ 20 ∧
  ∀ (b : Bool) (H' : Hp), (b = true ↔ Edges X Y ps.length) → Same H H' → Q (.bl b) H'
theorem cut_map {α : Type} (f : α → V) (row : List α) (k : Nat) : cutV (row.map f) (some (k : Int)) none = (row.drop k).map f ∧ cutV (row.map f) none (some (k : Int)) = (row.take k).map f := by
  unfold cutV
  rw [HT.sIx_nat, HT.sIx_nat, HT.sIx_none, HT.sIx_none, List.length_map]
  refine ⟨?_, ?_⟩
  · rw [List.map_drop]
    by_cases h : k ≤ row.length
    · rw [Nat.min_eq_left h, List.take_of_length_le (by simp)]
    · rw [Nat.min_eq_right (by omega), List.drop_eq_nil_of_le (by simp), List.drop_eq_nil_of_le (by simp; omega)]
      simp
  · rw [List.drop_zero, Nat.sub_zero, List.map_take]
    by_cases h : k ≤ row.length
    · rw [Nat.min_eq_left h]
    · rw [Nat.min_eq_right (by omega), List.take_of_length_le (by simp), List.take_of_length_le (by simp; omega)]
theorem same_list {H H1 : Hp} {D : Addr} {xs : List V} {o : HO} (n : H D = none) (g : Same H H1) : Same H (upd H1 D o) := fun b o' e => by
  rw [upd_ne (ne_of_none e n)]
  exact g b o' e
theorem sgn_one {z : Int} : decide (V.int (sgn z) = V.int 1) = decide (0 < z) := by
  unfold sgn
  rcases Int.lt_trichotomy z 0 with h | h | h
  · simp [h]; omega
  · subst h; simp
  · simp [h]; omega
theorem ok_all_at_hand {f : Addr} {fd : FuncData} (F : Fun K "all_at_hand" "all_at_hand" s_all_at_hand f fd) (h_hand : Own.Has P w K mg base "hand" ["p", "q", "r"] 2 (spHand det)) (z_len : mg "len" = none) (z_range : mg "range" = none) (z_all : mg "all" = none) : FnOk P w K mg base CX0 5 f fd ["points", "which"] (spAll) := by
  refine F.ok sc_all_at_hand (fun vs H Q E h => ?_) (fun cdv A outer s H vs Q E hr h => ?_)
  · obtain ⟨l, ps, S, T, X, Y, rfl, _⟩ := h
    rfl
  obtain ⟨l, ps, S, T, X, Y, rfl, hl, hps, S0, T0, n3, n20, k⟩ := h
  refine ⟨_, (pss_cons (ps_set (i := 2) sc_all_at_hand.nd rfl (Or.inl rfl) (pe_callB call_len_seq rfl z_len PySem.boot_len (pa_cons (pv 0) pa_nil)))
      (pss_cons (ps_lc1x (i := 3) (Nc := ["at", "points"]) (js := [none, some 0]) rfl rfl sc_all_at_hand.nd rfl (Or.inl rfl) (pi_range1 rfl z_range (pa_cons (pv 2) pa_nil)) (CS.of rfl rfl) rfl (fun C s₂ H₂ fp pins => (pg_name (i := 0) (show List.Nodup (α := Str) ["at", "points"] by decide +kernel) rfl (Or.inl rfl))) (fun C s₂ H₂ fp pins D L => (pt_tail0 (pb_app (pe_op op_cat (pe_slice (show SlR _ (rSlL K) from sl_list) (pv 1) (po_some (pv 0)) po_none) (pe_slice (show SlR _ (rSlL K) from sl_list) (pv 1) po_none (po_some (pv 0))))))))
      (pss_one (ps_ret (pe_callB (call_allL rfl) rfl z_all PyProof.Rows.boot_all (pa_cons (pe_lc2x (Nc := ["row", "r", "which"]) (js := [none, none, some 1]) rfl rfl (pi_list (pv 3)) (CS.of rfl rfl) rfl (fun C s₂ H₂ fp pins => (pg_name (i := 0) (show List.Nodup (α := Str) ["row", "r", "which"] by decide +kernel) rfl (Or.inl rfl))) (fun C s₂ H₂ fp pins => (show PI _ _ _ (iList K _) from (pi_list (pe_slice (show SlR _ (rSlL K) from sl_list) (pv 0) (po_some pe_int) po_none)))) (fun C s₂ H₂ fp pins => (pg_name (i := 1) (show List.Nodup (α := Str) ["row", "r", "which"] by decide +kernel) rfl (Or.inl rfl))) (fun C s₂ H₂ fp pins D L => (pt_tail0 (pb_app (pe_cmpR op_eq (Own.pe_has h_hand (hr.mono (by decide)) rfl (pa_cons (pe_ix (show IxR _ (rIxL K) from ix_list) (pv 0) pe_int (fun _ _ => rfl)) (pa_cons (pe_ix (show IxR _ (rIxL K) from ix_list) (pv 0) pe_int (fun _ _ => rfl)) (pa_cons (pv 1) pa_nil)))) (pv 2) (nomark _)))))) pa_nil)))))), ?_⟩
  refine ⟨_, rfl, l, _, rfl, .inl (SqL.of hl), ?_⟩
  rw [List.length_map]
  refine ⟨_, rfl, ps.length, rfl, by omega, by omega, fun D nD => ?_⟩
  rw [show (ps.length : Int).toNat = ps.length by omega]
  refine walk_range (lo := 0) (n := ps.length) (fun i σ H1 => ∃ (u : Option V) (qs : List Addr), σ = [u, some (.ref l)] ∧ H1 D = some (.lst (qs.map V.ref)) ∧ qs.length = i ∧ (∀ q ∈ qs, q ≠ D) ∧ (∀ j q, qs[j]? = some q → H1 q = some (.lst ((ps.drop j ++ ps.take j).map V.ref))) ∧ Same H H1)
    ⟨none, [], rfl, upd_same, rfl, (fun _ h => by cases h), (fun _ _ h => by simp at h), same_new nD _⟩ ?_ ?_
  · rintro i σ H1 hi ⟨u, qs, rfl, hD, lq, nq, hq, g1⟩
    rw [Int.zero_add]
    have h1 := g1 _ _ hl
    refine ⟨_, rfl, _, rfl, _, rfl, l, _, rfl, SqL.of h1, fun q1 n1 => ?_⟩
    have g2 := same_new n1 (.lst (cutV (ps.map V.ref) (some (i : Int)) none))
    have c2 : (upd H1 q1 (.lst (cutV (ps.map V.ref) (some (i : Int)) none))) q1 = some (.lst ((ps.drop i).map V.ref)) := by rw [← (cut_map V.ref ps i).1]; exact upd_same
    generalize upd H1 q1 (.lst (cutV (ps.map V.ref) (some (i : Int)) none)) = H2 at *
    have h2 := g2 _ _ h1
    refine ⟨_, rfl, _, rfl, _, rfl, l, _, rfl, SqL.of h2, fun q2 n2 => ?_⟩
    have g3 := same_new n2 (.lst (cutV (ps.map V.ref) none (some (i : Int))))
    have c3 : (upd H2 q2 (.lst (cutV (ps.map V.ref) none (some (i : Int))))) q2 = some (.lst ((ps.take i).map V.ref)) := by rw [← (cut_map V.ref ps i).2]; exact upd_same
    generalize upd H2 q2 (.lst (cutV (ps.map V.ref) none (some (i : Int)))) = H3 at *
    refine ⟨q1, q2, _, _, rfl, rfl, g3 _ _ c2, c3, (by simp only [List.length_map, List.length_drop, List.length_take]; exact Nat.le_of_lt (small1000 (by omega))), fun q3 n4 => ?_⟩
    rw [← List.map_append]
    have g4 := same_new n4 (.lst ((ps.drop i ++ ps.take i).map V.ref))
    have c4 := upd_same (H := H3) (a := q3) (o := .lst ((ps.drop i ++ ps.take i).map V.ref))
    have q3D : q3 ≠ D := (ne_of_none (g3 _ _ (g2 _ _ hD)) n4).symm
    generalize upd H3 q3 (.lst ((ps.drop i ++ ps.take i).map V.ref)) = H4 at *
    have g14 := g2.trans (g3.trans g4)
    have hD4 := g14 _ _ hD
    refine ⟨_, hD4, (by rw [List.length_map, lq]; exact small1000 (by omega)), ?_⟩
    refine ⟨_, qs ++ [q3], rfl, (by rw [List.map_append]; exact upd_same), (by rw [List.length_append, lq]; rfl), (fun q hq' => ?_), (fun j q e => ?_), same_list (xs := []) nD (g1.trans g14)⟩
    · rcases List.mem_append.mp hq' with z | z
      · exact nq q z
      · have : q = q3 := by simpa using z
        rw [this]; exact q3D
    · by_cases z : j < qs.length
      · rw [List.getElem?_append_left z] at e
        rw [upd_ne (nq q (List.mem_of_getElem? e))]
        exact g14 _ _ (hq j q e)
      · rw [List.getElem?_append_right (by omega)] at e
        have : j - qs.length = 0 := by
          have := (List.getElem?_eq_some_iff.mp e).1
          simp at this; omega
        rw [this] at e
        have ej : j = i := by omega
        have : q3 = q := by simpa using e
        subst this ej
        rw [upd_ne q3D]
        exact c4
  · rintro σ H1 ⟨u, qs, rfl, hD, lq, nq, hq, g1⟩
    have hps1 := hps.kept g1
    refine ⟨_, rfl, D, rfl, ⟨_, SqL.of hD⟩, fun B nB => ?_⟩
    have fl : ∀ {xs : List V} {q : Addr}, H1 q = some (.lst xs) → q ≠ B := fun e => ne_of_none e nB
    refine walk_list (xs := qs.map V.ref) (fun i σ H3 => ∃ (u1 u2 : Option V) (bs : List Bool), σ = [u1, u2, some (.int 1)] ∧ H3 B = some (.lst (bs.map V.bl)) ∧ bs.length = i * (ps.length - 2) ∧ (bs.all id = true ↔ ∀ a, a < i → ∀ c, c < ps.length - 2 → 0 < O X Y a (wrap ps.length (a + 1)) (wrap ps.length (a + (c + 2)))) ∧ Same H1 H3)
      ⟨none, none, [], rfl, upd_same, by simp, ⟨fun _ a h => absurd h (by omega), fun _ => rfl⟩, same_new nB _⟩ ?_ ?_ ?_
    · rintro i σ H3 _ ⟨u1, u2, bs, rfl, hB, lb, hb, g3⟩
      exact SqL.of (g3 _ _ hD)
    · rintro i y σ H3 hy ⟨u1, u2, bs, rfl, hB, lb, hb, g3⟩
      rw [List.getElem?_map] at hy
      obtain ⟨q, eq', rfl⟩ := Option.map_eq_some_iff.mp hy
      have hi : i < ps.length := by have := (List.getElem?_eq_some_iff.mp eq').1; omega
      have hq3 := g3 _ _ (hq i q eq')
      have rl : (ps.drop i ++ ps.take i).length = ps.length := by simp; omega
      have rg : ∀ c, c < ps.length → (ps.drop i ++ ps.take i)[c]? = ps[wrap ps.length (i + c)]? := fun c hc => rot_get ps hi hc
      have hw : ∀ c, c < ps.length → wrap ps.length (i + c) < ps.length := fun c hc => by unfold wrap; split <;> omega
      refine ⟨_, rfl, _, rfl, q, _, rfl, SqL.of hq3, fun s4 n4 => ?_⟩
      have g4 := same_new n4 (.lst (cutV ((ps.drop i ++ ps.take i).map V.ref) (some ((2 : Nat) : Int)) none))
      have c4 : (upd H3 s4 (.lst (cutV ((ps.drop i ++ ps.take i).map V.ref) (some ((2 : Nat) : Int)) none))) s4 = some (.lst (((ps.drop i ++ ps.take i).drop 2).map V.ref)) := by rw [← (cut_map V.ref _ 2).1]; exact upd_same
      have sB : s4 ≠ B := (ne_of_none hB n4).symm
      have hB4 := g4 _ _ hB
      have n1 : H1 s4 = none := g3.free n4
      have g34 := g3.trans g4
      refine ⟨s4, rfl, ⟨_, SqL.of c4⟩, ?_⟩
      have inv0 : Same H1 (upd H3 s4 (.lst (cutV ((ps.drop i ++ ps.take i).map V.ref) (some ((2 : Nat) : Int)) none))) := g34
      refine walk_list (xs := ((ps.drop i ++ ps.take i).drop 2).map V.ref) (fun c σ H5 => ∃ (u2 : Option V) (bs : List Bool), σ = [some (.ref q), u2, some (.int 1)] ∧ H5 B = some (.lst (bs.map V.bl)) ∧ H5 s4 = some (.lst (((ps.drop i ++ ps.take i).drop 2).map V.ref)) ∧ bs.length = i * (ps.length - 2) + c ∧ (bs.all id = true ↔ (∀ a, a < i → ∀ c, c < ps.length - 2 → 0 < O X Y a (wrap ps.length (a + 1)) (wrap ps.length (a + (c + 2)))) ∧ ∀ c', c' < c → 0 < O X Y i (wrap ps.length (i + 1)) (wrap ps.length (i + (c' + 2)))) ∧ Same H1 H5)
        ⟨u2, bs, rfl, hB4, c4, lb, (hb.trans ⟨fun h => ⟨h, fun c' h' => absurd h' (by omega)⟩, fun h => h.1⟩), inv0⟩ ?_ ?_ ?_
      · rintro c σ H5 _ ⟨u2, bs, rfl, hB5, h5, lb5, hb5, g5⟩
        exact SqL.of h5
      · rintro c y σ H5 hy ⟨u2, bs, rfl, hB5, h5, lb5, hb5, g5⟩
        rw [List.getElem?_map, List.getElem?_drop] at hy
        obtain ⟨r, er, rfl⟩ := Option.map_eq_some_iff.mp hy
        have hc : 2 + c < ps.length := by have := (List.getElem?_eq_some_iff.mp er).1; omega
        have e0 := rg 0 (by omega)
        have e1 := rg 1 (by omega)
        have e2 := rg (2 + c) hc
        have w0 : wrap ps.length (i + 0) = i := by unfold wrap; rw [if_pos (by omega)]; rfl
        rw [w0, List.getElem?_eq_getElem hi] at e0
        rw [List.getElem?_eq_getElem (hw 1 (by omega))] at e1
        rw [er] at e2
        obtain ⟨P0, k0, z0, _, s0⟩ := hps1 i _ (List.getElem?_eq_getElem hi)
        obtain ⟨P1, k1, z1, _, s1⟩ := hps1 _ _ (List.getElem?_eq_getElem (hw 1 (by omega)))
        obtain ⟨P2, k2, z2, _, s2⟩ := hps1 _ _ e2.symm
        have hq5 := g5 _ _ (hq i q eq')
        have a0 : atI ((ps.drop i ++ ps.take i).map V.ref) 0 = some (.ref ps[i]) := atI_nat (j := 0) (by rw [List.getElem?_map, e0]; rfl)
        have a1 : atI ((ps.drop i ++ ps.take i).map V.ref) 1 = some (.ref (ps[wrap ps.length (i + 1)]'(hw 1 (by omega)))) := atI_nat (j := 1) (by rw [List.getElem?_map, e1]; rfl)
        have uz : ∀ {P : Pt}, Sz 206 P → Sz 1000 P := fun ⟨y1, y2, y3, y4, y5, y6⟩ => ⟨y1, y2, Mth.up y3 (by decide), Mth.up y4 (by decide), Mth.up y5 (by decide), Mth.up y6 (by decide)⟩
        refine ⟨_, rfl, q, _, _, _, rfl, rfl, SqL.of hq5, a0, _, rfl, q, _, _, _, rfl, rfl, SqL.of hq5, a1, _, rfl, _, _, _, P0, P1, P2, rfl, k0.kept g5, k1.kept g5, k2.kept g5, uz z0, uz z1, uz z2, fun H6 g6 => ?_⟩
        refine ⟨_, rfl, rfl, ?_⟩
        have ed := det_O S0 T0 s0 s1 s2
        refine ⟨_, g6 _ _ hB5, (by rw [List.length_map, lb5]; exact small1000 (by have : i * (ps.length - 2) ≤ 20 * 20 := Nat.mul_le_mul (by omega) (by omega); omega)), ?_⟩
        refine ⟨_, bs ++ [decide (0 < O X Y i (wrap ps.length (i + 1)) (wrap ps.length (i + (c + 2))))], rfl, ?_, (by rw [upd_ne sB]; exact g6 _ _ h5), (by rw [List.length_append, lb5]; rfl), ?_, same_list (xs := []) nB (g5.trans g6)⟩
        · rw [ed, sgn_one, List.map_append, Nat.add_comm c 2]
          exact upd_same
        · rw [List.all_append, Bool.and_eq_true, hb5]
          simp only [List.all_cons, List.all_nil, Bool.and_true, id, decide_eq_true_iff]
          constructor
          · rintro ⟨⟨h1, h2⟩, h3⟩
            refine ⟨h1, fun c' h' => ?_⟩
            rcases Nat.lt_succ_iff_lt_or_eq.mp h' with z | z
            · exact h2 c' z
            · rw [z]; exact h3
          · rintro ⟨h1, h2⟩
            exact ⟨⟨h1, fun c' h' => h2 c' (by omega)⟩, h2 c (by omega)⟩
      · rintro σ H5 ⟨u2, bs, rfl, hB5, h5, lb5, hb5, g5⟩
        have dl : (((ps.drop i ++ ps.take i).drop 2).map V.ref).length = ps.length - 2 := by rw [List.length_map, List.length_drop, rl]
        rw [dl] at lb5 hb5
        refine ⟨_, _, bs, rfl, hB5, (by rw [lb5, Nat.add_mul, Nat.one_mul]), hb5.trans ?_, g5⟩
        constructor
        · rintro ⟨h1, h2⟩ a ha
          rcases Nat.lt_succ_iff_lt_or_eq.mp ha with z | z
          · exact h1 a z
          · subst z; exact h2
        · intro h
          exact ⟨fun a ha => h a (by omega), h i (by omega)⟩
    · rintro σ H3 ⟨u1, u2, bs, rfl, hB, lb, hb, g3⟩
      rw [List.length_map, lq] at hb
      refine ⟨B, bs, rfl, SqL.of hB, k _ _ (hb.trans ?_) (g1.trans g3)⟩
      constructor
      · intro h a ha
        exact (edge_iff X Y n3 ha).mp (h a ha)
      · intro h a ha
        exact (edge_iff X Y n3 ha).mpr (h a ha)
end
--SPLIT
section
variable {P : Program} {w : World} {K : PySem.W.Frag} {mg : Str → Option Value} {base : Heap}
def at' (f : Nat → Int) (row : List Nat) (i : Nat) : Int := f (row.getD i 0)
def spBends : Sp := fun vs H Q _ => ∃ (t r : Addr) (L : List Pt) (S T : Int) (x y : Nat → Int) (row : List Nat), vs = [.ref t, .ref r] ∧ Drw H t L ∧ Scl L S T x y ∧ H r = some (.tup (row.map vn)) ∧ (∀ p ∈ row, p < L.length) ∧ row.length ≤ 20 ∧
  ∀ (b : Bool) (H' : Hp), (b = true ↔ 3 ≤ row.length ∧ Edges (at' x row) (at' y row) row.length) → Same H H' → Q (.bl b) H'
theorem sgn_pos {z : Int} (h : 0 < z) : sgn z = 1 := by unfold sgn; simp [h]; omega
theorem sgn_ge {z : Int} (h : ¬ sgn z < 1) : 0 < z := by
  unfold sgn at h
  rcases Int.lt_trichotomy z 0 with c | c | c
  · simp [c] at h
  · subst c; simp at h
  · exact c
theorem getD_at {row : List Nat} {i p : Nat} (h : row[i]? = some p) : row.getD i 0 = p := by simp [List.getD, h]
theorem ok_bends {f : Addr} {fd : FuncData} (F : Fun K "bends" "bends" s_bends f fd) (h_all_at_hand : Own.Has P w K mg base "all_at_hand" ["points", "which"] 5 (spAll)) (z_len : mg "len" = none) : FnOk P w K mg base CX0 6 f fd ["drawing", "row"] (spBends) := by
  refine F.ok sc_bends (fun vs H Q E h => ?_) (fun cdv A outer s H vs Q E hr h => ?_)
  · obtain ⟨t, r, L, S, T, x, y, row, rfl, _⟩ := h
    rfl
  obtain ⟨t, r, L, S, T, x, y, row, rfl, hD, sc', hr', rng, l20, k⟩ := h
  refine ⟨_, (pss_one (ps_ret (pe_and (pe_cmpR op_ge (pe_callB call_len_seq rfl z_len PySem.boot_len (pa_cons (pv 1) pa_nil)) pe_int (nomark _)) (pe_one (Own.pe_has h_all_at_hand (hr.mono (by decide)) rfl (pa_cons (pe_lc1x (Nc := ["p", "drawing"]) (js := [none, some 0]) rfl rfl (pi_tup (pv 1)) (CS.of rfl rfl) rfl (fun C s₂ H₂ fp pins => (pg_name (i := 0) (show List.Nodup (α := Str) ["p", "drawing"] by decide +kernel) rfl (Or.inl rfl))) (fun C s₂ H₂ fp pins D L => (pt_tail0 (pb_app (pe_ix (show IxR _ (rIxT K) from ix_tup) (pv 1) (pv 0) (fun _ _ => rfl)))))) (pa_cons pe_int pa_nil))))))), ?_⟩
  refine ⟨_, rfl, r, _, rfl, .inr (SqT.of hr'), _, _, rfl, rfl, _, rfl, ?_⟩
  rw [List.length_map]
  by_cases n3 : 3 ≤ row.length
  · rw [decide_eq_true (show (row.length : Int) ≥ 3 by omega)]
    refine iteT ⟨_, rfl, r, rfl, ⟨_, SqT.of hr'⟩, fun D nD => ?_⟩
    obtain ⟨tp, h1, h2, h3⟩ := hD
    refine walk_tup (xs := row.map vn) (fun i σ H1 => ∃ (u : Option V) (qs : List Addr), σ = [u, some (.ref t)] ∧ H1 D = some (.lst (qs.map V.ref)) ∧ qs.length = i ∧ (∀ j q, qs[j]? = some q → tp[row.getD j 0]? = some q) ∧ Same H H1)
      ⟨none, [], rfl, upd_same, rfl, (fun _ _ h => by simp at h), same_new nD _⟩ ?_ ?_ ?_
    · rintro i σ H1 _ ⟨u, qs, rfl, hD1, lq, hq, g1⟩
      exact SqT.of (g1 _ _ hr')
    · rintro i v σ H1 hv ⟨u, qs, rfl, hD1, lq, hq, g1⟩
      rw [List.getElem?_map] at hv
      obtain ⟨p, ep, rfl⟩ := Option.map_eq_some_iff.mp hv
      have hp : p < tp.length := by rw [h2]; exact rng p (List.mem_of_getElem? ep)
      have hi : i < row.length := (List.getElem?_eq_some_iff.mp ep).1
      have ai : atI (tp.map V.ref) (p : Int) = some (.ref tp[p]) := atI_nat (by rw [List.getElem?_map, List.getElem?_eq_getElem hp]; rfl)
      refine ⟨_, rfl, _, rfl, t, _, _, _, rfl, rfl, SqT.of (g1 _ _ h1), ai, _, hD1, (by rw [List.length_map, lq]; exact small1000 (by omega)), ?_⟩
      refine ⟨_, qs ++ [tp[p]], rfl, (by rw [List.map_append]; exact upd_same), (by rw [List.length_append, lq]; rfl), (fun j q e => ?_), same_list (xs := []) nD g1⟩
      by_cases z : j < qs.length
      · rw [List.getElem?_append_left z] at e
        exact hq j q e
      · rw [List.getElem?_append_right (by omega)] at e
        have e0 : j - qs.length = 0 := by
          have := (List.getElem?_eq_some_iff.mp e).1
          simp at this; omega
        rw [e0] at e
        have ej : j = i := by omega
        have : tp[p] = q := by simpa using e
        rw [ej, getD_at ep, ← this]
        exact List.getElem?_eq_getElem hp
    · rintro σ H1 ⟨u, qs, rfl, hD1, lq, hq, g1⟩
      rw [List.length_map] at lq
      refine ⟨D, qs, S, T, at' x row, at' y row, rfl, hD1, (fun i q e => ?_), sc'.S0, sc'.T0, by omega, by omega, fun b H' hb g' => k b H' ?_ (g1.trans g')⟩
      · have e2 := hq i q e
        have hp : row.getD i 0 < L.length := by rw [← h2]; exact (List.getElem?_eq_some_iff.mp e2).1
        have e3 := List.getElem?_eq_getElem hp
        have kp := h3 _ _ _ e2 e3
        obtain ⟨z1, z2⟩ := sc'.ok _ (List.getElem_mem hp)
        exact ⟨_, kp.kept g1, z1, z2, (sc'.pt _ _ e3).1⟩
      · rw [hb, lq]
        exact ⟨fun h => ⟨n3, h⟩, fun h => h.2⟩
  · rw [decide_eq_false (show ¬ (row.length : Int) ≥ 3 by omega)]
    refine iteF (k false H ⟨fun h => (by cases h), fun h => absurd h.1 n3⟩ fun _ _ e => e)
theorem ok_law_bends {f : Addr} {fd : FuncData} (F : Fun K "_law_bends" "_law_bends" s_law_bends f fd) (h_law_hand : Own.Has P w K mg base "_law_hand" ["_law_p", "_law_q", "_law_r"] 2 (spHandL)) (z_range : mg "range" = none) (z_len : mg "len" = none) : FnOk P w K mg base CX0 3 f fd ["_law_drawing", "_law_row_here"] (spBends) := by
  refine F.ok sc_law_bends (fun vs H Q E h => ?_) (fun cdv A outer s H vs Q E hr h => ?_)
  · obtain ⟨t, r, L, S, T, x, y, row, rfl, _⟩ := h
    rfl
  obtain ⟨t, r, L, S, T, x, y, row, rfl, hD, sc', hr', rng, l20, q⟩ := h
  refine ⟨_, (pss_cons (ps_for PassesOwn.never rfl (pi_range1 rfl z_range (pa_cons (pe_callB call_len_seq rfl z_len PySem.boot_len (pa_cons (pv 1) pa_nil)) pa_nil)) (pg_name (i := 2) sc_law_bends.nd rfl (Or.inl rfl)) (pss_one (ps_for PassesOwn.never rfl (pi_range1 rfl z_range (pa_cons (pv 2) pa_nil)) (pg_name (i := 3) sc_law_bends.nd rfl (Or.inl rfl)) (pss_one (ps_for PassesOwn.never rfl (pi_range1 rfl z_range (pa_cons (pv 3) pa_nil)) (pg_name (i := 4) sc_law_bends.nd rfl (Or.inl rfl)) (pss_one (ps_if (pt_cmpR op_lt (Own.pe_has h_law_hand (hr.mono (by decide)) rfl (pa_cons (pe_ix ix_tup (pv 0) (pe_ix ix_tup (pv 1) (pv 4) (fun _ _ => rfl)) (fun _ _ => rfl)) (pa_cons (pe_ix ix_tup (pv 0) (pe_ix ix_tup (pv 1) (pv 3) (fun _ _ => rfl)) (fun _ _ => rfl)) (pa_cons (pe_ix ix_tup (pv 0) (pe_ix ix_tup (pv 1) (pv 2) (fun _ _ => rfl)) (fun _ _ => rfl)) pa_nil)))) pe_int (nomark _)) (pss_one (ps_ret pe_bl)) pss_nil)))))))
      (pss_one (ps_ret (pe_cmpR op_gt (pe_callB call_len_seq rfl z_len PySem.boot_len (pa_cons (pv 1) pa_nil)) pe_int (nomark _))))), ?_⟩
  refine ⟨_, rfl, r, _, rfl, .inr (SqT.of hr'), row.length, (by rw [List.length_map]), by omega, by omega, ?_⟩
  rw [show (row.length : Int).toNat = row.length by omega]
  refine for_range (lo := 0) (n := row.length) (fun k σ H1 => ∃ (u1 u2 u3 : Option V), σ = [some (.ref t), some (.ref r), u1, u2, u3] ∧ Same H H1 ∧ ∀ i j k', i < j → j < k' → k' < k → 0 < O (at' x row) (at' y row) i j k')
    ⟨none, none, none, rfl, (fun _ _ e => e), fun i j k' _ _ h => absurd h (by omega)⟩ ?_ ?_
  · rintro k σ H1 hk ⟨u1, u2, u3, rfl, g1, b1⟩
    refine ⟨_, rfl, k, (by rw [Int.zero_add]), by omega, by omega, ?_⟩
    rw [show (k : Int).toNat = k by omega]
    refine for_range (lo := 0) (n := k) (fun j σ H2 => ∃ (u2 u3 : Option V), σ = [some (.ref t), some (.ref r), some (.int (0 + (k : Int))), u2, u3] ∧ Same H H2 ∧ ∀ i j', i < j' → j' < j → 0 < O (at' x row) (at' y row) i j' k)
      ⟨u2, u3, rfl, g1, fun i j' _ h => absurd h (by omega)⟩ ?_ ?_
    · rintro j σ H2 hj ⟨u2, u3, rfl, g2, b2⟩
      refine ⟨_, rfl, j, (by rw [Int.zero_add]), by omega, by omega, ?_⟩
      rw [show (j : Int).toNat = j by omega]
      refine for_range (lo := 0) (n := j) (fun i σ H3 => ∃ (u3 : Option V), σ = [some (.ref t), some (.ref r), some (.int (0 + (k : Int))), some (.int (0 + (j : Int))), u3] ∧ Same H H3 ∧ ∀ i', i' < i → 0 < O (at' x row) (at' y row) i' j k)
        ⟨u3, rfl, g2, fun i' h => absurd h (by omega)⟩ ?_ ?_
      · rintro i σ H3 hi ⟨u3, rfl, g3, b3⟩
        have at_ : ∀ {c : Nat} (hc : c < row.length), atI (row.map vn) (0 + (c : Int)) = some (vn row[c]) := fun hc => by
          rw [Int.zero_add]
          exact atI_nat (by rw [List.getElem?_map, List.getElem?_eq_getElem hc]; rfl)
        have hi' : i < row.length := by omega
        have hj' : j < row.length := by omega
        have r3 := SqT.of (K := K) (g3 _ _ hr')
        obtain ⟨ps, pi, a1, a2, a3⟩ := (hD.kept g3).at (rng _ (List.getElem_mem hi'))
        obtain ⟨qs, pj, c1, c2, c3⟩ := (hD.kept g3).at (rng _ (List.getElem_mem hj'))
        obtain ⟨ts, pk, d1, d2, d3⟩ := (hD.kept g3).at (rng _ (List.getElem_mem hk))
        refine ⟨_, rfl, _, rfl, _, rfl, r, _, _, _, rfl, rfl, r3, at_ hi', t, _, _, _, rfl, rfl, SqT.of a1, a2, _, rfl, _, rfl, _, rfl, r, _, _, _, rfl, rfl, r3, at_ hj', t, _, _, _, rfl, rfl, SqT.of c1, c2, _, rfl, _, rfl, _, rfl, r, _, _, _, rfl, rfl, r3, at_ hk, t, _, _, _, rfl, rfl, SqT.of d1, d2, ?_⟩
        obtain ⟨z1, l1⟩ := sc'.ok _ (List.getElem_mem (rng _ (List.getElem_mem hi')))
        obtain ⟨z2, l2⟩ := sc'.ok _ (List.getElem_mem (rng _ (List.getElem_mem hj')))
        obtain ⟨z3, l3⟩ := sc'.ok _ (List.getElem_mem (rng _ (List.getElem_mem hk)))
        have uz : ∀ {P : Pt} (B : Nat), 206 ≤ B → Sz 206 P → Sz B P := fun B hB ⟨y1, y2, y3, y4, y5, y6⟩ => ⟨y1, y2, Mth.up y3 hB, Mth.up y4 hB, Mth.up y5 hB, Mth.up y6 hB⟩
        refine ⟨pi, pj, pk, _, _, _, rfl, a3, c3, d3, uz 210 (by decide) z1, uz 210 (by decide) z2, uz 1700 (by decide) z3, fun H4 g4 => ?_⟩
        have s1 := (sc'.pt _ _ (List.getElem?_eq_getElem (rng _ (List.getElem_mem hi')))).1
        have s2 := (sc'.pt _ _ (List.getElem?_eq_getElem (rng _ (List.getElem_mem hj')))).1
        have s3 := (sc'.pt _ _ (List.getElem?_eq_getElem (rng _ (List.getElem_mem hk)))).1
        have ed := det_O sc'.S0 sc'.T0 s1 s2 s3
        have el : ∀ {P Q R : Pt}, Lw P → sgn (lawdet P Q R) = sgn (det P Q R) := fun h => by rw [lawdet_eq]; exact sgn_mul_pos (Int.mul_pos h.1 h.2.1)
        rw [el l1, ed]
        have eO : ∀ (f : Nat → Int) {c : Nat} (hc : c < row.length), f row[c] = at' f row c := fun f c hc => by unfold at'; rw [getD_at (List.getElem?_eq_getElem hc)]
        rw [eO x hi', eO x hj', eO x hk, eO y hi', eO y hj', eO y hk]
        refine ⟨_, _, rfl, rfl, _, rfl, ?_⟩
        refine ite2 (fun c => ?_) (fun c => ?_)
        · have c' := of_decide_eq_true c
          refine q false H4 ⟨fun h => (by cases h), fun h => ?_⟩ (g3.trans g4)
          have pos := bends_of _ _ h.2 i j k hi hj hk
          unfold O at pos
          rw [sgn_pos pos] at c'
          omega
        · have c' : ¬ _ := fun z => c (decide_eq_true z)
          refine ⟨_, rfl, g3.trans g4, fun i' h' => ?_⟩
          rcases Nat.lt_succ_iff_lt_or_eq.mp h' with z | z
          · exact b3 i' z
          · subst z
            exact sgn_ge c'
      · rintro σ H3 ⟨u3, rfl, g3, b3⟩
        refine ⟨_, _, rfl, g3, fun i j' h1 h2 => ?_⟩
        rcases Nat.lt_succ_iff_lt_or_eq.mp h2 with z | z
        · exact b2 i j' h1 z
        · subst z; exact b3 i h1
    · rintro σ H2 ⟨u2, u3, rfl, g2, b2⟩
      refine ⟨_, _, _, rfl, g2, fun i j k' h1 h2 h3 => ?_⟩
      rcases Nat.lt_succ_iff_lt_or_eq.mp h3 with z | z
      · exact b1 i j k' h1 h2 z
      · subst z; exact b2 i j h1 h2
  · rintro σ H1 ⟨u1, u2, u3, rfl, g1, b1⟩
    refine ⟨_, rfl, r, _, rfl, .inr (SqT.of (g1 _ _ hr')), _, _, rfl, rfl, q _ H1 ?_ g1⟩
    rw [List.length_map, decide_eq_true_iff]
    exact ⟨fun h => ⟨by omega, edges_of _ _ b1⟩, fun h => by omega⟩
end
--SPLIT
section
variable {P : Program} {w : World} {K : PySem.W.Frag} {mg : Str → Option Value} {base : Heap}
theorem Drw.but {H H' : Hp} {t a : Addr} {L : List Pt} (h : Drw H t L) (ha : PotAt H a) (g : SameBut a H H') : Drw H' t L := by
  obtain ⟨ps, h1, h2, h3⟩ := h
  obtain ⟨x, y, e, _⟩ := ha
  exact ⟨ps, g _ _ (ne_of h1 e (by simp)) h1, h2, fun i p P e1 e2 => (h3 i p P e1 e2).but e g⟩
theorem clo_le {L : List Pt} {S T : Int} {x y : Nat → Int} (h : Scl L S T x y) {row : List Nat} (rng : ∀ p ∈ row, p < L.length) (l20 : row.length ≤ 20) : (clo x y row).natAbs ≤ 2 ^ (3297 + 5) := by
  rw [← clo_prs]
  refine sum_le (fun z hz => ?_) (by rw [List.length_map, prs_len]; exact Nat.le_trans l20 (by decide))
  obtain ⟨v, hv, rfl⟩ := List.mem_map.mp hz
  unfold prs at hv
  have hv1 := List.of_mem_zip hv
  refine c_le h (rng _ hv1.1) (rng _ ?_)
  rcases List.mem_append.mp hv1.2 with z | z
  · exact List.mem_of_mem_drop z
  · exact List.mem_of_mem_take z
def spRight : Sp := fun vs H Q _ => ∃ (a t r : Addr) (L : List Pt) (S T : Int) (x y : Nat → Int) (row : List Nat), vs = [.ref a, .ref t, .ref r] ∧ PotAt H a ∧ Drw H t L ∧ Scl L S T x y ∧ H r = some (.tup (row.map vn)) ∧ (∀ p ∈ row, p < L.length) ∧ row.length ≤ 10 ∧
  ∀ H' : Hp, SameBut a H H' → PotAt H' a → Q (.bl true) H'
theorem ok_law_area_right {f : Addr} {fd : FuncData} (F : Fun K "_law_area_right" "_law_area_right" s_law_area_right f fd) (h_law_area : Own.Has P w K mg base "_law_area" ["_law_drawing", "_law_row_here"] 3 (spLArea)) (h_law_digit : Own.Has P w K mg base "_law_digit" ["_law_pot_here", "_law_many"] 1 (spDigit)) (h_area : Own.Has P w K mg base "area" ["drawing", "row"] 4 (spArea)) (h_law_is_fraction : Own.Has P w K mg base "_law_is_fraction" ["_law_one"] 2 (spIsFr)) (h_law_plus : Own.Has P w K mg base "_law_plus" ["_law_one", "_law_other"] 2 (spBin (fun a0 a1 b0 b1 => a0 * b1 + b0 * a1) (fun _ a1 _ b1 => a1 * b1))) (z_len : mg "len" = none) : FnOk P w K mg base CX0 5 f fd ["_law_pot_here", "_law_drawing", "_law_row_here"] (spRight) := by
  refine F.ok sc_law_area_right (fun vs H Q E h => ?_) (fun cdv A outer s H vs Q E hr h => ?_)
  · obtain ⟨a, t, r, L, S, T, x, y, row, rfl, _⟩ := h
    rfl
  obtain ⟨a, t, r, L, S, T, x, y, row, rfl, ha, hD, sc', hr', rng, l10, q⟩ := h
  refine ⟨_, (pss_cons (ps_set (i := 3) sc_law_area_right.nd rfl (Or.inl rfl) (Own.pe_has h_law_area (hr.mono (by decide)) rfl (pa_cons (pv 1) (pa_cons (pv 2) pa_nil))))
      (pss_cons (ps_set (i := 4) sc_law_area_right.nd rfl (Or.inl rfl) (Own.pe_has h_law_digit (hr.mono (by decide)) rfl (pa_cons (pv 0) (pa_cons (pe_op op_add (pe_callB call_len_seq rfl z_len PySem.boot_len (pa_cons (pv 2) pa_nil)) pe_int) pa_nil))))
      (pss_cons (ps_set (i := 5) sc_law_area_right.nd rfl (Or.inl rfl) (Own.pe_has h_area (hr.mono (by decide)) rfl (pa_cons (pv 1) (pa_cons (pv 2) pa_nil))))
      (pss_cons (ps_if (PW.pt (pw_or (pt_not (pt_val (Own.pe_has h_law_is_fraction (hr.mono (by decide)) rfl (pa_cons (pv 5) pa_nil)))) (pw_or1 (pt_cmpR (op_neD hr.units) (pv 5) (pv 3) (nomark _))))) (pss_one (ps_ret pe_bl)) pss_nil)
      (pss_cons (ps_if (PW.pt (pw_or (pt_cmpR (op_neD hr.units) (Own.pe_has h_area (hr.mono (by decide)) rfl (pa_cons (pv 1) (pa_cons (pe_revU (pv 2) (po_some (pe_un un_neg pe_int))) pa_nil))) (pe_tup (pa_cons (pe_un un_neg (pe_ix ix_tup (pv 3) pe_int (fun _ _ => rfl))) (pa_cons (pe_ix ix_tup (pv 3) pe_int (fun _ _ => rfl)) pa_nil))) (nomark _)) (pw_or1 (pt_cmpR (op_neD hr.units) (Own.pe_has h_area (hr.mono (by decide)) rfl (pa_cons (pv 1) (pa_cons (pe_op op_catU (pe_slice sl_tupU (pv 2) (po_some (pv 4)) po_none) (pe_slice sl_tupU (pv 2) po_none (po_some (pv 4)))) pa_nil))) (pv 3) (nomark _))))) (pss_one (ps_ret pe_bl)) pss_nil)
      (pss_cons (ps_par (i := 6) (j := 7) rfl sc_law_area_right.nd rfl rfl (by decide) rfl rfl (pa_cons (Own.pe_has h_area (hr.mono (by decide)) rfl (pa_cons (pv 1) (pa_cons (pe_slice sl_tupU (pv 2) po_none (po_some (pe_op op_add (pv 4) pe_int))) pa_nil))) (pa_cons (Own.pe_has h_area (hr.mono (by decide)) rfl (pa_cons (pv 1) (pa_cons (pe_op op_catU (pe_slice sl_tupU (pv 2) po_none (po_some pe_int)) (pe_slice sl_tupU (pv 2) (po_some (pv 4)) po_none)) pa_nil))) pa_nil)) rfl)
      (pss_one (ps_ret (pe_or (pe_cmpR op_lt (pe_callB call_len_seq rfl z_len PySem.boot_len (pa_cons (pv 2) pa_nil)) pe_int (nomark _)) (pe_one (pe_cmpR (op_eqD hr.units) (Own.pe_has h_law_plus (hr.mono (by decide)) rfl (pa_cons (pv 6) (pa_cons (pv 7) pa_nil))) (pv 3) (nomark _)))))))))))), ?_⟩
  have two : ∀ a b : V, [a, b].length ≤ sizeLine := fun _ _ => (by decide : 2 ≤ sizeLine)
  have ST0 : 0 < S * T := Int.mul_pos sc'.S0 sc'.T0
  have ST2 : (S * T).natAbs ≤ 2 ^ (3297 + 5) := Nat.le_trans (ST_le sc') (Nat.pow_le_pow_right (by decide) (by decide))
  refine ⟨_, rfl, _, rfl, t, r, L, S, T, x, y, row, rfl, hD, sc', hr', rng, by omega, fun n d pd H1 f1 co1 g1 h1 => ?_⟩
  refine ⟨_, rfl, _, rfl, r, _, rfl, .inr (SqT.of (g1 _ _ hr')), _, _, rfl, rfl, a, _, rfl, ha.kept g1, (by rw [List.length_map]; omega), (by rw [List.length_map]; exact lit9 (Nat.lt_of_le_of_lt (m := 1000) (by omega) (by decide))), fun e H2 e0 e1 s2 p2 => ?_⟩
  rw [List.length_map] at e1
  obtain ⟨ee, re, he⟩ : ∃ ee : Nat, e = (ee : Int) ∧ ee ≤ row.length := ⟨e.toNat, by omega, by omega⟩
  subst re
  have p1 := ha.kept g1
  have D2 := (hD.kept g1).but p1 s2
  have na : ∀ {b : Addr} {xs : List V}, H1 b = some (.tup xs) → H2 b = some (.tup xs) := fun {b xs} z => by
    obtain ⟨u, v, z2, _⟩ := p1
    exact s2 _ _ (ne_of z z2 (by simp)) z
  have r2 := na (g1 _ _ hr')
  have d2 := na h1
  have s02 := (SameBut.of (a := a) g1).trans s2
  clear hD hr' g1 h1 ha p1 s2 na
  refine ⟨_, rfl, _, rfl, t, r, L, S, T, x, y, row, rfl, D2, sc', r2, rng, by omega, fun n' d' pf H3 f3 co3 g3 h3 => ?_⟩
  obtain ⟨en, ed⟩ := f3.inj f1 co3 co1 ST0
  subst en ed
  obtain ⟨sz1, sz2⟩ := f3.lt co3 ST0 (clo_le sc' rng (by omega)) ST2 (by decide)
  refine ⟨_, rfl, pf, _, _, rfl, h3, f3.1, co3, sz2, fun H4 g4 => ?_⟩
  refine ⟨_, rfl, iteF ?_⟩
  have g24 := g3.trans g4
  refine ⟨_, rfl, _, rfl, _, _, dt2 (g4 _ _ h3), dt2 (g24 _ _ d2), sh2 _ _, sh2 _ _, _, rfl, ?_⟩
  rw [eqv2, decide_eq_true ⟨rfl, rfl⟩]
  refine iteF ?_
  have D4 := D2.kept g24
  have r4 := g24 _ _ r2
  have d4 := g24 _ _ d2
  have s04 := s02.trans (.of g24)
  have p4 := p2.kept g24
  clear D2 r2 d2 s02 p2 g24 g3 g4 h3
  -- turned round
  refine ⟨_, rfl, _, rfl, _, rfl, _, rfl, r, _, rfl, rfl, r4, fun pr nr => ?_⟩
  have g5 := same_new nr (.tup (row.map vn).reverse)
  have c5 : (upd H4 pr (.tup (row.map vn).reverse)) pr = some (.tup (row.reverse.map vn)) := by rw [List.map_reverse]; exact upd_same
  generalize upd H4 pr (.tup (row.map vn).reverse) = H5 at *
  refine ⟨t, pr, L, S, T, x, y, row.reverse, rfl, D4.kept g5, sc', c5, (fun p hp => rng p (List.mem_reverse.mp hp)), (by rw [List.length_reverse]; omega), fun n6 d6 p6 H6 f6 co6 g6 h6 => ?_⟩
  rw [clo_rev] at f6
  obtain ⟨en, ed⟩ := f6.inj f3.neg co6 (by rw [Int.neg_gcd]; exact co3) ST0
  rw [en, ed] at h6
  have d6' := g6 _ _ (g5 _ _ d4)
  refine ⟨_, rfl, pd, _, _, _, rfl, rfl, SqT.of d6', at0, _, rfl, _, rfl, pd, _, _, _, rfl, rfl, SqT.of d6', at1, two _ _, fun tt nt => ?_⟩
  have g7 := same_new nt (.tup [.int (-n'), .int d'])
  refine ⟨_, _, dt2 (g7 _ _ h6), dt2 upd_same, sh2 _ _, sh2 _ _, _, rfl, ?_⟩
  rw [eqv2, decide_eq_true ⟨rfl, rfl⟩]
  refine iteF ?_
  generalize upd H6 tt (.tup [.int (-n'), .int d']) = H7 at *
  have g47 := g5.trans (g6.trans g7)
  have D7 := D4.kept g47
  have r7 := g47 _ _ r4
  have d7 := g47 _ _ d4
  have s07 := s04.trans (.of g47)
  have p7 := p4.kept g47
  clear D4 r4 d4 s04 p4 g47 g5 g6 g7 h6 c5 d6'
  -- turned on
  refine ⟨_, rfl, _, rfl, _, rfl, _, rfl, r, _, rfl, r7, fun q1 H8 g8 c8 => ?_⟩
  have c8 : H8 q1 = some (.tup ((row.drop ee).map vn)) := by rw [← (cut_row row ee).1]; exact c8
  refine ⟨_, rfl, _, rfl, _, rfl, r, _, rfl, g8 _ _ r7, fun q2 H9 g9 c9 => ?_⟩
  have c9 : H9 q2 = some (.tup ((row.take ee).map vn)) := by rw [← (cut_row row ee).2]; exact c9
  refine ⟨q1, q2, _, _, rfl, rfl, g9 _ _ c8, c9, (by simp only [List.length_map, List.length_drop, List.length_take]; exact Nat.le_of_lt (small1000 (by omega))), fun q3 HA gA cA => ?_⟩
  rw [← List.map_append] at cA
  have g7A : Same H7 HA := fun b o e => gA b o (g9 b o (g8 b o e))
  refine ⟨t, q3, L, S, T, x, y, row.drop ee ++ row.take ee, rfl, D7.kept g7A, sc', cA, (fun p hp => ?_), (by simp; omega), fun nB dB pB HB fB coB gB hB => ?_⟩
  · rcases List.mem_append.mp hp with z | z
    · exact rng p (List.mem_of_mem_drop z)
    · exact rng p (List.mem_of_mem_take z)
  rw [clo_rot, List.take_append_drop] at fB
  obtain ⟨en, ed⟩ := fB.inj f3 coB co3 ST0
  rw [en, ed] at hB
  have g7B := g7A.trans gB
  refine ⟨_, rfl, _, _, dt2 hB, dt2 (g7B _ _ d7), sh2 _ _, sh2 _ _, _, rfl, ?_⟩
  rw [eqv2, decide_eq_true ⟨rfl, rfl⟩]
  refine iteF ?_
  have DB := D7.kept g7B
  have rB := g7B _ _ r7
  have dB' := g7B _ _ d7
  have s0B := s07.trans (.of g7B)
  have pB' := p7.kept g7B
  clear D7 r7 d7 s07 p7 g7A gB c8 c9 cA hB g8 g9 gA g7B
  -- two parts
  refine ⟨_, rfl, _, rfl, _, rfl, _, _, rfl, rfl, _, rfl, r, _, rfl, rB, fun q4 HC gC cC => ?_⟩
  have cC : HC q4 = some (.tup ((row.take (ee + 1)).map vn)) := by rw [← (cut_row row (ee + 1)).2]; exact cC
  have gC' : Same HB HC := fun b o e => gC b o e
  refine ⟨t, q4, L, S, T, x, y, row.take (ee + 1), rfl, DB.kept gC', sc', cC, (fun p hp => rng p (List.mem_of_mem_take hp)), (by rw [List.length_take]; omega), fun n1 d1 x1 HD f1' co1' gD hD => ?_⟩
  have gBD := gC'.trans gD
  refine ⟨_, rfl, _, rfl, _, rfl, r, _, rfl, gBD _ _ rB, fun q5 HE gE cE => ?_⟩
  have cE : HE q5 = some (.tup ((row.take 1).map vn)) := by rw [← (cut_row row 1).2]; exact cE
  refine ⟨_, rfl, _, rfl, _, rfl, r, _, rfl, gE _ _ (gBD _ _ rB), fun q6 HF gF cF => ?_⟩
  have cF : HF q6 = some (.tup ((row.drop ee).map vn)) := by rw [← (cut_row row ee).1]; exact cF
  refine ⟨q5, q6, _, _, rfl, rfl, gF _ _ cE, cF, (by simp only [List.length_map, List.length_drop, List.length_take]; exact Nat.le_of_lt (small1000 (by omega))), fun q7 HG gG cG => ?_⟩
  rw [← List.map_append] at cG
  have gDG : Same HD HG := fun b o e => gG b o (gF b o (gE b o e))
  have gBG := gBD.trans gDG
  have rng7 : ∀ p ∈ row.take 1 ++ row.drop ee, p < L.length := fun p hp => by
    rcases List.mem_append.mp hp with z | z
    · exact rng p (List.mem_of_mem_take z)
    · exact rng p (List.mem_of_mem_drop z)
  have l7 : (row.take 1 ++ row.drop ee).length ≤ 20 := by simp; omega
  refine ⟨t, q7, L, S, T, x, y, row.take 1 ++ row.drop ee, rfl, DB.kept gBG, sc', cG, rng7, l7, fun n2 d2 x2 HH f2' co2' gH hH => ?_⟩
  have gDH := gDG.trans gH
  have gBH := gBD.trans gDH
  have sp := clo_split x y row ee he
  obtain ⟨b1, b2⟩ := f1'.lt co1' ST0 (clo_le sc' (fun p hp => rng p (List.mem_of_mem_take hp)) (by rw [List.length_take]; omega)) ST2 (by decide)
  obtain ⟨b3, b4⟩ := f2'.lt co2' ST0 (clo_le sc' rng7 l7) ST2 (by decide)
  refine ⟨_, _, rfl, _, rfl, r, _, rfl, .inr (SqT.of (gBH _ _ rB)), _, _, rfl, rfl, _, rfl, ?_⟩
  rw [List.length_map]
  refine ite2 (fun c => ?_) (fun c => ?_)
  · exact q _ (s0B.trans (.of gBH)) (pB'.kept gBH)
  refine ⟨_, rfl, _, rfl, x1, x2, _, _, _, _, rfl, gDH _ _ hD, hH, ⟨b1, b2, b3, b4⟩, mul_ne (pos_ne f1'.1) (pos_ne f2'.1), fun n3 d3 x3 HI fI gI hI => ?_⟩
  have v := f1'.plus f2' fI
  rw [sp] at v
  obtain ⟨en, ed⟩ := v.inj f3 fI.co co3 ST0
  rw [en, ed] at hI
  refine ⟨_, rfl, _, _, dt2 hI, dt2 (gI _ _ (gBH _ _ dB')), sh2 _ _, sh2 _ _, ?_⟩
  rw [if_neg (show ¬ (false = true) by decide), eqv2, decide_eq_true ⟨rfl, rfl⟩]
  exact q _ (s0B.trans (.of (gBH.trans gI))) (pB'.kept (gBH.trans gI))
end
--SPLIT
section
variable {P : Program} {w : World} {K : PySem.W.Frag} {mg : Str → Option Value} {base : Heap}
theorem drw_of {H : Hp} : ∀ {ps : List Addr}, (∀ p ∈ ps, ∃ P, PtAt H p P ∧ Sz 206 P ∧ Lw P) → ∃ L : List Pt, L.length = ps.length ∧ (∀ P ∈ L, Sz 206 P ∧ Lw P) ∧ ∀ (i : Nat) (p : Addr) (P : Pt), ps[i]? = some p → L[i]? = some P → PtAt H p P
  | [], _ => ⟨[], rfl, (fun _ h => by cases h), fun i p P e => by simp at e⟩
  | p :: ps, h => by
    obtain ⟨P, k1, k2, k3⟩ := h p List.mem_cons_self
    obtain ⟨L, l1, l2, l3⟩ := drw_of (ps := ps) fun r hr => h r (List.mem_cons_of_mem _ hr)
    refine ⟨P :: L, (by rw [List.length_cons, List.length_cons, l1]), (fun R hR => ?_), fun i r R e1 e2 => ?_⟩
    · rcases List.mem_cons.mp hR with rfl | z
      · exact ⟨k2, k3⟩
      · exact l2 R z
    · match i, e1, e2 with
      | 0, e1, e2 => cases e1; cases e2; exact k1
      | i + 1, e1, e2 => exact l3 i r R (by simpa using e1) (by simpa using e2)
theorem edges_congr {X Y X' Y' : Nat → Int} {n : Nat} (hx : ∀ i, i < n → X i = X' i) (hy : ∀ i, i < n → Y i = Y' i) (h : Edges X Y n) : Edges X' Y' n := by
  intro a ha r hr h1 h2
  have := h a ha r hr h1 h2
  have hm : (a + 1) % n < n := Nat.mod_lt _ (by omega)
  unfold O at this ⊢
  rw [hx a ha, hx r hr, hx _ hm, hy a ha, hy r hr, hy _ hm] at this
  exact this
theorem at_rev (f : Nat → Int) (row : List Nat) {i : Nat} (h : i < row.length) : at' f row.reverse i = at' f row (row.length - 1 - i) := by
  unfold at'
  have e : row.reverse[i]? = row[row.length - 1 - i]? := by rw [List.getElem?_reverse h]
  unfold List.getD
  rw [e]
theorem rev_not {x y : Nat → Int} {row : List Nat} (hn : 3 ≤ row.length) (h : Edges (at' x row) (at' y row) row.length) : ¬ Edges (at' x row.reverse) (at' y row.reverse) row.reverse.length := by
  intro k
  rw [List.length_reverse] at k
  exact edges_rev hn h (edges_congr (fun i hi => at_rev x row hi) (fun i hi => at_rev y row hi) k)
/-- rows on the heap -/
def RowAt (H : Hp) (m : Nat) (v : V) : Prop := ∃ (r : Addr) (row : List Nat), v = .ref r ∧ H r = some (.tup (row.map vn)) ∧ (∀ p ∈ row, p < m) ∧ row.length ≤ 10
theorem RowAt.kept {H H' : Hp} {m : Nat} {v : V} (h : RowAt H m v) (g : Same H H') : RowAt H' m v := let ⟨r, row, h1, h2, h3⟩ := h; ⟨r, row, h1, g _ _ h2, h3⟩
theorem RowAt.but {H H' : Hp} {m : Nat} {v : V} {a : Addr} (h : RowAt H m v) (ha : PotAt H a) (g : SameBut a H H') : RowAt H' m v := by
  obtain ⟨x, y, e, _⟩ := ha
  obtain ⟨r, row, h1, h2, h3⟩ := h
  exact ⟨r, row, h1, g _ _ (ne_of h2 e (by simp)) h2, h3⟩
theorem ok_law {f : Addr} {fd : FuncData} (F : Fun K "law" "law" s_law f fd) (h_law_pot : Own.Has P w K mg base "_law_pot" ["_law_script", "_law_k"] 1 (spPot K)) (h_law_digit : Own.Has P w K mg base "_law_digit" ["_law_pot_here", "_law_many"] 1 (spDigit)) (h_law_bow : Own.Has P w K mg base "_law_bow" ["_law_pot_here", "_law_many"] 5 (spBow)) (h_law_points : Own.Has P w K mg base "_law_points" ["_law_pot_here", "_law_many"] 5 (spPoints)) (h_law_area_right : Own.Has P w K mg base "_law_area_right" ["_law_pot_here", "_law_drawing", "_law_row_here"] 5 (spRight)) (h_law_row : Own.Has P w K mg base "_law_row" ["_law_pot_here", "_law_many"] 3 (spRow)) (h_law_unlike : Own.Has P w K mg base "_law_unlike" ["_law_pot_here", "_law_many"] 3 (spRow)) (h_law_bends : Own.Has P w K mg base "_law_bends" ["_law_drawing", "_law_row_here"] 3 (spBends)) (h_bends : Own.Has P w K mg base "bends" ["drawing", "row"] 6 (spBends)) (z_range : mg "range" = none) (z_max : mg "max" = none) (z_min : mg "min" = none) (z_len : mg "len" = none) (z_tuple : mg "tuple" = none) (z_isinstance : mg "isinstance" = none) (z_bool : mg "bool" = none) : FnOk P w K mg base CX0 7 f fd ["_law_script"] (spLaw K) := by
  refine F.ok sc_law (fun vs H Q E h => ?_) (fun cdv A outer s H vs Q E hr h => ?_)
  · obtain ⟨a, ns, rfl, _⟩ := h
    rfl
  obtain ⟨a, ns, rfl, hS, h63, q⟩ := h
  obtain ⟨f_law_points, fd1, ok1, bi1, ke1, m_law_points⟩ := h_law_points
  obtain ⟨f_law_bow, fd2, ok2, bi2, ke2, m_law_bow⟩ := h_law_bow
  refine ⟨_, (pss_cons (ps_for PassesOwn.never rfl (pi_range1 rfl z_range (pa_cons (pe_callB (call_max2 rfl) rfl z_max PyProof.Rows.boot_max (pa_cons pe_int (pa_cons (pe_callB (call_min2 rfl) rfl z_min PyProof.Rows.boot_min (pa_cons (pe_callB call_len_seq rfl z_len PySem.boot_len (pa_cons (pv 0) pa_nil)) (pa_cons pe_int pa_nil))) pa_nil))) pa_nil)) (pg_name (i := 1) sc_law.nd rfl (Or.inl rfl)) (pss_cons (ps_set (i := 2) sc_law.nd rfl (Or.inl rfl) (Own.pe_has h_law_pot (hr.mono (by decide)) rfl (pa_cons (pv 0) (pa_cons (pv 1) pa_nil))))
      (pss_cons (ps_set (i := 3) sc_law.nd rfl (Or.inl rfl) (pe_op op_add pe_int (Own.pe_has h_law_digit (hr.mono (by decide)) rfl (pa_cons (pv 2) (pa_cons pe_int pa_nil)))))
      (pss_cons (ps_set (i := 4) sc_law.nd rfl (Or.inl rfl) (pe_callE (pe_ix ix_list (pe_lst (pa_cons (pe_glob (v := .ref f_law_points) rfl m_law_points rfl) (pa_cons (pe_glob (v := .ref f_law_bow) rfl m_law_bow rfl) pa_nil))) (Own.pe_has h_law_digit (hr.mono (by decide)) rfl (pa_cons (pv 2) (pa_cons pe_int pa_nil))) (fun _ _ => rfl)) (pa_cons (pv 2) (pa_cons (pv 3) pa_nil))))
      (pss_cons (ps_if (pt_not (pt_val (Own.pe_has h_law_area_right (hr.mono (by decide)) rfl (pa_cons (pv 2) (pa_cons (pv 4) (pa_cons (Own.pe_has h_law_row (hr.mono (by decide)) rfl (pa_cons (pv 2) (pa_cons (pv 3) pa_nil))) pa_nil)))))) (pss_one (ps_ret pe_bl)) pss_nil)
      (pss_cons (ps_par (i := 5) (j := 6) rfl sc_law.nd rfl rfl (by decide) rfl rfl (pa_cons (Own.pe_has h_law_digit (hr.mono (by decide)) rfl (pa_cons (pv 2) (pa_cons (pv 3) pa_nil))) (pa_cons (Own.pe_has h_law_digit (hr.mono (by decide)) rfl (pa_cons (pv 2) (pa_cons (pv 3) pa_nil))) pa_nil)) rfl)
      (pss_cons (ps_if (PW.pt (pw_or (pt_not (pt_val (Own.pe_has h_law_area_right (hr.mono (by decide)) rfl (pa_cons (pv 2) (pa_cons (pv 4) (pa_cons (pe_tup (pa_cons (pv 5) (pa_cons (pv 5) (pa_cons (pv 6) pa_nil)))) pa_nil)))))) (pw_or1 (pt_not (pt_val (Own.pe_has h_law_area_right (hr.mono (by decide)) rfl (pa_cons (pv 2) (pa_cons (pv 4) (pa_cons (pe_tup (pa_cons (pv 5) (pa_cons (pv 6) (pa_cons (pv 5) pa_nil)))) pa_nil))))))))) (pss_one (ps_ret pe_bl)) pss_nil)
      (pss_one (ps_for PassesOwn.never rfl (pi_list (pe_lst (pa_cons (pe_rngT rfl rfl z_tuple rfl z_range (pa_cons (pv 3) pa_nil)) (pa_cons (Own.pe_has h_law_unlike (hr.mono (by decide)) rfl (pa_cons (pv 2) (pa_cons (pv 3) pa_nil))) (pa_cons (Own.pe_has h_law_unlike (hr.mono (by decide)) rfl (pa_cons (pv 2) (pa_cons (pv 3) pa_nil))) (pa_cons (pe_tup pa_nil) pa_nil)))))) (pg_name (i := 7) sc_law.nd rfl (Or.inl rfl)) (pss_cons (ps_set (i := 8) sc_law.nd rfl (Or.inl rfl) (Own.pe_has h_law_bends (hr.mono (by decide)) rfl (pa_cons (pv 4) (pa_cons (pv 7) pa_nil))))
      (pss_cons (ps_set (i := 9) sc_law.nd rfl (Or.inl rfl) (Own.pe_has h_bends (hr.mono (by decide)) rfl (pa_cons (pv 4) (pa_cons (pv 7) pa_nil))))
      (pss_cons (ps_if (PW.pt (pw_or (pt_not (pt_val (pe_callB Own.call_isi rfl z_isinstance PyProof.Rows.boot_isinstance (pa_cons (pv 9) (pa_cons (pe_bltn (v := .ty "bool") rfl z_bool PyProof.Rows.boot_bool rfl) pa_nil))))) (pw_or (pt_cmpR op_ne (pv 9) (pv 8) (nomark _)) (pw_or1 (PW.pt (pw_and (pt_val (pv 8)) (pw_and1 (pt_val (Own.pe_has h_bends (hr.mono (by decide)) rfl (pa_cons (pv 4) (pa_cons (pe_revU (pv 7) (po_some (pe_un un_neg pe_int))) pa_nil))))))))))) (pss_one (ps_ret pe_bl)) pss_nil)
      (pss_one (ps_if (pt_not (pt_val (Own.pe_has h_law_area_right (hr.mono (by decide)) rfl (pa_cons (pv 2) (pa_cons (pv 4) (pa_cons (pv 7) pa_nil)))))) (pss_one (ps_ret pe_bl)) pss_nil))))))))))))))
      (pss_one (ps_ret pe_bl))), ?_⟩
  have hl : (ns.map V.int).length = ns.length := List.length_map _
  refine ⟨_, rfl, a, _, rfl, .inl hS, _, 4, rfl, 1, _, rfl, ?_⟩
  rw [hl]
  generalize hj : (if (if (4 : Int) < (ns.length : Int) then 4 else (ns.length : Int)) > 1 then (if (4 : Int) < (ns.length : Int) then 4 else (ns.length : Int)) else 1) = j
  have j0 : 0 ≤ j := by rw [← hj]; split <;> omega
  have j1 : j ≤ 63 := by
    rw [← hj]
    split
    · split <;> omega
    · omega
  refine ⟨j, rfl, by omega, by omega, for_range (lo := 0) (n := j.toNat) (fun i σ H2 => ∃ (x1 x2 x3 x4 x5 x6 x7 x8 x9 : Option V), σ = [some (.ref a), x1, x2, x3, x4, x5, x6, x7, x8, x9] ∧ Same H H2)
    ⟨none, none, none, none, none, none, none, none, none, rfl, Same.refl H⟩ ?_ ?_⟩
  · rintro i σ H2 hi ⟨x1, x2, x3, x4, x5, x6, x7, x8, x9, rfl, g⟩
    refine ⟨_, rfl, _, rfl, a, ns, _, rfl, g.seq hS, h63, (by omega), (by omega), fun p x y H3 hx g3 hn hp => ?_⟩
    have hnp : H p = none := g.free hn
    have gA : Same H H3 := g.trans g3
    have p3 : PotAt H3 p := ⟨x, y, hp, hx⟩
    refine ⟨_, rfl, p, 6, rfl, p3, by decide, lit9 (by decide), fun m6 H4 m0 m1 s4 p4 => ⟨_, _, rfl, rfl, ?_⟩⟩
    obtain ⟨m, em, m3, m8⟩ : ∃ m : Nat, 3 + m6 = (m : Int) ∧ 3 ≤ m ∧ m ≤ 8 := ⟨(3 + m6).toNat, by omega, by omega, by omega⟩
    change gName 3 (V.int (3 + m6)) _ _ _
    rw [em]
    refine ⟨(by show 2 ≤ sizeLine; decide), fun fl nfl => ?_⟩
    have g5 := same_new nfl (.lst [V.ref f_law_points, V.ref f_law_bow])
    have flp : fl ≠ p := by
      obtain ⟨x, y, z, _⟩ := id p4
      exact (ne_of_none z nfl).symm
    have c5 := upd_same (H := H4) (a := fl) (o := .lst [V.ref f_law_points, V.ref f_law_bow])
    have p5 := p4.kept g5
    generalize upd H4 fl (.lst [V.ref f_law_points, V.ref f_law_bow]) = H5 at *
    refine ⟨_, rfl, p, 2, rfl, p5, by decide, lit9 (by decide), fun d2 H6 d0 d1 s6 p6 => ?_⟩
    have c6 := s6 _ _ flp c5
    obtain ⟨f', fd', sp', at', ke', ok', bi', im⟩ : ∃ (f' : Addr) (fd' : FuncData) (sp' : Sp), atI [V.ref f_law_points, V.ref f_law_bow] d2 = some (.ref f') ∧ PySem.W.keepIn K (.ref f') = true ∧ FnOk P w K mg base CX0 5 f' fd' ["_law_pot_here", "_law_many"] sp' ∧ Binds K fd' ["_law_pot_here", "_law_many"] [] ∧ ∀ vs H Q E, spBow vs H Q E → sp' vs H Q E := by
      have : d2 = 0 ∨ d2 = 1 := by omega
      rcases this with rfl | rfl
      · exact ⟨_, _, _, rfl, ke1, ok1, bi1, fun vs H Q E ⟨a, m, h1, h2, h3, h4, h5⟩ => ⟨a, m, h1, h2, h4, h5⟩⟩
      · exact ⟨_, _, _, rfl, ke2, ok2, bi2, fun vs H Q E h => h⟩
    refine ⟨fl, _, _, _, rfl, rfl, SqL.of c6, at', f', rfl, ke', _, rfl, _, rfl, 5, fd', _, sp', ok', hr.mono (by decide), bi', im _ _ _ _ ⟨p, m, rfl, p6, by omega, m8, fun t ps H7 s7 p7 ht lps hps => ?_⟩⟩
    have s37 := s4.trans ((SameBut.of g5).trans (s6.trans s7))
    obtain ⟨L, lL, okL, ptL⟩ := drw_of hps
    have D7 : Drw H7 t L := ⟨ps, ht, lL.symm, ptL⟩
    obtain ⟨S, T, X, Y, sc'⟩ := scl_ex okL (by omega)
    have eL : m = L.length := by omega
    clear c6 c5 p6 p5 s6 s7 g5 s4 p4 ok1 ok2 ok' im hps ht
    -- a row
    refine ⟨_, rfl, _, rfl, _, rfl, _, rfl, p, m, rfl, p7, by omega, m8, fun r row H8 s8 p8 hr8 rng8 l8 => ?_⟩
    rw [eL] at rng8
    refine ⟨p, t, r, L, S, T, X, Y, row, rfl, p8, D7.but p7 s8, sc', hr8, rng8, l8, fun H9 s9 p9 => ?_⟩
    refine ⟨_, rfl, iteF ?_⟩
    have s79 := s8.trans s9
    have D9 := D7.but p7 s79
    have s39 := s37.trans s79
    clear D7 s37 s8 s9 s79 hr8 rng8 l8 p7 p8
    refine ⟨_, rfl, _, rfl, p, m, rfl, p9, by omega, nat9 (by omega), fun a1 HA a10 a11 sA pA => ?_⟩
    refine ⟨_, rfl, _, rfl, p, m, rfl, pA, by omega, nat9 (by omega), fun b1 HB b10 b11 sB pB => ⟨_, _, rfl, ?_⟩⟩
    obtain ⟨u, eu, hu⟩ : ∃ u : Nat, a1 = (u : Int) ∧ u < m := ⟨a1.toNat, by omega, by omega⟩
    obtain ⟨v, ev, hv⟩ : ∃ v : Nat, b1 = (v : Int) ∧ v < m := ⟨b1.toNat, by omega, by omega⟩
    subst eu ev
    have DB := (D9.but p9 sA).but pA sB
    have s3B := s39.trans (sA.trans sB)
    clear D9 p9 sA pA sB s39
    have three : ∀ a b c : V, [a, b, c].length ≤ sizeLine := fun _ _ _ => (by decide : 3 ≤ sizeLine)
    have rg3 : ∀ {c : Nat} {l : List Nat}, (∀ z ∈ l, z = u ∨ z = v) → ∀ z ∈ l, z < L.length := fun h z hz => by
      rcases h z hz with rfl | rfl <;> omega
    refine ⟨_, rfl, _, rfl, _, rfl, _, rfl, _, rfl, three _ _ _, fun t1 n1 => ?_⟩
    have g1 := same_new n1 (.tup [vn u, vn u, vn v])
    refine ⟨p, t, t1, L, S, T, X, Y, [u, u, v], rfl, pB.kept g1, DB.kept g1, sc', upd_same, rg3 (c := 0) (by simp), (by show 3 ≤ 10; decide), fun HC sC pC => ?_⟩
    refine ⟨_, rfl, iteF ?_⟩
    have sBC := (SameBut.of (a := p) g1).trans sC
    have DC := DB.but pB sBC
    have s3C := s3B.trans sBC
    clear DB g1 sC sBC s3B pB
    refine ⟨_, rfl, _, rfl, _, rfl, _, rfl, _, rfl, three _ _ _, fun t2 n2 => ?_⟩
    have g2 := same_new n2 (.tup [vn u, vn v, vn u])
    refine ⟨p, t, t2, L, S, T, X, Y, [u, v, u], rfl, pC.kept g2, DC.kept g2, sc', upd_same, rg3 (c := 0) (by simp), (by show 3 ≤ 10; decide), fun HD sD pD => ?_⟩
    refine ⟨_, rfl, iteF ?_⟩
    have sCD := (SameBut.of (a := p) g2).trans sD
    have DD := DC.but pC sCD
    have s3D := s3C.trans sCD
    clear DC g2 sD sCD s3C pC
    -- four rows
    refine ⟨_, rfl, m, rfl, by omega, fun r1 k1 => ?_⟩
    have g1 : Same HD (upd HD r1 (if true = true then .tup (intsV m) else .lst (intsV m))) := same_new k1 _
    have w1 : RowAt (upd HD r1 (if true = true then .tup (intsV m) else .lst (intsV m))) m (.ref r1) := ⟨r1, List.range m, rfl, upd_same, (fun p hp => List.mem_range.mp hp), (by rw [List.length_range]; omega)⟩
    generalize upd HD r1 (if true = true then .tup (intsV m) else .lst (intsV m)) = HE at *
    have pE := pD.kept g1
    refine ⟨_, rfl, _, rfl, p, m, rfl, pE, by omega, m8, fun r2 row2 HF sF pF hr2 rng2 l2 => ?_⟩
    have w1 := w1.but pE sF
    have w2 : RowAt HF m (.ref r2) := ⟨r2, row2, rfl, hr2, rng2, l2⟩
    refine ⟨_, rfl, _, rfl, p, m, rfl, pF, by omega, m8, fun r3 row3 HG sG pG hr3 rng3 l3 => ?_⟩
    have w1 := w1.but pF sG
    have w2 := w2.but pF sG
    have w3 : RowAt HG m (.ref r3) := ⟨r3, row3, rfl, hr3, rng3, l3⟩
    have sDG := (SameBut.of (a := p) g1).trans (sF.trans sG)
    have DG := DD.but pD sDG
    have s3G := s3D.trans sDG
    clear DD g1 sF sG sDG s3D pD pE pF hr2 hr3
    refine ⟨(by show 0 ≤ sizeLine; decide), fun r4 n4 => ?_⟩
    have g4 := same_new n4 (.tup [])
    have w1 := w1.kept g4
    have w2 := w2.kept g4
    have w3 := w3.kept g4
    have w4 : RowAt (upd HG r4 (.tup [])) m (.ref r4) := ⟨r4, [], rfl, upd_same, (fun p hp => by cases hp), by decide⟩
    generalize upd HG r4 (.tup []) = HI at *
    refine ⟨(by show 4 ≤ sizeLine; decide), fun ll nl => ?_⟩
    have g5 := same_new nl (.lst [V.ref r1, V.ref r2, V.ref r3, V.ref r4])
    have hll := upd_same (H := HI) (a := ll) (o := .lst [V.ref r1, V.ref r2, V.ref r3, V.ref r4])
    have g45 := g4.trans g5
    have pJ := pG.kept g45
    have llp : ll ≠ p := by
      obtain ⟨x, y, z, _⟩ := pG.kept g4
      exact (ne_of_none z nl).symm
    have ws : ∀ z ∈ [V.ref r1, V.ref r2, V.ref r3, V.ref r4], RowAt (upd HI ll (.lst [V.ref r1, V.ref r2, V.ref r3, V.ref r4])) m z := fun z hz => by
      simp only [List.mem_cons, List.not_mem_nil, or_false] at hz
      rcases hz with rfl | rfl | rfl | rfl
      · exact w1.kept g5
      · exact w2.kept g5
      · exact w3.kept g5
      · exact w4.kept g5
    have DJ := DG.kept g45
    have s3J := s3G.trans (.of g45)
    clear w1 w2 w3 w4 DG g4 s3G pG g45
    generalize upd HI ll (.lst [V.ref r1, V.ref r2, V.ref r3, V.ref r4]) = HJ at *
    refine ⟨ll, rfl, ⟨_, SqL.of hll⟩, ?_⟩
    generalize [V.ref r1, V.ref r2, V.ref r3, V.ref r4] = rws at *
    refine for_list (xs := rws) (fun i' σ HK => ∃ (x7 x8 x9 : Option V), σ = [some (.ref a), some (.int (0 + (i : Int))), some (.ref p), some (.int (m : Int)), some (.ref t), some (.int (u : Int)), some (.int (v : Int)), x7, x8, x9] ∧ SameBut p HJ HK ∧ PotAt HK p)
      ⟨x7, x8, x9, rfl, SameBut.refl p HJ, pJ⟩ ?_ ?_ ?_
    · rintro i' σ HK _ ⟨x7, x8, x9, rfl, sK, pK⟩
      exact SqL.of (sK _ _ llp hll)
    · rintro i' vv σ HK hvv ⟨x7, x8, x9, rfl, sK, pK⟩
      obtain ⟨r, row, rfl, hrow, rng, l10⟩ := (ws vv (List.mem_of_getElem? hvv)).but pJ sK
      have DK := DJ.but pJ sK
      rw [eL] at rng
      refine ⟨_, rfl, _, rfl, t, r, L, S, T, X, Y, row, rfl, DK, sc', hrow, rng, by omega, fun b1 HL i1 gL => ?_⟩
      refine ⟨_, rfl, _, rfl, t, r, L, S, T, X, Y, row, rfl, DK.kept gL, sc', gL _ _ hrow, rng, by omega, fun b2 HM i2 gM => ?_⟩
      have eb : b2 = b1 := by rw [Bool.eq_iff_iff, i1, i2]
      subst eb
      have gKM := gL.trans gM
      refine ⟨_, rfl, _, _, _, _, rfl, .bl _, rfl, _, rfl, iteF ?_⟩
      refine ⟨_, rfl, _, rfl, rfl, _, rfl, ?_⟩
      rw [show (!decide (V.bl b2 = V.bl b2)) = false by simp]
      refine iteF ?_
      refine ⟨_, rfl, _, rfl, ?_⟩
      cases b2 with
      | false =>
        refine iteF ?_
        refine ⟨_, rfl, _, rfl, _, rfl, p, t, r, L, S, T, X, Y, row, rfl, pK.kept gKM, DK.kept gKM, sc', gKM _ _ hrow, rng, l10, fun HN sN pN => ?_⟩
        exact ⟨_, rfl, iteF ⟨_, _, _, rfl, sK.trans ((SameBut.of gKM).trans sN), pN⟩⟩
      | true =>
        refine iteT ?_
        refine ⟨_, rfl, _, rfl, _, rfl, _, rfl, r, _, rfl, rfl, gKM _ _ hrow, fun pr nr => ?_⟩
        have gr := same_new nr (.tup (row.map vn).reverse)
        have cr : (upd HM pr (.tup (row.map vn).reverse)) pr = some (.tup (row.reverse.map vn)) := by rw [List.map_reverse]; exact upd_same
        have gKR := gKM.trans gr
        refine ⟨t, pr, L, S, T, X, Y, row.reverse, rfl, DK.kept gKR, sc', cr, (fun p hp => rng p (List.mem_reverse.mp hp)), (by rw [List.length_reverse]; omega), fun b3 HN i3 gN => ?_⟩
        obtain ⟨n3, ed⟩ := i2.mp rfl
        have e3 : b3 = false := Bool.eq_false_iff.mpr fun z => rev_not n3 ed (i3.mp z).2
        subst e3
        have gKN := gKR.trans gN
        refine ⟨_, rfl, iteF ?_⟩
        refine ⟨_, rfl, _, rfl, _, rfl, p, t, r, L, S, T, X, Y, row, rfl, pK.kept gKN, DK.kept gKN, sc', gKN _ _ hrow, rng, l10, fun HO' sN pN => ?_⟩
        exact ⟨_, rfl, iteF ⟨_, _, _, rfl, sK.trans ((SameBut.of gKN).trans sN), pN⟩⟩
    · rintro σ HK ⟨x7, x8, x9, rfl, sK, pK⟩
      exact ⟨_, _, _, _, _, _, _, _, _, rfl, keep gA hnp (s3J.trans sK)⟩
  · rintro σ H2 ⟨x1, x2, x3, x4, x5, x6, x7, x8, x9, rfl, g⟩
    exact q _
end
--SPLIT
theorem len_1 {α : Type} {n : Nat} {us : List α} (hn : n = 1) (h : us.length = n) : ∃ x0 : α, us = [x0] := by
  subst hn
  match us, h with
  | [x0], _ => exact ⟨_, rfl⟩
theorem len_2 {α : Type} {n : Nat} {us : List α} (hn : n = 2) (h : us.length = n) : ∃ x0 x1 : α, us = [x0, x1] := by
  subst hn
  match us, h with
  | [x0, x1], _ => exact ⟨_, _, rfl⟩
theorem len_3 {α : Type} {n : Nat} {us : List α} (hn : n = 3) (h : us.length = n) : ∃ x0 x1 x2 : α, us = [x0, x1, x2] := by
  subst hn
  match us, h with
  | [x0, x1, x2], _ => exact ⟨_, _, _, rfl⟩
theorem all_mk {l : PySem.W.OpenLaw} {w : World} {K : PySem.W.Frag} {h : Heap} {mg : Str → Option Value} {fa f1 f2 f3 f4 f5 f6 f7 f8 f9 f10 f11 f12 f13 f14 f15 f16 f17 f18 f19 f20 f21 f22 f23 f24 f25 f26 f27 f28 f29 f30 f31 f32 f33 : Addr}  (X : K.In h) (G : h.Ns mainGlobals mg) (hfa : mg "law" = some (.ref fa))
    {od1 an1 od2 an2 od3 an3 od4 an4 od5 an5 od6 an6 od7 an7 od8 an8 od9 an9 od10 an10 od11 an11 od12 an12 od13 an13 od14 an14 od15 an15 od16 an16 od17 an17 od18 an18 od19 an19 od20 an20 od21 an21 od22 an22 od23 an23 od24 an24 od25 an25 od26 an26 od27 an27 od28 an28 od29 an29 od30 an30 od31 an31 od32 an32 od33 an33 : Option Addr} {sl1 sl2 sl3 sl4 sl5 sl6 sl7 sl8 sl9 sl10 sl11 sl12 sl13 sl14 sl15 sl16 sl17 sl18 sl19 sl20 sl21 sl22 sl23 sl24 sl25 sl26 sl27 sl28 sl29 sl30 sl31 sl32 sl33 : Array (Option Value)} {oc1 kV1 dc1 pm1 cd1 ct1 oc2 kV2 dc2 pm2 cd2 ct2 oc3 kV3 dc3 pm3 cd3 ct3 oc4 kV4 dc4 pm4 cd4 ct4 oc5 kV5 dc5 pm5 cd5 ct5 oc6 kV6 dc6 pm6 cd6 ct6 oc7 kV7 dc7 pm7 cd7 ct7 oc8 kV8 dc8 pm8 cd8 ct8 oc9 kV9 dc9 pm9 cd9 ct9 oc10 kV10 dc10 pm10 cd10 ct10 oc11 kV11 dc11 pm11 cd11 ct11 oc12 kV12 dc12 pm12 cd12 ct12 oc13 kV13 dc13 pm13 cd13 ct13 oc14 kV14 dc14 pm14 cd14 ct14 oc15 kV15 dc15 pm15 cd15 ct15 oc16 kV16 dc16 pm16 cd16 ct16 oc17 kV17 dc17 pm17 cd17 ct17 oc18 kV18 dc18 pm18 cd18 ct18 oc19 kV19 dc19 pm19 cd19 ct19 oc20 kV20 dc20 pm20 cd20 ct20 oc21 kV21 dc21 pm21 cd21 ct21 oc22 kV22 dc22 pm22 cd22 ct22 oc23 kV23 dc23 pm23 cd23 ct23 oc24 kV24 dc24 pm24 cd24 ct24 oc25 kV25 dc25 pm25 cd25 ct25 oc26 kV26 dc26 pm26 cd26 ct26 oc27 kV27 dc27 pm27 cd27 ct27 oc28 kV28 dc28 pm28 cd28 ct28 oc29 kV29 dc29 pm29 cd29 ct29 oc30 kV30 dc30 pm30 cd30 ct30 oc31 kV31 dc31 pm31 cd31 ct31 oc32 kV32 dc32 pm32 cd32 ct32 oc33 kV33 dc33 pm33 cd33 ct33 : Value}
    (a1 : PySem.W.nsIn K mainGlobals "greatest_divisor" = some (some (.ref f1))) (l1 : K.lookup f1 = some ⟨oc1, od1, .func (PySem.W.fnOf "greatest_divisor" "greatest_divisor" (defArgs s_greatest_divisor) (defBody s_greatest_divisor) (defScope s_greatest_divisor) .none kV1 dc1 pm1 an1 cd1 ct1), sl1⟩) (c1 : PySem.W.codeIn K cd1 "greatest_divisor" = true) (k1 : PySem.W.keepIn K (.ref f1) = true)
    (a2 : PySem.W.nsIn K mainGlobals "fraction" = some (some (.ref f2))) (l2 : K.lookup f2 = some ⟨oc2, od2, .func (PySem.W.fnOf "fraction" "fraction" (defArgs s_fraction) (defBody s_fraction) (defScope s_fraction) .none kV2 dc2 pm2 an2 cd2 ct2), sl2⟩) (c2 : PySem.W.codeIn K cd2 "fraction" = true) (k2 : PySem.W.keepIn K (.ref f2) = true)
    (a3 : PySem.W.nsIn K mainGlobals "plus" = some (some (.ref f3))) (l3 : K.lookup f3 = some ⟨oc3, od3, .func (PySem.W.fnOf "plus" "plus" (defArgs s_plus) (defBody s_plus) (defScope s_plus) .none kV3 dc3 pm3 an3 cd3 ct3), sl3⟩) (c3 : PySem.W.codeIn K cd3 "plus" = true) (k3 : PySem.W.keepIn K (.ref f3) = true)
    (a4 : PySem.W.nsIn K mainGlobals "less" = some (some (.ref f4))) (l4 : K.lookup f4 = some ⟨oc4, od4, .func (PySem.W.fnOf "less" "less" (defArgs s_less) (defBody s_less) (defScope s_less) .none kV4 dc4 pm4 an4 cd4 ct4), sl4⟩) (c4 : PySem.W.codeIn K cd4 "less" = true) (k4 : PySem.W.keepIn K (.ref f4) = true)
    (a5 : PySem.W.nsIn K mainGlobals "times" = some (some (.ref f5))) (l5 : K.lookup f5 = some ⟨oc5, od5, .func (PySem.W.fnOf "times" "times" (defArgs s_times) (defBody s_times) (defScope s_times) .none kV5 dc5 pm5 an5 cd5 ct5), sl5⟩) (c5 : PySem.W.codeIn K cd5 "times" = true) (k5 : PySem.W.keepIn K (.ref f5) = true)
    (a6 : PySem.W.nsIn K mainGlobals "sign" = some (some (.ref f6))) (l6 : K.lookup f6 = some ⟨oc6, od6, .func (PySem.W.fnOf "sign" "sign" (defArgs s_sign) (defBody s_sign) (defScope s_sign) .none kV6 dc6 pm6 an6 cd6 ct6), sl6⟩) (c6 : PySem.W.codeIn K cd6 "sign" = true) (k6 : PySem.W.keepIn K (.ref f6) = true)
    (a7 : PySem.W.nsIn K mainGlobals "spread" = some (some (.ref f7))) (l7 : K.lookup f7 = some ⟨oc7, od7, .func (PySem.W.fnOf "spread" "spread" (defArgs s_spread) (defBody s_spread) (defScope s_spread) .none kV7 dc7 pm7 an7 cd7 ct7), sl7⟩) (c7 : PySem.W.codeIn K cd7 "spread" = true) (k7 : PySem.W.keepIn K (.ref f7) = true)
    (a8 : PySem.W.nsIn K mainGlobals "across" = some (some (.ref f8))) (l8 : K.lookup f8 = some ⟨oc8, od8, .func (PySem.W.fnOf "across" "across" (defArgs s_across) (defBody s_across) (defScope s_across) .none kV8 dc8 pm8 an8 cd8 ct8), sl8⟩) (c8 : PySem.W.codeIn K cd8 "across" = true) (k8 : PySem.W.keepIn K (.ref f8) = true)
    (a9 : PySem.W.nsIn K mainGlobals "hand" = some (some (.ref f9))) (l9 : K.lookup f9 = some ⟨oc9, od9, .func (PySem.W.fnOf "hand" "hand" (defArgs s_hand) (defBody s_hand) (defScope s_hand) .none kV9 dc9 pm9 an9 cd9 ct9), sl9⟩) (c9 : PySem.W.codeIn K cd9 "hand" = true) (k9 : PySem.W.keepIn K (.ref f9) = true)
    (a10 : PySem.W.nsIn K mainGlobals "all_at_hand" = some (some (.ref f10))) (l10 : K.lookup f10 = some ⟨oc10, od10, .func (PySem.W.fnOf "all_at_hand" "all_at_hand" (defArgs s_all_at_hand) (defBody s_all_at_hand) (defScope s_all_at_hand) .none kV10 dc10 pm10 an10 cd10 ct10), sl10⟩) (c10 : PySem.W.codeIn K cd10 "all_at_hand" = true) (k10 : PySem.W.keepIn K (.ref f10) = true)
    (a11 : PySem.W.nsIn K mainGlobals "area" = some (some (.ref f11))) (l11 : K.lookup f11 = some ⟨oc11, od11, .func (PySem.W.fnOf "area" "area" (defArgs s_area) (defBody s_area) (defScope s_area) .none kV11 dc11 pm11 an11 cd11 ct11), sl11⟩) (c11 : PySem.W.codeIn K cd11 "area" = true) (k11 : PySem.W.keepIn K (.ref f11) = true)
    (a12 : PySem.W.nsIn K mainGlobals "bends" = some (some (.ref f12))) (l12 : K.lookup f12 = some ⟨oc12, od12, .func (PySem.W.fnOf "bends" "bends" (defArgs s_bends) (defBody s_bends) (defScope s_bends) .none kV12 dc12 pm12 an12 cd12 ct12), sl12⟩) (c12 : PySem.W.codeIn K cd12 "bends" = true) (k12 : PySem.W.keepIn K (.ref f12) = true)
    (a13 : PySem.W.nsIn K mainGlobals "_law_pot" = some (some (.ref f13))) (l13 : K.lookup f13 = some ⟨oc13, od13, .func (PySem.W.fnOf "_law_pot" "_law_pot" (defArgs s_law_pot) (defBody s_law_pot) (defScope s_law_pot) .none kV13 dc13 pm13 an13 cd13 ct13), sl13⟩) (c13 : PySem.W.codeIn K cd13 "_law_pot" = true) (k13 : PySem.W.keepIn K (.ref f13) = true)
    (a14 : PySem.W.nsIn K mainGlobals "_law_digit" = some (some (.ref f14))) (l14 : K.lookup f14 = some ⟨oc14, od14, .func (PySem.W.fnOf "_law_digit" "_law_digit" (defArgs s_law_digit) (defBody s_law_digit) (defScope s_law_digit) .none kV14 dc14 pm14 an14 cd14 ct14), sl14⟩) (c14 : PySem.W.codeIn K cd14 "_law_digit" = true) (k14 : PySem.W.keepIn K (.ref f14) = true)
    (a15 : PySem.W.nsIn K mainGlobals "_law_low" = some (some (.ref f15))) (l15 : K.lookup f15 = some ⟨oc15, od15, .func (PySem.W.fnOf "_law_low" "_law_low" (defArgs s_law_low) (defBody s_law_low) (defScope s_law_low) .none kV15 dc15 pm15 an15 cd15 ct15), sl15⟩) (c15 : PySem.W.codeIn K cd15 "_law_low" = true) (k15 : PySem.W.keepIn K (.ref f15) = true)
    (a16 : PySem.W.nsIn K mainGlobals "_law_plus" = some (some (.ref f16))) (l16 : K.lookup f16 = some ⟨oc16, od16, .func (PySem.W.fnOf "_law_plus" "_law_plus" (defArgs s_law_plus) (defBody s_law_plus) (defScope s_law_plus) .none kV16 dc16 pm16 an16 cd16 ct16), sl16⟩) (c16 : PySem.W.codeIn K cd16 "_law_plus" = true) (k16 : PySem.W.keepIn K (.ref f16) = true)
    (a17 : PySem.W.nsIn K mainGlobals "_law_less" = some (some (.ref f17))) (l17 : K.lookup f17 = some ⟨oc17, od17, .func (PySem.W.fnOf "_law_less" "_law_less" (defArgs s_law_less) (defBody s_law_less) (defScope s_law_less) .none kV17 dc17 pm17 an17 cd17 ct17), sl17⟩) (c17 : PySem.W.codeIn K cd17 "_law_less" = true) (k17 : PySem.W.keepIn K (.ref f17) = true)
    (a18 : PySem.W.nsIn K mainGlobals "_law_times" = some (some (.ref f18))) (l18 : K.lookup f18 = some ⟨oc18, od18, .func (PySem.W.fnOf "_law_times" "_law_times" (defArgs s_law_times) (defBody s_law_times) (defScope s_law_times) .none kV18 dc18 pm18 an18 cd18 ct18), sl18⟩) (c18 : PySem.W.codeIn K cd18 "_law_times" = true) (k18 : PySem.W.keepIn K (.ref f18) = true)
    (a19 : PySem.W.nsIn K mainGlobals "_law_sign" = some (some (.ref f19))) (l19 : K.lookup f19 = some ⟨oc19, od19, .func (PySem.W.fnOf "_law_sign" "_law_sign" (defArgs s_law_sign) (defBody s_law_sign) (defScope s_law_sign) .none kV19 dc19 pm19 an19 cd19 ct19), sl19⟩) (c19 : PySem.W.codeIn K cd19 "_law_sign" = true) (k19 : PySem.W.keepIn K (.ref f19) = true)
    (a20 : PySem.W.nsIn K mainGlobals "_law_number" = some (some (.ref f20))) (l20 : K.lookup f20 = some ⟨oc20, od20, .func (PySem.W.fnOf "_law_number" "_law_number" (defArgs s_law_number) (defBody s_law_number) (defScope s_law_number) .none kV20 dc20 pm20 an20 cd20 ct20), sl20⟩) (c20 : PySem.W.codeIn K cd20 "_law_number" = true) (k20 : PySem.W.keepIn K (.ref f20) = true)
    (a21 : PySem.W.nsIn K mainGlobals "_law_between" = some (some (.ref f21))) (l21 : K.lookup f21 = some ⟨oc21, od21, .func (PySem.W.fnOf "_law_between" "_law_between" (defArgs s_law_between) (defBody s_law_between) (defScope s_law_between) .none kV21 dc21 pm21 an21 cd21 ct21), sl21⟩) (c21 : PySem.W.codeIn K cd21 "_law_between" = true) (k21 : PySem.W.keepIn K (.ref f21) = true)
    (a22 : PySem.W.nsIn K mainGlobals "_law_point" = some (some (.ref f22))) (l22 : K.lookup f22 = some ⟨oc22, od22, .func (PySem.W.fnOf "_law_point" "_law_point" (defArgs s_law_point) (defBody s_law_point) (defScope s_law_point) .none kV22 dc22 pm22 an22 cd22 ct22), sl22⟩) (c22 : PySem.W.codeIn K cd22 "_law_point" = true) (k22 : PySem.W.keepIn K (.ref f22) = true)
    (a23 : PySem.W.nsIn K mainGlobals "_law_points" = some (some (.ref f23))) (l23 : K.lookup f23 = some ⟨oc23, od23, .func (PySem.W.fnOf "_law_points" "_law_points" (defArgs s_law_points) (defBody s_law_points) (defScope s_law_points) .none kV23 dc23 pm23 an23 cd23 ct23), sl23⟩) (c23 : PySem.W.codeIn K cd23 "_law_points" = true) (k23 : PySem.W.keepIn K (.ref f23) = true)
    (a24 : PySem.W.nsIn K mainGlobals "_law_apart" = some (some (.ref f24))) (l24 : K.lookup f24 = some ⟨oc24, od24, .func (PySem.W.fnOf "_law_apart" "_law_apart" (defArgs s_law_apart) (defBody s_law_apart) (defScope s_law_apart) .none kV24 dc24 pm24 an24 cd24 ct24), sl24⟩) (c24 : PySem.W.codeIn K cd24 "_law_apart" = true) (k24 : PySem.W.keepIn K (.ref f24) = true)
    (a25 : PySem.W.nsIn K mainGlobals "_law_hand" = some (some (.ref f25))) (l25 : K.lookup f25 = some ⟨oc25, od25, .func (PySem.W.fnOf "_law_hand" "_law_hand" (defArgs s_law_hand) (defBody s_law_hand) (defScope s_law_hand) .none kV25 dc25 pm25 an25 cd25 ct25), sl25⟩) (c25 : PySem.W.codeIn K cd25 "_law_hand" = true) (k25 : PySem.W.keepIn K (.ref f25) = true)
    (a26 : PySem.W.nsIn K mainGlobals "_law_area" = some (some (.ref f26))) (l26 : K.lookup f26 = some ⟨oc26, od26, .func (PySem.W.fnOf "_law_area" "_law_area" (defArgs s_law_area) (defBody s_law_area) (defScope s_law_area) .none kV26 dc26 pm26 an26 cd26 ct26), sl26⟩) (c26 : PySem.W.codeIn K cd26 "_law_area" = true) (k26 : PySem.W.keepIn K (.ref f26) = true)
    (a27 : PySem.W.nsIn K mainGlobals "_law_bow" = some (some (.ref f27))) (l27 : K.lookup f27 = some ⟨oc27, od27, .func (PySem.W.fnOf "_law_bow" "_law_bow" (defArgs s_law_bow) (defBody s_law_bow) (defScope s_law_bow) .none kV27 dc27 pm27 an27 cd27 ct27), sl27⟩) (c27 : PySem.W.codeIn K cd27 "_law_bow" = true) (k27 : PySem.W.keepIn K (.ref f27) = true)
    (a28 : PySem.W.nsIn K mainGlobals "_law_row" = some (some (.ref f28))) (l28 : K.lookup f28 = some ⟨oc28, od28, .func (PySem.W.fnOf "_law_row" "_law_row" (defArgs s_law_row) (defBody s_law_row) (defScope s_law_row) .none kV28 dc28 pm28 an28 cd28 ct28), sl28⟩) (c28 : PySem.W.codeIn K cd28 "_law_row" = true) (k28 : PySem.W.keepIn K (.ref f28) = true)
    (a29 : PySem.W.nsIn K mainGlobals "_law_unlike" = some (some (.ref f29))) (l29 : K.lookup f29 = some ⟨oc29, od29, .func (PySem.W.fnOf "_law_unlike" "_law_unlike" (defArgs s_law_unlike) (defBody s_law_unlike) (defScope s_law_unlike) .none kV29 dc29 pm29 an29 cd29 ct29), sl29⟩) (c29 : PySem.W.codeIn K cd29 "_law_unlike" = true) (k29 : PySem.W.keepIn K (.ref f29) = true)
    (a30 : PySem.W.nsIn K mainGlobals "_law_is_fraction" = some (some (.ref f30))) (l30 : K.lookup f30 = some ⟨oc30, od30, .func (PySem.W.fnOf "_law_is_fraction" "_law_is_fraction" (defArgs s_law_is_fraction) (defBody s_law_is_fraction) (defScope s_law_is_fraction) .none kV30 dc30 pm30 an30 cd30 ct30), sl30⟩) (c30 : PySem.W.codeIn K cd30 "_law_is_fraction" = true) (k30 : PySem.W.keepIn K (.ref f30) = true)
    (a31 : PySem.W.nsIn K mainGlobals "_law_area_right" = some (some (.ref f31))) (l31 : K.lookup f31 = some ⟨oc31, od31, .func (PySem.W.fnOf "_law_area_right" "_law_area_right" (defArgs s_law_area_right) (defBody s_law_area_right) (defScope s_law_area_right) .none kV31 dc31 pm31 an31 cd31 ct31), sl31⟩) (c31 : PySem.W.codeIn K cd31 "_law_area_right" = true) (k31 : PySem.W.keepIn K (.ref f31) = true)
    (a32 : PySem.W.nsIn K mainGlobals "_law_bends" = some (some (.ref f32))) (l32 : K.lookup f32 = some ⟨oc32, od32, .func (PySem.W.fnOf "_law_bends" "_law_bends" (defArgs s_law_bends) (defBody s_law_bends) (defScope s_law_bends) .none kV32 dc32 pm32 an32 cd32 ct32), sl32⟩) (c32 : PySem.W.codeIn K cd32 "_law_bends" = true) (k32 : PySem.W.keepIn K (.ref f32) = true)
    (a33 : PySem.W.nsIn K mainGlobals "law" = some (some (.ref f33))) (l33 : K.lookup f33 = some ⟨oc33, od33, .func (PySem.W.fnOf "law" "law" (defArgs s_law) (defBody s_law) (defScope s_law) .none kV33 dc33 pm33 an33 cd33 ct33), sl33⟩) (c33 : PySem.W.codeIn K cd33 "law" = true) (k33 : PySem.W.keepIn K (.ref f33) = true)
    (y1 : PySem.W.nsIn K mainGlobals "abs" = some none)
    (y2 : PySem.W.nsIn K mainGlobals "len" = some none)
    (y3 : PySem.W.nsIn K mainGlobals "range" = some none)
    (y4 : PySem.W.nsIn K mainGlobals "all" = some none)
    (y5 : PySem.W.nsIn K mainGlobals "zip" = some none)
    (y6 : PySem.W.nsIn K mainGlobals "max" = some none)
    (y7 : PySem.W.nsIn K mainGlobals "divmod" = some none)
    (y8 : PySem.W.nsIn K mainGlobals "int" = some none)
    (y9 : PySem.W.nsIn K mainGlobals "tuple" = some none)
    (y10 : PySem.W.nsIn K mainGlobals "list" = some none)
    (y11 : PySem.W.nsIn K mainGlobals "isinstance" = some none)
    (y12 : PySem.W.nsIn K mainGlobals "bool" = some none)
    (y13 : PySem.W.nsIn K mainGlobals "min" = some none)
    : ∃ fd : FuncData, (∀ (s : Shared) (v : Value), BindsTo s fd ⟨[v], []⟩ [("_law_script", v)]) ∧ ∀ base : Heap, K.In base → base.Ns mainGlobals mg → FnOk l.prog w K mg base CX0 7 fa fd ["_law_script"] (spLaw K) := by
  have e := hfa.symm.trans (PySem.W.mg_of X G a33)
  cases e
  have z_abs := PySem.W.mg_none_of X G y1
  have z_len := PySem.W.mg_none_of X G y2
  have z_range := PySem.W.mg_none_of X G y3
  have z_all := PySem.W.mg_none_of X G y4
  have z_zip := PySem.W.mg_none_of X G y5
  have z_max := PySem.W.mg_none_of X G y6
  have z_divmod := PySem.W.mg_none_of X G y7
  have z_int := PySem.W.mg_none_of X G y8
  have z_tuple := PySem.W.mg_none_of X G y9
  have z_list := PySem.W.mg_none_of X G y10
  have z_isinstance := PySem.W.mg_none_of X G y11
  have z_bool := PySem.W.mg_none_of X G y12
  have z_min := PySem.W.mg_none_of X G y13
  have F1 := fun_mk (st := s_greatest_divisor) l1 c1 k1
  have F2 := fun_mk (st := s_fraction) l2 c2 k2
  have F3 := fun_mk (st := s_plus) l3 c3 k3
  have F4 := fun_mk (st := s_less) l4 c4 k4
  have F5 := fun_mk (st := s_times) l5 c5 k5
  have F6 := fun_mk (st := s_sign) l6 c6 k6
  have F7 := fun_mk (st := s_spread) l7 c7 k7
  have F8 := fun_mk (st := s_across) l8 c8 k8
  have F9 := fun_mk (st := s_hand) l9 c9 k9
  have F10 := fun_mk (st := s_all_at_hand) l10 c10 k10
  have F11 := fun_mk (st := s_area) l11 c11 k11
  have F12 := fun_mk (st := s_bends) l12 c12 k12
  have F13 := fun_mk (st := s_law_pot) l13 c13 k13
  have F14 := fun_mk (st := s_law_digit) l14 c14 k14
  have F15 := fun_mk (st := s_law_low) l15 c15 k15
  have F16 := fun_mk (st := s_law_plus) l16 c16 k16
  have F17 := fun_mk (st := s_law_less) l17 c17 k17
  have F18 := fun_mk (st := s_law_times) l18 c18 k18
  have F19 := fun_mk (st := s_law_sign) l19 c19 k19
  have F20 := fun_mk (st := s_law_number) l20 c20 k20
  have F21 := fun_mk (st := s_law_between) l21 c21 k21
  have F22 := fun_mk (st := s_law_point) l22 c22 k22
  have F23 := fun_mk (st := s_law_points) l23 c23 k23
  have F24 := fun_mk (st := s_law_apart) l24 c24 k24
  have F25 := fun_mk (st := s_law_hand) l25 c25 k25
  have F26 := fun_mk (st := s_law_area) l26 c26 k26
  have F27 := fun_mk (st := s_law_bow) l27 c27 k27
  have F28 := fun_mk (st := s_law_row) l28 c28 k28
  have F29 := fun_mk (st := s_law_unlike) l29 c29 k29
  have F30 := fun_mk (st := s_law_is_fraction) l30 c30 k30
  have F31 := fun_mk (st := s_law_area_right) l31 c31 k31
  have F32 := fun_mk (st := s_law_bends) l32 c32 k32
  have F33 := fun_mk (st := s_law) l33 c33 k33
  have b1 := F1.binds (ps := ["one", "other"]) fun _ _ _ _ _ _ us hl => by obtain ⟨_, _, rfl⟩ := len_2 (n := 2) rfl hl; rfl
  have b2 := F2.binds (ps := ["n", "d"]) fun _ _ _ _ _ _ us hl => by obtain ⟨_, _, rfl⟩ := len_2 (n := 2) rfl hl; rfl
  have b3 := F3.binds (ps := ["one", "other"]) fun _ _ _ _ _ _ us hl => by obtain ⟨_, _, rfl⟩ := len_2 (n := 2) rfl hl; rfl
  have b4 := F4.binds (ps := ["one", "other"]) fun _ _ _ _ _ _ us hl => by obtain ⟨_, _, rfl⟩ := len_2 (n := 2) rfl hl; rfl
  have b5 := F5.binds (ps := ["one", "other"]) fun _ _ _ _ _ _ us hl => by obtain ⟨_, _, rfl⟩ := len_2 (n := 2) rfl hl; rfl
  have b6 := F6.binds (ps := ["one"]) fun _ _ _ _ _ _ us hl => by obtain ⟨_, rfl⟩ := len_1 (n := 1) rfl hl; rfl
  have b7 := F7.binds (ps := ["point"]) fun _ _ _ _ _ _ us hl => by obtain ⟨_, rfl⟩ := len_1 (n := 1) rfl hl; rfl
  have b8 := F8.binds (ps := ["one", "other"]) fun _ _ _ _ _ _ us hl => by obtain ⟨_, _, rfl⟩ := len_2 (n := 2) rfl hl; rfl
  have b9 := F9.binds (ps := ["p", "q", "r"]) fun _ _ _ _ _ _ us hl => by obtain ⟨_, _, _, rfl⟩ := len_3 (n := 3) rfl hl; rfl
  have b10 := F10.binds (ps := ["points", "which"]) fun _ _ _ _ _ _ us hl => by obtain ⟨_, _, rfl⟩ := len_2 (n := 2) rfl hl; rfl
  have b11 := F11.binds (ps := ["drawing", "row"]) fun _ _ _ _ _ _ us hl => by obtain ⟨_, _, rfl⟩ := len_2 (n := 2) rfl hl; rfl
  have b12 := F12.binds (ps := ["drawing", "row"]) fun _ _ _ _ _ _ us hl => by obtain ⟨_, _, rfl⟩ := len_2 (n := 2) rfl hl; rfl
  have b13 := F13.binds (ps := ["_law_script", "_law_k"]) fun _ _ _ _ _ _ us hl => by obtain ⟨_, _, rfl⟩ := len_2 (n := 2) rfl hl; rfl
  have b14 := F14.binds (ps := ["_law_pot_here", "_law_many"]) fun _ _ _ _ _ _ us hl => by obtain ⟨_, _, rfl⟩ := len_2 (n := 2) rfl hl; rfl
  have b15 := F15.binds (ps := ["_law_n", "_law_d"]) fun _ _ _ _ _ _ us hl => by obtain ⟨_, _, rfl⟩ := len_2 (n := 2) rfl hl; rfl
  have b16 := F16.binds (ps := ["_law_one", "_law_other"]) fun _ _ _ _ _ _ us hl => by obtain ⟨_, _, rfl⟩ := len_2 (n := 2) rfl hl; rfl
  have b17 := F17.binds (ps := ["_law_one", "_law_other"]) fun _ _ _ _ _ _ us hl => by obtain ⟨_, _, rfl⟩ := len_2 (n := 2) rfl hl; rfl
  have b18 := F18.binds (ps := ["_law_one", "_law_other"]) fun _ _ _ _ _ _ us hl => by obtain ⟨_, _, rfl⟩ := len_2 (n := 2) rfl hl; rfl
  have b19 := F19.binds (ps := ["_law_one"]) fun _ _ _ _ _ _ us hl => by obtain ⟨_, rfl⟩ := len_1 (n := 1) rfl hl; rfl
  have b20 := F20.binds (ps := ["_law_pot_here", "_law_mode"]) fun _ _ _ _ _ _ us hl => by obtain ⟨_, _, rfl⟩ := len_2 (n := 2) rfl hl; rfl
  have b21 := F21.binds (ps := ["_law_one", "_law_other", "_law_part"]) fun _ _ _ _ _ _ us hl => by obtain ⟨_, _, _, rfl⟩ := len_3 (n := 3) rfl hl; rfl
  have b22 := F22.binds (ps := ["_law_pot_here", "_law_points_here", "_law_mode"]) fun _ _ _ _ _ _ us hl => by obtain ⟨_, _, _, rfl⟩ := len_3 (n := 3) rfl hl; rfl
  have b23 := F23.binds (ps := ["_law_pot_here", "_law_many"]) fun _ _ _ _ _ _ us hl => by obtain ⟨_, _, rfl⟩ := len_2 (n := 2) rfl hl; rfl
  have b24 := F24.binds (ps := ["_law_one", "_law_other"]) fun _ _ _ _ _ _ us hl => by obtain ⟨_, _, rfl⟩ := len_2 (n := 2) rfl hl; rfl
  have b25 := F25.binds (ps := ["_law_p", "_law_q", "_law_r"]) fun _ _ _ _ _ _ us hl => by obtain ⟨_, _, _, rfl⟩ := len_3 (n := 3) rfl hl; rfl
  have b26 := F26.binds (ps := ["_law_drawing", "_law_row_here"]) fun _ _ _ _ _ _ us hl => by obtain ⟨_, _, rfl⟩ := len_2 (n := 2) rfl hl; rfl
  have b27 := F27.binds (ps := ["_law_pot_here", "_law_many"]) fun _ _ _ _ _ _ us hl => by obtain ⟨_, _, rfl⟩ := len_2 (n := 2) rfl hl; rfl
  have b28 := F28.binds (ps := ["_law_pot_here", "_law_many"]) fun _ _ _ _ _ _ us hl => by obtain ⟨_, _, rfl⟩ := len_2 (n := 2) rfl hl; rfl
  have b29 := F29.binds (ps := ["_law_pot_here", "_law_many"]) fun _ _ _ _ _ _ us hl => by obtain ⟨_, _, rfl⟩ := len_2 (n := 2) rfl hl; rfl
  have b30 := F30.binds (ps := ["_law_one"]) fun _ _ _ _ _ _ us hl => by obtain ⟨_, rfl⟩ := len_1 (n := 1) rfl hl; rfl
  have b31 := F31.binds (ps := ["_law_pot_here", "_law_drawing", "_law_row_here"]) fun _ _ _ _ _ _ us hl => by obtain ⟨_, _, _, rfl⟩ := len_3 (n := 3) rfl hl; rfl
  have b32 := F32.binds (ps := ["_law_drawing", "_law_row_here"]) fun _ _ _ _ _ _ us hl => by obtain ⟨_, _, rfl⟩ := len_2 (n := 2) rfl hl; rfl
  refine ⟨PySem.W.fnOf "law" "law" (defArgs s_law) (defBody s_law) (defScope s_law) .none kV33 dc33 pm33 an33 cd33 ct33, fun s v => .of_eq rfl, fun base _ _ => ?_⟩
  have h_greatest_divisor : Own.Has l.prog w K mg base "greatest_divisor" ["one", "other"] 1 (spGcd) := ⟨_, _, ok_greatest_divisor (P := l.prog) (w := w) (base := base) (mg := mg) F1 z_abs, b1, k1, PySem.W.mg_of X G a1⟩
  have h_fraction : Own.Has l.prog w K mg base "fraction" ["n", "d"] 2 (spFr) := ⟨_, _, ok_fraction (P := l.prog) (w := w) (base := base) (mg := mg) F2 h_greatest_divisor, b2, k2, PySem.W.mg_of X G a2⟩
  have h_plus : Own.Has l.prog w K mg base "plus" ["one", "other"] 3 (spBin (fun a0 a1 b0 b1 => a0 * b1 + b0 * a1) (fun _ a1 _ b1 => a1 * b1)) := ⟨_, _, ok_plus (P := l.prog) (w := w) (base := base) (mg := mg) F3 h_fraction, b3, k3, PySem.W.mg_of X G a3⟩
  have h_less : Own.Has l.prog w K mg base "less" ["one", "other"] 3 (spBin (fun a0 a1 b0 b1 => a0 * b1 - b0 * a1) (fun _ a1 _ b1 => a1 * b1)) := ⟨_, _, ok_less (P := l.prog) (w := w) (base := base) (mg := mg) F4 h_fraction, b4, k4, PySem.W.mg_of X G a4⟩
  have h_times : Own.Has l.prog w K mg base "times" ["one", "other"] 3 (spBin (fun a0 a1 b0 b1 => a0 * b0) (fun _ a1 _ b1 => a1 * b1)) := ⟨_, _, ok_times (P := l.prog) (w := w) (base := base) (mg := mg) F5 h_fraction, b5, k5, PySem.W.mg_of X G a5⟩
  have h_sign : Own.Has l.prog w K mg base "sign" ["one"] 1 (spSign) := ⟨_, _, ok_sign (P := l.prog) (w := w) (base := base) (mg := mg) F6, b6, k6, PySem.W.mg_of X G a6⟩
  have h_spread : Own.Has l.prog w K mg base "spread" ["point"] 1 (spSpread) := ⟨_, _, ok_spread (P := l.prog) (w := w) (base := base) (mg := mg) F7, b7, k7, PySem.W.mg_of X G a7⟩
  have h_across : Own.Has l.prog w K mg base "across" ["one", "other"] 1 (spAcross) := ⟨_, _, ok_across (P := l.prog) (w := w) (base := base) (mg := mg) F8, b8, k8, PySem.W.mg_of X G a8⟩
  have h_hand : Own.Has l.prog w K mg base "hand" ["p", "q", "r"] 2 (spHand det) := ⟨_, _, ok_hand (P := l.prog) (w := w) (base := base) (mg := mg) F9 h_across h_spread h_sign, b9, k9, PySem.W.mg_of X G a9⟩
  have h_all_at_hand : Own.Has l.prog w K mg base "all_at_hand" ["points", "which"] 5 (spAll) := ⟨_, _, ok_all_at_hand (P := l.prog) (w := w) (base := base) (mg := mg) F10 h_hand z_len z_range z_all, b10, k10, PySem.W.mg_of X G a10⟩
  have h_area : Own.Has l.prog w K mg base "area" ["drawing", "row"] 4 (spArea) := ⟨_, _, ok_area (P := l.prog) (w := w) (base := base) (mg := mg) F11 h_plus h_less h_times z_zip, b11, k11, PySem.W.mg_of X G a11⟩
  have h_bends : Own.Has l.prog w K mg base "bends" ["drawing", "row"] 6 (spBends) := ⟨_, _, ok_bends (P := l.prog) (w := w) (base := base) (mg := mg) F12 h_all_at_hand z_len, b12, k12, PySem.W.mg_of X G a12⟩
  have h_law_pot : Own.Has l.prog w K mg base "_law_pot" ["_law_script", "_law_k"] 1 (spPot K) := ⟨_, _, ok_law_pot (P := l.prog) (w := w) (base := base) (mg := mg) F13 z_abs z_max, b13, k13, PySem.W.mg_of X G a13⟩
  have h_law_digit : Own.Has l.prog w K mg base "_law_digit" ["_law_pot_here", "_law_many"] 1 (spDigit) := ⟨_, _, ok_law_digit (P := l.prog) (w := w) (base := base) (mg := mg) F14 z_divmod, b14, k14, PySem.W.mg_of X G a14⟩
  have h_law_low : Own.Has l.prog w K mg base "_law_low" ["_law_n", "_law_d"] 1 (spFr) := ⟨_, _, ok_law_low (P := l.prog) (w := w) (base := base) (mg := mg) F15 z_abs, b15, k15, PySem.W.mg_of X G a15⟩
  have h_law_plus : Own.Has l.prog w K mg base "_law_plus" ["_law_one", "_law_other"] 2 (spBin (fun a0 a1 b0 b1 => a0 * b1 + b0 * a1) (fun _ a1 _ b1 => a1 * b1)) := ⟨_, _, ok_law_plus (P := l.prog) (w := w) (base := base) (mg := mg) F16 h_law_low, b16, k16, PySem.W.mg_of X G a16⟩
  have h_law_less : Own.Has l.prog w K mg base "_law_less" ["_law_one", "_law_other"] 2 (spBin (fun a0 a1 b0 b1 => a0 * b1 - b0 * a1) (fun _ a1 _ b1 => a1 * b1)) := ⟨_, _, ok_law_less (P := l.prog) (w := w) (base := base) (mg := mg) F17 h_law_low, b17, k17, PySem.W.mg_of X G a17⟩
  have h_law_times : Own.Has l.prog w K mg base "_law_times" ["_law_one", "_law_other"] 2 (spBin (fun a0 a1 b0 b1 => a0 * b0) (fun _ a1 _ b1 => a1 * b1)) := ⟨_, _, ok_law_times (P := l.prog) (w := w) (base := base) (mg := mg) F18 h_law_low, b18, k18, PySem.W.mg_of X G a18⟩
  have h_law_sign : Own.Has l.prog w K mg base "_law_sign" ["_law_one"] 1 (spSign) := ⟨_, _, ok_law_sign (P := l.prog) (w := w) (base := base) (mg := mg) F19 z_int, b19, k19, PySem.W.mg_of X G a19⟩
  have h_law_number : Own.Has l.prog w K mg base "_law_number" ["_law_pot_here", "_law_mode"] 2 (spNumber) := ⟨_, _, ok_law_number (P := l.prog) (w := w) (base := base) (mg := mg) F20 h_law_low h_law_digit, b20, k20, PySem.W.mg_of X G a20⟩
  have h_law_between : Own.Has l.prog w K mg base "_law_between" ["_law_one", "_law_other", "_law_part"] 3 (spBetween) := ⟨_, _, ok_law_between (P := l.prog) (w := w) (base := base) (mg := mg) F21 h_law_plus h_law_times h_law_less, b21, k21, PySem.W.mg_of X G a21⟩
  have h_law_point : Own.Has l.prog w K mg base "_law_point" ["_law_pot_here", "_law_points_here", "_law_mode"] 4 (spPoint) := ⟨_, _, ok_law_point (P := l.prog) (w := w) (base := base) (mg := mg) F22 h_law_digit h_law_between h_law_number z_len, b22, k22, PySem.W.mg_of X G a22⟩
  have h_law_points : Own.Has l.prog w K mg base "_law_points" ["_law_pot_here", "_law_many"] 5 (spPoints) := ⟨_, _, ok_law_points (P := l.prog) (w := w) (base := base) (mg := mg) F23 h_law_digit h_law_point h_law_plus z_range z_tuple, b23, k23, PySem.W.mg_of X G a23⟩
  have h_law_apart : Own.Has l.prog w K mg base "_law_apart" ["_law_one", "_law_other"] 1 (spApart) := ⟨_, _, ok_law_apart (P := l.prog) (w := w) (base := base) (mg := mg) F24, b24, k24, PySem.W.mg_of X G a24⟩
  have h_law_hand : Own.Has l.prog w K mg base "_law_hand" ["_law_p", "_law_q", "_law_r"] 2 (spHandL) := ⟨_, _, ok_law_hand (P := l.prog) (w := w) (base := base) (mg := mg) F25 h_law_apart h_law_sign, b25, k25, PySem.W.mg_of X G a25⟩
  have h_law_area : Own.Has l.prog w K mg base "_law_area" ["_law_drawing", "_law_row_here"] 3 (spLArea) := ⟨_, _, ok_law_area (P := l.prog) (w := w) (base := base) (mg := mg) F26 h_law_times h_law_less h_law_plus z_zip, b26, k26, PySem.W.mg_of X G a26⟩
  have h_law_bow : Own.Has l.prog w K mg base "_law_bow" ["_law_pot_here", "_law_many"] 5 (spBow) := ⟨_, _, ok_law_bow (P := l.prog) (w := w) (base := base) (mg := mg) F27 h_law_digit h_law_low h_law_number z_range z_tuple, b27, k27, PySem.W.mg_of X G a27⟩
  have h_law_row : Own.Has l.prog w K mg base "_law_row" ["_law_pot_here", "_law_many"] 3 (spRow) := ⟨_, _, ok_law_row (P := l.prog) (w := w) (base := base) (mg := mg) F28 h_law_digit z_tuple z_range, b28, k28, PySem.W.mg_of X G a28⟩
  have h_law_unlike : Own.Has l.prog w K mg base "_law_unlike" ["_law_pot_here", "_law_many"] 3 (spRow) := ⟨_, _, ok_law_unlike (P := l.prog) (w := w) (base := base) (mg := mg) F29 h_law_digit z_list z_range z_tuple z_len, b29, k29, PySem.W.mg_of X G a29⟩
  have h_law_is_fraction : Own.Has l.prog w K mg base "_law_is_fraction" ["_law_one"] 2 (spIsFr) := ⟨_, _, ok_law_is_fraction (P := l.prog) (w := w) (base := base) (mg := mg) F30 h_law_low z_isinstance z_bool z_len z_tuple z_int, b30, k30, PySem.W.mg_of X G a30⟩
  have h_law_area_right : Own.Has l.prog w K mg base "_law_area_right" ["_law_pot_here", "_law_drawing", "_law_row_here"] 5 (spRight) := ⟨_, _, ok_law_area_right (P := l.prog) (w := w) (base := base) (mg := mg) F31 h_law_area h_law_digit h_area h_law_is_fraction h_law_plus z_len, b31, k31, PySem.W.mg_of X G a31⟩
  have h_law_bends : Own.Has l.prog w K mg base "_law_bends" ["_law_drawing", "_law_row_here"] 3 (spBends) := ⟨_, _, ok_law_bends (P := l.prog) (w := w) (base := base) (mg := mg) F32 h_law_hand z_range z_len, b32, k32, PySem.W.mg_of X G a32⟩
  exact ok_law (P := l.prog) (w := w) (base := base) (mg := mg) F33 h_law_pot h_law_digit h_law_bow h_law_points h_law_area_right h_law_row h_law_unlike h_law_bends h_bends z_range z_max z_min z_len z_tuple z_isinstance z_bool
theorem walk {l : PySem.W.OpenLaw} {q : Program} {loose : List Str} {XP : (Str → Option Value) → Heap → Prop} {YP : World → Heap → Prop} {d : DefRec} {K : Params → PySem.W.Frag} (hn : l.most = some 63) (hdf : d.params.defaults = [])
    (hY : ∀ (w : World) (h : Heap), YP w h → (K w.params).In h)
    (F : ∀ (w : World) (mg : Str → Option Value) (fa : Addr) (h : Heap), (K w.params).In h → h.Ns mainGlobals mg → mg d.name = some (.ref fa) →
      ∃ fd : FuncData, (∀ (s : Shared) (u : Value), BindsTo s fd ⟨[u], []⟩ [("_law_script", u)]) ∧ ∀ base : Heap, (K w.params).In base → base.Ns mainGlobals mg → FnOk l.prog w (K w.params) mg base CX0 7 fa fd ["_law_script"] (spLaw (K w.params))) :
    PySem.W.WalkO q loose XP YP l.row.toRowW d [] (fun f vs => PySem.call f vs) :=
  L2.walk_of (n := 63) (k := 7) (x := "_law_script") (CX := fun _ => CX0) (sp := fun w => spLaw (K w.params)) hn (by decide) hdf ⟨rfl, by decide, by decide, rfl⟩ hY F (fun _ _ a ns hl _ hS => ⟨a, ns, rfl, hS, hl, fun _ => rfl⟩) fun _ _ _ _ _ z => z
end Prf
def PySem.W.Fast.tw14986085882494042695 : Nat := 0
def PySem.W.Fast.tw4314835217260948776 : Nat := 0
def PySem.W.Fast.tw10354484720327383469 : Nat := 0
def PySem.W.Fast.tw16186106473875176877 : Nat := 0
def PySem.W.Fast.tw11594478545251287662 : Nat := 0
def PySem.W.Fast.tw7471962306519038224 : Nat := 0
def PySem.W.Fast.tw14610419430977096114 : Nat := 0
def PySem.W.Fast.tw10070460528380965075 : Nat := 0
open PySem PySem.W PyProof.Rows
set_option maxRecDepth 100000 in
set_option maxHeartbeats 0 in
theorem PySem.Challenge.cw_restdraw_k45_areas_and_bends_holds : PySem.Challenge.rw_restdraw_k45_areas_and_bends.Holds := by
  w_on; o_law; k_head; (case hw => w_witness2)
  k_fill
  refine Prf.walk (l := PySem.Challenge.rw_restdraw_k45_areas_and_bends) rfl rfl (fun w h Y => PySem.W.kIn_of Y) ?F
  case F =>
    intro w mg fa h KX G hmg
    refine' Prf.all_mk KX G hmg ?a1 ?l1 ?c1 ?k1 ?a2 ?l2 ?c2 ?k2 ?a3 ?l3 ?c3 ?k3 ?a4 ?l4 ?c4 ?k4 ?a5 ?l5 ?c5 ?k5 ?a6 ?l6 ?c6 ?k6 ?a7 ?l7 ?c7 ?k7 ?a8 ?l8 ?c8 ?k8 ?a9 ?l9 ?c9 ?k9 ?a10 ?l10 ?c10 ?k10 ?a11 ?l11 ?c11 ?k11 ?a12 ?l12 ?c12 ?k12 ?a13 ?l13 ?c13 ?k13 ?a14 ?l14 ?c14 ?k14 ?a15 ?l15 ?c15 ?k15 ?a16 ?l16 ?c16 ?k16 ?a17 ?l17 ?c17 ?k17 ?a18 ?l18 ?c18 ?k18 ?a19 ?l19 ?c19 ?k19 ?a20 ?l20 ?c20 ?k20 ?a21 ?l21 ?c21 ?k21 ?a22 ?l22 ?c22 ?k22 ?a23 ?l23 ?c23 ?k23 ?a24 ?l24 ?c24 ?k24 ?a25 ?l25 ?c25 ?k25 ?a26 ?l26 ?c26 ?k26 ?a27 ?l27 ?c27 ?k27 ?a28 ?l28 ?c28 ?k28 ?a29 ?l29 ?c29 ?k29 ?a30 ?l30 ?c30 ?k30 ?a31 ?l31 ?c31 ?k31 ?a32 ?l32 ?c32 ?k32 ?a33 ?l33 ?c33 ?k33 ?y1 ?y2 ?y3 ?y4 ?y5 ?y6 ?y7 ?y8 ?y9 ?y10 ?y11 ?y12 ?y13
    (case a1 => k_is); (case l1 => k_is); (case c1 => k_is); (case k1 => k_is)
    (case a2 => k_is); (case l2 => k_is); (case c2 => k_is); (case k2 => k_is)
    (case a3 => k_is); (case l3 => k_is); (case c3 => k_is); (case k3 => k_is)
    (case a4 => k_is); (case l4 => k_is); (case c4 => k_is); (case k4 => k_is)
    (case a5 => k_is); (case l5 => k_is); (case c5 => k_is); (case k5 => k_is)
    (case a6 => k_is); (case l6 => k_is); (case c6 => k_is); (case k6 => k_is)
    (case a7 => k_is); (case l7 => k_is); (case c7 => k_is); (case k7 => k_is)
    (case a8 => k_is); (case l8 => k_is); (case c8 => k_is); (case k8 => k_is)
    (case a9 => k_is); (case l9 => k_is); (case c9 => k_is); (case k9 => k_is)
    (case a10 => k_is); (case l10 => k_is); (case c10 => k_is); (case k10 => k_is)
    (case a11 => k_is); (case l11 => k_is); (case c11 => k_is); (case k11 => k_is)
    (case a12 => k_is); (case l12 => k_is); (case c12 => k_is); (case k12 => k_is)
    (case a13 => k_is); (case l13 => k_is); (case c13 => k_is); (case k13 => k_is)
    (case a14 => k_is); (case l14 => k_is); (case c14 => k_is); (case k14 => k_is)
    (case a15 => k_is); (case l15 => k_is); (case c15 => k_is); (case k15 => k_is)
    (case a16 => k_is); (case l16 => k_is); (case c16 => k_is); (case k16 => k_is)
    (case a17 => k_is); (case l17 => k_is); (case c17 => k_is); (case k17 => k_is)
    (case a18 => k_is); (case l18 => k_is); (case c18 => k_is); (case k18 => k_is)
    (case a19 => k_is); (case l19 => k_is); (case c19 => k_is); (case k19 => k_is)
    (case a20 => k_is); (case l20 => k_is); (case c20 => k_is); (case k20 => k_is)
    (case a21 => k_is); (case l21 => k_is); (case c21 => k_is); (case k21 => k_is)
    (case a22 => k_is); (case l22 => k_is); (case c22 => k_is); (case k22 => k_is)
    (case a23 => k_is); (case l23 => k_is); (case c23 => k_is); (case k23 => k_is)
    (case a24 => k_is); (case l24 => k_is); (case c24 => k_is); (case k24 => k_is)
    (case a25 => k_is); (case l25 => k_is); (case c25 => k_is); (case k25 => k_is)
    (case a26 => k_is); (case l26 => k_is); (case c26 => k_is); (case k26 => k_is)
    (case a27 => k_is); (case l27 => k_is); (case c27 => k_is); (case k27 => k_is)
    (case a28 => k_is); (case l28 => k_is); (case c28 => k_is); (case k28 => k_is)
    (case a29 => k_is); (case l29 => k_is); (case c29 => k_is); (case k29 => k_is)
    (case a30 => k_is); (case l30 => k_is); (case c30 => k_is); (case k30 => k_is)
    (case a31 => k_is); (case l31 => k_is); (case c31 => k_is); (case k31 => k_is)
    (case a32 => k_is); (case l32 => k_is); (case c32 => k_is); (case k32 => k_is)
    (case a33 => k_is); (case l33 => k_is); (case c33 => k_is); (case k33 => k_is)
    (case y1 => k_is); (case y2 => k_is); (case y3 => k_is); (case y4 => k_is)
    (case y5 => k_is); (case y6 => k_is); (case y7 => k_is); (case y8 => k_is)
    (case y9 => k_is); (case y10 => k_is); (case y11 => k_is); (case y12 => k_is)
    (case y13 => k_is)
