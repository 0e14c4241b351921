import PyProof.Rows.All
import Wide.All
import OpenK.AllK
import Wide.FinOn
import Lean
import PyProof.EqAt
import PyProof.EqKinds
import PyProof.TupleCall
import PyProof.ListRange
import PyProof.StrCalls2
import PyProof.StrWalks
import PyProof.EnumMake
import PyProof.Rows.Range3
import PyProof.SliceStr
import PyProof.StrLawsChain
import PyProof.DictValues
import PyProof.StrLawsIdx
import KE.KDictList
import PyProof.Rows.StrJoin2
import KE.KIntText
import PyProof.MeetsStr
import PyProof.StrCalls
import PyProof.Rows.StrNews2
import PySem.Challenge.RW_restdraw_k31_solved
set_option Elab.async false
set_option linter.all false
set_option maxRecDepth 100000
local macro_rules | `(tactic| omega) => `(tactic| lia)
noncomputable section
namespace L2
open PySem PySem.Spec PyProof.Rows

/-- a key: an int or a str -/
abbrev Key := Sum Int Str
def keyIs : Key → Value → Bool
  | .inl k, v => Value.isInt k v
  | .inr x, v => Value.isStrOf x v
def keyH (w : World) : Key → Int
  | .inl k => hashInt k
  | .inr x => hashStr w x
theorem keyIs_shape : ∀ {k : Key} {v : Value}, keyIs k v = true → (∃ i t, k = Sum.inl i ∧ v = Value.int i t) ∨ (∃ x t, k = Sum.inr x ∧ v = Value.str x t)
  | .inl i, v, h => by
    obtain ⟨t, e⟩ := Value.isInt_shape (k := i) (v := v) h
    exact .inl ⟨i, t, rfl, e⟩
  | .inr x, v, h => by
    obtain ⟨t, e⟩ := Value.isStrOf_shape (x := x) (v := v) h
    exact .inr ⟨x, t, rfl, e⟩
theorem key_ll (a b : Int) : decide ((Sum.inl a : Key) = Sum.inl b) = (a == b) := by
  by_cases e : a = b
  · subst e; simp
  · have h : ¬ (Sum.inl a : Key) = Sum.inl b := fun q => e (Sum.inl.inj q)
    rw [decide_eq_false h]
    exact (beq_eq_false_iff_ne.mpr e).symm
theorem key_rr (a b : Str) : decide ((Sum.inr a : Key) = Sum.inr b) = decide (a = b) := by
  by_cases e : a = b
  · subst e; simp
  · have h : ¬ (Sum.inr a : Key) = Sum.inr b := fun q => e (Sum.inr.inj q)
    rw [decide_eq_false h, decide_eq_false e]
theorem key_lr (a : Int) (b : Str) : decide ((Sum.inl a : Key) = Sum.inr b) = false := decide_eq_false (fun q => nomatch q)
theorem key_rl (a : Str) (b : Int) : decide ((Sum.inr a : Key) = Sum.inl b) = false := decide_eq_false (fun q => nomatch q)

def mixKind (prog : Program) (w : World) : PySem.KeyKind prog w Key where
  is := keyIs
  hash := keyH w
  inj := fun v a b ha hb => by
    rcases keyIs_shape ha with ⟨i, t, rfl, rfl⟩ | ⟨x, t, rfl, rfl⟩
    · rcases keyIs_shape hb with ⟨j, u, rfl, e⟩ | ⟨y, u, rfl, e⟩
      · injection e with e1 _; rw [e1]
      · exact nomatch e
    · rcases keyIs_shape hb with ⟨j, u, rfl, e⟩ | ⟨y, u, rfl, e⟩
      · exact nomatch e
      · injection e with e1 _; rw [e1]
  byValue := fun k v h => by
    rcases keyIs_shape h with ⟨i, t, rfl, rfl⟩ | ⟨x, t, rfl, rfl⟩ <;> rfl
  pyHash := fun hv h => by
    rcases keyIs_shape hv with ⟨i, t, rfl, rfl⟩ | ⟨x, t, rfl, rfl⟩
    · exact wpAny_pyHash_int h
    · exact wpAny_pyHash_str h
  eqBool := fun hu hv h => by
    rcases keyIs_shape hu with ⟨i, t, rfl, rfl⟩ | ⟨x, t, rfl, rfl⟩
    · rcases keyIs_shape hv with ⟨j, u, rfl, rfl⟩ | ⟨y, u, rfl, rfl⟩
      · rw [key_ll] at h; exact wpAny_eqBool_int h
      · rw [key_lr] at h; exact SeqAt.EqAt.int_str i t y u _ _ _ _ h
    · rcases keyIs_shape hv with ⟨j, u, rfl, rfl⟩ | ⟨y, u, rfl, rfl⟩
      · rw [key_rl] at h; exact SeqAt.EqAt.str_int x t j u _ _ _ _ h
      · rw [key_rr] at h; exact wpAny_eqBool_str h
  «strs» := fun k x t v h => by
    rcases keyIs_shape h with ⟨i, u, rfl, e⟩ | ⟨y, u, rfl, e⟩
    · exact nomatch e
    · injection e with e1 _
      subst e1
      cases v <;> rfl

end L2

namespace L2
open PySem PySem.Spec PyProof.Rows

/-- a value, without the heap -/
inductive V where
  | non | bl (b : Bool) | int (i : Int) | str (x : Str) | byt (b : Array UInt8) | flt (b : UInt64) | ref (a : Addr) | ty (n : String)
  deriving DecidableEq

def RelV : V → Value → Prop
  | .non, u => u = Value.none
  | .bl b, u => u = Value.bool b
  | .int i, u => ∃ t, u = Value.int i t
  | .str x, u => ∃ t, u = Value.str x t
  | .byt b, u => ∃ t, u = Value.bytes b t
  | .flt b, u => ∃ t, u = Value.float b t
  | .ref a, u => u = Value.ref a
  | .ty n, u => u = Value.type n

abbrev Vals : List V → List Value → Prop := Paired RelV
theorem Vals.length {xs : List V} {us : List Value} (r : Vals xs us) : xs.length = us.length := Paired.length r
theorem Vals.get : ∀ {xs : List V} {us : List Value} {i : Nat} {x : V}, Vals xs us → xs[i]? = some x → ∃ u, us[i]? = some u ∧ RelV x u
  | _, _, _, _, .nil, e => by simp at e
  | _, _, 0, _, .cons r _, e => by simp at e; subst e; exact ⟨_, rfl, r⟩
  | _, _, i + 1, x, .cons _ t, e => by
    obtain ⟨u, h1, h2⟩ := Vals.get (i := i) (x := x) t (by simpa using e)
    exact ⟨u, by simpa using h1, h2⟩
theorem Vals.set {x : V} {u : Value} (r : RelV x u) : ∀ {xs : List V} {us : List Value} (i : Nat), Vals xs us → Vals (xs.set i x) (us.set i u)
  | _, _, _, .nil => .nil
  | _, _, 0, .cons _ t => .cons r t
  | _, _, i + 1, .cons q t => .cons q (Vals.set r i t)
theorem Vals.append : ∀ {xs ys : List V} {us ws : List Value}, Vals xs us → Vals ys ws → Vals (xs ++ ys) (us ++ ws)
  | _, _, _, _, .nil, s => s
  | _, _, _, _, .cons r t, s => .cons r (Vals.append t s)
theorem Vals.take : ∀ {xs : List V} {us : List Value} (n : Nat), Vals xs us → Vals (xs.take n) (us.take n)
  | _, _, 0, _ => .nil
  | _, _, _ + 1, .nil => .nil
  | _, _, n + 1, .cons r t => .cons r (Vals.take n t)
theorem Vals.drop : ∀ {xs : List V} {us : List Value} (n : Nat), Vals xs us → Vals (xs.drop n) (us.drop n)
  | _, _, 0, r => r
  | _, _, _ + 1, .nil => .nil
  | _, _, n + 1, .cons _ t => Vals.drop n t
def RelO : Option V → Option Value → Prop
  | some v, some u => RelV v u
  | none, none => True
  | _, _ => False
def KV {κ : Type} : List (κ × V) → List (κ × Value) → Prop := Paired fun (p : κ × V) (q : κ × Value) => p.1 = q.1 ∧ RelV p.2 q.2

/-- a key of a dict (00_mix): an int or a text -/
def kV : Key → V
  | .inl i => .int i
  | .inr x => .str x

/-- what stands at a tracked address -/
inductive HO where
  /-- a list -/
  | lst (xs : List V)
  /-- a tuple (never changes) -/
  | tup (xs : List V)
  /-- a dict whose keys are ints and texts; one whose keys are tuples of ints and texts (the empty one is both) -/
  | dK (kvs : List (Key × V)) | dT (kvs : List (List Key × V))
  /-- a set of ints: its members, its size -/
  | set (S : Int → Bool) (n : Nat)
  /-- an instance of the class at C, its dict at dx, its attributes -/
  | ins (C dx : Addr) (fs : List (Str × V))
  /-- the dict of the instance at x -/
  | own (x : Addr)
  /-- the dict of an exception -/
  | xd (fs : List (Str × V))
  /-- a bound method, f of x -/
  | met (f x : Addr)
  /-- a range object lo, lo + 1, .. below hi -/
  | rng (lo hi : Int)
  /-- a thing that is known to the object (the script; a dict while a loop walks it): read, never written while it is so -/
  | frz (o : Obj) (u : HO)
  /-- a code object's table -/
  | tbl (ps : Array Value)
  /-- any other thing, by what is true of its one object (a def of one's own: SetO a S n := HO.ext fun h => ..) -/
  | ext (φ : Heap → Prop)

abbrev Hp := Addr → Option HO
def upd (H : Hp) (a : Addr) (o : HO) : Hp := fun b => if b = a then some o else H b
theorem upd_same {H : Hp} {a : Addr} {o : HO} : upd H a o a = some o := by unfold upd; rw [if_pos rfl]
theorem upd_ne {H : Hp} {a b : Addr} {o : HO} (h : b ≠ a) : upd H a o b = H b := by unfold upd; rw [if_neg h]
theorem ne_of_none {H : Hp} {a b : Addr} {o : HO} (h : H a = some o) (h' : H b = none) : a ≠ b := by
  intro e; subst e; rw [h] at h'; cases h'

section
/-- a tuple that has no dict of its own -/
def IsTupN (h : Heap) (a : Addr) (items : Array Value) : Prop := ∃ o, h.get? a = some o ∧ o.cls = .type "tuple" ∧ ∃ n, o.data = .seq items n ∧ o.dict = none
theorem IsTupN.isTup {h : Heap} {a : Addr} {items : Array Value} : IsTupN h a items → IsTup h a items := fun ⟨o, e, c, n, d, _⟩ => ⟨o, e, c, n, d⟩
theorem IsTupN.lt {h : Heap} {a : Addr} {items : Array Value} (x : IsTupN h a items) : a < h.objs.size := x.isTup.lt
theorem IsTupN.new (h : Heap) (items : Array Value) : IsTupN (h.push { cls := .type "tuple", data := .seq items }) h.objs.size items := ⟨_, Heap.get?_push_size _ rfl, rfl, _, rfl, rfl⟩
variable (P : Program) (w : World)
def ObjOk (H : Hp) (h : Heap) (a : Addr) : HO → Prop
  | .lst xs => xs.length ≤ sizeLine ∧ ∃ (its : List Value) (n : Nat), Vals xs its ∧ h.get? a = some { cls := .type "list", data := .seq its.toArray n }
  | .tup xs => xs.length ≤ sizeLine ∧ ∃ its : List Value, Vals xs its ∧ IsTupN h a its.toArray
  | .dK kvs => kvs.length ≤ sizeLine ∧ (a == sysModules) = false ∧ ∃ vs, KV kvs vs ∧ h.DictOf (mixKind P w) a vs
  | .dT kvs => kvs.length ≤ sizeLine ∧ (a == sysModules) = false ∧ ∃ xs : List (List Key × Addr × Value),
      Paired (fun (p : List Key × V) (q : List Key × Addr × Value) => p.1 = q.1 ∧ H q.2.1 = some (.tup (p.1.map kV)) ∧ RelV p.2 q.2.2) kvs xs ∧
      ∃ o es ep, h.get? a = some o ∧ o.ExactDict ∧ o.data = .dict es ep ∧ es.toList = xs.map (entryOfKey (tupleKind (mixKind P w))) ∧ (xs.map (·.1)).Nodup
  | .set S n => h.SetOf (intKind P w) a S n
  | .ins C dx fs => H dx = some (.own a) ∧ fs.length ≤ 1000 ∧ dx ≠ a ∧ h.get? a = some (PySem.W.instObj C dx) ∧
      ∃ mA, h.Ns1 dx mA ∧ (∀ f, RelO (fs.lookup f) (mA f)) ∧ PySem.Within mA (fs.map (·.1))
  | .own _ => ∃ o, h.get? a = some o
  | .xd fs => ∃ mA, h.Ns1 a mA ∧ ∀ f, RelO (fs.lookup f) (mA f)
  | .rng lo hi => ∃ t u v, h.get? a = some { cls := .type "range", data := .fields #[.int lo t, .int hi u, .int 1 v] }
  | .frz o u => h.get? a = some o ∧ ObjOk H h a u
  | .tbl ps => h.get? a = some { cls := .none, data := .fields ps }
  | .met f x => h.get? a = some (PySem.W.methodObj (.ref f) (.ref x))
  | .ext φ => φ h ∧ (∃ o, h.get? a = some o) ∧ ∀ h1 h2 : Heap, φ h1 → (∀ o, h1.get? a = some o → h2.get? a = some o) → φ h2
/-- the abstract heap is held -/
def HOk (H : Hp) (h : Heap) : Prop := ∀ a o, H a = some o → ObjOk P w H h a o
end

section
variable {P : Program} {w : World} {H H' : Hp} {h h' : Heap} {a : Addr} {o : HO}
theorem ObjOk.lt (x : ObjOk P w H h a o) : a < h.objs.size := by
  cases o with
  | lst xs => obtain ⟨_, _, _, _, e⟩ := x; exact Heap.lt_size e
  | tup xs => obtain ⟨_, _, _, p⟩ := x; exact p.lt
  | dK kvs => obtain ⟨_, _, _, _, o, _, _, e, _⟩ := x; exact Heap.lt_size e
  | dT kvs => obtain ⟨_, _, _, _, o, _, _, e, _⟩ := x; exact Heap.lt_size e
  | set S n => obtain ⟨o, _, _, _, e, _⟩ := x; exact Heap.lt_size e
  | ins C dx fs => obtain ⟨_, _, _, e, _⟩ := x; exact Heap.lt_size e
  | own y => obtain ⟨_, e⟩ := x; exact Heap.lt_size e
  | xd fs => obtain ⟨_, ⟨_, _, _, e, _⟩, _⟩ := x; exact Heap.lt_size e
  | rng lo hi => obtain ⟨_, _, _, e⟩ := x; exact Heap.lt_size e
  | frz ob u => obtain ⟨e, _⟩ := x; exact Heap.lt_size e
  | tbl ps => exact Heap.lt_size (show h.get? a = some _ from x)
  | met f y => exact Heap.lt_size (show h.get? a = some _ from x)
  | ext φ => obtain ⟨_, ⟨_, e⟩, _⟩ := x; exact Heap.lt_size e
theorem Paired.mapP {α β : Type} {F G : α → β → Prop} : ∀ {l₁ : List α} {l₂ : List β}, Paired F l₁ l₂ → (∀ a b, F a b → G a b) → Paired G l₁ l₂
  | _, _, .nil, _ => .nil
  | _, _, .cons r t, f => .cons (f _ _ r) (Paired.mapP t f)
/-- what an object's description leans on: its own object, its own dict, the tuples -/
theorem ObjOk.stay (x : ObjOk P w H h a o) (k : ∀ b u, (b = a ∨ H b = some (.own a)) → h.get? b = some u → h'.get? b = some u)
    (ho : ∀ b, H b = some (.own a) → H' b = some (.own a)) (ht : ∀ b xs, H b = some (.tup xs) → H' b = some (.tup xs)) : ObjOk P w H' h' a o := by
  induction o with
  | lst xs => obtain ⟨z, its, n, r, e⟩ := x; exact ⟨z, its, n, r, k _ _ (.inl rfl) e⟩
  | tup xs => obtain ⟨z, its, r, ob, e, c⟩ := x; exact ⟨z, its, r, ob, k _ _ (.inl rfl) e, c⟩
  | dK kvs => obtain ⟨z, y, vs, r, ob, es, ep, e, c⟩ := x; exact ⟨z, y, vs, r, ob, es, ep, k _ _ (.inl rfl) e, c⟩
  | dT kvs =>
    obtain ⟨z, y, xs, r, ob, es, ep, e, c⟩ := x
    exact ⟨z, y, xs, Paired.mapP r fun p q z => ⟨z.1, ht _ _ z.2.1, z.2.2⟩, ob, es, ep, k _ _ (.inl rfl) e, c⟩
  | set S n => obtain ⟨ob, es, ep, t, e, c⟩ := x; exact ⟨ob, es, ep, t, k _ _ (.inl rfl) e, c⟩
  | ins C dx fs =>
    obtain ⟨d, z, ne, e, mA, ⟨od, es, ep, e2, c⟩, r⟩ := x
    exact ⟨ho _ d, z, ne, k _ _ (.inl rfl) e, mA, ⟨od, es, ep, k _ _ (.inr d) e2, c⟩, r⟩
  | own y => obtain ⟨ob, e⟩ := x; exact ⟨ob, k _ _ (.inl rfl) e⟩
  | xd fs => obtain ⟨mA, ⟨od, es, ep, e, c⟩, r⟩ := x; exact ⟨mA, ⟨od, es, ep, k _ _ (.inl rfl) e, c⟩, r⟩
  | rng lo hi => obtain ⟨t, u, v, e⟩ := x; exact ⟨t, u, v, k _ _ (.inl rfl) e⟩
  | frz ob u ih => obtain ⟨e, q⟩ := x; exact ⟨k _ _ (.inl rfl) e, ih q⟩
  | tbl ps =>
    have e : h.get? a = some { cls := .none, data := .fields ps } := x
    show h'.get? a = some { cls := .none, data := .fields ps }
    exact k a _ (.inl rfl) e
  | met f y =>
    have e : h.get? a = some (PySem.W.methodObj (.ref f) (.ref y)) := x
    show h'.get? a = some (PySem.W.methodObj (.ref f) (.ref y))
    exact k a _ (.inl rfl) e
  | ext φ => obtain ⟨p, ⟨o, e⟩, st⟩ := x; exact ⟨st _ _ p fun o q => k _ _ (.inl rfl) q, ⟨o, k _ _ (.inl rfl) e⟩, st⟩
theorem HOk.lt (x : HOk P w H h) (e : H a = some o) : a < h.objs.size := (x a o e).lt
theorem HOk.fresh (x : HOk P w H h) (e : h.objs.size ≤ a) : H a = none := by
  cases q : H a with
  | none => rfl
  | some u => exact absurd (Nat.lt_of_lt_of_le (x.lt q) e) (Nat.lt_irrefl _)
/-- every object of the heap is kept -/
theorem HOk.kept (x : HOk P w H h) (k : ∀ b u, h.get? b = some u → h'.get? b = some u) : HOk P w H h' := fun a o e =>
  (x a o e).stay (fun b u _ q => k b u q) (fun _ q => q) fun _ _ q => q
/-- a new object is laid and tracked -/
theorem HOk.laid (x : HOk P w H h) (k : ∀ b u, h.get? b = some u → h'.get? b = some u) (hp : h.objs.size ≤ a) (new : ObjOk P w (upd H a o) h' a o) : HOk P w (upd H a o) h' := fun b u e => by
  have hn := x.fresh hp
  by_cases hb : b = a
  · subst hb; rw [upd_same] at e; cases e; exact new
  · rw [upd_ne hb] at e
    exact (x b u e).stay (fun c v _ q => k c v q) (fun c q => by rw [upd_ne (ne_of_none q hn)]; exact q) fun c xs q => by rw [upd_ne (ne_of_none q hn)]; exact q
end

/-- what may be read as u: it is u, or a known u -/
def Rd (H : Hp) (a : Addr) (u : HO) : Prop := H a = some u ∨ ∃ o, H a = some (.frz o u)
theorem Rd.of {H : Hp} {a : Addr} {u : HO} (h : H a = some u) : Rd H a u := .inl h
theorem Rd.ok {P : Program} {w : World} {H : Hp} {h : Heap} {a : Addr} {u : HO} (r : Rd H a u) (x : HOk P w H h) : ObjOk P w H h a u := by
  rcases r with r | ⟨o, r⟩
  · exact x a u r
  · obtain ⟨_, q⟩ := x a _ r
    exact q
/-- what may be written -/
def Mut : Option HO → Prop
  | some (.lst _) => True
  | some (.dK _) => True
  | some (.dT _) => True
  | some (.set _ _) => True
  | some (.ins _ _ _) => True
  | some (.ext _) => True
  | _ => False
section
variable {P : Program} {w : World} {H : Hp} {h h' : Heap} {x e : Addr} {o' : HO}
/-- the object at e is changed: x itself, or the dict of the instance x -/
theorem HOk.write (ok : HOk P w H h) (mu : Mut (H x)) (he : e = x ∨ H e = some (.own x)) (k : ∀ b u, b ≠ e → h.get? b = some u → h'.get? b = some u) (heo : ∃ u, h'.get? e = some u)
    (new : ObjOk P w (upd H x o') h' x o') : HOk P w (upd H x o') h' := fun b u q => by
  have nown : ∀ c y, H c = some (.own y) → c ≠ x := fun c y r z => by subst z; rw [r] at mu; exact mu
  have ntup : ∀ c xs, H c = some (.tup xs) → c ≠ x := fun c xs r z => by subst z; rw [r] at mu; exact mu
  by_cases hb : b = x
  · subst hb; rw [upd_same] at q; cases q; exact new
  · rw [upd_ne hb] at q
    by_cases hbe : b = e
    · have q' : H b = some (.own x) := by
        rcases he with z | z
        · exact absurd (hbe.trans z) hb
        · rw [hbe]; exact z
      rw [q] at q'; cases q'
      obtain ⟨v, hv⟩ := heo
      exact ⟨v, by rw [hbe]; exact hv⟩
    · refine (ok b u q).stay (fun c v hc r => k c v ?_ r) (fun c r => by rw [upd_ne (nown c b r)]; exact r) fun c xs r => by rw [upd_ne (ntup c xs r)]; exact r
      rcases hc with rfl | hc
      · exact hbe
      · rintro rfl
        rcases he with z | z
        · exact nown c b hc z
        · rw [hc] at z; cases z; exact hb rfl
end

structure Un (fs ex : List Addr) (H H' : Hp) (h h' : Heap) : Prop where
  keep : ∀ b o, h.get? b = some o → H b = none → b ∉ fs → b ∉ ex → h'.get? b = some o
  slot : ∀ b o, h.get? b = some o → H b = none → b ∈ fs → b ∉ ex → ∃ sl, h'.get? b = some { o with slots := sl }
  free : ∀ b o, h.get? b = some o → H b = none → b ∉ ex → H' b = none
  there : ∀ b o, h.get? b = some o → b ∉ ex → ∃ o', h'.get? b = some o'
  tups : ∀ b xs, H b = some (.tup xs) → H' b = some (.tup xs)
  frzs : ∀ b o u, H b = some (.frz o u) → H' b = some (.frz o u)
  tbls : ∀ b ps, H b = some (.tbl ps) → ∃ more, H' b = some (.tbl (ps ++ more))
section
variable {fs fs' ex ex' : List Addr} {H H1 H2 : Hp} {h h1 h2 h' : Heap} {a x e : Addr} {o : HO}
theorem Un.any (u : Un fs ex H H1 h h1) {b : Addr} {ob : Obj} (q : h.get? b = some ob) (n : H b = none) (hx : b ∉ ex) : ∃ sl, h1.get? b = some { ob with slots := sl } := by
  by_cases hb : b ∈ fs
  · exact u.slot b ob q n hb hx
  · exact ⟨ob.slots, u.keep b ob q n hb hx⟩
theorem Un.trans (a : Un fs ex H H1 h h1) (b : Un fs ex H1 H2 h1 h2) : Un fs ex H H2 h h2 where
  keep := fun c ob q n hc hx => b.keep c ob (a.keep c ob q n hc hx) (a.free c ob q n hx) hc hx
  slot := fun c ob q n hc hx => by
    obtain ⟨sl, e1⟩ := a.slot c ob q n hc hx
    obtain ⟨sl', e2⟩ := b.slot c _ e1 (a.free c ob q n hx) hc hx
    exact ⟨sl', e2⟩
  free := fun c ob q n hx => by
    obtain ⟨o', e1⟩ := a.there c ob q hx
    exact b.free c o' e1 (a.free c ob q n hx) hx
  there := fun c ob q hx => by
    obtain ⟨o', e1⟩ := a.there c ob q hx
    exact b.there c o' e1 hx
  tups := fun c xs q => b.tups c xs (a.tups c xs q)
  frzs := fun c ob xs q => b.frzs c ob xs (a.frzs c ob xs q)
  tbls := fun c ps q => by
    obtain ⟨m1, e1⟩ := a.tbls c ps q
    obtain ⟨m2, e2⟩ := b.tbls c _ e1
    exact ⟨m1 ++ m2, by rw [e2, Array.append_assoc]⟩
theorem Un.kept (k : ∀ b u, h.get? b = some u → h'.get? b = some u) : Un fs ex H H h h' :=
  ⟨fun b ob q _ _ _ => k b ob q, fun b ob q _ _ _ => ⟨ob.slots, k b ob q⟩, fun _ _ _ n _ => n, fun b ob q _ => ⟨ob, k b ob q⟩, fun _ _ q => q, fun _ _ _ q => q, fun _ ps q => ⟨#[], by rw [q]; simp⟩⟩
theorem Un.refl : Un fs ex H H h h := Un.kept fun _ _ q => q
theorem Un.laid (k : ∀ b u, h.get? b = some u → h'.get? b = some u) (hp : h.objs.size ≤ a) (hn : H a = none) : Un fs ex H (upd H a o) h h' where
  keep := fun b u q _ _ _ => k b u q
  slot := fun b u q _ _ _ => ⟨u.slots, k b u q⟩
  free := fun b u q n _ => by rw [upd_ne (Nat.ne_of_lt (Nat.lt_of_lt_of_le (Heap.lt_size q) hp))]; exact n
  there := fun b u q _ => ⟨u, k b u q⟩
  tups := fun b xs q => by rw [upd_ne (ne_of_none q hn)]; exact q
  frzs := fun b u xs q => by rw [upd_ne (ne_of_none q hn)]; exact q
  tbls := fun b ps q => ⟨#[], by rw [upd_ne (ne_of_none q hn), q]; simp⟩
theorem Un.write (mu : Mut (H x)) (he : e = x ∨ H e = some (.own x)) (k : ∀ b u, b ≠ e → h.get? b = some u → h'.get? b = some u) (heo : ∃ u, h'.get? e = some u) : Un fs ex H (upd H x o) h h' := by
  have hx : ∀ b, H b = none → b ≠ x := fun b n z => by subst z; rw [n] at mu; exact mu
  have hb : ∀ b, H b = none → b ≠ e := fun b n z => by
    subst z
    rcases he with r | r
    · exact hx b n r
    · rw [n] at r; cases r
  have hm : ∀ b u, H b = some u → ¬ Mut (some u) → b ≠ x := fun b u q nm z => by subst z; rw [q] at mu; exact nm mu
  refine ⟨fun b u q n _ _ => k b u (hb b n) q, fun b u q n _ _ => ⟨u.slots, k b u (hb b n) q⟩, fun b u q n _ => by rw [upd_ne (hx b n)]; exact n, fun b u q _ => ?_,
    fun b xs q => by rw [upd_ne (hm b _ q fun z => z)]; exact q, fun b u xs q => by rw [upd_ne (hm b _ q fun z => z)]; exact q, fun b ps q => ⟨#[], by rw [upd_ne (hm b _ q fun z => z), q]; simp⟩⟩
  by_cases hbe : b = e
  · subst hbe; exact heo
  · exact ⟨u, k b u hbe q⟩
theorem Un.mono (u : Un fs ex H H1 h h1) (hs : ∀ b ∈ fs, b ∈ fs') (hx : ∀ b ∈ ex, b ∈ ex') : Un fs' ex' H H1 h h1 :=
  ⟨fun b ob q n hb he => u.keep b ob q n (fun z => hb (hs b z)) fun z => he (hx b z), fun _ _ q n _ he => u.any q n fun z => he (hx _ z), fun b ob q n he => u.free b ob q n fun z => he (hx b z), fun b ob q he => u.there b ob q fun z => he (hx b z), u.tups, u.frzs, u.tbls⟩
end

def trk (h : Heap) (H : Hp) : List Addr := (List.range h.objs.size).filter fun a => (H a).isSome
def hidT (h : Heap) (H : Hp) : Heap := PySem.W.hideAll h (trk h H)
theorem hidT_size (h : Heap) (H : Hp) : (hidT h H).objs.size = h.objs.size := PySem.W.hideAll_size _ _
theorem hidT_get {h : Heap} {H : Hp} {b : Addr} {o : Obj} (e : h.get? b = some o) (n : H b = none) : (hidT h H).get? b = some o :=
  PySem.W.hideAll_get _ e fun hm => by
    have q : (H b).isSome = true := (List.mem_filter.mp hm).2
    rw [n] at q; simp at q
theorem of_hidT {h : Heap} {H : Hp} {b : Addr} {o : Obj} (e : (hidT h H).get? b = some o) : h.get? b = some o ∧ H b = none := by
  have e' : h.get? b = some o := PySem.W.of_hideAll (trk h H) e
  refine ⟨e', ?_⟩
  cases q : H b with
  | none => rfl
  | some x =>
    have hm : b ∈ trk h H := List.mem_filter.mpr ⟨List.mem_range.mpr (Heap.lt_size e'), by simp [q]⟩
    have z : (hidT h H).get? b = none := PySem.W.hideAll_none (trk h H) hm
    rw [z] at e; cases e

def allNews (g h : Heap) (L : Addr) : List (Addr × Obj) := (List.range h.objs.size).filterMap fun a => if a = L ∨ (g.get? a).isSome = true then none else (h.get? a).map fun o => (a, o)
def rest (g h : Heap) (L d : Addr) : List (Addr × Obj) := (allNews g h L).filter fun p => decide (p.1 ≠ d)
end L2

namespace L2
open PySem PySem.Spec PyProof.Rows

/-- the module's facts, over the base: the heap at the law's entry without what is tracked there -/
structure Mod (K : PySem.W.Frag) (mg : Str → Option Value) (base : Heap) : Prop where
  kin : K.In base
  glob : base.Ns mainGlobals mg
  blt : ∃ mb, base.Ns builtinsNs mb ∧ ∀ x : Str, x ≠ "__name__" → mb x = bootBuiltins x
  nolimit : base.NoLimit
  seer : base.NoSeer

/-- the context: a def's body (or a comprehension's block) running. base: fixed through the whole law; s₀, H₀: the entry; outer: the frames whose slots others may change (a def's callers); stack: all frames that run;
   ex: iterators that were made ahead of the entry and are walked here (a comprehension's); fn: the names whose cells were made at the entry (a def: all; a comprehension's block: its own); calm: not within an except suite; pn: pins that every state bears; xe: what is wanted of an exception that leaves the code -/
structure Cx where
  prog : Program
  w : World
  K : PySem.W.Frag
  mg : Str → Option Value
  base : Heap
  A : Around
  N : List Str
  s₀ : Shared
  H₀ : Hp
  env : Env
  outer : List Env
  stack : List Env
  ex : List Addr
  fn : Str → Bool
  calm : Bool
  pn : List (Addr × Obj)
  xe : Value → Shared → Prop
/-- the callers' frames -/
def frs (l : List Env) : List Addr := l.filterMap (·.frame)
abbrev Cx.fs (X : Cx) : List Addr := frs X.outer

def Vis (sc : Scope) (x : Str) : Prop := sc.names.lookup x = some .local ∨ sc.names.lookup x = some .cell ∨ sc.names.lookup x = some .free
def Loc (sc : Scope) (x : Str) : Prop := sc.names.lookup x = some .local ∨ sc.names.lookup x = some .cell
def Look (env : Env) (h : Heap) (m : Str → Option Value) (x : Str) (u : Value) : Prop :=
  (env.kindOf x = some .local ∧ m x = some u) ∨ ((env.kindOf x = some .cell ∨ env.kindOf x = some .free) ∧ ∃ c, env.cells.lookup x = some c ∧ h.IsCell c (some u))

structure Cx.Ok (X : Cx) : Prop where
  mod : Mod X.K X.mg X.base
  kind : X.env.scope.kind = .function
  glob : X.env.globals = mainGlobals
  blt : X.env.builtins = builtinsNs
  above : X.s₀.heap.objs.size ≤ X.env.locals
  inj : ∀ x y c, X.env.cells.lookup x = some c → X.env.cells.lookup y = some c → x = y
  has : ∀ x, (X.env.kindOf x = some .cell ∨ X.env.kindOf x = some .free) → ∃ c, X.env.cells.lookup x = some c
  cab : ∀ x c, X.fn x = true → X.env.cells.lookup x = some c → X.s₀.heap.objs.size ≤ c
  hd : X.calm = true → X.A.handled = none
  frames : X.A.frames = some X.stack
  stk : X.stack = X.outer ∨ (X.stack = X.env :: X.outer ∧ X.env.frame = some X.env.locals)
  exf : ∀ b ∈ X.ex, b ≠ X.env.locals ∧ ∀ x c, X.env.cells.lookup x = some c → c ≠ b
  bs : ∀ b o, X.base.get? b = some o → X.s₀.heap.get? b = some o ∧ X.H₀ b = none
  bsz : X.base.objs.size ≤ X.s₀.heap.objs.size
  noex : ∀ b o, X.base.get? b = some o → b ∉ X.ex
  exfs : ∀ b ∈ X.ex, b ∉ X.fs
  funs : X.s₀.heap.FunFrames X.base X.outer
  frf : ∀ b ∈ X.fs, X.H₀ b = none

structure Inv (X : Cx) (pins : List (Addr × Obj)) (σ : List (Option V)) (H : Hp) (s : Shared) : Prop where
  ok : X.Ok
  os : s.os = X.s₀.os
  bare : AllBare s.gens
  base : Un X.fs X.ex X.H₀ H X.s₀.heap s.heap
  loc : ∃ m, s.heap.Ns X.env.locals m ∧ ∀ (i : Nat) (x : Str) (v : V), X.N[i]? = some x → σ[i]? = some (some v) → Vis X.env.scope x → ∃ u, RelV v u ∧ Look X.env s.heap m x u
  cell : ∀ x c, X.env.cells.lookup x = some c → ∃ v, s.heap.IsCell c v
  free : H X.env.locals = none
  freeC : ∀ x c, X.env.cells.lookup x = some c → H c = none
  pin : ∀ p ∈ X.pn ++ pins, s.heap.get? p.1 = some p.2 ∧ H p.1 = none ∧ p.1 ≠ X.env.locals ∧ p.1 ∉ X.fs ∧ ∀ v, p.2.data ≠ .cell v
  hok : HOk X.prog X.w H s.heap
  len : σ.length = X.N.length

section
variable {X : Cx} {pins : List (Addr × Obj)} {σ : List (Option V)} {H H' : Hp} {s : Shared} {h' : Heap}

theorem Cx.Ok.nofr (ok : X.Ok) {b : Addr} {o : Obj} (e : X.base.get? b = some o) : b ∉ X.fs := fun hb => by
  have := (ok.funs.mem hb).1
  rw [e] at this; cases this
theorem Inv.bs (I : Inv X pins σ H s) : ∀ b o, X.base.get? b = some o → s.heap.get? b = some o ∧ H b = none := fun b o e =>
  ⟨I.base.keep b o (I.ok.bs b o e).1 (I.ok.bs b o e).2 (I.ok.nofr e) (I.ok.noex b o e), I.base.free b o (I.ok.bs b o e).1 (I.ok.bs b o e).2 (I.ok.noex b o e)⟩
theorem Inv.bk (I : Inv X pins σ H s) : ∀ b o, X.base.get? b = some o → s.heap.get? b = some o := fun b o e => (I.bs b o e).1
theorem Inv.mod (I : Inv X pins σ H s) : Mod X.K X.mg X.base := I.ok.mod
theorem Inv.kIn (I : Inv X pins σ H s) : X.K.In s.heap := I.ok.mod.kin.keeps I.bk
theorem Inv.nolimit (I : Inv X pins σ H s) : s.heap.NoLimit := I.ok.mod.nolimit.keeps I.bk
/-- the frame over the base: for OpenK's rules (K.In X.base is I.mod.kin) -/
theorem Inv.fr (I : Inv X pins σ H s) : ∃ m, Fr X.base X.env.locals s.heap m :=
  let ⟨m, hn, _⟩ := I.loc
  ⟨m, hn, I.bk, Nat.le_trans I.ok.bsz I.ok.above⟩
theorem Inv.lt (I : Inv X pins σ H s) : X.env.locals < s.heap.objs.size := let ⟨_, hn, _⟩ := I.loc; hn.lt
theorem Inv.sz (I : Inv X pins σ H s) : X.s₀.heap.objs.size ≤ s.heap.objs.size := Nat.le_trans I.ok.above (Nat.le_of_lt I.lt)
theorem Inv.nofs (I : Inv X pins σ H s) {a : Addr} (h : s.heap.objs.size ≤ a) : a ∉ X.fs := fun hb => by
  obtain ⟨_, o, ho, _⟩ := I.ok.funs.mem hb
  exact absurd (Nat.lt_of_lt_of_le (Heap.lt_size ho) (Nat.le_trans I.sz h)) (Nat.lt_irrefl _)
theorem Inv.cne (I : Inv X pins σ H s) : ∀ x c, X.env.cells.lookup x = some c → c ≠ X.env.locals := fun x c e z => by
  obtain ⟨v, o, ho, hd⟩ := I.cell x c e
  obtain ⟨m, ⟨o', es, ep, ho', hd', _⟩, _⟩ := I.loc
  rw [z, ho'] at ho; cases ho; rw [hd'] at hd; cases hd
theorem Inv.funs (I : Inv X pins σ H s) : s.heap.FunFrames X.base X.outer := by
  have all : ∀ (l : List Env), (∀ b ∈ frs l, b ∈ X.fs) → X.s₀.heap.FunFrames X.base l → s.heap.FunFrames X.base l := by
    intro l
    induction l with
    | nil => intro _ _; trivial
    | cons env r ih =>
      intro hs hl
      obtain ⟨hk, ⟨L, o, hf, hn, ho, hd⟩, hr⟩ := hl
      have hL : L ∈ X.fs := hs L (by unfold frs; rw [List.filterMap_cons, hf]; exact List.mem_cons_self)
      obtain ⟨sl, e⟩ := I.base.slot L o ho (I.ok.frf L hL) hL fun z => I.ok.exfs L z hL
      exact ⟨hk, ⟨L, _, hf, hn, e, hd⟩, ih (fun b hb => hs b (by unfold frs; rw [List.filterMap_cons, hf]; exact List.mem_cons_of_mem _ hb)) hr⟩
  exact all X.outer (fun _ hb => hb) I.ok.funs

/-- the frames that run, for a call -/
theorem Inv.stack (I : Inv X pins σ H s) : s.heap.FunFrames X.base X.stack := by
  rcases I.ok.stk with e | ⟨e, hf⟩
  · rw [e]; exact I.funs
  · rw [e]
    obtain ⟨m, hn, _⟩ := I.loc
    refine .cons (by rw [I.ok.kind]; decide) hf hn ?_ I.funs
    exact Heap.get?_none_of_le (Nat.le_trans I.ok.bsz I.ok.above)
theorem Inv.stkSub (I : Inv X pins σ H s) : ∀ b ∈ frs X.stack, b ∈ X.env.locals :: X.fs := fun b hb => by
  rcases I.ok.stk with e | ⟨e, hf⟩
  · rw [e] at hb; exact List.mem_cons_of_mem _ hb
  · rw [e] at hb
    unfold frs at hb
    rw [List.filterMap_cons, hf] at hb
    exact hb
theorem Inv.stkFree (I : Inv X pins σ H s) : ∀ b ∈ frs X.stack, H b = none := fun b hb => by
  rcases List.mem_cons.mp (I.stkSub b hb) with e | hb
  · rw [e]; exact I.free
  · obtain ⟨_, o, ho, _⟩ := I.ok.funs.mem hb
    exact I.base.free b o ho (I.ok.frf b hb) fun z => I.ok.exfs b z hb

/-- THE STEP: the untracked objects but the frame and the records at ch are kept (the callers' frames up to slots), the frame's map is kept, the new abstract heap is held -/
theorem Inv.step {g' : Array GenState} {t' : Nat} {d' : Drawn} {ch : List Addr} (I : Inv X pins σ H s)
    (hch : ∀ b ∈ ch, (b ∈ X.ex ∨ X.s₀.heap.objs.size ≤ b) ∧ b ≠ X.env.locals ∧ (∀ x c, X.env.cells.lookup x = some c → c ≠ b) ∧ ∀ p ∈ X.pn ++ pins, p.1 ≠ b)
    (keep : ∀ b o, b ≠ X.env.locals → b ∉ X.fs → b ∉ ch → s.heap.get? b = some o → H b = none → h'.get? b = some o)
    (slot : ∀ b o, b ≠ X.env.locals → b ∈ X.fs → b ∉ ch → s.heap.get? b = some o → H b = none → ∃ sl, h'.get? b = some { o with slots := sl }) (free : ∀ b o, b ∉ ch → s.heap.get? b = some o → H b = none → H' b = none)
    (there : ∀ b o, b ∉ ch → s.heap.get? b = some o → ∃ o', h'.get? b = some o')
    (tups : ∀ b xs, H b = some (.tup xs) → H' b = some (.tup xs)) (frzs : ∀ b o u, H b = some (.frz o u) → H' b = some (.frz o u)) (tbls : ∀ b ps, H b = some (.tbl ps) → ∃ more, H' b = some (.tbl (ps ++ more)))
    (ns : ∀ m, s.heap.Ns X.env.locals m → h'.Ns X.env.locals m) (hok : HOk X.prog X.w H' h') (hg : AllBare g') :
    Inv X pins σ H' { s with heap := h', gens := g', drawn := d', toks := t' } := by
  have neL : ∀ b o, X.s₀.heap.get? b = some o → b ≠ X.env.locals := fun b o e => Nat.ne_of_lt (Nat.lt_of_lt_of_le (Heap.lt_size e) I.ok.above)
  have neC : ∀ b o, X.s₀.heap.get? b = some o → b ∉ X.ex → b ∉ ch := fun b o e hx hb => by
    rcases (hch b hb).1 with z | z
    · exact hx z
    · exact absurd (Nat.lt_of_lt_of_le (Heap.lt_size e) z) (Nat.lt_irrefl _)
  have cellK : ∀ x c, X.env.cells.lookup x = some c → ∀ v, s.heap.IsCell c v → h'.IsCell c v := fun x c e v ⟨o, ho, hd⟩ => by
    have nch : c ∉ ch := fun z => (hch c z).2.2.1 x c e rfl
    by_cases hc : c ∈ X.fs
    · obtain ⟨sl, q⟩ := slot c o (I.cne x c e) hc nch ho (I.freeC x c e)
      exact ⟨_, q, hd⟩
    · exact ⟨o, keep c o (I.cne x c e) hc nch ho (I.freeC x c e), hd⟩
  refine ⟨I.ok, I.os, hg, ⟨fun b o e n hb hx => ?_, fun b o e n hb hx => ?_, fun b o e n hx => ?_, fun b o e hx => ?_, fun b xs e => tups b xs (I.base.tups b xs e), fun b o xs e => frzs b o xs (I.base.frzs b o xs e), fun b ps e => ?_⟩, ?_, fun x c e => ?_, ?_, fun x c e => ?_, fun p hp => ?_, hok, I.len⟩
  · exact keep b o (neL b o e) hb (neC b o e hx) (I.base.keep b o e n hb hx) (I.base.free b o e n hx)
  · obtain ⟨sl, e1⟩ := I.base.slot b o e n hb hx
    obtain ⟨sl', e2⟩ := slot b _ (neL b o e) hb (neC b o e hx) e1 (I.base.free b o e n hx)
    exact ⟨sl', e2⟩
  · obtain ⟨o', e1⟩ := I.base.there b o e hx
    exact free b o' (neC b o e hx) e1 (I.base.free b o e n hx)
  · obtain ⟨o', e1⟩ := I.base.there b o e hx
    exact there b o' (neC b o e hx) e1
  · obtain ⟨m1, e1⟩ := I.base.tbls b ps e
    obtain ⟨m2, e2⟩ := tbls b _ e1
    exact ⟨m1 ++ m2, by rw [e2, Array.append_assoc]⟩
  · obtain ⟨m, hn, hl⟩ := I.loc
    refine ⟨m, ns m hn, fun i x v e1 e2 e3 => ?_⟩
    obtain ⟨u, r, l⟩ := hl i x v e1 e2 e3
    refine ⟨u, r, ?_⟩
    rcases l with l | ⟨k, c, e, z⟩
    · exact .inl l
    · exact .inr ⟨k, c, e, cellK x c e _ z⟩
  · obtain ⟨v, z⟩ := I.cell x c e
    exact ⟨v, cellK x c e v z⟩
  · obtain ⟨m, ⟨o, _, _, ho, _⟩, _⟩ := I.loc
    exact free _ o (fun z => (hch _ z).2.1 rfl) ho I.free
  · obtain ⟨v, o, ho, hd⟩ := I.cell x c e
    exact free c o (fun z => (hch c z).2.2.1 x c e rfl) ho (I.freeC x c e)
  · obtain ⟨e, n, ne, nf, d⟩ := I.pin p hp
    have nch : p.1 ∉ ch := fun z => (hch p.1 z).2.2.2 p hp rfl
    exact ⟨keep p.1 p.2 ne nf nch e n, free p.1 p.2 nch e n, ne, nf, d⟩
/-- .. where the frame's own object is kept too -/
theorem Inv.un {t' : Nat} (I : Inv X pins σ H s) (u : Un X.fs [] H H' s.heap h') (hok : HOk X.prog X.w H' h') : Inv X pins σ H' { s with heap := h', toks := t' } := by
  obtain ⟨m, ⟨o, es, ep, ho, r⟩, _⟩ := id I.loc
  obtain ⟨sl, hL⟩ := u.any ho I.free (by simp)
  exact I.step (g' := s.gens) (d' := s.drawn) (ch := []) (fun _ z => nomatch z) (fun b o _ hb _ e n => u.keep b o e n hb (by simp)) (fun b o _ hb _ e n => u.slot b o e n hb (by simp)) (fun b o _ e n => u.free b o e n (by simp)) (fun b o _ e => u.there b o e (by simp)) u.tups u.frzs u.tbls (fun m' hm => by
    obtain ⟨o', es', ep', ho', r'⟩ := hm
    rw [ho] at ho'; cases ho'
    exact ⟨_, es', ep', hL, r'⟩) hok I.bare
/-- behind a call (or a comprehension's block): the slots of this frame may have changed too, the records at ch may have turned -/
theorem Inv.call {g' : Array GenState} {t' : Nat} {d' : Drawn} {ch : List Addr} (I : Inv X pins σ H s) (u : Un (frs X.stack) ch H H' s.heap h') (hok : HOk X.prog X.w H' h') (hg : AllBare g')
    (hch : ∀ b ∈ ch, (b ∈ X.ex ∨ X.s₀.heap.objs.size ≤ b) ∧ b ≠ X.env.locals ∧ (∀ x c, X.env.cells.lookup x = some c → c ≠ b) ∧ ∀ p ∈ X.pn ++ pins, p.1 ≠ b) :
    Inv X pins σ H' { s with heap := h', gens := g', drawn := d', toks := t' } := by
  obtain ⟨m, ⟨o, es, ep, ho, r⟩, _⟩ := id I.loc
  obtain ⟨sl, hL⟩ := u.any ho I.free fun z => (hch _ z).2.1 rfl
  exact I.step (ch := ch) hch (fun b o hL hb hc e n => u.keep b o e n (fun z => (List.mem_cons.mp (I.stkSub b z)).elim hL hb) hc) (fun b o _ _ hc e n => u.any e n hc) (fun b o hc e n => u.free b o e n hc) (fun b o hc e => u.there b o e hc) u.tups u.frzs u.tbls (fun m' hm => by
    obtain ⟨o', es', ep', ho', r'⟩ := hm
    rw [ho] at ho'; cases ho'
    exact ⟨_, es', ep', hL, r'⟩) hok hg
/-- an untracked record of ours (an iterator) has turned -/
theorem Inv.turned {t' : Nat} {it : Addr} (I : Inv X pins σ H s) (k : ∀ b o, b ≠ it → s.heap.get? b = some o → h'.get? b = some o) (hn : H it = none) (hL : it ≠ X.env.locals)
    (h1 : it ∈ X.ex ∨ X.s₀.heap.objs.size ≤ it) (h2 : ∀ x c, X.env.cells.lookup x = some c → c ≠ it) (h3 : ∀ p ∈ X.pn ++ pins, p.1 ≠ it) : Inv X pins σ H { s with heap := h', toks := t' } := by
  have nit : ∀ b u, H b = some u → b ≠ it := fun b u e z => by rw [z, hn] at e; cases e
  refine I.step (g' := s.gens) (d' := s.drawn) (ch := [it]) (fun b hb => ?_) (fun b o _ _ hc e _ => k b o (fun z => hc (by simp [z])) e) (fun b o _ _ hc e _ => ⟨o.slots, k b o (fun z => hc (by simp [z])) e⟩) (fun _ _ _ _ n => n)
    (fun b o hc e => ⟨o, k b o (fun z => hc (by simp [z])) e⟩) (fun _ _ e => e) (fun _ _ _ e => e) (fun b ps e => ⟨#[], by rw [e]; simp⟩) (fun m hm => ?_) (fun b u e => ?_) I.bare
  · have e : b = it := by simpa using hb
    subst e
    exact ⟨h1, hL, h2, h3⟩
  · obtain ⟨o, es, ep, ho, r⟩ := hm
    exact ⟨o, es, ep, k _ o (Ne.symm hL) ho, r⟩
  · refine (I.hok b u e).stay (fun c v hc q => k c v ?_ q) (fun _ q => q) fun _ _ q => q
    rcases hc with z | z
    · rw [z]; exact nit b u e
    · exact nit c _ z
theorem Inv.tok (I : Inv X pins σ H s) (t : Nat) : Inv X pins σ H { s with toks := t } := I.un (h' := s.heap) (t' := t) Un.refl I.hok
/-- all objects kept -/
theorem Inv.kept {t' : Nat} (I : Inv X pins σ H s) (k : ∀ b u, s.heap.get? b = some u → h'.get? b = some u) : Inv X pins σ H { s with heap := h', toks := t' } := I.un (Un.kept k) (I.hok.kept k)
/-- a new object laid and tracked -/
theorem Inv.laid {a : Addr} {o : HO} {t' : Nat} (I : Inv X pins σ H s) (k : ∀ b u, s.heap.get? b = some u → h'.get? b = some u) (hp : s.heap.objs.size ≤ a) (new : ObjOk X.prog X.w (upd H a o) h' a o) :
    Inv X pins σ (upd H a o) { s with heap := h', toks := t' } := I.un (Un.laid k hp (I.hok.fresh hp)) (I.hok.laid k hp new)
/-- an object written -/
theorem Inv.write {x e : Addr} {o : HO} {t' : Nat} (I : Inv X pins σ H s) (mu : Mut (H x)) (he : e = x ∨ H e = some (.own x)) (k : ∀ b u, b ≠ e → s.heap.get? b = some u → h'.get? b = some u) (heo : ∃ u, h'.get? e = some u)
    (new : ObjOk X.prog X.w (upd H x o) h' x o) : Inv X pins σ (upd H x o) { s with heap := h', toks := t' } := I.un (Un.write mu he k heo) (I.hok.write mu he k heo new)
theorem Inv.pins_of {pins' : List (Addr × Obj)} (I : Inv X pins σ H s) (h : ∀ p ∈ pins', s.heap.get? p.1 = some p.2 ∧ H p.1 = none ∧ p.1 ≠ X.env.locals ∧ p.1 ∉ X.fs ∧ ∀ v, p.2.data ≠ .cell v) : Inv X pins' σ H s :=
  ⟨I.ok, I.os, I.bare, I.base, I.loc, I.cell, I.free, I.freeC, fun p hp => (List.mem_append.mp hp).elim (fun z => I.pin p (List.mem_append_left _ z)) (h p), I.hok, I.len⟩

theorem nodup_ix {N : List Str} (hN : N.Nodup) {i j : Nat} {x : Str} (a : N[i]? = some x) (b : N[j]? = some x) : i = j := by
  obtain ⟨h1, e1⟩ := List.getElem?_eq_some_iff.mp a
  obtain ⟨h2, e2⟩ := List.getElem?_eq_some_iff.mp b
  exact (List.getElem_inj hN).mp (e1.trans e2.symm)

/-- a name is stored; what changed -/
theorem store_ok2 {M : Model} {A : Around} {E : Value → Shared → Prop} {i : Nat} {x : Str} {v : V} {u : Value} {Q : Unit → Shared → Prop} (I : Inv X pins σ H s) (hN : X.N.Nodup) (hi : X.N[i]? = some x) (hx : Loc X.env.scope x) (r : RelV v u)
    (h : ∀ s', Inv X pins (σ.set i (some v)) H s' → (∃ a, Heap.SameBut a s.heap s'.heap ∧ (a = X.env.locals ∨ X.env.cells.lookup x = some a)) → Q () s') (hf : X.fn x = true ∨ X.env.scope.names.lookup x = some .local := by first | exact .inl rfl | exact .inr rfl | assumption) : wpAny M A (storeName X.env x u) Q E s := by
  obtain ⟨m, hn, hl⟩ := id I.loc
  have hcls : (X.env.scope.kind == .class || (X.env.scope.kind == .module && X.env.locals != X.env.globals)) = false := by rw [I.ok.kind]; rfl
  have hiσ : i < σ.length := by rw [I.len]; exact (List.getElem?_eq_some_iff.mp hi).1
  have cne := I.cne
  have tracked : ∀ {a : Addr} {h' : Heap}, (∃ o, s.heap.get? a = some o ∧ H a = none) → Heap.SameBut a s.heap h' → HOk X.prog X.w H h' := fun {a h'} ha hs b ob e => by
    obtain ⟨_, _, hfree⟩ := ha
    refine (I.hok b ob e).stay (fun c w' hc q => (hs.2 c ?_).trans q) (fun _ q => q) fun _ _ q => q
    rintro rfl
    rcases hc with rfl | hc
    · rw [hfree] at e; cases e
    · rw [hfree] at hc; cases hc
  rcases hx with hk | hk
  · refine wpAny_storeName_local hk hn (fun h' hn' hs => ?_) hcls
    obtain ⟨oL, _, _, hoL, _⟩ := id hn
    refine h _ ⟨I.ok, I.os, I.bare, ⟨fun b o e n hb hx => ?_, fun b o e n hb hx => ?_, I.base.free, fun b o e hx => ?_, I.base.tups, I.base.frzs, I.base.tbls⟩, ⟨_, hn', fun j y v' e1 e2 e3 => ?_⟩, fun y c e => ?_, I.free, I.freeC, fun p hp => ?_, tracked ⟨oL, hoL, I.free⟩ hs, by simpa using I.len⟩ ⟨_, hs, .inl rfl⟩
    · exact (hs.2 b (Nat.ne_of_lt (Nat.lt_of_lt_of_le (Heap.lt_size e) I.ok.above))).trans (I.base.keep b o e n hb hx)
    · obtain ⟨sl, e1⟩ := I.base.slot b o e n hb hx
      exact ⟨sl, (hs.2 b (Nat.ne_of_lt (Nat.lt_of_lt_of_le (Heap.lt_size e) I.ok.above))).trans e1⟩
    · obtain ⟨o', e1⟩ := I.base.there b o e hx
      exact ⟨o', (hs.2 b (Nat.ne_of_lt (Nat.lt_of_lt_of_le (Heap.lt_size e) I.ok.above))).trans e1⟩
    · by_cases hj : j = i
      · subst hj
        rw [hi] at e1; cases e1
        rw [List.getElem?_set_self hiσ] at e2
        cases e2
        exact ⟨u, r, .inl ⟨hk, by simp⟩⟩
      · rw [List.getElem?_set_ne (Ne.symm hj)] at e2
        obtain ⟨u', r', q⟩ := hl j y v' e1 e2 e3
        refine ⟨u', r', ?_⟩
        rcases q with ⟨k, e⟩ | ⟨k, c, e, z⟩
        · refine .inl ⟨k, ?_⟩
          have : y ≠ x := fun e => hj (nodup_ix hN e1 (e ▸ hi))
          simp [this, e]
        · exact .inr ⟨k, c, e, z.sameBut hs (cne y c e)⟩
    · obtain ⟨w', z⟩ := I.cell y c e
      exact ⟨w', z.sameBut hs (cne y c e)⟩
    · obtain ⟨e, n, ne, nf, d⟩ := I.pin p hp
      exact ⟨(hs.2 p.1 ne).trans e, n, ne, nf, d⟩
  · have hfn : X.fn x = true := by
      rcases hf with z | z
      · exact z
      · rw [z] at hk; cases hk
    obtain ⟨c, hc⟩ := I.ok.has x (.inl hk)
    obtain ⟨w', z⟩ := I.cell x c hc
    refine wpAny_storeName_cell I.ok.kind hk hc z (fun h' hc' hs => ?_)
    obtain ⟨oc, hoc, hocd⟩ := id z
    refine h { s with heap := h' } ⟨I.ok, I.os, I.bare, ⟨fun b o e n hb hx => ?_, fun b o e n hb hx => ?_, I.base.free, fun b o e hx => ?_, I.base.tups, I.base.frzs, I.base.tbls⟩, ⟨m, hn.sameBut hs (Ne.symm (cne x c hc)), fun j y v' e1 e2 e3 => ?_⟩, fun y c' e => ?_, I.free, I.freeC, fun p hp => ?_, tracked ⟨oc, hoc, I.freeC x c hc⟩ hs, by simpa using I.len⟩ ⟨c, hs, .inr hc⟩
    · exact (hs.2 b (Nat.ne_of_lt (Nat.lt_of_lt_of_le (Heap.lt_size e) (I.ok.cab x c hfn hc)))).trans (I.base.keep b o e n hb hx)
    · obtain ⟨sl, e1⟩ := I.base.slot b o e n hb hx
      exact ⟨sl, (hs.2 b (Nat.ne_of_lt (Nat.lt_of_lt_of_le (Heap.lt_size e) (I.ok.cab x c hfn hc)))).trans e1⟩
    · obtain ⟨o', e1⟩ := I.base.there b o e hx
      exact ⟨o', (hs.2 b (Nat.ne_of_lt (Nat.lt_of_lt_of_le (Heap.lt_size e) (I.ok.cab x c hfn hc)))).trans e1⟩
    · by_cases hj : j = i
      · subst hj
        rw [hi] at e1; cases e1
        rw [List.getElem?_set_self hiσ] at e2
        cases e2
        exact ⟨u, r, .inr ⟨.inl hk, c, hc, hc'⟩⟩
      · rw [List.getElem?_set_ne (Ne.symm hj)] at e2
        obtain ⟨u', r', q⟩ := hl j y v' e1 e2 e3
        refine ⟨u', r', ?_⟩
        rcases q with q | ⟨k, c', e, z'⟩
        · exact .inl q
        · refine .inr ⟨k, c', e, z'.sameBut hs ?_⟩
          rintro rfl
          exact hj (nodup_ix hN e1 (I.ok.inj _ _ _ e hc ▸ hi))
    · by_cases hcc : c' = c
      · subst hcc; exact ⟨_, hc'⟩
      · obtain ⟨w2, z2⟩ := I.cell y c' e
        exact ⟨w2, z2.sameBut hs hcc⟩
    · obtain ⟨e, n, ne, nf, d⟩ := I.pin p hp
      refine ⟨(hs.2 p.1 ?_).trans e, n, ne, nf, d⟩
      intro q
      rw [q, hoc] at e
      have q' : oc = p.2 := Option.some.inj e
      exact d w' (by rw [← q']; exact hocd)
theorem store_ok {M : Model} {A : Around} {E : Value → Shared → Prop} {i : Nat} {x : Str} {v : V} {u : Value} {Q : Unit → Shared → Prop} (I : Inv X pins σ H s) (hN : X.N.Nodup) (hi : X.N[i]? = some x) (hx : Loc X.env.scope x) (r : RelV v u)
    (h : ∀ s', Inv X pins (σ.set i (some v)) H s' → Q () s') (hf : X.fn x = true ∨ X.env.scope.names.lookup x = some .local := by first | exact .inl rfl | exact .inr rfl | assumption) : wpAny M A (storeName X.env x u) Q E s :=
  store_ok2 I hN hi hx r (fun s' I' _ => h s' I') hf
/-- behind a call or a block, the state as it is -/
theorem Inv.call' {s' : Shared} {ch : List Addr} (I : Inv X pins σ H s) (ho : s'.os = s.os) (u : Un (frs X.stack) ch H H' s.heap s'.heap) (hok : HOk X.prog X.w H' s'.heap) (hg : AllBare s'.gens)
    (hch : ∀ b ∈ ch, (b ∈ X.ex ∨ X.s₀.heap.objs.size ≤ b) ∧ b ≠ X.env.locals ∧ (∀ x c, X.env.cells.lookup x = some c → c ≠ b) ∧ ∀ p ∈ X.pn ++ pins, p.1 ≠ b) : Inv X pins σ H' s' := by
  obtain ⟨h', g', d', t', o'⟩ := s'
  have e : o' = s.os := ho
  subst e
  exact I.call (g' := g') (t' := t') (d' := d') u hok hg hch
end

/-- an exception: its class, its own dict's address (where it has one), the abstract heap behind it -/
abbrev XK := Value → Option Addr → Hp → Prop
abbrev St := List (Option V)
abbrev VK := V → Hp → Prop
/-- an expression's reading; a test's; an argument list's -/
abbrev TE := St → Hp → VK → Prop
abbrev TT := St → Hp → (Bool → Hp → Prop) → Prop
abbrev TA := St → Hp → (List V → Hp → Prop) → Prop
/-- what is wanted behind a statement -/
structure Ends where
  nx : St → Hp → Prop
  rt : VK
  bk : St → Hp → Prop := fun _ _ => False
  ct : St → Hp → Prop := fun _ _ => False
abbrev TS := Ends → St → Hp → Prop

def EP (X : Cx) (pins : List (Addr × Obj)) (σ : St) (Q : VK) (u : Value) (s' : Shared) : Prop := ∃ v H', Inv X pins σ H' s' ∧ RelV v u ∧ Q v H'
def TP (X : Cx) (pins : List (Addr × Obj)) (σ : St) (Q : Bool → Hp → Prop) (b : Bool) (s' : Shared) : Prop := ∃ H', Inv X pins σ H' s' ∧ Q b H'
def AP (X : Cx) (pins : List (Addr × Obj)) (σ : St) (Q : List V → Hp → Prop) (us : List Value) (s' : Shared) : Prop := ∃ vs H', Inv X pins σ H' s' ∧ Vals vs us ∧ Q vs H'
def SP (X : Cx) (pins : List (Addr × Obj)) (D : Ends) (f : Flow) (s' : Shared) : Prop :=
  match f with
  | .next => ∃ σ' H', Inv X pins σ' H' s' ∧ D.nx σ' H'
  | .brk => ∃ σ' H', Inv X pins σ' H' s' ∧ D.bk σ' H'
  | .cont => ∃ σ' H', Inv X pins σ' H' s' ∧ D.ct σ' H'
  | .ret u => ∃ v σ' H', Inv X pins σ' H' s' ∧ RelV v u ∧ D.rt v H'

def PE (X : Cx) (e : Expr) (t : TE) : Prop :=
  ∀ (pins : List (Addr × Obj)) (s : Shared) (σ : St) (H : Hp) (Q : VK), Inv X pins σ H s → t σ H Q → wpAny (model X.prog X.w) X.A (eval e X.env) (EP X pins σ Q) X.xe s
def PT (X : Cx) (e : Expr) (t : TT) : Prop :=
  ∀ (pins : List (Addr × Obj)) (s : Shared) (σ : St) (H : Hp) (Q : Bool → Hp → Prop), Inv X pins σ H s → t σ H Q → wpAny (model X.prog X.w) X.A (isTrue e X.env (eval e X.env)) (TP X pins σ Q) X.xe s
/-- a test whatever its 'whole' is (and, or) -/
def PW (X : Cx) (e : Expr) (t : TT) : Prop :=
  ∀ (whole : Sem Value) (pins : List (Addr × Obj)) (s : Shared) (σ : St) (H : Hp) (Q : Bool → Hp → Prop), Inv X pins σ H s → t σ H Q → wpAny (model X.prog X.w) X.A (isTrue e X.env whole) (TP X pins σ Q) X.xe s
theorem PW.pt {X : Cx} {e : Expr} {t : TT} (h : PW X e t) : PT X e t := h _
/-- an argument list (no star), from the left -/
def PA (X : Cx) (es : List Expr) (t : TA) : Prop :=
  ∀ (pos : Pos) (pins : List (Addr × Obj)) (s : Shared) (σ : St) (H : Hp) (Q : List V → Hp → Prop), Inv X pins σ H s → t σ H Q → wpAny (model X.prog X.w) X.A (spliced (backTo pos (starEach es X.env))) (AP X pins σ Q) X.xe s
def PS (X : Cx) (st : Stmt) (t : TS) : Prop :=
  ∀ (pins : List (Addr × Obj)) (s : Shared) (σ : St) (H : Hp) (D : Ends), Inv X pins σ H s → t D σ H → wpAny (model X.prog X.w) X.A (exec st X.env) (SP X pins D) X.xe s
def PSs (X : Cx) (st : List Stmt) (t : TS) : Prop :=
  ∀ (pins : List (Addr × Obj)) (s : Shared) (σ : St) (H : Hp) (D : Ends), Inv X pins σ H s → t D σ H → wpAny (model X.prog X.w) X.A (execs st X.env) (SP X pins D) X.xe s
/-- weaken the end -/
theorem thn {α : Type} {t : Sem α} {Q Q' : α → Shared → Prop} {M : Model} {A : Around} {E : Value → Shared → Prop} {s : Shared} (h : wpAny M A t Q E s) (hQ : ∀ a s, Q a s → Q' a s) : wpAny M A t Q' E s := wpAny_mono h hQ fun _ _ x => x
end L2

namespace L2
open PySem PySem.Spec PyProof.Rows
section
variable {X : Cx}

inductive tVar (i : Nat) (σ : St) (H : Hp) (Q : VK) : Prop
  | mk : ∀ v, (σ[i]? = some (some v)) → (Q v H) → tVar i σ H Q
def tC (v : V) : TE := fun _ H Q => Q v H
theorem pe_var {i : Nat} {x : Str} {pos : Pos} (hN : X.N[i]? = some x) (hv : Vis X.env.scope x) (hd : (x == ("__debug__" : Str)) = false := by decide) (hcd : (x == ("__classdict__" : Str)) = false := by decide) : PE X (.Name x pos) (tVar i) := by
  intro pins s σ H Q I h
  obtain ⟨v, e, h⟩ := h
  obtain ⟨m, hn, hl⟩ := I.loc
  obtain ⟨u, r, l⟩ := hl i x v hN e hv
  have fin : EP X pins σ Q u s := ⟨v, H, I, r, h⟩
  rcases l with ⟨hk, hm⟩ | ⟨hk, c, hc, hcell⟩
  · exact wpAny_Name (wpAny_loadName_local I.ok.kind hk hn hm fin) hd
  · rcases hk with hk | hk
    · exact wpAny_Name (wpAny_loadName_cell I.ok.kind hk hc hcell fin) hd
    · exact wpAny_Name (wpAny_loadName_free I.ok.kind hk hc hcell fin hcd) hd
theorem pe_int {i j pos} : PE X (.Constant (.int i) j pos) (tC (.int i)) := fun _ _ _ H _ I h => wpAny_Constant_int ⟨.int i, H, I.tok _, ⟨_, rfl⟩, h⟩
theorem pe_bl {b j pos} : PE X (.Constant (.bool b) j pos) (tC (.bl b)) := fun _ _ _ H _ I h => Constant_bool ⟨.bl b, H, I, rfl, h⟩
theorem pe_non {j pos} : PE X (.Constant .none j pos) (tC .non) := fun _ _ _ H _ I h => Constant_none ⟨.non, H, I, rfl, h⟩
/-- a global name of the def -/
def Gl (X : Cx) (x : Str) : Prop := X.env.kindOf x = some .globalImplicit
theorem ld_glob {E : Value → Shared → Prop} {pins : List (Addr × Obj)} {s : Shared} {σ : St} {H : Hp} {x : Str} {u : Value} {pos : Pos} {Q : Value → Shared → Prop} (I : Inv X pins σ H s) (hg : Gl X x) (hm : X.mg x = some u) (h : Q u s)
    (hd : (x == ("__debug__" : Str)) = false := by decide) : wpAny (model X.prog X.w) X.A (eval (.Name x pos) X.env) Q E s :=
  Calls.Name_function_global I.ok.kind hg (Calls.loadGlobal_global (by rw [I.ok.glob]; exact I.mod.glob.keeps I.bk) hm h) hd
theorem ld_blt {E : Value → Shared → Prop} {pins : List (Addr × Obj)} {s : Shared} {σ : St} {H : Hp} {x : Str} {u : Value} {pos : Pos} {Q : Value → Shared → Prop} (I : Inv X pins σ H s) (hg : Gl X x) (hm : X.mg x = none) (hv : bootBuiltins x = some u) (h : Q u s)
    (hn : x ≠ "__name__" := by decide) (hd : (x == ("__debug__" : Str)) = false := by decide) : wpAny (model X.prog X.w) X.A (eval (.Name x pos) X.env) Q E s := by
  obtain ⟨mb, h1, h2⟩ := I.mod.blt
  exact Calls.Name_function_global I.ok.kind hg (Calls.loadGlobal_builtin (by rw [I.ok.glob]; exact I.mod.glob.keeps I.bk) hm (by rw [I.ok.blt]; exact h1.keeps I.bk) ((h2 x hn).trans hv) h) hd
theorem pe_bltn {x : Str} {v : V} {u : Value} {pos : Pos} (hg : Gl X x) (hm : X.mg x = none) (hv : bootBuiltins x = some u) (r : RelV v u) (hn : x ≠ "__name__" := by decide) (hd : (x == ("__debug__" : Str)) = false := by decide) : PE X (.Name x pos) (tC v) :=
  fun _ _ _ H _ I h => ld_blt I hg hm hv ⟨v, H, I, r, h⟩ hn hd

variable {a b : Expr} {ta tb : TE} {pos : Pos}
/-- a comparison as a value, as a test -/
inductive tBY (Q : Bool → Hp → Prop) (x : V) (H1 : Hp) : Prop
  | mk : ∀ c, (x = .bl c) → (Q c H1) → tBY Q x H1
def tB (t : TE) : TT := fun σ H Q => t σ H fun x H1 => tBY Q x H1
/-- an expression whose value is a bool, as a test -/
theorem pt_val {e : Expr} {t : TE} (h : PE X e t) (he : ∀ whole, isTrue e X.env whole = (do let v ← whole; standAt e.pos; holding [v] (truthy v)) := by intro _; rfl) : PT X e (tB t) := by
  intro pins s σ H Q I hw
  refine isTrue_plain (thn (h pins s σ H _ I hw) fun v s1 ⟨x, H1, I1, r1, q1⟩ => ?_) (he _)
  obtain ⟨d, rfl, q⟩ := q1
  cases r1
  exact wpAny_truthy_bool ⟨H1, I1, q⟩

variable {tA tB' : TT} {rest : List Expr}
def tOr (t u : TT) : TT := fun σ H Q => t σ H fun c H1 => if c = true then Q true H1 else u σ H1 Q
def tNot (t : TT) : TT := fun σ H Q => t σ H fun c H1 => Q (!c) H1
theorem pw_or1 (ha : PT X a tA) : PW X (.BoolOp .Or [a] pos) tA := by
  intro wh pins s σ H Q I h
  refine isTrue_or (thn (ha pins s σ H Q I h) fun c s1 e => ?_)
  cases c with
  | false => exact isTrue_or_nil e
  | true => exact e
theorem pw_or (ha : PT X a tA) (hb : PW X (.BoolOp .Or (b :: rest) pos) tB') : PW X (.BoolOp .Or (a :: b :: rest) pos) (tOr tA tB') := by
  intro wh pins s σ H Q I h
  refine isTrue_or (thn (ha pins s σ H _ I h) fun c s1 ⟨H1, I1, q1⟩ => ?_)
  cases c with
  | true => exact ⟨H1, I1, q1⟩
  | false => exact hb wh pins s1 σ H1 Q I1 q1
theorem pt_not (ha : PT X a tA) : PT X (.UnaryOp .Not a pos) (tNot tA) := by
  intro pins s σ H Q I h
  exact isTrue_not (ha pins s σ H (fun c H1 => Q (!c) H1) I h)
/-- .. as values (bools) -/
inductive tAndVY (tb : TE) (σ : St) (Q : VK) (x : V) (H1 : Hp) : Prop
  | mk : ∀ c, (x = .bl c) → (if c = true then tb σ H1 Q else Q (.bl false) H1) → tAndVY tb σ Q x H1
def tAndV (ta tb : TE) : TE := fun σ H Q => ta σ H fun x H1 => tAndVY tb σ Q x H1
theorem pe_one {op} {t : TE} (h : PE X a t) : PE X (.BoolOp op [a] pos) t := fun pins s σ H Q I hw => BoolOp_one (h pins s σ H Q I hw)
theorem pe_and (ha : PE X a ta) (hb : PE X (.BoolOp .And (b :: rest) pos) tb) : PE X (.BoolOp .And (a :: b :: rest) pos) (tAndV ta tb) := by
  intro pins s σ H Q I h
  refine BoolOp_and (thn (ha pins s σ H _ I h) fun v s1 ⟨x, H1, I1, r1, q1⟩ => ?_)
  obtain ⟨c, rfl, q1⟩ := q1
  cases r1
  refine wpAny_truthy_bool ?_
  cases c with
  | true => exact hb pins s1 σ H1 Q I1 q1
  | false => exact ⟨.bl false, H1, I1, rfl, q1⟩
/-- a if t else b -/
def tIf (t : TT) (ta tb : TE) : TE := fun σ H Q => t σ H fun c H1 => if c = true then ta σ H1 Q else tb σ H1 Q
theorem pe_ifExp {c : Expr} (hc : PT X c tA) (ha : PE X a ta) (hb : PE X b tb) : PE X (.IfExp c a b pos) (tIf tA ta tb) := by
  intro pins s σ H Q I h
  refine wpAny_IfExp (thn (hc pins s σ H _ I h) fun d s1 ⟨H1, I1, q1⟩ => ?_)
  cases d with
  | true => exact ha pins s1 σ H1 Q I1 q1
  | false => exact hb pins s1 σ H1 Q I1 q1
end
end L2

namespace L2
open PySem PySem.Spec PyProof.Rows

def SqL (K : PySem.W.Frag) (H : Hp) (a : Addr) (xs : List V) : Prop :=
  Rd H a (.lst xs) ∨
    ∃ (o : Obj) (its : Array Value) (n : Nat), K.lookup a = some o ∧ o.cls = .type "list" ∧ o.dict = none ∧ o.data = .seq its n ∧ its.size ≤ sizeLine ∧ Vals xs its.toList
def SqT (K : PySem.W.Frag) (H : Hp) (a : Addr) (xs : List V) : Prop :=
  Rd H a (.tup xs) ∨
    ∃ (o : Obj) (its : Array Value) (n : Nat), K.lookup a = some o ∧ o.cls = .type "tuple" ∧ o.data = .seq its n ∧ its.size ≤ sizeLine ∧ Vals xs its.toList
def absV : Value → Option V
  | .none => some .non
  | .bool b => some (.bl b)
  | .int i _ => some (.int i)
  | .str x _ => some (.str x)
  | .bytes b _ => some (.byt b)
  | .float b _ => some (.flt b)
  | .ref a => some (.ref a)
  | .type n => some (.ty n)
  | _ => none
theorem RelV.abs {x : V} {u : Value} (r : RelV x u) : absV u = some x := by
  cases x with
  | non => cases r; rfl
  | bl _ => cases r; rfl
  | int _ => obtain ⟨t, rfl⟩ := r; rfl
  | str _ => obtain ⟨t, rfl⟩ := r; rfl
  | byt _ => obtain ⟨t, rfl⟩ := r; rfl
  | flt _ => obtain ⟨t, rfl⟩ := r; rfl
  | ref _ => cases r; rfl
  | ty _ => cases r; rfl
theorem RelV.inj {x y : V} {u : Value} (r : RelV x u) (q : RelV y u) : x = y := Option.some.inj (r.abs.symm.trans q.abs)
theorem Vals.inj : ∀ {xs ys : List V} {us : List Value}, Vals xs us → Vals ys us → xs = ys
  | _, _, _, .nil, .nil => rfl
  | _, _, _, .cons r t, .cons r' t' => by rw [r.inj r', Vals.inj t t']
section
variable {X : Cx} {pins : List (Addr × Obj)} {σ : St} {H : Hp} {s : Shared} {a : Addr} {xs ys : List V}
theorem SqL.of {K : PySem.W.Frag} (h : H a = some (.lst xs)) : SqL K H a xs := .inl (.inl h)
theorem SqT.of {K : PySem.W.Frag} (h : H a = some (.tup xs)) : SqT K H a xs := .inl (.inl h)
theorem Inv.list (I : Inv X pins σ H s) (h : SqL X.K H a xs) : ∃ its : List Value, Vals xs its ∧ PlainL s.heap a its.toArray ∧ xs.length ≤ sizeLine := by
  rcases h with h | ⟨o, its, n, hk, hc, hd, hs, hz, r⟩
  · obtain ⟨z, its, n, r, e⟩ := h.ok I.hok
    exact ⟨its, r, ⟨_, n, e, rfl, rfl, rfl⟩, z⟩
  · refine ⟨its.toList, r, ⟨o, n, I.kIn a o hk, hc, hd, by simpa using hs⟩, ?_⟩
    have e := r.length
    simp only [Array.length_toList] at e
    omega
theorem Inv.tuple (I : Inv X pins σ H s) (h : SqT X.K H a xs) : ∃ its : List Value, Vals xs its ∧ IsTup s.heap a its.toArray ∧ xs.length ≤ sizeLine := by
  rcases h with h | ⟨o, its, n, hk, hc, hs, hz, r⟩
  · obtain ⟨z, its, r, p⟩ := h.ok I.hok
    exact ⟨its, r, p.isTup, z⟩
  · refine ⟨its.toList, r, ⟨o, I.kIn a o hk, hc, n, by simpa using hs⟩, ?_⟩
    have e := r.length
    simp only [Array.length_toList] at e
    omega
theorem Inv.list_inj (I : Inv X pins σ H s) (h : SqL X.K H a xs) (h' : SqL X.K H a ys) : xs = ys := by
  obtain ⟨its, r, ⟨o, n, e, _, _, d⟩, _⟩ := I.list h
  obtain ⟨its', r', ⟨o', n', e', _, _, d'⟩, _⟩ := I.list h'
  rw [e] at e'; cases e'
  rw [d] at d'
  injection d' with d1 _
  have : its = its' := by simpa using congrArg Array.toList d1
  subst this
  exact r.inj r'
theorem Inv.tuple_inj (I : Inv X pins σ H s) (h : SqT X.K H a xs) (h' : SqT X.K H a ys) : xs = ys := by
  obtain ⟨its, r, ⟨o, e, _, n, d⟩, _⟩ := I.tuple h
  obtain ⟨its', r', ⟨o', e', _, n', d'⟩, _⟩ := I.tuple h'
  rw [e] at e'; cases e'
  rw [d] at d'
  injection d' with d1 _
  have : its = its' := by simpa using congrArg Array.toList d1
  subst this
  exact r.inj r'
end

abbrev Cx.wish (X : Cx) (E : Value → Shared → Prop) : Cx := { X with xe := E }
/-- no exception leaves -/
abbrev Cx.nox (X : Cx) : Cx := X.wish fun _ _ => False
theorem Cx.Ok.wish {X : Cx} (ok : X.Ok) (E : Value → Shared → Prop) : (X.wish E).Ok :=
  ⟨ok.mod, ok.kind, ok.glob, ok.blt, ok.above, ok.inj, ok.has, ok.cab, ok.hd, ok.frames, ok.stk, ok.exf, ok.bs, ok.bsz, ok.noex, ok.exfs, ok.funs, ok.frf⟩
theorem Cx.Ok.unwish {X : Cx} {E : Value → Shared → Prop} (ok : (X.wish E).Ok) : X.Ok :=
  ⟨ok.mod, ok.kind, ok.glob, ok.blt, ok.above, ok.inj, ok.has, ok.cab, ok.hd, ok.frames, ok.stk, ok.exf, ok.bs, ok.bsz, ok.noex, ok.exfs, ok.funs, ok.frf⟩
section
variable {X : Cx} {pins : List (Addr × Obj)} {σ : St} {H : Hp} {s : Shared} {E : Value → Shared → Prop}
theorem Inv.wish (I : Inv X pins σ H s) (E : Value → Shared → Prop) : Inv (X.wish E) pins σ H s := ⟨I.ok.wish E, I.os, I.bare, I.base, I.loc, I.cell, I.free, I.freeC, I.pin, I.hok, I.len⟩
theorem Inv.unwish (I : Inv (X.wish E) pins σ H s) : Inv X pins σ H s := ⟨I.ok.unwish, I.os, I.bare, I.base, I.loc, I.cell, I.free, I.freeC, I.pin, I.hok, I.len⟩
theorem SP.unwish {D : Ends} {f : Flow} {s' : Shared} (h : SP (X.wish E) pins D f s') : SP X pins D f s' := by
  cases f with
  | next => obtain ⟨σ', H', I, q⟩ := h; exact ⟨σ', H', I.unwish, q⟩
  | brk => obtain ⟨σ', H', I, q⟩ := h; exact ⟨σ', H', I.unwish, q⟩
  | cont => obtain ⟨σ', H', I, q⟩ := h; exact ⟨σ', H', I.unwish, q⟩
  | ret u => obtain ⟨v, σ', H', I, r, q⟩ := h; exact ⟨v, σ', H', I.unwish, r, q⟩
theorem PE.nox {e : Expr} {t : TE} (h : PE X.nox e t) : PE X e t := fun pins s σ H Q I hw =>
  wpAny_mono (h pins s σ H Q (I.wish _) hw) (fun _ _ ⟨v, H', I', r, q⟩ => ⟨v, H', I'.unwish, r, q⟩) fun _ _ z => False.elim z
theorem PT.nox {e : Expr} {t : TT} (h : PT X.nox e t) : PT X e t := fun pins s σ H Q I hw =>
  wpAny_mono (h pins s σ H Q (I.wish _) hw) (fun _ _ ⟨H', I', q⟩ => ⟨H', I'.unwish, q⟩) fun _ _ z => False.elim z
theorem PSs.nox {st : List Stmt} {t : TS} (h : PSs X.nox st t) : PSs X st t := fun pins s σ H D I hw =>
  wpAny_mono (h pins s σ H D (I.wish _) hw) (fun _ _ q => q.unwish) fun _ _ z => False.elim z
end

section
variable {X : Cx} {st : Stmt} {rest : List Stmt} {t u : TS} {e : Expr} {te : TE} {pos : Pos}
def tNext : TS := fun D σ H => D.nx σ H
def tSeq (t u : TS) : TS := fun D σ H => t { D with nx := u D } σ H
theorem pss_nil : PSs X [] tNext := fun _ _ σ H _ I h => wpAny_execs_nil ⟨σ, H, I, h⟩
theorem pss_cons (h1 : PS X st t) (h2 : PSs X rest u) : PSs X (st :: rest) (tSeq t u) := by
  intro pins s σ H D I h
  refine wpAny_execs_cons (thn (h1 pins s σ H { D with nx := u D } I h) fun f s1 q => ?_)
  cases f with
  | next =>
    obtain ⟨σ', H', I', q⟩ := q
    exact h2 pins s1 σ' H' D I' q
  | ret v => exact q
  | brk => exact q
  | cont => exact q
theorem pss_one (h1 : PS X st t) : PSs X [st] t := by
  intro pins s σ H D I h
  refine wpAny_execs_cons (thn (h1 pins s σ H D I h) fun f s1 q => ?_)
  cases f with
  | next => exact wpAny_execs_nil q
  | ret v => exact q
  | brk => exact q
  | cont => exact q
/-- in a def's body nothing is shown -/
theorem Inv.quiet {pins : List (Addr × Obj)} {σ : St} {H : Hp} {s : Shared} (I : Inv X pins σ H s) : interactive X.env = false := by simp [interactive, I.ok.kind]
/-- an expression whose value is dropped -/
def tDrop (te : TE) : TS := fun D σ H => te σ H fun _ H1 => D.nx σ H1
theorem ps_expr (he : PE X e te) (hs : swapsWith e none pos.line X.env = pure false := by rfl) : PS X (.Expr e pos) (tDrop te) := by
  intro pins s σ H D I h
  exact wpAny_Expr_any (thn (he pins s σ H _ I h) fun v s1 ⟨x, H1, I1, r1, q1⟩ => ⟨σ, H1, I1, q1⟩) I.quiet hs
def tRet (te : TE) : TS := fun D σ H => te σ H D.rt
theorem ps_ret (he : PE X e te) : PS X (.Return (some e) pos) (tRet te) := by
  intro pins s σ H D I h
  exact wpAny_Return_some (thn (he pins s σ H _ I h) fun v s1 ⟨x, H1, I1, r1, q1⟩ => ⟨x, σ, H1, I1, r1, q1⟩)
def tIfS (c : TT) (t u : TS) : TS := fun D σ H => c σ H fun b H1 => if b = true then t D σ H1 else u D σ H1
theorem ps_if {c : Expr} {a b : List Stmt} {tc : TT} (hc : PT X c tc) (ha : PSs X a t) (hb : PSs X b u) : PS X (.If c a b pos) (tIfS tc t u) := by
  intro pins s σ H D I h
  refine wpAny_If (thn (hc pins s σ H _ I h) fun d s1 ⟨H1, I1, q1⟩ => ?_)
  cases d with
  | true => exact ha pins s1 σ H1 D I1 q1
  | false => exact hb pins s1 σ H1 D I1 q1
end

abbrev TG := V → St → Hp → (St → Hp → Prop) → Prop
abbrev TGs := List V → St → Hp → (St → Hp → Prop) → Prop
def PG (X : Cx) (target : Expr) (t : TG) : Prop :=
  ∀ (pins : List (Addr × Obj)) (s : Shared) (σ : St) (H : Hp) (v : V) (u : Value) (Q : St → Hp → Prop), Inv X pins σ H s → RelV v u → t v σ H Q →
    wpAny (model X.prog X.w) X.A (assign target X.env u) (fun _ s' => ∃ σ' H', Inv X pins σ' H' s' ∧ Q σ' H') X.xe s
/-- several targets, one after another -/
def PGs (X : Cx) (ts : List Expr) (t : TGs) : Prop :=
  ∀ (pins : List (Addr × Obj)) (s : Shared) (σ : St) (H : Hp) (vs : List V) (us : List Value) (Q : St → Hp → Prop), Inv X pins σ H s → Vals vs us → t vs σ H Q →
    wpAny (model X.prog X.w) X.A (assignInOrder ((assignEach ts X.env).map (·.2)) us) (fun _ s' => ∃ σ' H', Inv X pins σ' H' s' ∧ Q σ' H') X.xe s
/-- o[i] = v, by values -/
abbrev TSet := V → V → V → Hp → (Hp → Prop) → Prop
def PSet (X : Cx) (t : TSet) : Prop :=
  ∀ (pins : List (Addr × Obj)) (s : Shared) (σ : St) (H : Hp) (o i v : V) (ov iv u : Value) (Q : Hp → Prop), Inv X pins σ H s → RelV o ov → RelV i iv → RelV v u → t o i v H Q →
    wpAny (model X.prog X.w) X.A (setItem ov iv u) (fun _ s' => ∃ H', Inv X pins σ H' s' ∧ Q H') X.xe s
section
variable {X : Cx} {pos : Pos}
def gName (i : Nat) : TG := fun v σ H Q => Q (σ.set i (some v)) H
theorem pg_name {i : Nat} {x : Str} (hN : X.N.Nodup) (hi : X.N[i]? = some x) (hx : Loc X.env.scope x) (hf : X.fn x = true ∨ X.env.scope.names.lookup x = some .local := by first | exact .inl rfl | exact .inr rfl | assumption) : PG X (.Name x pos) (gName i) := by
  intro pins s σ H v u Q I r h
  exact wpAny_assign_Name (store_ok I hN hi hx r (fun s' I' => ⟨_, H, I', h⟩) hf)
inductive gNil (vs : List V) (σ : St) (H : Hp) (Q : St → Hp → Prop) : Prop
  | mk : (vs = []) → (Q σ H) → gNil vs σ H Q
inductive gCons (t : TG) (u : TGs) (vs : List V) (σ : St) (H : Hp) (Q : St → Hp → Prop) : Prop
  | mk : ∀ v r, (vs = v :: r) → (t v σ H fun σ' H' => u r σ' H' Q) → gCons t u vs σ H Q
theorem pgs_nil : PGs X [] gNil := by
  intro pins s σ H vs us Q I r h
  obtain ⟨e, h⟩ := h
  subst e
  cases r
  exact assignInOrder_nil ⟨σ, H, I, h⟩
theorem pgs_cons {e : Expr} {es : List Expr} {t : TG} {u : TGs} (h1 : PG X e t) (h2 : PGs X es u)
    (hs : (assignEach (e :: es) X.env).map (·.2) = assign e X.env :: (assignEach es X.env).map (·.2) := by rfl) : PGs X (e :: es) (gCons t u) := by
  intro pins s σ H vs us Q I r h
  obtain ⟨v, vr, e1, h⟩ := h
  subst e1
  cases r with
  | cons r rr =>
    rw [hs]
    refine assignInOrder_cons (thn (h1 pins s σ H _ _ _ I r h) fun _ s1 ⟨σ1, H1, I1, q1⟩ => ?_)
    exact h2 pins s1 σ1 H1 _ _ Q I1 rr q1
/-- (a, b, ..) = a tuple of that length -/
inductive gTup (K : PySem.W.Frag) (n : Nat) (t : TGs) (v : V) (σ : St) (H : Hp) (Q : St → Hp → Prop) : Prop
  | mk : ∀ a xs, (v = .ref a) → (SqT K H a xs) → (xs.length = n) → (t xs σ H Q) → gTup K n t v σ H Q
theorem pg_tup {es : List Expr} {k : Nat} {t : TGs} {n : Nat} (hc : X.calm = true) (h : PGs X es t)
    (hn : (assignEach es X.env).length = n := by rfl) (hst : (assignEach es X.env).findIdx? (·.1) = none := by rfl) : PG X (.Tuple es k pos) (gTup X.K n t) := by
  intro pins s σ H v u Q I r hw
  obtain ⟨a, xs, e1, hq, hl, hw⟩ := hw
  subst e1
  cases r
  obtain ⟨its, rv, ht, hz⟩ := I.tuple hq
  refine assign_Tuple_tuple (I.ok.hd hc) ht (by simp [hn, ← hl, rv.length]) hst fun h' hx => ?_
  have I1 : Inv X pins σ H { s with heap := h' } := I.kept (t' := s.toks) fun b o e => hx b o (Nat.ne_of_lt (Heap.lt_size e)) e
  exact h pins _ σ H xs _ Q I1 (by simpa using rv) hw
/-- o[i] = .. -/
def gSub (to ti : TE) (t : TSet) : TG := fun v σ H Q => to σ H fun o H1 => ti σ H1 fun i H2 => t o i v H2 fun H3 => Q σ H3
theorem pg_sub {o i : Expr} {to ti : TE} {t : TSet} (ho : PE X o to) (hi : PE X i ti) (hs : PSet X t)
    (ha : ∀ v, assign (.Subscript o i pos) X.env v = (do
      let ov ← holding [v] (eval o X.env)
      let iv ← holding [v, ov] (eval i X.env)
      standAt pos
      holding [v, ov, iv] (setItem ov iv v)
      release [v, ov, iv] []) := by intro _; rfl) : PG X (.Subscript o i pos) (gSub to ti t) := by
  intro pins s σ H v u Q I r h
  rw [ha]
  refine wpAny_bind (wpAny_holding (thn (ho pins s σ H _ I h) fun ov s1 ⟨x, H1, I1, r1, q1⟩ => ?_))
  refine wpAny_bind (wpAny_holding (thn (hi pins s1 σ H1 _ I1 q1) fun iv s2 ⟨y, H2, I2, r2, q2⟩ => ?_))
  refine wpAny_bind (wpAny_standAt (wpAny_bind (wpAny_holding (thn (hs pins s2 σ H2 x y v ov iv u _ I2 r1 r2 r q2) fun _ s3 ⟨H3, I3, q3⟩ => ?_))))
  exact wpAny_release ⟨σ, H3, I3, q3⟩
/-- target = value -/
def tAsg (te : TE) (g : TG) : TS := fun D σ H => te σ H fun x H1 => g x σ H1 D.nx
theorem ps_asg {tg e : Expr} {te : TE} {g : TG} (he : PE X e te) (hg : PG X tg g) (hs : swapsWithSole [tg] e pos.line X.env = pure false := by rfl) (hw : swappedStores [tg] e X.env = pure none := by rfl)
    (h1 : (assignEach [tg] X.env).map (·.2) = [assign tg X.env] := by rfl) : PS X (.Assign [tg] e pos) (tAsg te g) := by
  intro pins s σ H D I h
  refine wpAny_Assign_stores (thn (he pins s σ H _ I h) fun v s1 ⟨x, H1, I1, r1, q1⟩ => ?_) hs hw
  rw [h1]
  exact thn (hg pins s1 σ H1 x v _ I1 r1 q1) fun _ s2 q => q
/-- name = value -/
theorem ps_set {i : Nat} {x : Str} {e : Expr} {te : TE} {pos' : Pos} (hN : X.N.Nodup) (hi : X.N[i]? = some x) (hx : Loc X.env.scope x) (he : PE X e te) (hs : swapsWith e (some (.Name x pos')) pos.line X.env = pure false := by rfl) (hf : X.fn x = true ∨ X.env.scope.names.lookup x = some .local := by first | exact .inl rfl | exact .inr rfl | assumption) :
    PS X (.Assign [.Name x pos'] e pos) (tAsg te (gName i)) := by
  intro pins s σ H D I h
  refine wpAny_Assign_Name (thn (he pins s σ H _ I h) fun v s1 ⟨y, H1, I1, r1, q1⟩ => ?_) hs
  exact store_ok I1 hN hi hx r1 (fun s2 I2 => ⟨_, H1, I2, q1⟩) hf
/-- a, b = x, y with plain local names: stored from the right; the pair itself is not tracked (the opening rows as in PyProof/Rows/TupAssign.lean:23) -/
inductive tParY (i : Nat) (j : Nat) (D : Ends) (σ : St) (vs : List V) (H1 : Hp) : Prop
  | mk : ∀ v w, (vs = [v, w]) → (D.nx ((σ.set i (some v)).set j (some w)) H1) → tParY i j D σ vs H1
def tPar (i j : Nat) (ta : TA) : TS := fun D σ H => ta σ H fun vs H1 => tParY i j D σ vs H1
theorem ps_par {i j : Nat} {x y : Str} {a b : Expr} {ta : TA} {px py pt : Pos} {kt k2 pt2} (hc : X.calm = true) (hN : X.N.Nodup) (hi : X.N[i]? = some x) (hj : X.N[j]? = some y) (hij : i ≠ j)
    (hx : X.env.scope.names.lookup x = some .local) (hy : X.env.scope.names.lookup y = some .local) (ha : PA X [a, b] ta)
    (hw : swappedStores [.Tuple [.Name x px, .Name y py] kt pt] (.Tuple [a, b] k2 pt2) X.env = pure (some [x, y]))
    (hs : swapsWithSole [.Tuple [.Name x px, .Name y py] kt pt] (.Tuple [a, b] k2 pt2) pos.line X.env = pure false := by rfl) :
    PS X (.Assign [.Tuple [.Name x px, .Name y py] kt pt] (.Tuple [a, b] k2 pt2) pos) (tPar i j ta) := by
  intro pins s σ H D I h
  rw [exec_Assign_arm]
  refine wpAny_bind (wpAny_standAt ?_)
  rw [hs]
  refine wpAny_bind (wpAny_pure ?_)
  rw [if_neg (by decide)]
  refine wpAny_bind (Tuple_ (thn (ha _ pins s σ H _ I h) fun us s1 ⟨vs, H1, I1, r1, q1⟩ => ?_))
  obtain ⟨v, w, e1, q1⟩ := q1
  subst e1
  obtain ⟨u1, u2, rfl, rv, rw'⟩ : ∃ u1 u2, us = [u1, u2] ∧ RelV v u1 ∧ RelV w u2 := by
    cases r1 with
    | cons p q =>
      cases q with
      | cons p' q' =>
        cases q'
        exact ⟨_, _, rfl, p, p'⟩
  refine wpAny_newObj_type ?_ (by show 2 ≤ sizeLine; decide)
  have I2 : Inv X pins σ H1 { s1 with heap := s1.heap.push { cls := .type "tuple", data := .seq [u1, u2].toArray } } := I1.kept (t' := s1.toks) fun b o e => Heap.get?_push_of_some _ e
  rw [hw]
  refine wpAny_bind (wpAny_pure ?_)
  show wpAny (model X.prog X.w) X.A (do rule "assign.swapped-stores"; let items ← unpackItems (.ref s1.heap.objs.size) 2 none; assignInOrder [fun v => bindName X.env y v, fun v => bindName X.env x v] items.reverse; pure Flow.next) _ _ _
  refine wpAny_bind (wpAny_rule (wpAny_bind (unpackItems_tuple (items := #[u1, u2]) (I.ok.hd hc) (IsTup.new s1.heap _) fun h' hx' => ?_)))
  have I3 := I2.kept (h' := h') (t' := s1.toks) fun b o e => hx' b o (Nat.ne_of_lt (Heap.lt_size e)) e
  show wpAny _ _ (assignInOrder [fun v => bindName X.env y v, fun v => bindName X.env x v] [u2, u1] >>= fun _ => pure Flow.next) _ _ _
  refine wpAny_bind (assignInOrder_cons (wpAny_bindName (store_ok I3 hN hj (.inl hy) rw' (fun s2 I4 => ?_) (.inr hy))))
  refine assignInOrder_cons (wpAny_bindName (store_ok I4 hN hi (.inl hx) rv (fun s3 I5 => assignInOrder_nil (wpAny_pure ?_)) (.inr hx)))
  rw [List.set_comm _ _ (Ne.symm hij)] at I5
  exact ⟨_, H1, I5, q1⟩
end

section
variable {X : Cx} {pos : Pos}
/-- the invariant W with its measure -/
def tWhile (c : TT) (tb : TS) : TS := fun D σ H => ∃ W : Nat → St → Hp → Prop, (∃ m, W m σ H) ∧ ∀ m σ H, W m σ H →
  c σ H fun b H1 => if b = true then ∃ N : St → Hp → Prop, (∀ σ' H', N σ' H' → ∃ m', m' < m ∧ W m' σ' H') ∧ tb { D with nx := N, ct := N, bk := D.nx } σ H1 else D.nx σ H1
theorem ps_while {c : Expr} {body : List Stmt} {tc : TT} {tb : TS} (hp : PassesOwn (model X.prog X.w) X.A X.env X.xe) (hc : PT X c tc) (hb : PSs X body tb) : PS X (.While c body [] pos) (tWhile tc tb) := by
  intro pins s σ H D I h
  obtain ⟨W, ⟨m0, w0⟩, turn⟩ := h
  refine wpAny_While (codeAny_whileLoop (fun n s' => ∃ σ' H', Inv X pins σ' H' s' ∧ W n σ' H') ?_ m0 ⟨σ, H, I, w0⟩)
  rintro n s1 ⟨σ1, H1, I1, w1⟩
  refine wpAny_passesOwn hp (thn (hc pins s1 σ1 H1 _ I1 (turn n σ1 H1 w1)) fun b s2 ⟨H2, I2, q2⟩ => ?_)
  cases b with
  | true =>
    obtain ⟨N, hN, q2⟩ := q2
    rw [if_pos rfl]
    refine wpAny_passesOwn hp (thn (hb pins s2 σ1 H2 _ I2 q2) fun f s3 q3 => ?_)
    cases f with
    | next =>
      obtain ⟨σ3, H3, I3, n3⟩ := q3
      obtain ⟨m', hm, w3⟩ := hN σ3 H3 n3
      exact ⟨m', hm, σ3, H3, I3, w3⟩
    | cont =>
      obtain ⟨σ3, H3, I3, n3⟩ := q3
      obtain ⟨m', hm, w3⟩ := hN σ3 H3 n3
      exact ⟨m', hm, σ3, H3, I3, w3⟩
    | brk => exact q3
    | ret v => exact q3
  | false =>
    rw [if_neg Bool.false_ne_true]
    exact wpAny_execs_nil ⟨σ1, H2, I2, q2⟩
end

/-- at turn i: it yields x (the heap may grow), or it stops -/
structure It where
  go : Nat → Hp → Prop
  yld : Nat → Hp → V → Hp → Prop
  stop : Nat → Hp → Prop
/-- the iterator's own objects may turn: they are not the frame's, not pinned, younger than the entry (or a comprehension's own) -/
def FpOk (X : Cx) (pins : List (Addr × Obj)) (H : Hp) (b : Addr) : Prop :=
  H b = none ∧ b ≠ X.env.locals ∧ b ∉ X.fs ∧ (b ∈ X.ex ∨ X.s₀.heap.objs.size ≤ b) ∧ (∀ x c, X.env.cells.lookup x = some c → c ≠ b) ∧ ∀ p ∈ X.pn ++ pins, p.1 ≠ b
theorem Inv.fpOk {X : Cx} {pins : List (Addr × Obj)} {σ : St} {H H' : Hp} {s : Shared} {b : Addr} (I : Inv X pins σ H s) (hb : s.heap.objs.size ≤ b) (hn : H' b = none) : FpOk X pins H' b := by
  refine ⟨hn, Nat.ne_of_gt (Nat.lt_of_lt_of_le I.lt hb), I.nofs hb, .inr (Nat.le_trans I.sz hb), fun x c e z => ?_, fun p hp z => ?_⟩
  · obtain ⟨v, q⟩ := I.cell x c e
    exact absurd (Nat.lt_of_lt_of_le q.lt (by rw [z]; exact hb)) (Nat.lt_irrefl _)
  · exact absurd (Nat.lt_of_lt_of_le (Heap.lt_size (I.pin p hp).1) (by rw [z]; exact hb)) (Nat.lt_irrefl _)
structure Turn (P : Program) (w : World) (K : PySem.W.Frag) (tg : Expr) (J : It) (fp : List Addr) (it : Addr) (tn : Nat → Heap → Prop) : Prop where
  mem : it ∈ fp
  obj : ∀ i h, tn i h → ∀ b ∈ fp, ∃ o, h.get? b = some o ∧ ∀ v, o.data ≠ .cell v
  keep : ∀ i h h', tn i h → (∀ b ∈ fp, ∀ o, h.get? b = some o → h'.get? b = some o) → tn i h'
  item : ∀ (X : Cx), X.prog = P → X.w = w → X.K = K → X.calm = true → ∀ (i : Nat) (pins : List (Addr × Obj)) (s : Shared) (σ : St) (H : Hp) (E : Value → Shared → Prop), Inv X pins σ H s → (∀ b ∈ fp, FpOk X pins H b) → tn i s.heap → J.go i H →
    wpAny (model P w) X.A (pyNext (.ref it)) (fun r s1 => ∃ u, r = some u ∧
      wpAny (model P w) X.A (letOwnedTupleGo tg (.ref it) u) (fun _ s2 => ∃ x H', Inv X pins σ H' s2 ∧ RelV x u ∧ J.yld i H x H' ∧ tn (i + 1) s2.heap ∧ ∀ b ∈ fp, H' b = none) E s1) E s
  done : ∀ (X : Cx), X.prog = P → X.w = w → X.K = K → X.calm = true → ∀ (i : Nat) (pins : List (Addr × Obj)) (s : Shared) (σ : St) (H : Hp) (E : Value → Shared → Prop), Inv X pins σ H s → (∀ b ∈ fp, FpOk X pins H b) → tn i s.heap → J.stop i H →
    wpAny (model P w) X.A (pyNext (.ref it)) (fun r s1 => r = none ∧ Inv X pins σ H s1) E s
  self : ∀ (A : Around) (i : Nat) (s : Shared) (Q : Value → Shared → Prop) (E : Value → Shared → Prop), tn i s.heap → Q (.ref it) s → wpAny (model P w) A (pyIter (.ref it)) Q E s
abbrev TI := St → Hp → (It → Hp → Prop) → Prop
/-- an iterator has come -/
def PIE (X : Cx) (pins : List (Addr × Obj)) (σ : St) (tg : Expr) (R : It → Hp → Prop) (itv : Value) (s2 : Shared) : Prop :=
  ∃ (it : Addr) (fp : List Addr) (tn : Nat → Heap → Prop) (J : It) (H' : Hp), itv = .ref it ∧ Inv X pins σ H' s2 ∧ Turn X.prog X.w X.K tg J fp it tn ∧ tn 0 s2.heap ∧ (∀ b ∈ fp, FpOk X pins H' b) ∧ R J H'
def PI (X : Cx) (tg iter : Expr) (wi : TI) : Prop :=
  ∀ (pins : List (Addr × Obj)) (s : Shared) (σ : St) (H : Hp) (R : It → Hp → Prop), Inv X pins σ H s → wi σ H R →
    wpAny (model X.prog X.w) X.A (eval iter X.env) (fun v s1 => wpAny (model X.prog X.w) X.A (pyIter v) (PIE X pins σ tg R) X.xe s1) X.xe s

/-- the step ahead of the store is nothing for an iterator that keeps no tuple -/
theorem go_of {M : Model} {A : Around} {E : Value → Shared → Prop} {s : Shared} {tg : Expr} {it : Addr} {u : Value} {o : Obj} {n : String} {vs : Array Value} {Q : Unit → Shared → Prop} (ho : s.heap.get? it = some o) (hc : o.cls = .type n) (hd : o.data = .fields vs)
    (hn : ["enumerate", "zip", "dict_itemiterator", "dict_reverseitemiterator", "odict_iterator", "itertools.zip_longest", "itertools.pairwise"].contains n = false) (hQ : Q () s) : wpAny M A (letOwnedTupleGo tg (.ref it) u) Q E s := by
  unfold letOwnedTupleGo
  cases tg <;> first
    | exact wpAny_pure hQ
    | (cases u <;> first
        | exact wpAny_pure hQ
        | (refine wpAny_bind (wpAny_load ho ?_)
           rw [hc, hd]
           show wpAny M A (if (["enumerate", "zip", "dict_itemiterator", "dict_reverseitemiterator", "odict_iterator", "itertools.zip_longest", "itertools.pairwise"].contains n && vs[0]? == some (rawInt _)) = true then _ else _) Q E s
           rw [if_neg (by intro h; rw [hn, Bool.false_and] at h; cases h)]
           exact wpAny_pure hQ))

/-- the list at a, as it stands at each turn (a loop may append to it) -/
def Itl (K : PySem.W.Frag) (a : Addr) : It :=
  ⟨fun i H => ∃ xs x, SqL K H a xs ∧ xs[i]? = some x, fun i H x H' => H' = H ∧ ∀ xs, SqL K H a xs → xs[i]? = some x, fun i H => ∃ xs, SqL K H a xs ∧ xs.length ≤ i⟩
def Itt (K : PySem.W.Frag) (a : Addr) : It :=
  ⟨fun i H => ∃ xs x, SqT K H a xs ∧ xs[i]? = some x, fun i H x H' => H' = H ∧ ∀ xs, SqT K H a xs → xs[i]? = some x, fun i H => ∃ xs, SqT K H a xs ∧ xs.length ≤ i⟩
/-- lo, lo + 1, .. (n of them) -/
def Itr (lo : Int) (n : Nat) : It := ⟨fun i _ => i < n, fun i H x H' => H' = H ∧ x = .int (lo + i), fun i _ => n ≤ i⟩
theorem turn_list {P : Program} {w : World} {K : PySem.W.Frag} {tg : Expr} (a it : Addr) : Turn P w K tg (Itl K a) [it] it (fun i h => h.IsListIter it a i) where
  mem := by simp
  obj := fun i h st b hb => by
    have e : b = it := by simpa using hb
    subst e
    obtain ⟨o, e, c, d⟩ := st
    exact ⟨o, e, fun v z => by rw [d] at z; cases z⟩
  keep := fun i h h' st k => st.at fun o e => k it (by simp) o e
  item := by
    intro X hP hw hK hc i pins s σ H E I hf st hg
    subst hP hw hK
    obtain ⟨xs, x, hq, hx⟩ := hg
    obtain ⟨its, rv, p, hz⟩ := I.list hq
    obtain ⟨u, hu, ru⟩ := rv.get hx
    obtain ⟨f0, f1, f2, f3, f4, f5⟩ := hf it (by simp)
    refine wpAny_pyNext_list_item st p.isList (x := u) (by simpa using hu) fun h' st' sb => ?_
    have I1 : Inv X pins σ H { s with heap := h' } := I.turned (t' := s.toks) (fun b o hb e => (sb.2 b hb).trans e) f0 f1 f3 f4 f5
    obtain ⟨o, e, c, d⟩ := id st'
    exact ⟨u, rfl, go_of (s := { s with heap := h' }) e c d (by decide) ⟨x, H, I1, ru, ⟨rfl, fun ys hy => by rw [I.list_inj hy hq]; exact hx⟩, st', fun b hb => (hf b hb).1⟩⟩
  done := by
    intro X hP hw hK hc i pins s σ H E I hf st hg
    subst hP hw hK
    obtain ⟨xs, hq, hx⟩ := hg
    obtain ⟨its, rv, p, hz⟩ := I.list hq
    obtain ⟨f0, f1, f2, f3, f4, f5⟩ := hf it (by simp)
    have hl := rv.length
    exact wpAny_pyNext_list_end (I.ok.hd hc) st p.isList (by simp; omega) fun h' eb => ⟨rfl, I.turned (t' := s.toks) (fun b o hb e => eb b o hb e) f0 f1 f3 f4 f5⟩
  self := fun _ _ _ _ _ st h => wpAny_pyIter_listiter st h
theorem turn_tuple {P : Program} {w : World} {K : PySem.W.Frag} {tg : Expr} (a it : Addr) : Turn P w K tg (Itt K a) [it] it (fun i h => h.IsTupleIter it a i) where
  mem := by simp
  obj := fun i h st b hb => by
    have e : b = it := by simpa using hb
    subst e
    obtain ⟨o, e, c, d⟩ := st
    exact ⟨o, e, fun v z => by rw [d] at z; cases z⟩
  keep := fun i h h' st k => st.at fun o e => k it (by simp) o e
  item := by
    intro X hP hw hK hc i pins s σ H E I hf st hg
    subst hP hw hK
    obtain ⟨xs, x, hq, hx⟩ := hg
    obtain ⟨its, rv, p, hz⟩ := I.tuple hq
    obtain ⟨u, hu, ru⟩ := rv.get hx
    obtain ⟨f0, f1, f2, f3, f4, f5⟩ := hf it (by simp)
    refine wpAny_pyNext_tuple_item st (show s.heap.IsTuple a its.toArray from p) (x := u) (by simpa using hu) fun h' st' sb => ?_
    have I1 : Inv X pins σ H { s with heap := h' } := I.turned (t' := s.toks) (fun b o hb e => (sb.2 b hb).trans e) f0 f1 f3 f4 f5
    obtain ⟨o, e, c, d⟩ := id st'
    exact ⟨u, rfl, go_of (s := { s with heap := h' }) e c d (by decide) ⟨x, H, I1, ru, ⟨rfl, fun ys hy => by rw [I.tuple_inj hy hq]; exact hx⟩, st', fun b hb => (hf b hb).1⟩⟩
  done := by
    intro X hP hw hK hc i pins s σ H E I hf st hg
    subst hP hw hK
    obtain ⟨xs, hq, hx⟩ := hg
    obtain ⟨its, rv, p, hz⟩ := I.tuple hq
    obtain ⟨f0, f1, f2, f3, f4, f5⟩ := hf it (by simp)
    have hl := rv.length
    exact wpAny_pyNext_tuple_end (I.ok.hd hc) st (show s.heap.IsTuple a its.toArray from p) (by simp; omega) fun h' eb => ⟨rfl, I.turned (t' := s.toks) (fun b o hb e => eb b o hb e) f0 f1 f3 f4 f5⟩
  self := fun _ _ _ _ _ st h => wpAny_pyIter_tupleiter st h
theorem turn_range {P : Program} {w : World} {K : PySem.W.Frag} {tg : Expr} (it : Addr) (lo : Int) (n : Nat) : Turn P w K tg (Itr lo n) [it] it (fun i h => IsRangeIter h it (lo + (i : Nat) * 1) ((n : Int) - (i : Nat)) 1) where
  mem := by simp
  obj := fun i h st b hb => by
    have e : b = it := by simpa using hb
    subst e
    exact ⟨_, st, fun v z => by
      have z' : Data.fields _ = Data.cell v := z
      cases z'⟩
  keep := fun i h h' st k => k it (by simp) _ st
  item := by
    intro X hP hw hK hc i pins s σ H E I hf st hg
    subst hP hw hK
    obtain ⟨f0, f1, f2, f3, f4, f5⟩ := hf it (by simp)
    have W := Walks.range (prog := X.prog) (w := X.w) (I.ok.hd hc) it lo 1 n
    refine W.item i s _ _ hg st fun v h' tk hv st' kk => ?_
    obtain ⟨t, rfl⟩ := hv
    have I1 : Inv X pins σ H { s with heap := h', toks := tk } := I.turned (fun b o hb e => kk b o (by simpa using hb) e) f0 f1 f3 f4 f5
    refine ⟨_, rfl, go_of (s := { s with heap := h', toks := tk }) (n := "range_iterator") st' rfl rfl (by decide) ⟨.int (lo + i), H, I1, ⟨t, ?_⟩, ⟨rfl, rfl⟩, st', fun b hb => (hf b hb).1⟩⟩
    rw [Int.mul_one]
  done := by
    intro X hP hw hK hc i pins s σ H E I hf st hg
    subst hP hw hK
    obtain ⟨f0, f1, f2, f3, f4, f5⟩ := hf it (by simp)
    exact wpAny_pyNext_range_end (I.ok.hd hc) st (by have : n ≤ i := hg; omega) fun h' eb => ⟨rfl, I.turned (t' := s.toks) (fun b o hb e => eb b o hb e) f0 f1 f3 f4 f5⟩
  self := fun _ _ _ _ _ st h => wpAny_pyIter_rangeiter st h
end L2

namespace L2
open PySem PySem.Spec PyProof.Rows
section
variable {X : Cx} {tg : Expr}
inductive iListY (K : PySem.W.Frag) (R : It → Hp → Prop) (x : V) (H1 : Hp) : Prop
  | mk : ∀ a, (x = .ref a) → ((∃ xs, SqL K H1 a xs)) → (R (Itl K a) H1) → iListY K R x H1
def iList (K : PySem.W.Frag) (tl : TE) : TI := fun σ H R => tl σ H fun x H1 => iListY K R x H1
inductive iTupY (K : PySem.W.Frag) (R : It → Hp → Prop) (x : V) (H1 : Hp) : Prop
  | mk : ∀ a, (x = .ref a) → ((∃ xs, SqT K H1 a xs)) → (R (Itt K a) H1) → iTupY K R x H1
def iTup (K : PySem.W.Frag) (tl : TE) : TI := fun σ H R => tl σ H fun x H1 => iTupY K R x H1
theorem pi_list {l : Expr} {tl : TE} (hl : PE X l tl) : PI X tg l (iList X.K tl) := by
  intro pins s σ H R I h
  refine thn (hl pins s σ H _ I h) fun v s1 ⟨x, H1, I1, r1, q1⟩ => ?_
  obtain ⟨a, e, ⟨xs, hq⟩, q⟩ := q1
  subst e
  cases r1
  obtain ⟨its, rv, p, hz⟩ := I1.list hq
  refine wpAny_pyIter_list p.isList ?_
  refine ⟨s1.heap.objs.size, [s1.heap.objs.size], _, _, H1, rfl, I1.kept (t' := s1.toks) fun b o e => Heap.get?_push_of_some _ e, turn_list a _, ⟨_, Heap.get?_push_size _ rfl, rfl, rfl⟩, fun b hb => ?_, q⟩
  have e : b = s1.heap.objs.size := by simpa using hb
  subst e
  exact I1.fpOk (Nat.le_refl _) (I1.hok.fresh (Nat.le_refl _))
theorem pi_tup {l : Expr} {tl : TE} (hl : PE X l tl) : PI X tg l (iTup X.K tl) := by
  intro pins s σ H R I h
  refine thn (hl pins s σ H _ I h) fun v s1 ⟨x, H1, I1, r1, q1⟩ => ?_
  obtain ⟨a, e, ⟨xs, hq⟩, q⟩ := q1
  subst e
  cases r1
  obtain ⟨its, rv, p, hz⟩ := I1.tuple hq
  refine wpAny_pyIter_tuple (show s1.heap.IsTuple a its.toArray from p) ?_
  refine ⟨s1.heap.objs.size, [s1.heap.objs.size], _, _, H1, rfl, I1.kept (t' := s1.toks) fun b o e => Heap.get?_push_of_some _ e, turn_tuple a _, ⟨_, Heap.get?_push_size _ rfl, rfl, rfl⟩, fun b hb => ?_, q⟩
  have e : b = s1.heap.objs.size := by simpa using hb
  subst e
  exact I1.fpOk (Nat.le_refl _) (I1.hok.fresh (Nat.le_refl _))
/-- a range object just made, walked -/
theorem range_it {pins : List (Addr × Obj)} {σ : St} {H : Hp} {s : Shared} {R : It → Hp → Prop} {E : Value → Shared → Prop} {lo hi : Int} {t u v : Tok} {tk : Nat} (I : Inv X pins σ H s) (h1 : -(2 ^ 62) ≤ lo) (h2 : lo < 2 ^ 62) (h3 : -(2 ^ 62) ≤ hi) (h4 : hi < 2 ^ 62)
    (q : R (Itr lo (hi - lo).toNat) H) : wpAny (model X.prog X.w) X.A (pyIter (.ref s.heap.objs.size)) (PIE X pins σ tg R) E { s with heap := s.heap.push { cls := .type "range", data := .fields #[.int lo t, .int hi u, .int 1 v] }, toks := tk } := by
  refine wpAny_pyIter_range (IsRange.new ..) (small_one h1 h2 h3 h4) ?_
  have I1 : Inv X pins σ H { s with heap := s.heap.push { cls := .type "range", data := .fields #[.int lo t, .int hi u, .int 1 v] }, toks := tk } := I.kept fun b o e => Heap.get?_push_of_some _ e
  refine ⟨(s.heap.push { cls := .type "range", data := .fields #[.int lo t, .int hi u, .int 1 v] }).objs.size, [(s.heap.push { cls := .type "range", data := .fields #[.int lo t, .int hi u, .int 1 v] }).objs.size], _, _, H, rfl,
    I1.kept (t' := tk) fun b o e => Heap.get?_push_of_some _ e, turn_range _ lo (hi - lo).toNat, ?_, fun b hb => ?_, q⟩
  · have e1 : lo + ((0 : Nat) : Int) * 1 = lo := by simp
    have e2 : (((hi - lo).toNat : Nat) : Int) - ((0 : Nat) : Int) = Builtin.Range.rangeSize lo hi 1 := by rw [rangeSize_one]; split <;> omega
    show IsRangeIter _ _ (lo + ((0 : Nat) : Int) * 1) ((((hi - lo).toNat : Nat) : Int) - ((0 : Nat) : Int)) 1
    rw [e1, e2]
    exact Heap.get?_push_size _ rfl
  · have e : b = (s.heap.push { cls := .type "range", data := .fields #[.int lo t, .int hi u, .int 1 v] }).objs.size := by simpa using hb
    subst e
    exact I1.fpOk (Nat.le_refl _) (I1.hok.fresh (Nat.le_refl _))
inductive iRng1Y (R : It → Hp → Prop) (vs : List V) (H1 : Hp) : Prop
  | mk : ∀ (j : Int), (vs = [.int j]) → (-(2 ^ 62) ≤ j) → (j < 2 ^ 62) → (R (Itr 0 j.toNat) H1) → iRng1Y R vs H1
def iRng1 (ta : TA) : TI := fun σ H R => ta σ H fun vs H1 => iRng1Y R vs H1
inductive iRng2Y (R : It → Hp → Prop) (vs : List V) (H1 : Hp) : Prop
  | mk : ∀ (i j : Int), (vs = [.int i, .int j]) → ((-(2 ^ 62) ≤ i ∧ i < 2 ^ 62 ∧ -(2 ^ 62) ≤ j ∧ j < 2 ^ 62)) → (R (Itr i (j - i).toNat) H1) → iRng2Y R vs H1
def iRng2 (ta : TA) : TI := fun σ H R => ta σ H fun vs H1 => iRng2Y R vs H1
theorem pi_range1 {a : Expr} {ta : TA} {p pos : Pos} (hg : Gl X "range") (hm : X.mg "range" = none) (ha : PA X [a] ta) (hs : starEach [a] X.env = [(false, eval a X.env)] := by rfl) : PI X tg (.Call (.Name "range" p) [a] [] pos) (iRng1 ta) := by
  intro pins s σ H R I h
  refine Call_ (ld_blt I hg hm boot_range (PyProof.Rows.callWith_type1 (thn (ha pos pins s σ H _ I h) fun us s1 ⟨vs, H1, I1, r1, q1⟩ => ?_) hs rfl))
  obtain ⟨j, e, q1, q2, q⟩ := q1
  subst e
  cases r1 with
  | cons r rr =>
    cases rr
    obtain ⟨t, rfl⟩ := r
    exact call_range_1 (range_it I1 (by omega) (by omega) q1 q2 (by simpa using q))
theorem pi_range2 {a b : Expr} {ta : TA} {p pos : Pos} (hg : Gl X "range") (hm : X.mg "range" = none) (ha : PA X [a, b] ta) (hs : starEach [a, b] X.env = [(false, eval a X.env), (false, eval b X.env)] := by rfl) (hs2 : starEach [b] X.env = [(false, eval b X.env)] := by rfl) :
    PI X tg (.Call (.Name "range" p) [a, b] [] pos) (iRng2 ta) := by
  intro pins s σ H R I h
  refine Call_ (ld_blt I hg hm boot_range (PyProof.Rows.callWith_type1 (thn (ha pos pins s σ H _ I h) fun us s1 ⟨vs, H1, I1, r1, q1⟩ => ?_) (by rw [hs, hs2]) (by rw [hs2]; rfl)))
  obtain ⟨i, j, e, ⟨q1, q2, q3, q4⟩, q⟩ := q1
  subst e
  cases r1 with
  | cons r rr =>
    cases rr with
    | cons r' rr =>
      cases rr
      obtain ⟨t, rfl⟩ := r
      obtain ⟨t', rfl⟩ := r'
      exact call_range_2 (range_it I1 q1 q2 q3 q4 q)

/-- W: the invariant by the turn and a measure; N: what the body is to reach -/
def tFor (wi : TI) (g : TG) (tb : TS) : TS := fun D σ H => wi σ H fun J H1 => ∃ W : Nat → Nat → St → Hp → Prop, (∃ m, W 0 m σ H1) ∧ ∀ i m σ H, W i m σ H →
  (J.stop i H ∧ D.nx σ H) ∨ (J.go i H ∧ ∃ N : St → Hp → Prop, (∀ σ' H', N σ' H' → ∃ m', m' < m ∧ W (i + 1) m' σ' H') ∧ ∀ x H', J.yld i H x H' → g x σ H' fun σ2 H2 => tb { D with nx := N, ct := N, bk := D.nx } σ2 H2)
/-- the records at fp as they stand -/
def pinsAt (fp : List Addr) (h : Heap) : List (Addr × Obj) := fp.filterMap fun b => (h.get? b).map fun o => (b, o)
theorem mem_pinsAt {fp : List Addr} {h : Heap} {b : Addr} {o : Obj} (hb : b ∈ fp) (e : h.get? b = some o) : (b, o) ∈ pinsAt fp h := List.mem_filterMap.mpr ⟨b, hb, by rw [e]; rfl⟩
theorem of_pinsAt {fp : List Addr} {h : Heap} {p : Addr × Obj} (hp : p ∈ pinsAt fp h) : p.1 ∈ fp ∧ h.get? p.1 = some p.2 := by
  obtain ⟨b, hb, e⟩ := List.mem_filterMap.mp hp
  cases q : h.get? b with
  | none => rw [q] at e; cases e
  | some o =>
    rw [q] at e
    have e' : (b, o) = p := Option.some.inj e
    subst e'
    exact ⟨hb, q⟩
theorem Inv.pinned {pins : List (Addr × Obj)} {σ : St} {H : Hp} {s : Shared} {fp : List Addr} (I : Inv X pins σ H s) (hf : ∀ b ∈ fp, FpOk X pins H b) (ho : ∀ b ∈ fp, ∃ o, s.heap.get? b = some o ∧ ∀ v, o.data ≠ .cell v) : Inv X (pins ++ pinsAt fp s.heap) σ H s :=
  I.pins_of fun p hp => (List.mem_append.mp hp).elim (fun z => I.pin p (List.mem_append_right _ z)) fun z => by
    obtain ⟨hb, e⟩ := of_pinsAt z
    obtain ⟨f0, f1, f2, _⟩ := hf p.1 hb
    obtain ⟨o, e', d⟩ := ho p.1 hb
    rw [e] at e'; cases e'
    exact ⟨e, f0, f1, f2, d⟩
theorem Inv.unpinned {pins pl : List (Addr × Obj)} {σ : St} {H : Hp} {s : Shared} (I : Inv X (pins ++ pl) σ H s) : Inv X pins σ H s := I.pins_of fun p hp => I.pin p (List.mem_append_right _ (List.mem_append_left _ hp))
theorem ps_for {iter : Expr} {body : List Stmt} {wi : TI} {g : TG} {tb : TS} {pos : Pos} (hp : PassesOwn (model X.prog X.w) X.A X.env X.xe) (hc : X.calm = true) (hi : PI X tg iter wi) (hg : PG X tg g) (hb : PSs X body tb)
    (hs : ∀ x, foldedSetIterable iter X.env x = pure x := by intro _; rfl) : PS X (.For tg iter body [] pos) (tFor wi g tb) := by
  intro pins s σ H D I h
  refine wpAny_For (thn (hi pins s σ H _ I h) fun v s1 h1 => thn h1 fun itv s2 h2 => ?_) hs
  obtain ⟨it, fp, tn, J, H2, e, I2, T, st2, f2, W, ⟨m0, w0⟩, turn⟩ := h2
  subst e
  -- what stays true of the iterator's objects through the loop
  have stat : ∀ {H' : Hp}, (∀ b ∈ fp, H' b = none) → ∀ b ∈ fp, FpOk X pins H' b := fun hn b hb => ⟨hn b hb, (f2 b hb).2⟩
  refine codeAny_forLoop_any (fun n s' => ∃ i σ' H', Inv X pins σ' H' s' ∧ tn i s'.heap ∧ (∀ b ∈ fp, H' b = none) ∧ W i n σ' H') ?_ m0 ⟨0, σ, H2, I2, st2, fun b hb => (f2 b hb).1, w0⟩
  rintro n s3 ⟨i, σ3, H3, I3, st3, fr3, w3⟩
  rcases turn i n σ3 H3 w3 with ⟨stop, qn⟩ | ⟨go, N, hN, step⟩
  · refine wpAny_passesOwn hp (thn (T.done X rfl rfl rfl hc i pins s3 σ3 H3 X.xe I3 (stat fr3) st3 stop) fun r s4 ⟨hr, I4⟩ => ?_)
    subst hr
    exact wpAny_execs_nil ⟨σ3, H3, I4, qn⟩
  · refine wpAny_passesOwn hp (thn (T.item X rfl rfl rfl hc i pins s3 σ3 H3 X.xe I3 (stat fr3) st3 go) fun r s4 ⟨u, hr, h4⟩ => ?_)
    subst hr
    refine wpAny_passesOwn hp (thn h4 fun _ s5 ⟨x, H5, I5, r5, y5, st5, fr5⟩ => ?_)
    have I5' := I5.pinned (stat fr5) (T.obj _ _ st5)
    refine wpAny_passesOwn hp (thn (hg _ s5 σ3 H5 x u _ I5' r5 (step x H5 y5)) fun _ s6 ⟨σ6, H6, I6, q6⟩ => ?_)
    refine wpAny_passesOwn hp (thn (hb _ s6 σ6 H6 _ I6 q6) fun f s7 q7 => ?_)
    have again : ∀ {σ7 : St} {H7 : Hp}, Inv X (pins ++ pinsAt fp s5.heap) σ7 H7 s7 → N σ7 H7 → ∃ m, m < n ∧ ∃ i σ' H', Inv X pins σ' H' s7 ∧ tn i s7.heap ∧ (∀ b ∈ fp, H' b = none) ∧ W i m σ' H' := fun {σ7 H7} I7 n7 => by
      obtain ⟨m', hm, w7⟩ := hN σ7 H7 n7
      refine ⟨m', hm, i + 1, σ7, H7, I7.unpinned, T.keep _ _ _ st5 fun b hb o e => (I7.pin (b, o) (List.mem_append_right _ (List.mem_append_right _ (mem_pinsAt hb e)))).1, fun b hb => ?_, w7⟩
      obtain ⟨o, e, d⟩ := T.obj _ _ st5 b hb
      exact (I7.pin (b, o) (List.mem_append_right _ (List.mem_append_right _ (mem_pinsAt hb e)))).2.1
    cases f with
    | next => obtain ⟨σ7, H7, I7, n7⟩ := q7; exact again I7 n7
    | cont => obtain ⟨σ7, H7, I7, n7⟩ := q7; exact again I7 n7
    | brk => obtain ⟨σ7, H7, I7, q7⟩ := q7; exact ⟨σ7, H7, I7.unpinned, q7⟩
    | ret v => obtain ⟨x7, σ7, H7, I7, r7, q7⟩ := q7; exact ⟨x7, σ7, H7, I7.unpinned, r7, q7⟩
end

/-- over a list that the body leaves as it is -/
theorem for_list {K : PySem.W.Frag} {a : Addr} {xs : List V} {g : TG} {tb : TS} {D : Ends} {σ : St} {H : Hp} (Pv : Nat → St → Hp → Prop) (h0 : Pv 0 σ H) (hl : ∀ i σ H, i ≤ xs.length → Pv i σ H → SqL K H a xs)
    (hs : ∀ i x σ H, xs[i]? = some x → Pv i σ H → g x σ H fun σ2 H2 => tb { D with nx := Pv (i + 1), ct := Pv (i + 1), bk := D.nx } σ2 H2) (hd : ∀ σ H, Pv xs.length σ H → D.nx σ H) :
    ∃ W : Nat → Nat → St → Hp → Prop, (∃ m, W 0 m σ H) ∧ ∀ i m σ H, W i m σ H →
      ((Itl K a).stop i H ∧ D.nx σ H) ∨ ((Itl K a).go i H ∧ ∃ N : St → Hp → Prop, (∀ σ' H', N σ' H' → ∃ m', m' < m ∧ W (i + 1) m' σ' H') ∧ ∀ x H', (Itl K a).yld i H x H' → g x σ H' fun σ2 H2 => tb { D with nx := N, ct := N, bk := D.nx } σ2 H2) := by
  refine ⟨fun i m σ H => m = xs.length - i ∧ i ≤ xs.length ∧ Pv i σ H, ⟨xs.length, by simp, Nat.zero_le _, h0⟩, ?_⟩
  rintro i m σ H ⟨rfl, hi, p⟩
  have q := hl i σ H hi p
  by_cases hlt : i < xs.length
  · refine .inr ⟨⟨xs, xs[i], q, by simp [hlt]⟩, Pv (i + 1), fun σ' H' p' => ⟨xs.length - (i + 1), by omega, rfl, hlt, p'⟩, fun x H' y => ?_⟩
    obtain ⟨e, y⟩ := y
    subst e
    exact hs i x σ _ (y xs q) p
  · have e : i = xs.length := by omega
    subst e
    exact .inl ⟨⟨xs, q, Nat.le_refl _⟩, hd σ H p⟩
theorem for_tup {K : PySem.W.Frag} {a : Addr} {xs : List V} {g : TG} {tb : TS} {D : Ends} {σ : St} {H : Hp} (Pv : Nat → St → Hp → Prop) (h0 : Pv 0 σ H) (hl : ∀ i σ H, i ≤ xs.length → Pv i σ H → SqT K H a xs)
    (hs : ∀ i x σ H, xs[i]? = some x → Pv i σ H → g x σ H fun σ2 H2 => tb { D with nx := Pv (i + 1), ct := Pv (i + 1), bk := D.nx } σ2 H2) (hd : ∀ σ H, Pv xs.length σ H → D.nx σ H) :
    ∃ W : Nat → Nat → St → Hp → Prop, (∃ m, W 0 m σ H) ∧ ∀ i m σ H, W i m σ H →
      ((Itt K a).stop i H ∧ D.nx σ H) ∨ ((Itt K a).go i H ∧ ∃ N : St → Hp → Prop, (∀ σ' H', N σ' H' → ∃ m', m' < m ∧ W (i + 1) m' σ' H') ∧ ∀ x H', (Itt K a).yld i H x H' → g x σ H' fun σ2 H2 => tb { D with nx := N, ct := N, bk := D.nx } σ2 H2) := by
  refine ⟨fun i m σ H => m = xs.length - i ∧ i ≤ xs.length ∧ Pv i σ H, ⟨xs.length, by simp, Nat.zero_le _, h0⟩, ?_⟩
  rintro i m σ H ⟨rfl, hi, p⟩
  have q := hl i σ H hi p
  by_cases hlt : i < xs.length
  · refine .inr ⟨⟨xs, xs[i], q, by simp [hlt]⟩, Pv (i + 1), fun σ' H' p' => ⟨xs.length - (i + 1), by omega, rfl, hlt, p'⟩, fun x H' y => ?_⟩
    obtain ⟨e, y⟩ := y
    subst e
    exact hs i x σ _ (y xs q) p
  · have e : i = xs.length := by omega
    subst e
    exact .inl ⟨⟨xs, q, Nat.le_refl _⟩, hd σ H p⟩
theorem for_range {lo : Int} {n : Nat} {g : TG} {tb : TS} {D : Ends} {σ : St} {H : Hp} (Pv : Nat → St → Hp → Prop) (h0 : Pv 0 σ H)
    (hs : ∀ i σ H, i < n → Pv i σ H → g (.int (lo + i)) σ H fun σ2 H2 => tb { D with nx := Pv (i + 1), ct := Pv (i + 1), bk := D.nx } σ2 H2) (hd : ∀ σ H, Pv n σ H → D.nx σ H) :
    ∃ W : Nat → Nat → St → Hp → Prop, (∃ m, W 0 m σ H) ∧ ∀ i m σ H, W i m σ H →
      ((Itr lo n).stop i H ∧ D.nx σ H) ∨ ((Itr lo n).go i H ∧ ∃ N : St → Hp → Prop, (∀ σ' H', N σ' H' → ∃ m', m' < m ∧ W (i + 1) m' σ' H') ∧ ∀ x H', (Itr lo n).yld i H x H' → g x σ H' fun σ2 H2 => tb { D with nx := N, ct := N, bk := D.nx } σ2 H2) := by
  refine ⟨fun i m σ H => m = n - i ∧ i ≤ n ∧ Pv i σ H, ⟨n, by simp, Nat.zero_le _, h0⟩, ?_⟩
  rintro i m σ H ⟨rfl, hi, p⟩
  by_cases hlt : i < n
  · refine .inr ⟨hlt, Pv (i + 1), fun σ' H' p' => ⟨n - (i + 1), by omega, rfl, hlt, p'⟩, fun x H' y => ?_⟩
    obtain ⟨e, y⟩ := y
    subst e y
    exact hs i σ _ hlt p
  · have e : i = n := by omega
    subst e
    exact .inl ⟨Nat.le_refl _, hd σ H p⟩
/-- while, by a word and a measure of the state -/
theorem while_by {c : TT} {tb : TS} {D : Ends} {σ : St} {H : Hp} (Pv : St → Hp → Prop) (μ : St → Hp → Nat) (h0 : Pv σ H)
    (hs : ∀ σ H, Pv σ H → c σ H fun b H1 => if b = true then tb { D with nx := fun σ' H' => Pv σ' H' ∧ μ σ' H' < μ σ H, ct := fun σ' H' => Pv σ' H' ∧ μ σ' H' < μ σ H, bk := D.nx } σ H1 else D.nx σ H1)
    (mono : ∀ σ H Q Q', (∀ b H1, Q b H1 → Q' b H1) → c σ H Q → c σ H Q') : tWhile c tb D σ H := by
  refine ⟨fun m σ H => m = μ σ H ∧ Pv σ H, ⟨_, rfl, h0⟩, ?_⟩
  rintro m σ H ⟨rfl, p⟩
  refine mono σ H _ _ (fun b H1 q => ?_) (hs σ H p)
  cases b with
  | true => exact ⟨_, fun σ' H' ⟨p', l⟩ => ⟨_, l, rfl, p'⟩, q⟩
  | false => exact q
end L2

namespace L2
open PySem PySem.Spec PyProof.Rows

abbrev R2 := V → V → Hp → VK → Prop
/-- a two-place operation on values: f is binaryOp op, inplaceOp op or compareOp op -/
def OpR (X : Cx) (f : Value → Value → Sem Value) (r : R2) : Prop :=
  ∀ (pins : List (Addr × Obj)) (s : Shared) (σ : St) (H : Hp) (x y : V) (v u : Value) (Q : VK), Inv X pins σ H s → RelV x v → RelV y u → r x y H Q →
    wpAny (model X.prog X.w) X.A (f v u) (EP X pins σ Q) X.xe s
/-- a one-place operation -/
def UnR (X : Cx) (f : Value → Sem Value) (r : V → Hp → VK → Prop) : Prop :=
  ∀ (pins : List (Addr × Obj)) (s : Shared) (σ : St) (H : Hp) (x : V) (v : Value) (Q : VK), Inv X pins σ H s → RelV x v → r x H Q →
    wpAny (model X.prog X.w) X.A (f v) (EP X pins σ Q) X.xe s
/-- a call of a value that is known (a builtin, a type) with values -/
def CallR (X : Cx) (f : Value) (r : List V → Hp → VK → Prop) : Prop :=
  ∀ (pins : List (Addr × Obj)) (s : Shared) (σ : St) (H : Hp) (xs : List V) (us : List Value) (Q : VK), Inv X pins σ H s → Vals xs us → r xs H Q →
    wpAny (model X.prog X.w) X.A (call f us) (EP X pins σ Q) X.xe s
/-- a value's truth -/
def TruR (X : Cx) (r : V → Hp → (Bool → Hp → Prop) → Prop) : Prop :=
  ∀ (pins : List (Addr × Obj)) (s : Shared) (σ : St) (H : Hp) (x : V) (v : Value) (Q : Bool → Hp → Prop), Inv X pins σ H s → RelV x v → r x H Q →
    wpAny (model X.prog X.w) X.A (truthy v) (TP X pins σ Q) X.xe s

def tOp (r : R2) (ta tb : TE) : TE := fun σ H Q => ta σ H fun x H1 => tb σ H1 fun y H2 => r x y H2 Q
def tUn (r : V → Hp → VK → Prop) (ta : TE) : TE := fun σ H Q => ta σ H fun x H1 => r x H1 Q
/-- ints in, under C, and a value out -/
inductive rI (C : Int → Int → Prop) (g : Int → Int → V) (x : V) (y : V) (H : Hp) (Q : VK) : Prop
  | mk : ∀ i j, (x = .int i) → (y = .int j) → (C i j) → (Q (g i j) H) → rI C g x y H Q
inductive rI0 (g : Int → Int → V) (x : V) (y : V) (H : Hp) (Q : VK) : Prop
  | mk : ∀ i j, (x = .int i) → (y = .int j) → (Q (g i j) H) → rI0 g x y H Q
inductive rU (g : Int → V) (x : V) (H : Hp) (Q : VK) : Prop
  | mk : ∀ i, (x = .int i) → (Q (g i) H) → rU g x H Q
section
variable {X : Cx} {a b c : Expr} {ta tb tc : TE} {pos : Pos}

theorem binT (ha : PE X a ta) (hb : PE X b tb) {pins : List (Addr × Obj)} {s : Shared} {σ : St} {H : Hp} {R : V → V → Hp → Prop} (I : Inv X pins σ H s)
    (h : ta σ H fun x H1 => tb σ H1 fun y H2 => R x y H2) {Q : Value → Shared → Prop} {f : Value → Value → Sem Value}
    (hf : ∀ v u s2 x y H2, Inv X pins σ H2 s2 → RelV x v → RelV y u → R x y H2 → wpAny (model X.prog X.w) X.A (f v u) Q X.xe s2) :
    wpAny (model X.prog X.w) X.A (eval a X.env) (fun v s₁ => wpAny (model X.prog X.w) X.A (eval b X.env) (fun u s₂ => wpAny (model X.prog X.w) X.A (f v u) Q X.xe s₂) X.xe s₁) X.xe s := by
  refine thn (ha pins s σ H _ I h) fun v s1 ⟨x, H1, I1, r1, q1⟩ => ?_
  refine thn (hb pins s1 σ H1 _ I1 q1) fun u s2 ⟨y, H2, I2, r2, q2⟩ => ?_
  exact hf v u s2 x y H2 I2 r1 r2 q2

theorem pe_op {op : Operator} {r : R2} (ho : OpR X (binaryOp op) r) (ha : PE X a ta) (hb : PE X b tb) : PE X (.BinOp a op b pos) (tOp r ta tb) := by
  intro pins s σ H Q I h
  exact wpAny_BinOp (binT ha hb I h fun v u s2 x y H2 I2 rx ry q => ho pins s2 σ H2 x y v u Q I2 rx ry q)
theorem pe_un {op : UnaryOp} {r : V → Hp → VK → Prop} (ho : UnR X (unaryOp op) r) (ha : PE X a ta) : PE X (.UnaryOp op a pos) (tUn r ta) := by
  intro pins s σ H Q I h
  exact UnaryOp_ (thn (ha pins s σ H _ I h) fun v s1 ⟨x, H1, I1, r1, q1⟩ => ho pins s1 σ H1 x v Q I1 r1 q1)
theorem opI {f : Value → Value → Sem Value} {C : Int → Int → Prop} {g : Int → Int → Int}
    (rule : ∀ (i j : Int) (t u : Tok) (s : Shared) (Q : Value → Shared → Prop) (E : Value → Shared → Prop), C i j → Q (.int (g i j) s.toks) { s with toks := s.toks + 1 } → wpAny (model X.prog X.w) X.A (f (.int i t) (.int j u)) Q E s) :
    OpR X f (rI C fun i j => .int (g i j)) := by
  intro pins s σ H x y v u Q I rx ry h
  obtain ⟨i, j, rfl, rfl, hc, q⟩ := h
  obtain ⟨t, rfl⟩ := rx
  obtain ⟨t', rfl⟩ := ry
  exact rule i j t t' s _ _ hc ⟨.int (g i j), H, I.tok _, ⟨_, rfl⟩, q⟩
theorem opI0 {f : Value → Value → Sem Value} {g : Int → Int → Int}
    (rule : ∀ (i j : Int) (t u : Tok) (s : Shared) (Q : Value → Shared → Prop) (E : Value → Shared → Prop), Q (.int (g i j) s.toks) { s with toks := s.toks + 1 } → wpAny (model X.prog X.w) X.A (f (.int i t) (.int j u)) Q E s) :
    OpR X f (rI0 fun i j => .int (g i j)) := by
  intro pins s σ H x y v u Q I rx ry h
  obtain ⟨i, j, rfl, rfl, q⟩ := h
  obtain ⟨t, rfl⟩ := rx
  obtain ⟨t', rfl⟩ := ry
  exact rule i j t t' s _ _ ⟨.int (g i j), H, I.tok _, ⟨_, rfl⟩, q⟩
theorem opB0 {f : Value → Value → Sem Value} {g : Int → Int → Bool}
    (rule : ∀ (i j : Int) (t u : Tok) (s : Shared) (Q : Value → Shared → Prop) (E : Value → Shared → Prop), Q (.bool (g i j)) s → wpAny (model X.prog X.w) X.A (f (.int i t) (.int j u)) Q E s) :
    OpR X f (rI0 fun i j => .bl (g i j)) := by
  intro pins s σ H x y v u Q I rx ry h
  obtain ⟨i, j, rfl, rfl, q⟩ := h
  obtain ⟨t, rfl⟩ := rx
  obtain ⟨t', rfl⟩ := ry
  exact rule i j t t' s _ _ ⟨.bl (g i j), H, I, rfl, q⟩

def CDiv (i j : Int) : Prop := 0 < j ∧ j < 1073741824
def CPow (i j : Int) : Prop := 0 ≤ j ∧ j ≤ 1000000 ∧ i.natAbs < 2 ^ 64
def CMul (i j : Int) : Prop := (-(2 ^ 64) < i ∧ i < 2 ^ 64) ∨ (-(2 ^ 64) < j ∧ j < 2 ^ 64)
theorem CMul.ok {i j : Int} (h : CMul i j) : IntMulOk i j := by
  rcases h with ⟨h1, h2⟩ | ⟨h1, h2⟩
  · exact .of_left (intBits_le_64 h1 h2)
  · exact .of_right (intBits_le_64 h1 h2)
theorem op_add : OpR X (binaryOp .Add) (rI0 fun i j => .int (i + j)) := opI0 fun _ _ _ _ _ _ _ q => add_int q
theorem op_sub : OpR X (binaryOp .Sub) (rI0 fun i j => .int (i - j)) := opI0 fun _ _ _ _ _ _ _ q => sub_int q
theorem op_mul : OpR X (binaryOp .Mult) (rI CMul fun i j => .int (i * j)) := opI fun _ _ _ _ _ _ _ hc q => mul_int q hc.ok
/-- // by a positive divisor -/
theorem op_fdiv : OpR X (binaryOp .FloorDiv) (rI CDiv fun i j => .int (i / j)) := opI fun i j _ _ _ _ _ hc q => by
  have h1 : (0 : Int) < j := hc.1
  have h2 : j < 1073741824 := hc.2
  exact floordiv_int (by omega) (by rw [Int.fdiv_eq_ediv_of_nonneg i (by omega)]; exact q) (.inl (PyProof.noPylong_small (by omega)))
/-- % by a positive divisor of any size -/
theorem op_mod : OpR X (binaryOp .Mod) (rI (fun _ j => 0 < j) fun i j => .int (i % j)) := opI fun i j _ _ _ _ _ hc q => by
  have h1 : (0 : Int) < j := hc
  exact mod_int' (by omega) (by rw [Int.fmod_eq_emod_of_nonneg i (by omega)]; exact q)
theorem op_pow : OpR X (binaryOp .Pow) (rI CPow fun i j => .int (i ^ j.toNat)) := opI fun _ _ _ _ _ _ _ hc q => pow_int_small hc.1 hc.2.1 hc.2.2 q
theorem unI {f : Value → Sem Value} {g : Int → Int}
    (rule : ∀ (i : Int) (t : Tok) (s : Shared) (Q : Value → Shared → Prop) (E : Value → Shared → Prop), Q (.int (g i) s.toks) { s with toks := s.toks + 1 } → wpAny (model X.prog X.w) X.A (f (.int i t)) Q E s) :
    UnR X f (rU fun i => .int (g i)) := by
  intro pins s σ H x v Q I rx h
  obtain ⟨i, rfl, q⟩ := h
  obtain ⟨t, rfl⟩ := rx
  exact rule i t s _ _ ⟨.int (g i), H, I.tok _, ⟨_, rfl⟩, q⟩
theorem un_neg : UnR X (unaryOp .USub) (rU fun i => .int (-i)) := unI fun _ _ _ _ _ q => neg_int q
end

/-- the scalars that == tells apart as data does -/
def scal : V → V → Bool
  | .non, .non => true | .non, .int _ => true | .int _, .non => true | .non, .bl _ => true | .bl _, .non => true | .non, .str _ => true | .str _, .non => true
  | .int _, .int _ => true | .bl _, .bl _ => true | .str _, .str _ => true | .byt _, .byt _ => true
  | .int _, .str _ => true | .str _, .int _ => true | .bl _, .str _ => true | .str _, .bl _ => true
  | _, _ => false
inductive rEq (x : V) (y : V) (H : Hp) (Q : VK) : Prop
  | mk : (scal x y = true) → (Q (.bl (decide (x = y))) H) → rEq x y H Q
inductive rNe (x : V) (y : V) (H : Hp) (Q : VK) : Prop
  | mk : (scal x y = true) → (Q (.bl (!decide (x = y))) H) → rNe x y H Q
theorem dec_int {i j : Int} : decide (V.int i = V.int j) = (i == j) := by
  rw [Bool.eq_iff_iff]
  simp
theorem dec_bl {i j : Bool} : decide (V.bl i = V.bl j) = (i == j) := by
  rw [Bool.eq_iff_iff]
  simp
theorem dec_str {i j : Str} : decide (V.str i = V.str j) = (i == j) := by
  rw [Bool.eq_iff_iff]
  simp
theorem dec_byt {i j : Array UInt8} : decide (V.byt i = V.byt j) = (i.toList == j.toList) := by
  rw [Bool.eq_iff_iff]
  cases i
  cases j
  simp

section
variable {X : Cx} {a b c : Expr} {ta tb tc : TE} {pos : Pos}
theorem fin_bl {pins : List (Addr × Obj)} {σ : St} {H : Hp} {s : Shared} {Q : VK} {k k' : Bool} (I : Inv X pins σ H s) (q : Q (.bl k) H) (e : k = k') : EP X pins σ Q (.bool k') s := by
  subst e
  exact ⟨.bl k, H, I, rfl, q⟩
theorem op_eq : OpR X (compareOp .Eq) rEq := by
  intro pins s σ H x y v u Q I rx ry h
  obtain ⟨hs, q⟩ := h
  cases x with
  | non =>
    cases rx
    cases y with
    | non => cases ry; exact PySem.EqNone.eq_none_none (fin_bl I q (by simp))
    | bl j => cases ry; exact PySem.EqNone.eq_none_bool (fin_bl I q (by simp))
    | int j => obtain ⟨t', rfl⟩ := ry; exact PySem.EqNone.eq_none_int (fin_bl I q (by simp))
    | str j => obtain ⟨t', rfl⟩ := ry; exact PySem.EqNone.eq_none_str (fin_bl I q (by simp))
    | _ => exact absurd (show false = true from hs) Bool.false_ne_true
  | bl i =>
    cases rx
    cases y with
    | non => cases ry; exact PySem.EqNone.eq_bool_none (fin_bl I q (by simp))
    | bl j => cases ry; exact eq_bool (fin_bl I q dec_bl)
    | str j => obtain ⟨t', rfl⟩ := ry; exact PySem.EqMixed.eq_bool_str (fin_bl I q (by simp))
    | _ => exact absurd (show false = true from hs) Bool.false_ne_true
  | int i =>
    obtain ⟨t, rfl⟩ := rx
    cases y with
    | non => cases ry; exact PySem.EqNone.eq_int_none (fin_bl I q (by simp))
    | int j => obtain ⟨t', rfl⟩ := ry; exact eq_int (fin_bl I q dec_int)
    | str j => obtain ⟨t', rfl⟩ := ry; exact PySem.EqMixed.eq_int_str (fin_bl I q (by simp))
    | _ => exact absurd (show false = true from hs) Bool.false_ne_true
  | str i =>
    obtain ⟨t, rfl⟩ := rx
    cases y with
    | non => cases ry; exact PySem.EqNone.eq_str_none (fin_bl I q (by simp))
    | bl j => cases ry; exact PySem.EqMixed.eq_str_bool (fin_bl I q (by simp))
    | int j => obtain ⟨t', rfl⟩ := ry; exact PySem.EqMixed.eq_str_int (fin_bl I q (by simp))
    | str j => obtain ⟨t', rfl⟩ := ry; exact eq_str (fin_bl I q dec_str)
    | _ => exact absurd (show false = true from hs) Bool.false_ne_true
  | byt i =>
    obtain ⟨t, rfl⟩ := rx
    cases y with
    | byt j => obtain ⟨t', rfl⟩ := ry; exact PySem.W.eq_bytes (fin_bl I q dec_byt)
    | _ => exact absurd (show false = true from hs) Bool.false_ne_true
  | _ => cases y <;> exact absurd (show false = true from hs) Bool.false_ne_true
theorem op_ne : OpR X (compareOp .NotEq) rNe := by
  intro pins s σ H x y v u Q I rx ry h
  obtain ⟨hs, q⟩ := h
  cases x with
  | non =>
    cases rx
    cases y with
    | non => cases ry; exact PySem.EqNone.ne_none_none (fin_bl I q (by simp))
    | bl j => cases ry; exact PySem.EqNone.ne_none_bool (fin_bl I q (by simp))
    | int j => obtain ⟨t', rfl⟩ := ry; exact PySem.EqNone.ne_none_int (fin_bl I q (by simp))
    | str j => obtain ⟨t', rfl⟩ := ry; exact PySem.EqNone.ne_none_str (fin_bl I q (by simp))
    | _ => exact absurd (show false = true from hs) Bool.false_ne_true
  | bl i =>
    cases rx
    cases y with
    | non => cases ry; exact PySem.EqNone.ne_bool_none (fin_bl I q (by simp))
    | bl j => cases ry; exact ne_bool (fin_bl I q (congrArg not dec_bl))
    | str j => obtain ⟨t', rfl⟩ := ry; exact PySem.EqMixed.ne_bool_str (fin_bl I q (by simp))
    | _ => exact absurd (show false = true from hs) Bool.false_ne_true
  | int i =>
    obtain ⟨t, rfl⟩ := rx
    cases y with
    | non => cases ry; exact PySem.EqNone.ne_int_none (fin_bl I q (by simp))
    | int j => obtain ⟨t', rfl⟩ := ry; exact ne_int (fin_bl I q (congrArg not dec_int))
    | str j => obtain ⟨t', rfl⟩ := ry; exact PySem.EqMixed.ne_int_str (fin_bl I q (by simp))
    | _ => exact absurd (show false = true from hs) Bool.false_ne_true
  | str i =>
    obtain ⟨t, rfl⟩ := rx
    cases y with
    | non => cases ry; exact PySem.EqNone.ne_str_none (fin_bl I q (by simp))
    | bl j => cases ry; exact PySem.EqMixed.ne_str_bool (fin_bl I q (by simp))
    | int j => obtain ⟨t', rfl⟩ := ry; exact PySem.EqMixed.ne_str_int (fin_bl I q (by simp))
    | str j => obtain ⟨t', rfl⟩ := ry; exact ne_str (fin_bl I q (congrArg not dec_str))
    | _ => exact absurd (show false = true from hs) Bool.false_ne_true
  | byt i =>
    obtain ⟨t, rfl⟩ := rx
    cases y with
    | byt j => obtain ⟨t', rfl⟩ := ry; exact PySem.W.ne_bytes (fin_bl I q (congrArg not dec_byt))
    | _ => exact absurd (show false = true from hs) Bool.false_ne_true
  | _ => cases y <;> exact absurd (show false = true from hs) Bool.false_ne_true

theorem op_lt : OpR X (compareOp .Lt) (rI0 fun i j => .bl (decide (i < j))) := opB0 fun _ _ _ _ _ _ _ q => lt_int q
theorem op_gt : OpR X (compareOp .Gt) (rI0 fun i j => .bl (decide (j < i))) := opB0 fun _ _ _ _ _ _ _ q => gt_int q
inductive op_notNY (x : V) (y : V) (H : Hp) (Q : VK) : Prop
  | mk : (y = .non) → (Q (.bl (!decide (x = .non))) H) → op_notNY x y H Q
theorem op_notN : OpR X (compareOp .IsNot) op_notNY := by
  intro pins s σ H x y v u Q I rx ry h
  obtain ⟨rfl, q⟩ := h
  cases ry
  refine isnot_none_gen (fin_bl I q ?_)
  cases x <;> first
    | (cases rx; rfl)
    | (obtain ⟨t, rfl⟩ := rx; rfl)

/-- two rules for one operation: by cases -/
theorem OpR.or {f : Value → Value → Sem Value} {r r' : R2} (h : OpR X f r) (h' : OpR X f r') : OpR X f (fun x y H Q => r x y H Q ∨ r' x y H Q) := by
  intro pins s σ H x y v u Q I rx ry q
  rcases q with q | q
  · exact h pins s σ H x y v u Q I rx ry q
  · exact h' pins s σ H x y v u Q I rx ry q

theorem nomark (b : Expr) {op : CmpOp} (h : op ≠ .In := by decide) (h2 : op ≠ .NotIn := by decide) : behindInMarks op b = false := by
  have e1 : (op == CmpOp.In) = false := by cases op <;> first | rfl | exact absurd rfl h
  have e2 : (op == CmpOp.NotIn) = false := by cases op <;> first | rfl | exact absurd rfl h2
  cases b <;> simp [behindInMarks, e1, e2]
/-- a comparison as a value; hm: nomark b, or (for in, not in) by with_unfolding_all rfl -/
theorem pe_cmpR {op : CmpOp} {r : R2} (ho : OpR X (compareOp op) r) (ha : PE X a ta) (hb : PE X b tb) (hm : behindInMarks op b = false) : PE X (.Compare a [op] [b] pos) (tOp r ta tb) := by
  intro pins s σ H Q I h
  exact wpAny_Compare1 (binT ha hb I h fun v u s2 x y H2 I2 rx ry q => ho pins s2 σ H2 x y v u Q I2 rx ry q) hm
/-- a reading of a value as a test -/
inductive tTestY (Q : Bool → Hp → Prop) (x : V) (H' : Hp) : Prop
  | mk : ∀ k, (x = .bl k) → (Q k H') → tTestY Q x H'
def tTest (t : TE) : TT := fun σ H Q => t σ H fun x H' => tTestY Q x H'
theorem pt_cmpR {op : CmpOp} {r : R2} (ho : OpR X (compareOp op) r) (ha : PE X a ta) (hb : PE X b tb) (hm : behindInMarks op b = false) : PT X (.Compare a [op] [b] pos) (tTest (tOp r ta tb)) := by
  intro pins s σ H Q I h
  refine wpAny_isTrue_Compare1 (thn (ha pins s σ H _ I h) fun v s1 ⟨x, H1, I1, r1, q1⟩ => thn (hb pins s1 σ H1 _ I1 q1) fun u s2 ⟨y, H2, I2, r2, q2⟩ =>
    thn (ho pins s2 σ H2 x y v u _ I2 r1 r2 q2) fun c s3 ⟨z, H3, I3, r3, k, e, q3⟩ => ?_) hm
  subst e
  cases r3
  exact wpAny_truthy_bool ⟨H3, I3, q3⟩
/-- a value's truth by the abstract heap -/
def TruV (K : PySem.W.Frag) (x : V) (H : Hp) (k : Bool) : Prop :=
  match x with
  | .non => k = false
  | .bl b => k = b
  | .int i => k = (i != 0)
  | .str y => y.length ≤ sizeLine ∧ k = ((y.length : Int) != 0)
  | .byt y => y.size ≤ sizeLine ∧ k = ((y.size : Int) != 0)
  | .ref p => (∃ xs, SqL K H p xs ∧ k = !xs.isEmpty) ∨ (∃ xs, SqT K H p xs ∧ k = !xs.isEmpty) ∨ ∃ kvs, H p = some (.dK kvs) ∧ k = !kvs.isEmpty
  | _ => False
theorem isEmpty_kv {κ : Type} {kvs : List (κ × V)} {vs : List (κ × Value)} (r : KV kvs vs) : (!vs.isEmpty) = !kvs.isEmpty := by
  cases r <;> rfl
theorem isEmpty_of {xs : List V} {its : List Value} (r : Vals xs its) : (!its.toArray.isEmpty) = !xs.isEmpty := by
  cases r <;> simp
theorem line63 : (sizeLine : Nat) < 2 ^ 63 := by rw [sizeLine_eq]; decide
theorem tru_ok : TruR X (fun x H Q => ∃ k, TruV X.K x H k ∧ Q k H) := by
  intro pins s σ H x v Q I rx h
  obtain ⟨k, e, q⟩ := h
  have hl := line63
  have hs : sizeLine = 16777216 := sizeLine_eq
  cases x with
  | non =>
    cases rx
    have e' : k = false := e
    subst e'
    exact truthy_none ⟨H, I, q⟩
  | bl b =>
    cases rx
    have e' : k = b := e
    subst e'
    exact wpAny_truthy_bool ⟨H, I, q⟩
  | int i =>
    obtain ⟨t, rfl⟩ := rx
    have e' : k = (i != 0) := e
    subst e'
    exact PySem.P.truthy_int ⟨H, I, q⟩
  | str y =>
    obtain ⟨t, rfl⟩ := rx
    obtain ⟨hy, e'⟩ : y.length ≤ sizeLine ∧ k = ((y.length : Int) != 0) := e
    subst e'
    exact PySem.P.truthy_str (by omega) ⟨H, I.tok _, q⟩
  | byt y =>
    obtain ⟨t, rfl⟩ := rx
    obtain ⟨hy, e'⟩ : y.size ≤ sizeLine ∧ k = ((y.size : Int) != 0) := e
    subst e'
    exact PySem.W.truthy_bytes (by omega) ⟨H, I.tok _, q⟩
  | ref p =>
    cases rx
    have e' : (∃ xs, SqL X.K H p xs ∧ k = !xs.isEmpty) ∨ (∃ xs, SqT X.K H p xs ∧ k = !xs.isEmpty) ∨ ∃ kvs, H p = some (.dK kvs) ∧ k = !kvs.isEmpty := e
    rcases e' with ⟨xs, hx, e'⟩ | ⟨xs, hx, e'⟩ | ⟨kvs, hx, e'⟩
    · subst e'
      obtain ⟨its, r, pl, hz⟩ := I.list hx
      have hlen := r.length
      exact wpAny_truthy_list pl.isList (by simp only [List.size_toArray]; omega) ⟨H, I.tok _, by rw [isEmpty_of r]; exact q⟩
    · subst e'
      obtain ⟨its, r, pl, hz⟩ := I.tuple hx
      have hlen := r.length
      exact truthy_tuple pl (by simp only [List.size_toArray]; omega) ⟨H, I.tok _, by rw [isEmpty_of r]; exact q⟩
    · subst e'
      obtain ⟨hz, hS, vs, r, m⟩ : kvs.length ≤ sizeLine ∧ (p == sysModules) = false ∧ ∃ vs, KV kvs vs ∧ s.heap.DictOf (mixKind X.prog X.w) p vs := I.hok p _ hx
      have hlen : kvs.length = vs.length := Paired.length r
      exact wpAny_truthy_dict hS m (by omega) ⟨H, I.tok _, by rw [isEmpty_kv r]; exact q⟩
  | _ => exact (show False from e).elim
/-- any expression whose test is its value's truth (a name, a call, a subscript, a field ..: he by fun _ => rfl) -/
theorem pt_truth (ha : PE X a ta) (he : ∀ whole, isTrue a X.env whole = (do let v ← whole; standAt a.pos; holding [v] (truthy v))) :
    PT X a (fun σ H Q => ta σ H fun x H' => ∃ k, TruV X.K x H' k ∧ Q k H') := by
  intro pins s σ H Q I h
  exact isTrue_plain (thn (ha pins s σ H _ I h) fun v s1 ⟨x, H1, I1, r1, q1⟩ => tru_ok pins s1 σ H1 x v Q I1 r1 q1) (he _)

theorem vals1 {x : V} {us : List Value} (r : Vals [x] us) : ∃ u, us = [u] ∧ RelV x u := by
  cases r with
  | cons r1 r2 => cases r2; exact ⟨_, rfl, r1⟩
theorem vals2 {x y : V} {us : List Value} (r : Vals [x, y] us) : ∃ u w', us = [u, w'] ∧ RelV x u ∧ RelV y w' := by
  cases r with
  | cons r1 r2 =>
    cases r2 with
    | cons r3 r4 => cases r4; exact ⟨_, _, rfl, r1, r3⟩
inductive call_absY (xs : List V) (H : Hp) (Q : VK) : Prop
  | mk : ∀ i, (xs = [.int i]) → (Q (.int (if i < 0 then -i else i)) H) → call_absY xs H Q
theorem call_abs : CallR X (.builtin "abs") call_absY := by
  intro pins s σ H xs us Q I r h
  obtain ⟨i, rfl, q⟩ := h
  obtain ⟨u, rfl, t, rfl⟩ := vals1 r
  exact call_abs_int fun u tk => ⟨.int (if i < 0 then -i else i), H, I.tok _, ⟨_, rfl⟩, q⟩
inductive call_max2Y (xs : List V) (H : Hp) (Q : VK) : Prop
  | mk : ∀ i j, (xs = [.int i, .int j]) → (Q (.int (if j > i then j else i)) H) → call_max2Y xs H Q
theorem call_max2 (hc : X.calm = true) : CallR X (.builtin "max") call_max2Y := by
  intro pins s σ H xs us Q I r h
  obtain ⟨i, j, rfl, q⟩ := h
  obtain ⟨u, w', rfl, ⟨t, rfl⟩, ⟨t', rfl⟩⟩ := vals2 r
  refine max_two_ints (I.ok.hd hc) fun h' tk k => ⟨_, H, I.kept k, ?_, q⟩
  by_cases hj : j > i
  · rw [if_pos hj, if_pos hj]; exact ⟨_, rfl⟩
  · rw [if_neg hj, if_neg hj]; exact ⟨_, rfl⟩
inductive call_min2Y (xs : List V) (H : Hp) (Q : VK) : Prop
  | mk : ∀ i j, (xs = [.int i, .int j]) → (Q (.int (if j < i then j else i)) H) → call_min2Y xs H Q
theorem call_min2 (hc : X.calm = true) : CallR X (.builtin "min") call_min2Y := by
  intro pins s σ H xs us Q I r h
  obtain ⟨i, j, rfl, q⟩ := h
  obtain ⟨u, w', rfl, ⟨t, rfl⟩, ⟨t', rfl⟩⟩ := vals2 r
  refine min_two_ints (I.ok.hd hc) fun h' tk k => ⟨_, H, I.kept k, ?_, q⟩
  by_cases hj : j < i
  · rw [if_pos hj, if_pos hj]; exact ⟨_, rfl⟩
  · rw [if_neg hj, if_neg hj]; exact ⟨_, rfl⟩
end
end L2

namespace L2
open PySem PySem.Spec PyProof.Rows

structure ObjM (h : Heap) (x dx C : Addr) (mA : Str → Option Value) : Prop where
  obj : h.get? x = some (PySem.W.instObj C dx)
  ns : h.Ns1 dx mA
  ne : dx ≠ x

theorem lookIn_ns {h : Heap} {dx : Addr} {mA : Str → Option Value} (n : h.Ns1 dx mA) : ∃ od, h.get? dx = some od ∧ ∀ name, PySem.W.lookIn name od = some (mA name) := by
  obtain ⟨o, es, ep, ho, hd, hk, _, hm⟩ := n
  refine ⟨o, ho, fun name => ?_⟩
  have e := hm name
  unfold nsFind findBy at e
  rw [← Array.find?_toList] at e
  unfold PySem.W.lookIn
  rw [hd]
  dsimp only
  split
  · rename_i y q
    rw [q] at e
    exact congrArg some e
  · rename_i q
    rw [q] at e
    have a : es.toList.any (·.refKey) = false := by
      rw [List.any_eq_false]
      intro y hy
      obtain ⟨z, t, hkey⟩ := hk y (Array.mem_toList_iff.mp hy)
      simp [DictEntry.refKey, hkey]
    have a' : ¬ es.toList.any (·.refKey) = true := by rw [a]; exact Bool.false_ne_true
    rw [if_neg a']
    exact congrArg some e

theorem ObjM.look {h : Heap} {x dx C : Addr} {mA : Str → Option Value} (I : ObjM h x dx C mA) : ∃ od, PySem.W.InstAt h x (PySem.W.instObj C dx) C (some od) ∧ ∀ name, PySem.W.lookIn name od = some (mA name) :=
  let ⟨od, ho, hl⟩ := lookIn_ns I.ns
  ⟨od, ⟨I.obj, rfl, rfl, ho⟩, hl⟩

section
variable {prog : Program} {w : World} {A : Around} {E : Value → Shared → Prop} {s : Shared} {K : PySem.W.Frag} {x dx C f : Addr} {mA : Str → Option Value} {name : Str} {v : Value}

end

section
variable {P : Program} {w : World} {H H' : Hp} {h h' : Heap} {a C dx : Addr} {fs fs' : List (Str × V)}
theorem ins_get (hok : HOk P w H h) (e : H a = some (.ins C dx fs)) : ∃ mA, ObjM h a dx C mA ∧ (∀ f, RelO (fs.lookup f) (mA f)) ∧ PySem.Within mA (fs.map (·.1)) ∧ fs.length ≤ 1000 ∧ H dx = some (.own a) := by
  obtain ⟨d, z, ne, ob, mA, n, r, q⟩ := (show ObjOk P w H h a (.ins C dx fs) from hok a _ e)
  exact ⟨mA, ⟨ob, n, ne⟩, r, q, z, d⟩
end

structure Cls (K : PySem.W.Frag) (C : Addr) : Prop where
  pg : PySem.W.plainGet K C Str.empty = true
  hd : PySem.W.hasDictIn K C = true
  po : PySem.W.plainOver K C = true
  sa : PySem.W.findIn K (.ref C) "__setattr__" = some (some (.builtin "object.__setattr__"))
theorem Cls.get {K : PySem.W.Frag} {C : Addr} (c : Cls K C) (f : Str) : PySem.W.plainGet K C f = true := c.pg
section
variable {X : Cx} {pins : List (Addr × Obj)} {σ : St} {H : Hp} {s : Shared} {a C dx : Addr} {fs : List (Str × V)} {f : Str} {v : V} {A : Around} {E : Value → Shared → Prop}

/-- a new instance, tracked, without attributes -/
theorem Inv.made (I : Inv X pins σ H s) : Inv X pins σ (upd (upd H s.heap.objs.size (.own (s.heap.objs.size + 1))) (s.heap.objs.size + 1) (.ins C s.heap.objs.size []))
    { s with heap := (s.heap.push PySem.W.emptyDict).push (PySem.W.instObj C s.heap.objs.size) } := by
  have e1 : (s.heap.push PySem.W.emptyDict).get? s.heap.objs.size = some PySem.W.emptyDict := Heap.get?_push_size s.heap rfl
  have e2 : ((s.heap.push PySem.W.emptyDict).push (PySem.W.instObj C s.heap.objs.size)).get? (s.heap.objs.size + 1) = some (PySem.W.instObj C s.heap.objs.size) := by
    have := Heap.get?_push_size (s.heap.push PySem.W.emptyDict) (o := PySem.W.instObj C s.heap.objs.size) rfl
    rwa [Heap.size_push] at this
  have e3 : (s.heap.push PySem.W.emptyDict).Ns s.heap.objs.size (fun _ => none) := ⟨PySem.W.emptyDict, #[], _, e1, rfl, (fun e he => absurd he (by simp)), fun _ => rfl⟩
  have I1 := I.laid (a := s.heap.objs.size) (o := .own (s.heap.objs.size + 1)) (h' := s.heap.push PySem.W.emptyDict) (t' := s.toks) (fun b u q => Heap.get?_push_of_some _ q) (Nat.le_refl _) ⟨_, e1⟩
  refine I1.laid (a := s.heap.objs.size + 1) (o := .ins C s.heap.objs.size []) (t' := s.toks) (fun b u q => Heap.get?_push_of_some _ q) (Nat.le_of_eq (Heap.size_push _ _)) ?_
  have ne : s.heap.objs.size ≠ s.heap.objs.size + 1 := Nat.ne_of_lt (Nat.lt_succ_self _)
  refine ⟨by rw [upd_ne ne, upd_same], Nat.zero_le _, ne, e2, fun _ => none, (Heap.Ns1.of_empty e3).at fun o q => Heap.get?_push_of_some _ q, fun _ => True.intro, fun y hy => absurd rfl hy⟩

end

section
variable {X : Cx} {o e value : Expr} {f : Str} {pos pos' tpos : Pos} {ta tv : TE}
end

section
variable {X : Cx} {pins : List (Addr × Obj)} {σ : St} {H : Hp} {s : Shared} {A : Around} {E : Value → Shared → Prop} {Q : Value → Shared → Prop} {c : Value} {b : Bool}
/-- the type of a value, as the fragment's deciders take it; for an instance its class -/
inductive TyOf (K : PySem.W.Frag) (H : Hp) : V → Value → Prop where
  | non : TyOf K H .non (.type "NoneType")
  | bl (x : Bool) : TyOf K H (.bl x) (.type "bool")
  | int (i : Int) : TyOf K H (.int i) (.type "int")
  | str (x : Str) : TyOf K H (.str x) (.type "str")
  | flt (x : UInt64) : TyOf K H (.flt x) (.type "float")
  | lst {a : Addr} {xs : List V} (e : H a = some (.lst xs)) : TyOf K H (.ref a) (.type "list")
  | frz {a : Addr} {o : Obj} {xs : List V} (e : H a = some (.frz o (.lst xs))) : TyOf K H (.ref a) (.type "list")
  | tup {a : Addr} {xs : List V} (e : H a = some (.tup xs)) : TyOf K H (.ref a) (.type "tuple")
  | dK {a : Addr} {kvs : List (Key × V)} (e : H a = some (.dK kvs)) : TyOf K H (.ref a) (.type "dict")
  | dT {a : Addr} {kvs : List (List Key × V)} (e : H a = some (.dT kvs)) : TyOf K H (.ref a) (.type "dict")
  | ins {a C dx : Addr} {fs : List (Str × V)} (e : H a = some (.ins C dx fs)) (cl : Cls K C) (ha : PySem.W.findIn K (.ref C) "__class__" = some (some (.builtin "object.__class__")))
      (hn : PySem.W.specialIn K (.builtin "object.__class__") "__get__" = some (some (.builtin "getset_descriptor.__get__"))) (htk : PySem.W.takesIn K (.builtin "object.__class__") = some true)
      (hm : PySem.W.mroIn K C (.type "object") = some true) : TyOf K H (.ref a) (.ref C)
/-- isinstance(x, c) for one class c, a built-in or an own one: kitOne's answer -/
theorem isinst_ok {x : V} {u t : Value} (I : Inv X pins σ H s) (rx : RelV x u) (ty : TyOf X.K H x t) (e : PySem.W.kitOne X.K t c = some b) (h : ∀ tk, Q (.bool b) { s with toks := tk }) :
    wpAny (model X.prog X.w) A (call (.builtin "isinstance") [u, c]) Q E s := by
  cases ty with
  | non => cases (show u = Value.none from rx); exact PySem.W.kia_one PySem.W.kitx_none I.kIn True.intro e (fun z => nomatch z) h
  | bl y => cases (show u = Value.bool y from rx); exact PySem.W.kia_one PySem.W.kitx_bool I.kIn True.intro e (fun z => nomatch z) h
  | int i => obtain ⟨t, q⟩ := (show ∃ t, u = Value.int i t from rx); cases q; exact PySem.W.kia_one PySem.W.kitx_int I.kIn True.intro e (fun z => nomatch z) h
  | str y => obtain ⟨t, q⟩ := (show ∃ t, u = Value.str y t from rx); cases q; exact PySem.W.kia_one PySem.W.kitx_str I.kIn True.intro e (fun z => nomatch z) h
  | flt y => obtain ⟨t, q⟩ := (show ∃ t, u = Value.float y t from rx); cases q; exact PySem.W.kia_one PySem.W.kitx_float I.kIn True.intro e (fun z => nomatch z) h
  | @lst a xs ea =>
    cases (show u = Value.ref a from rx)
    obtain ⟨_, _, n, _, h1⟩ := (show ObjOk X.prog X.w H s.heap a (.lst xs) from I.hok a _ ea)
    exact PySem.W.kia_one PySem.W.kitx_list I.kIn ⟨_, h1, rfl⟩ e (fun z => nomatch z) h
  | @frz a ob xs ea =>
    cases (show u = Value.ref a from rx)
    obtain ⟨_, _, _, n, _, h1⟩ := (show ObjOk X.prog X.w H s.heap a (.frz ob (.lst xs)) from I.hok a _ ea)
    exact PySem.W.kia_one PySem.W.kitx_list I.kIn ⟨_, h1, rfl⟩ e (fun z => nomatch z) h
  | @tup a xs ea =>
    cases (show u = Value.ref a from rx)
    obtain ⟨_, _, _, p⟩ := (show ObjOk X.prog X.w H s.heap a (.tup xs) from I.hok a _ ea)
    obtain ⟨o, h1, h2, _⟩ := p
    exact PySem.W.kia_one PySem.W.kitx_tuple I.kIn ⟨o, h1, h2⟩ e (fun z => nomatch z) h
  | @dK a kvs ea =>
    cases (show u = Value.ref a from rx)
    obtain ⟨_, _, vs, _, p⟩ := (show ObjOk X.prog X.w H s.heap a (.dK kvs) from I.hok a _ ea)
    obtain ⟨o, es, ep, h1, h2, _⟩ := p
    exact PySem.W.kia_one PySem.W.kitx_dict I.kIn ⟨o, h1, h2.1⟩ e (fun z => nomatch z) h
  | @dT a kvs ea =>
    cases (show u = Value.ref a from rx)
    obtain ⟨_, _, xs, _, o, es, ep, h1, h2, _⟩ := (show ObjOk X.prog X.w H s.heap a (.dT kvs) from I.hok a _ ea)
    exact PySem.W.kia_one PySem.W.kitx_dict I.kIn ⟨o, h1, h2.1⟩ e (fun z => nomatch z) h
  | @ins a C dx fs ea cl ha hn htk hm =>
    cases (show u = Value.ref a from rx)
    obtain ⟨mA, O, _⟩ := ins_get I.hok ea
    obtain ⟨od, J, _⟩ := O.look
    exact PySem.W.kia_one (PySem.W.kitx_own (cl.get _) cl.hd ha hn htk hm) I.kIn J e (fun z => nomatch z) h
end
end L2

namespace L2
open PySem PySem.Spec PyProof.Rows

structure Room (k : Nat) (A : Around) : Prop where
  hd : A.handled = none
  dp : A.depth + 3 * k + 5 < recursionLimit
  un : A.units + 16 * k + 200 < cLine
  gd : A.guards = some []
theorem Room.mono {j k : Nat} {A : Around} (r : Room k A) (h : j ≤ k) : Room j A := ⟨r.hd, by have := r.dp; omega, by have := r.un; omega, r.gd⟩
theorem Room.deeper {k : Nat} {A : Around} (r : Room (k + 1) A) (env : Env) : Room k (A.deeper env) :=
  ⟨r.hd, by have := r.dp; show A.depth + 1 + 3 * k + 5 < _; omega, by have := r.un; show A.units + 3 + 16 * k + 200 < _; omega, r.gd⟩
theorem Room.in1 {k : Nat} {A : Around} (r : Room (k + 1) A) : Room k A.in1 :=
  ⟨r.hd, by have := r.dp; show A.depth + 3 * k + 5 < _; omega, by have := r.un; show A.units + 1 + 16 * k + 200 < _; omega, r.gd⟩
theorem Room.depth {k : Nat} {A : Around} (r : Room k A) : A.depth < recursionLimit := by have := r.dp; omega
theorem Room.units {k : Nat} {A : Around} (r : Room k A) : A.units + 64 < cLine := by have := r.un; omega
def tNil : TA := fun _ H Q => Q [] H
def tCons (ta : TE) (tr : TA) : TA := fun σ H Q => ta σ H fun x H1 => tr σ H1 fun xs H2 => Q (x :: xs) H2
section
variable {X : Cx} {e : Expr} {es : List Expr} {te : TE} {t : TA} {pos : Pos}
theorem pa_nil : PA X [] tNil := fun _ _ _ _ H Q I h => Calls.spliced_nil ⟨[], H, I, .nil, h⟩
theorem pa_cons (ha : PE X e te) (hr : PA X es t) (hs : starEach (e :: es) X.env = (false, eval e X.env) :: starEach es X.env := by rfl) : PA X (e :: es) (tCons te t) := by
  intro pos pins s σ H Q I h
  rw [hs]
  show wpAny _ _ (spliced ((false, eval e X.env) :: backTo pos (starEach es X.env))) _ _ s
  refine Calls.spliced_cons (thn (ha pins s σ H _ I h) fun u s1 ⟨x, H1, I1, r1, q1⟩ => ?_)
  exact thn (hr pos pins s1 σ H1 _ I1 q1) fun us s2 ⟨xs, H2, I2, r2, q2⟩ => ⟨x :: xs, H2, I2, .cons r1 r2, q2⟩

/-- a tuple, a list of written items -/
inductive tTupY (Q : VK) (xs : List V) (H1 : Hp) : Prop
  | mk : (xs.length ≤ sizeLine) → (∀ p, H1 p = none → Q (.ref p) (upd H1 p (.tup xs))) → tTupY Q xs H1
def tTup (t : TA) : TE := fun σ H Q => t σ H fun xs H1 => tTupY Q xs H1
inductive tLstY (Q : VK) (xs : List V) (H1 : Hp) : Prop
  | mk : (xs.length ≤ sizeLine) → (∀ p, H1 p = none → Q (.ref p) (upd H1 p (.lst xs))) → tLstY Q xs H1
def tLst (t : TA) : TE := fun σ H Q => t σ H fun xs H1 => tLstY Q xs H1
theorem pe_tup {x1} (h : PA X es t) : PE X (.Tuple es x1 pos) (tTup t) := by
  intro pins s σ H Q I hq
  refine wpAny_Tuple_spliced (thn (h pos pins s σ H _ I hq) fun us s1 ⟨xs, H1, I1, r, z, q⟩ => ⟨by rw [← r.length]; exact z, ?_⟩)
  have hf : H1 s1.heap.objs.size = none := I1.hok.fresh (Nat.le_refl _)
  refine ⟨.ref s1.heap.objs.size, upd H1 s1.heap.objs.size (.tup xs), I1.laid (t' := s1.toks) (fun b u e => Heap.get?_push_of_some _ e) (Nat.le_refl _) ?_, rfl, q _ hf⟩
  exact ⟨z, us, r, ⟨_, Heap.get?_push_size _ rfl, rfl, _, rfl, rfl⟩⟩
theorem pe_lst (h : PA X es t) : PE X (.List es pos) (tLst t) := by
  intro pins s σ H Q I hq
  refine wpAny_List_spliced (thn (h pos pins s σ H _ I hq) fun us s1 ⟨xs, H1, I1, r, z, q⟩ => ⟨by rw [← r.length]; exact z, ?_⟩)
  have hf : H1 s1.heap.objs.size = none := I1.hok.fresh (Nat.le_refl _)
  refine ⟨.ref s1.heap.objs.size, upd H1 s1.heap.objs.size (.lst xs), I1.laid (t' := s1.toks) (fun b u e => Heap.get?_push_of_some _ e) (Nat.le_refl _) ?_, rfl, q _ hf⟩
  exact ⟨z, us, 0, r, Heap.get?_push_size _ rfl⟩
end

/-- a def's promise: the bound arguments in the parameters' order, the heap, the wanted end, the wanted exception -/
abbrev Sp := List V → Hp → VK → XK → Prop
/-- how an exception lies behind a call (file 08 gives it): the callers' frames, abstract heap and state ahead of the call, the wish, the exception, the state -/
abbrev CXT := List Env → Hp → Shared → XK → Value → Shared → Prop

/-- the state at a call -/
structure Env0 (P : Program) (w : World) (K : PySem.W.Frag) (mg : Str → Option Value) (base : Heap) (A : Around) (outer : List Env) (s : Shared) (H : Hp) : Prop where
  frames : A.frames = some outer
  mod : Mod K mg base
  bs : ∀ b o, base.get? b = some o → s.heap.get? b = some o ∧ H b = none
  bsz : base.objs.size ≤ s.heap.objs.size
  funs : s.heap.FunFrames base outer
  frf : ∀ b ∈ frs outer, H b = none
  hok : HOk P w H s.heap
  bare : AllBare s.gens
/-- a call's end -/
def CE (outer : List Env) (P : Program) (w : World) (H : Hp) (s : Shared) (Q : VK) (u : Value) (s' : Shared) : Prop :=
  ∃ v H', s'.os = s.os ∧ AllBare s'.gens ∧ Un (frs outer) [] H H' s.heap s'.heap ∧ HOk P w H' s'.heap ∧ RelV v u ∧ Q v H'
def CR (CX : CXT) (outer : List Env) (P : Program) (w : World) (H : Hp) (s : Shared) (Q : VK) (E : XK) (r : Result) (s' : Shared) : Prop :=
  match r with
  | .ok (.ret u) => CE outer P w H s Q u s'
  | .ok _ => False
  | .error e => CX outer H s E e s'
structure FnOk (P : Program) (w : World) (K : PySem.W.Frag) (mg : Str → Option Value) (base : Heap) (CX : CXT) (k : Nat) (f : Addr) (fd : FuncData) (ps : List Str) (sp : Sp) : Prop where
  len : ∀ vs H Q E, sp vs H Q E → vs.length = ps.length
  run : ∀ (A : Around) (outer : List Env) (s : Shared) (H : Hp) (args : Args) (us : List Value) (vs : List V) (Q : VK) (E : XK), Room k A → Env0 P w K mg base A outer s H → BindsTo s fd args (ps.zip us) → Vals vs us → sp vs H Q E →
    codeAny (model P w) A (.call (.ref f) args) (CR CX outer P w H s Q E) s
theorem FnOk.mono {P : Program} {w : World} {K : PySem.W.Frag} {mg : Str → Option Value} {base : Heap} {CX : CXT} {j k : Nat} {f : Addr} {fd : FuncData} {ps : List Str} {sp : Sp} (F : FnOk P w K mg base CX j f fd ps sp) (h : j ≤ k) :
    FnOk P w K mg base CX k f fd ps sp := ⟨F.len, fun A outer s H args us vs Q E hr => F.run A outer s H args us vs Q E (hr.mono h)⟩
/-- a weaker promise -/
theorem FnOk.imp {P : Program} {w : World} {K : PySem.W.Frag} {mg : Str → Option Value} {base : Heap} {CX : CXT} {k : Nat} {f : Addr} {fd : FuncData} {ps : List Str} {sp sp' : Sp} (F : FnOk P w K mg base CX k f fd ps sp)
    (h : ∀ vs H Q E, sp' vs H Q E → sp vs H Q E) : FnOk P w K mg base CX k f fd ps sp' :=
  ⟨fun vs H Q E q => F.len vs H Q E (h _ _ _ _ q), fun A outer s H args us vs Q E hr he hb hv hs => F.run A outer s H args us vs Q E hr he hb hv (h _ _ _ _ hs)⟩

theorem Env0.in1 {P : Program} {w : World} {K : PySem.W.Frag} {mg : Str → Option Value} {base : Heap} {A : Around} {outer : List Env} {s : Shared} {H : Hp} (e : Env0 P w K mg base A outer s H) :
    Env0 P w K mg base A.in1 outer s H := ⟨e.frames, e.mod, e.bs, e.bsz, e.funs, e.frf, e.hok, e.bare⟩

section
variable {X : Cx} {pins : List (Addr × Obj)} {σ : St} {H : Hp} {s s' : Shared}
/-- from a body: what a callee wants -/
theorem Inv.env0 (I : Inv X pins σ H s) : Env0 X.prog X.w X.K X.mg X.base X.A X.stack s H :=
  ⟨I.ok.frames, I.ok.mod, I.bs, Nat.le_trans I.ok.bsz I.sz, I.stack, I.stkFree, I.hok, I.bare⟩
/-- behind a call -/
theorem Inv.after {Q : VK} {u : Value} (I : Inv X pins σ H s) (h : CE X.stack X.prog X.w H s Q u s') : EP X pins σ Q u s' := by
  obtain ⟨v, H', os, bare, un, hok, r, q⟩ := h
  obtain ⟨hh, g, d, t, os'⟩ := s'
  obtain rfl : os' = s.os := os
  exact ⟨v, H', I.call (h' := hh) (g' := g) (d' := d) (t' := t) (ch := []) un hok bare (fun b z => absurd z (by simp)), r, q⟩
end

/-- f(..): the written arguments, then the defaults dvs; E: what is wanted of an exception -/
def tCall (sp : Sp) (dvs : List V) (E : XK) (t : TA) : TE := fun σ H Q => t σ H fun vs H1 => sp (vs ++ dvs) H1 Q E
/-- how the parameters are bound: us the positional arguments, kw the keywords' values by name, ds the defaults that fill up -/
def Binds (K : PySem.W.Frag) (fd : FuncData) (ps : List Str) (ds : List Value) : Prop :=
  ∀ (s : Shared) (us : List Value), K.In s.heap → (us ++ ds).length = ps.length → BindsTo s fd ⟨us, []⟩ (ps.zip (us ++ ds))
/-- every parameter is given -/
theorem Binds.all {K : PySem.W.Frag} {fd : FuncData} {ps : List Str} (h : ∀ us : List Value, us.length = ps.length → bindArgs fd ⟨us, []⟩ = pure (ps.zip us)) : Binds K fd ps [] := fun s us _ hl => by
  rw [List.append_nil] at hl ⊢
  exact .of_eq (h us hl)

/-- an exception of a callee reaches what this body wants of exceptions -/
def Passes (CX : CXT) (X : Cx) (E : XK) : Prop := ∀ (pins : List (Addr × Obj)) (σ : St) (H : Hp) (s : Shared) (e : Value) (s' : Shared), Inv X pins σ H s → CX X.stack H s E e s' → X.xe e s'

section
variable {X : Cx} {CX : CXT} {k : Nat} {f C : Addr} {fd : FuncData} {ps : List Str} {sp : Sp} {dvs : List V} {ds : List Value} {E : XK} {x m : Str} {p pos apos : Pos} {e o : Expr} {es : List Expr} {ta : TE} {t : TA}

/-- the callee runs -/
theorem run_fn {pins : List (Addr × Obj)} {σ : St} {H : Hp} {s : Shared} {Q : VK} {us : List Value} {vs : List V} (F : FnOk X.prog X.w X.K X.mg X.base CX k f fd ps sp) (hr : Room k X.A) (hb : Binds X.K fd ps ds) (hd : Vals dvs ds) (hx : Passes CX X E)
    (I : Inv X pins σ H s) (r : Vals vs us) (h : sp (vs ++ dvs) H Q E) : wpAny (model X.prog X.w) X.A (call (.ref f) us) (EP X pins σ Q) X.xe s := by
  have r2 : Vals (vs ++ dvs) (us ++ ds) := r.append hd
  have hl : (us ++ ds).length = ps.length := by rw [← r2.length]; exact F.len _ _ _ _ h
  refine wpAny_call (codeAny_mono (F.run X.A X.stack s H ⟨us, []⟩ (us ++ ds) (vs ++ dvs) Q E hr I.env0 (hb s us I.kIn hl) r2 h) fun r s' hq => ?_)
  cases r with
  | error e => exact hx pins σ H s e s' I hq
  | ok fl =>
    cases fl with
    | ret u => exact I.after hq
    | next => exact False.elim hq
    | brk => exact False.elim hq
    | cont => exact False.elim hq

theorem pe_call (F : FnOk X.prog X.w X.K X.mg X.base CX k f fd ps sp) (hr : Room k X.A) (hg : Gl X x) (hm : X.mg x = some (.ref f)) (hk : PySem.W.keepIn X.K (.ref f) = true) (hb : Binds X.K fd ps ds) (hd : Vals dvs ds) (hx : Passes CX X E)
    (ha : PA X (e :: es) t) (hdb : (x == ("__debug__" : Str)) = false := by decide) (he : starEach (e :: es) X.env = (false, eval e X.env) :: starEach es X.env := by rfl) (hpl : (backTo pos (starEach es X.env)).any (·.1) = false := by rfl) :
    PE X (.Call (.Name x p) (e :: es) [] pos) (tCall sp dvs E t) := by
  intro pins s σ H Q I h
  refine wpAny_Call_Name_kw (ld_glob I hg hm ?_ hdb)
  refine PySem.W.callWith_K (h₀ := X.base) I.ok.mod.kin hk (thn (ha pos pins s σ H _ I h) fun us s1 ⟨vs, H1, I1, r, q⟩ => ⟨I1.kIn, ?_⟩) he hpl
  exact run_fn F hr hb hd hx I1 r q
end

section
variable {X : Cx} {CX : CXT} {k : Nat} {f C : Addr} {fd : FuncData} {ps ks : List Str} {sp : Sp} {E : XK} {x m : Str} {p pos apos kpos : Pos} {e o : Expr} {es : List Expr} {kws : List Keyword} {te ta : TE} {t tk : TA} {nm : Option Str}
variable {g : List Value → List Value → List Value} {gV : List V → List V → List V}
end

/-- names: the parameters first -/
structure FnScope (N P : List Str) (sc : Scope) : Prop where
  kind : sc.kind = .function
  co : sc.isCoroutine = false
  gen : sc.isGenerator = false
  nd : N.Nodup
  pre : N.take P.length = P
  par : ∀ x ∈ P, sc.names.lookup x = some .local ∨ sc.names.lookup x = some .cell
  nofree : ∀ y ∈ sc.names, y.2 ≠ .free

theorem bindL_out {kindOf : Str → Option NameKind} {x : Str} : ∀ {binds : List (Str × Value)} {m : Str → Option Value}, (∀ v, (x, v) ∉ binds) → bindL kindOf binds m x = m x
  | [], _, _ => rfl
  | (n, v) :: r, m, h => by
    unfold bindL
    rw [bindL_out fun w hw => h w (List.mem_cons_of_mem _ hw)]
    split
    · have : x ≠ n := by rintro rfl; exact h v List.mem_cons_self
      simp [this]
    · rfl
theorem bindC_out {kindOf : Str → Option NameKind} {x : Str} : ∀ {binds : List (Str × Value)} {m : Str → Option Value}, (∀ v, (x, v) ∉ binds) → bindC kindOf binds m x = m x
  | [], _, _ => rfl
  | (n, v) :: r, m, h => by
    unfold bindC
    rw [bindC_out fun w hw => h w (List.mem_cons_of_mem _ hw)]
    split
    · rfl
    · have : x ≠ n := by rintro rfl; exact h v List.mem_cons_self
      simp [this]
theorem bindL_get {kindOf : Str → Option NameKind} {x : Str} {v : Value} : ∀ {P : List Str} {vs : List Value} {i : Nat} {m : Str → Option Value}, P.Nodup → P[i]? = some x → vs[i]? = some v → kindOf x = some .local →
    bindL kindOf (P.zip vs) m x = some v
  | [], _, _, _, _, h, _, _ => by simp at h
  | _ :: _, [], _, _, _, _, h, _ => by simp at h
  | p :: P, w :: vs, 0, m, nd, h1, h2, hk => by
    simp at h1 h2; subst h1; subst h2
    show bindL kindOf ((p, w) :: P.zip vs) m p = _
    unfold bindL
    rw [bindL_out fun v hv => (List.nodup_cons.mp nd).1 (List.of_mem_zip hv).1, if_pos hk]
    simp
  | p :: P, w :: vs, i + 1, m, nd, h1, h2, hk => by
    show bindL kindOf ((p, w) :: P.zip vs) m x = _
    unfold bindL
    exact bindL_get (i := i) (List.nodup_cons.mp nd).2 (by simpa using h1) (by simpa using h2) hk
theorem bindC_get {kindOf : Str → Option NameKind} {x : Str} {v : Value} : ∀ {P : List Str} {vs : List Value} {i : Nat} {m : Str → Option Value}, P.Nodup → P[i]? = some x → vs[i]? = some v → kindOf x ≠ some .local →
    bindC kindOf (P.zip vs) m x = some v
  | [], _, _, _, _, h, _, _ => by simp at h
  | _ :: _, [], _, _, _, _, h, _ => by simp at h
  | p :: P, w :: vs, 0, m, nd, h1, h2, hk => by
    simp at h1 h2; subst h1; subst h2
    show bindC kindOf ((p, w) :: P.zip vs) m p = _
    unfold bindC
    rw [bindC_out fun v hv => (List.nodup_cons.mp nd).1 (List.of_mem_zip hv).1, if_neg hk]
    simp
  | p :: P, w :: vs, i + 1, m, nd, h1, h2, hk => by
    show bindC kindOf ((p, w) :: P.zip vs) m x = _
    unfold bindC
    exact bindC_get (i := i) (List.nodup_cons.mp nd).2 (by simpa using h1) (by simpa using h2) hk

/-- the names' values at the entry -/
def start (N : List Str) (vs : List V) : St := vs.map some ++ List.replicate (N.length - vs.length) none

/-- the context of a def's body, at its entry; an exception leaves the frame, then lies as CX says -/
def cxOf (CX : CXT) (P : Program) (w : World) (K : PySem.W.Frag) (mg : Str → Option Value) (base : Heap) (N : List Str) (qual : Str) (scope : Scope) (f : Addr) (cd : Value) (A : Around) (outer : List Env) (s : Shared) (H : Hp) (E : XK) : Cx where
  prog := P
  w := w
  K := K
  mg := mg
  base := base
  A := A.deeper (envOfC qual scope s.heap.objs.size f cd)
  N := N
  s₀ := s
  H₀ := H
  env := envOfC qual scope s.heap.objs.size f cd
  outer := outer
  stack := envOfC qual scope s.heap.objs.size f cd :: outer
  ex := []
  calm := true
  fn := fun _ => true
  pn := []
  xe := fun e s' => wpAny (model P w) (A.deeper (envOfC qual scope s.heap.objs.size f cd)) (leaving (envOfC qual scope s.heap.objs.size f cd) e) (fun _ s'' => CX outer H s E e s'') (fun e' s'' => CX outer H s E e' s'') s'

theorem cell_has {sc : Scope} {n : Nat} {x : Str} (h : sc.names.lookup x = some .cell) : ∃ c, (cellsFrom n sc.names []).lookup x = some c := by
  have q := PySem.W.cellsFrom_some sc.names n [] (.inl h)
  exact Option.isSome_iff_exists.mp q

theorem inv_start {CX : CXT} {P : Program} {w : World} {K : PySem.W.Frag} {mg : Str → Option Value} {base : Heap} {N ps : List Str} {qual : Str} {scope : Scope} {f : Addr} {cd : Value} {A : Around} {outer : List Env} {s s1 : Shared} {H : Hp} {E : XK} {us : List Value} {vs : List V}
    (S : FnScope N ps scope) (hd : A.handled = none) (e0 : Env0 P w K mg base A outer s H) (hl : vs.length = ps.length) (r : Vals vs us)
    (x : InCallC s s.heap.objs.size (bindL (envOfC qual scope s.heap.objs.size f cd).kindOf (ps.zip us) fun _ => none) (cellsFrom (s.heap.objs.size + 1) scope.names []) (bindC (envOfC qual scope s.heap.objs.size f cd).kindOf (ps.zip us) fun _ => none) s1) :
    Inv (cxOf CX P w K mg base N qual scope f cd A outer s H E) [] (start N vs) H s1 := by
  have hpl : ps.length ≤ N.length := by have := congrArg List.length S.pre; rw [List.length_take] at this; omega
  obtain ⟨h1, tk, rfl, hk⟩ := x.done
  have noA : ∀ b : Addr, b ∉ (cxOf CX P w K mg base N qual scope f cd A outer s H E).ex := fun b z => absurd (show b ∈ ([] : List Addr) from z) (by simp)
  refine ⟨⟨e0.mod, S.kind, rfl, rfl, Nat.le_refl _, fun y z c h1 h2 => ?_, fun y hy => ?_, fun y c _ h => ?_, fun _ => hd, Around.frames_deeper e0.frames, .inr ⟨rfl, rfl⟩, fun b z => absurd z (noA b), e0.bs, e0.bsz, fun b _ _ => noA b, fun b z => absurd z (noA b), e0.funs, e0.frf⟩,
    rfl, e0.bare, Un.kept hk, ⟨_, x.toInCall.ns, fun i y v h1 h2 h3 => ?_⟩, fun y c h => ⟨_, x.cell y c h⟩, e0.hok.fresh (Nat.le_refl _), fun y c h => ?_, fun p hp => absurd (show p ∈ ([] : List (Addr × Obj)) from hp) (by simp), e0.hok.kept hk, ?_⟩
  · exact name_of_addr x.apart (PySem.mem_of_lookup h1) (PySem.mem_of_lookup h2)
  · have hy : scope.names.lookup y = some .cell ∨ scope.names.lookup y = some .free := hy
    rcases hy with hy | hy
    · exact cell_has hy
    · exact absurd rfl (S.nofree _ (PySem.mem_of_lookup hy))
  · exact Nat.le_of_lt (x.above y c (PySem.mem_of_lookup h))
  · have hi : i < vs.length := by
      unfold start at h2
      by_cases hi : i < vs.length
      · exact hi
      · rw [List.getElem?_append_right (by simpa using hi)] at h2
        rw [List.getElem?_replicate] at h2
        split at h2 <;> cases h2
    have ha : vs[i]? = some v := by
      unfold start at h2
      rw [List.getElem?_append_left (by simpa using hi), List.getElem?_map] at h2
      cases e : vs[i]? with
      | none => rw [e] at h2; cases h2
      | some a => rw [e] at h2; cases h2; rfl
    obtain ⟨u, hu, rv⟩ := r.get ha
    have hp : ps[i]? = some y := by
      rw [← S.pre, List.getElem?_take_of_lt (by omega)]; exact h1
    have ndP : ps.Nodup := by rw [← S.pre]; exact S.nd.sublist (List.take_sublist _ _)
    refine ⟨u, rv, ?_⟩
    rcases S.par y (List.mem_of_getElem? hp) with k | k
    · exact .inl ⟨k, bindL_get ndP hp hu k⟩
    · obtain ⟨c, e⟩ := cell_has (n := s.heap.objs.size + 1) k
      refine .inr ⟨.inl k, c, e, ?_⟩
      have q := x.cell y c e
      rw [bindC_get ndP hp hu (by show scope.names.lookup y ≠ _; rw [k]; decide)] at q
      exact q
  · exact e0.hok.fresh (Nat.le_of_lt (x.above y c (PySem.mem_of_lookup h)))
  · unfold start
    show _ = N.length
    rw [List.length_append, List.length_map, List.length_replicate]
    omega

/-- THE RULE: a def (or a method) of the text, by its body. The body's reading t is chosen for each entry; it is run at the parameters' values -/
theorem fn_of {CX : CXT} {P : Program} {w : World} {K : PySem.W.Frag} {mg : Str → Option Value} {base : Heap} {k : Nat} {f : Addr} {name qual : Str} {params : Arguments} {body : List Stmt} {scope : Scope} {dV kV doc pm cdv ct oc : Value} {an od : Option Addr}
    {osl : Array (Option Value)} {N ps : List Str} {sp : Sp} (lk : K.lookup f = some ⟨oc, od, .func (PySem.W.fnOf name qual params body scope dV kV doc pm an cdv ct), osl⟩) (hcd : PySem.W.codeIn K cdv qual = true) (S : FnScope N ps scope)
    (len : ∀ vs H Q E, sp vs H Q E → vs.length = ps.length)
    (hbody : ∀ (A : Around) (outer : List Env) (s : Shared) (H : Hp) (vs : List V) (Q : VK) (E : XK), Room k (A.deeper (envOfC qual scope s.heap.objs.size f cdv)) → sp vs H Q E →
      ∃ t, PSs (cxOf CX P w K mg base N qual scope f cdv A outer s H E) body t ∧ t { nx := fun _ H' => Q .non H', rt := Q } (start N vs) H) :
    FnOk P w K mg base CX (k + 1) f (PySem.W.fnOf name qual params body scope dV kV doc pm an cdv ct) ps sp := by
  refine ⟨len, fun A outer s H args us vs Q E hr e0 hb r hsp => ?_⟩
  have hl := len _ _ _ _ hsp
  have KX : K.In s.heap := e0.mod.kin.keeps fun b o e => (e0.bs b o e).1
  have lim : s.heap.NoLimit := e0.mod.nolimit.keeps fun b o e => (e0.bs b o e).1
  have hkind : ∀ y ∈ ps.zip us, scope.names.lookup y.1 = some .local ∨ (scope.names.lookup y.1 = some .cell ∧ ((cellsFrom (s.heap.objs.size + 1) scope.names []).lookup y.1).isSome = true) := fun ⟨n, v⟩ hy => by
    rcases S.par n (List.of_mem_zip hy).1 with q | q
    · exact .inl q
    · exact .inr ⟨q, PySem.W.cellsFrom_some _ _ _ (.inl q)⟩
  refine codeAny_call_function hr.depth (KX _ _ lk) rfl S.co S.gen rfl (PySem.W.codeRec_of KX hcd) (hb _ _ _ _ ?_)
  refine wpAny_newFunctionEnv_cells S.kind hkind fun env he s1 x => ?_
  subst he
  refine ⟨lim.keeps x.toInCall.keep, codeAny_func ?_⟩
  obtain ⟨t, ht, hq⟩ := hbody A outer s H vs Q E (hr.deeper _) hsp
  have I : Inv (cxOf CX P w K mg base N qual scope f cdv A outer s H E) [] (start N vs) H s1 := inv_start S hr.hd e0 hl r x
  refine wpAny_mono (ht [] s1 (start N vs) H _ I hq) (fun fl s' hs => ?_) fun e s' hs => hs
  have fin : ∀ {σ' : St} {H' : Hp} {v : V} {u : Value}, Inv (cxOf CX P w K mg base N qual scope f cdv A outer s H E) [] σ' H' s' → RelV v u → Q v H' → CE outer P w H s Q u s' :=
    fun {σ' H' v u} J rv q => ⟨v, H', J.os, J.bare, J.base, J.hok, rv, q⟩
  cases fl with
  | ret u =>
    obtain ⟨v, σ', H', J, rv, q⟩ := hs
    exact fin J rv q
  | next =>
    obtain ⟨σ', H', J, q⟩ := hs
    exact fin (v := V.non) (u := Value.none) J rfl q
  | brk =>
    obtain ⟨_, _, _, q⟩ := hs
    exact False.elim q
  | cont =>
    obtain ⟨_, _, _, q⟩ := hs
    exact False.elim q
end L2

namespace L2
open PySem PySem.Spec PyProof.Rows
section
variable {X : Cx} {x : Str} {p pos : Pos} {e : Expr} {es : List Expr} {t : TA} {id T : String} {r : List V → Hp → VK → Prop}

def tCB (r : List V → Hp → VK → Prop) (t : TA) : TE := fun σ H Q => t σ H fun vs H1 => r vs H1 Q
/-- f(e, ..), f a built-in function -/
theorem pe_callB (hc : CallR X (.builtin id) r) (hg : Gl X x) (hm : X.mg x = none) (hv : bootBuiltins x = some (.builtin id)) (ha : PA X (e :: es) t) (hn : x ≠ "__name__" := by decide) (hdb : (x == ("__debug__" : Str)) = false := by decide)
    (he : starEach (e :: es) X.env = (false, eval e X.env) :: starEach es X.env := by rfl) (hpl : (backTo pos (starEach es X.env)).any (·.1) = false := by rfl) : PE X (.Call (.Name x p) (e :: es) [] pos) (tCB r t) := by
  intro pins s σ H Q I h
  refine wpAny_Call_Name_kw (ld_blt I hg hm hv ?_ hn hdb)
  exact PyProof.Rows.callWith_builtin1 (thn (ha pos pins s σ H _ I h) fun us s1 ⟨vs, H1, I1, r1, q1⟩ => hc pins s1 σ H1 vs us Q I1 r1 q1) he hpl
/-- T(e, ..), T a built-in type -/
theorem pe_callTy (hc : CallR X (.type T) r) (hg : Gl X x) (hm : X.mg x = none) (hv : bootBuiltins x = some (.type T)) (ha : PA X (e :: es) t) (hn : x ≠ "__name__" := by decide) (hdb : (x == ("__debug__" : Str)) = false := by decide)
    (he : starEach (e :: es) X.env = (false, eval e X.env) :: starEach es X.env := by rfl) (hpl : (backTo pos (starEach es X.env)).any (·.1) = false := by rfl) : PE X (.Call (.Name x p) (e :: es) [] pos) (tCB r t) := by
  intro pins s σ H Q I h
  refine wpAny_Call_Name_kw (ld_blt I hg hm hv ?_ hn hdb)
  exact PyProof.Rows.callWith_type1 (thn (ha pos pins s σ H _ I h) fun us s1 ⟨vs, H1, I1, r1, q1⟩ => hc pins s1 σ H1 vs us Q I1 r1 q1) he hpl
end
end L2

namespace HT
open PySem PyProof.Rows

section
open PySem.SeqAt
open PySem.AutoSeq1 (wpAny_loadPart')
open PySem.MeetsSeq PySem.MeetsSeq2 PySem.MeetsSeq3

end

section
variable {prog : Program} {w : World} {A : Around} {E : Value → Shared → Prop} {s : Shared}

/-- a slice's bound as a place among n (d where it is left out) -/
def sIx (n d : Nat) : Option Int → Nat
  | none => d
  | some v => if v < 0 then (v + (n : Int)).toNat else min v.toNat n
theorem sIx_none (n d : Nat) : sIx n d none = d := rfl
theorem sIx_nat (n d k : Nat) : sIx n d (some (k : Int)) = min k n := by
  show (if (k : Int) < 0 then ((k : Int) + (n : Int)).toNat else min (k : Int).toNat n) = min k n
  rw [if_neg (by omega), Int.toNat_natCast]
end
end HT

namespace L2
open PySem PySem.Spec PyProof.Rows

abbrev TO := St → Hp → (Option Int → Hp → Prop) → Prop
/-- a slice's part (left out, or an int) -/
def PO (X : Cx) (e : Option Expr) (t : TO) : Prop :=
  ∀ (pins : List (Addr × Obj)) (s : Shared) (σ : St) (H : Hp) (Q : Option Int → Hp → Prop), Inv X pins σ H s → t σ H Q →
    wpAny (model X.prog X.w) X.A (evalPart e X.env) (fun u s' => ∃ o H', Inv X pins σ H' s' ∧ IsPart u o ∧ Q o H') X.xe s
def tNoPart : TO := fun _ H Q => Q none H
inductive tPartY (Q : Option Int → Hp → Prop) (x : V) (H1 : Hp) : Prop
  | mk : ∀ i, (x = .int i) → (Q (some i) H1) → tPartY Q x H1
def tPart (t : TE) : TO := fun σ H Q => t σ H fun x H1 => tPartY Q x H1
section
variable {X : Cx} {e : Expr} {te : TE} {lo hi : Option Expr} {tl th : TO} {pos p2 : Pos}

theorem po_none : PO X none tNoPart := by
  intro pins s σ H Q I h
  rw [evalPart_none]
  exact wpAny_pure ⟨none, H, I, .none, h⟩
theorem po_some (h : PE X e te) : PO X (some e) (tPart te) := by
  intro pins s σ H Q I hw
  rw [evalPart_some]
  refine thn (h pins s σ H _ I hw) fun u s1 ⟨x, H1, I1, r1, q1⟩ => ?_
  obtain ⟨i, rfl, q⟩ := q1
  obtain ⟨t, rfl⟩ := r1
  exact ⟨some i, H1, I1, .int i t, q⟩

/-- what a slice of a value is, by values: the slice object stands at sl -/
def SlR (X : Cx) (r : V → Option Int → Option Int → Hp → VK → Prop) : Prop :=
  ∀ (pins : List (Addr × Obj)) (s : Shared) (σ : St) (H : Hp) (x : V) (v vl vu : Value) (lo hi : Option Int) (sl : Addr) (Q : VK), Inv X pins σ H s → RelV x v → s.heap.IsSliceOf sl vl vu .none → IsPart vl lo → IsPart vu hi → r x lo hi H Q →
    ∃ T id, typeLookup (.type T) "__getitem__" = pure (some (.builtin id)) ∧ s.TypeIs v T ∧ wpAny (model X.prog X.w) X.A (getItem v (.ref sl)) (EP X pins σ Q) X.xe s
theorem SlR.or {r r' : V → Option Int → Option Int → Hp → VK → Prop} (h : SlR X r) (h' : SlR X r') : SlR X (fun x lo hi H Q => r x lo hi H Q ∨ r' x lo hi H Q) := by
  intro pins s σ H x v vl vu lo hi sl Q I rx hs pl pu q
  rcases q with q | q
  · exact h pins s σ H x v vl vu lo hi sl Q I rx hs pl pu q
  · exact h' pins s σ H x v vl vu lo hi sl Q I rx hs pl pu q
def tSl (r : V → Option Int → Option Int → Hp → VK → Prop) (te : TE) (tl th : TO) : TE := fun σ H Q => te σ H fun x H1 => tl σ H1 fun l H2 => th σ H2 fun u H3 => r x l u H3 Q
/-- a[lo:hi], any a -/
theorem pe_slice {r : V → Option Int → Option Int → Hp → VK → Prop} (hr : SlR X r) (he : PE X e te) (hl : PO X lo tl) (hu : PO X hi th) : PE X (.Subscript e (.Slice lo hi none p2) pos) (tSl r te tl th) := by
  intro pins s σ H Q I h
  refine Subscript_ (thn (he pins s σ H _ I h) fun v s1 ⟨x, H1, I1, r1, q1⟩ => ?_)
  refine wpAny_Slice (thn (hl pins s1 σ H1 _ I1 q1) fun vl s2 ⟨l, H2, I2, pl, q2⟩ => thn (hu pins s2 σ H2 _ I2 q2) fun vu s3 ⟨u, H3, I3, pu, q3⟩ => ?_)
  rw [evalPart_none]
  refine wpAny_pure ?_
  have I4 : Inv X pins σ H3 { s3 with heap := s3.heap.push { cls := .type "slice", data := .fields #[vl, vu, .none] } } := I3.kept (t' := s3.toks) fun b ob q => Heap.get?_push_of_some _ q
  obtain ⟨T, id, hT, ht, hg⟩ := hr pins { s3 with heap := s3.heap.push { cls := .type "slice", data := .fields #[vl, vu, .none] } } σ H3 x v vl vu l u s3.heap.objs.size Q I4 r1 (Heap.IsSliceOf.new ..) pl pu q3
  show wpAny (model X.prog X.w) X.A (subscriptTail e (.Slice lo hi none p2) v (.ref s3.heap.objs.size)) (EP X pins σ Q) X.xe { s3 with heap := s3.heap.push { cls := .type "slice", data := .fields #[vl, vu, .none] } }
  exact tail_any (ops := [.ref s3.heap.objs.size, v]) ht hT hg (by with_unfolding_all rfl)

/-- the items of xs[lo:hi] -/
def cutV (xs : List V) (lo hi : Option Int) : List V := (xs.drop (HT.sIx xs.length 0 lo)).take (HT.sIx xs.length xs.length hi - HT.sIx xs.length 0 lo)
theorem cutV_length (xs : List V) (lo hi : Option Int) : (cutV xs lo hi).length ≤ xs.length := by
  unfold cutV
  rw [List.length_take, List.length_drop]
  omega
end
end L2

namespace L2
open PySem PySem.Spec PyProof.Rows

/-- the place that an index of any sign means -/
def ixN (n : Nat) (i : Int) : Option Nat := if 0 ≤ i then (if i < n then some i.toNat else none) else if -(n : Int) ≤ i then some (i + n).toNat else none
def atI {α : Type} (xs : List α) (i : Int) : Option α := (ixN xs.length i).bind fun j => xs[j]?
theorem ixN_seq {n : Nat} {i : Int} {j : Nat} (h : ixN n i = some j) : seqIndex? i n = some j ∧ j < n ∧ -(n : Int) ≤ i ∧ i < n := by
  unfold ixN at h
  by_cases h0 : 0 ≤ i
  · rw [if_pos h0] at h
    by_cases h1 : i < n
    · rw [if_pos h1] at h
      have e : i.toNat = j := Option.some.inj h
      exact ⟨by rw [seqIndex_of h0 h1, e], by omega, by omega, h1⟩
    · rw [if_neg h1] at h; cases h
  · rw [if_neg h0] at h
    by_cases h1 : -(n : Int) ≤ i
    · rw [if_pos h1] at h
      have e : (i + n).toNat = j := Option.some.inj h
      exact ⟨by rw [seqIndex_neg (by omega) h1, e], by omega, h1, by omega⟩
    · rw [if_neg h1] at h; cases h
theorem atI_get {α : Type} {xs : List α} {i : Int} {v : α} (h : atI xs i = some v) : ∃ j, seqIndex? i xs.length = some j ∧ xs[j]? = some v ∧ j < xs.length ∧ -(xs.length : Int) ≤ i ∧ i < xs.length := by
  unfold atI at h
  cases e : ixN xs.length i with
  | none => rw [e] at h; cases h
  | some j =>
    rw [e] at h
    obtain ⟨h1, h2, h3, h4⟩ := ixN_seq e
    exact ⟨j, h1, h, h2, h3, h4⟩
theorem atI_nat {α : Type} {xs : List α} {j : Nat} {v : α} (h : xs[j]? = some v) : atI xs (j : Int) = some v := by
  have hj : j < xs.length := (List.getElem?_eq_some_iff.mp h).1
  have e : ixN xs.length (j : Int) = some j := by
    unfold ixN
    rw [if_pos (by omega), if_pos (by omega)]; simp
  unfold atI; rw [e]; exact h
/-- what stands as an index of a plain subscript -/
def PlainIx (b : Expr) : Prop := ∀ o i, subscripted b false o i = operate [o, i] (getItem o i)
/-- a subscript by values -/
def IxR (X : Cx) (r : R2) : Prop :=
  ∀ (value slice : Expr) (pins : List (Addr × Obj)) (s : Shared) (σ : St) (H : Hp) (x y : V) (v u : Value) (Q : VK), Inv X pins σ H s → RelV x v → RelV y u → r x y H Q →
    subscripted slice false v u = operate [v, u] (getItem v u) → wpAny (model X.prog X.w) X.A (subscriptTail value slice v u) (EP X pins σ Q) X.xe s
/-- a call of a builtin's method by values: the receiver, the arguments -/
def MtR (X : Cx) (id : String) (r : V → List V → Hp → VK → Prop) : Prop :=
  ∀ (pins : List (Addr × Obj)) (s : Shared) (σ : St) (H : Hp) (x : V) (xs : List V) (v : Value) (us : List Value) (Q : VK), Inv X pins σ H s → RelV x v → Vals xs us → r x xs H Q →
    wpAny (model X.prog X.w) X.A (call (.builtin id) (v :: us)) (EP X pins σ Q) X.xe s
section
variable {X : Cx} {a b : Expr} {ta tb : TE} {pos : Pos}
theorem IxR.or {r r' : R2} (h : IxR X r) (h' : IxR X r') : IxR X (fun x y H Q => r x y H Q ∨ r' x y H Q) := by
  intro value slice pins s σ H x y v u Q I rx ry q hs
  rcases q with q | q
  · exact h value slice pins s σ H x y v u Q I rx ry q hs
  · exact h' value slice pins s σ H x y v u Q I rx ry q hs
theorem MtR.or {id : String} {r r' : V → List V → Hp → VK → Prop} (h : MtR X id r) (h' : MtR X id r') : MtR X id (fun x xs H Q => r x xs H Q ∨ r' x xs H Q) := by
  intro pins s σ H x xs v us Q I rx rs q
  rcases q with q | q
  · exact h pins s σ H x xs v us Q I rx rs q
  · exact h' pins s σ H x xs v us Q I rx rs q
/-- a[b] -/
theorem pe_ix {r : R2} (hr : IxR X r) (ha : PE X a ta) (hb : PE X b tb) (hs : PlainIx b) : PE X (.Subscript a b pos) (tOp r ta tb) := by
  intro pins s σ H Q I h
  exact Subscript_ (binT ha hb I h fun v u s2 x y H2 I2 rx ry q => hr a b pins s2 σ H2 x y v u Q I2 rx ry q (hs _ _))

inductive rIxL (K : PySem.W.Frag) (x : V) (y : V) (H : Hp) (Q : VK) : Prop
  | mk : ∀ p xs i v, (x = .ref p) → (y = .int i) → (SqL K H p xs) → (atI xs i = some v) → (Q v H) → rIxL K x y H Q
inductive rIxT (K : PySem.W.Frag) (x : V) (y : V) (H : Hp) (Q : VK) : Prop
  | mk : ∀ p xs i v, (x = .ref p) → (y = .int i) → (SqT K H p xs) → (atI xs i = some v) → (Q v H) → rIxT K x y H Q
theorem ix_list : IxR X (rIxL X.K) := by
  intro value slice pins s σ H x y v u Q I rx ry h hs
  obtain ⟨p, xs, i, z, rfl, rfl, hq, he, q⟩ := h
  cases rx
  obtain ⟨t, rfl⟩ := ry
  obtain ⟨its, r, pl, hz⟩ := I.list hq
  obtain ⟨j, h1, h2, h3, h4, h5⟩ := atI_get he
  obtain ⟨w, ew, rw'⟩ := r.get h2
  have hl := r.length
  have hn := line63
  have fin : EP X pins σ Q w s := ⟨z, H, I, rw', q⟩
  by_cases h0 : 0 ≤ i
  · have hj : i.toNat = j := by
      rw [seqIndex_of h0 h5] at h1
      exact Option.some.inj h1
    exact item_listR pl.isList h0 (by omega) (by rw [hj]; simpa using ew) fin hs
  · have hj : (i + (its.toArray.size : Int)).toNat = j := by
      rw [seqIndex_neg (by omega) h4] at h1
      rw [List.size_toArray, ← hl]
      exact Option.some.inj h1
    exact subscriptTail_builtinR (x := w) pl.isList.typeIs slot_list_getitem.lookup
      (wpAny_getItem_list_neg (Q := fun r s' => r = w ∧ EP X pins σ Q r s') pl.isList (by omega) (by rw [List.size_toArray] <;> omega) (by omega) (by rw [hj]; simpa using ew) ⟨rfl, fin⟩) hs
theorem ix_tup : IxR X (rIxT X.K) := by
  intro value slice pins s σ H x y v u Q I rx ry h hs
  obtain ⟨p, xs, i, z, rfl, rfl, hq, he, q⟩ := h
  cases rx
  obtain ⟨t, rfl⟩ := ry
  obtain ⟨its, r, pl, hz⟩ := I.tuple hq
  obtain ⟨j, h1, h2, h3, h4, h5⟩ := atI_get he
  obtain ⟨w, ew, rw'⟩ := r.get h2
  have hl := r.length
  have hn := line63
  have fin : EP X pins σ Q w s := ⟨z, H, I, rw', q⟩
  exact subscriptTail_builtinR (x := w) pl.typeIs slot_tuple_getitem.lookup
    (getItem_tuple (j := j) (Q := fun r s' => r = w ∧ EP X pins σ Q r s') pl (by omega) (by omega) (by rw [List.size_toArray, ← hl]; exact h1) (by simpa using ew) ⟨rfl, fin⟩) hs
/-- the list's object behind a store -/
theorem mapSeq_set (its : List Value) (n j : Nat) (u : Value) : Obj.mapSeq (·.setIfInBounds j u) { cls := .type "list", data := .seq its.toArray n } = { cls := .type "list", data := .seq (its.set j u).toArray n } := by
  simp [Obj.mapSeq]
theorem Inv.lst {pins : List (Addr × Obj)} {σ : St} {H : Hp} {s : Shared} {p : Addr} {xs : List V} (I : Inv X pins σ H s) (h : H p = some (.lst xs)) :
    ∃ (its : List Value) (n : Nat), Vals xs its ∧ s.heap.get? p = some { cls := .type "list", data := .seq its.toArray n } ∧ xs.length ≤ sizeLine := by
  obtain ⟨z, its, n, r, e⟩ := I.hok p _ h
  exact ⟨its, n, r, e, z⟩
/-- the list at p is written by an update of its object -/
theorem Inv.lstUpd {pins : List (Addr × Obj)} {σ : St} {H : Hp} {s : Shared} {p : Addr} {xs ys : List V} {its its' : List Value} {n n' : Nat} {f : Obj → Obj} (I : Inv X pins σ H s) (h : H p = some (.lst xs))
    (ho : s.heap.get? p = some { cls := .type "list", data := .seq its.toArray n }) (hf : f { cls := .type "list", data := .seq its.toArray n } = { cls := .type "list", data := .seq its'.toArray n' }) (r : Vals ys its') (hz : ys.length ≤ sizeLine) (t : Nat) :
    Inv X pins σ (upd H p (.lst ys)) { s with heap := s.heap.update p f, toks := t } := by
  have e : (s.heap.update p f).get? p = some { cls := .type "list", data := .seq its'.toArray n' } := by
    rw [Heap.get?_update_self f ho (by rw [hf] <;> rfl), hf]
  refine I.write (x := p) (e := p) (by rw [h]; trivial) (.inl rfl) (fun b u hb q => (Heap.get?_update_other _ _ (Ne.symm hb)).trans q) ⟨_, e⟩ ?_
  exact ⟨hz, its', n', r, e⟩
inductive rSetL (o : V) (i : V) (v : V) (H : Hp) (Q : Hp → Prop) : Prop
  | mk : ∀ p xs k j, (o = .ref p) → (i = .int k) → (H p = some (.lst xs)) → (ixN xs.length k = some j) → (Q (upd H p (.lst (xs.set j v)))) → rSetL o i v H Q
theorem set_list : PSet X rSetL := by
  intro pins s σ H o i v ov iv u Q I ro ri rv h
  obtain ⟨p, xs, k, j, rfl, rfl, hp, hj, q⟩ := h
  cases ro
  obtain ⟨t, rfl⟩ := ri
  obtain ⟨its, n, r, ho, hz⟩ := I.lst hp
  obtain ⟨h1, h2, h3, h4⟩ := ixN_seq hj
  have hl := r.length
  have hn := line63
  have I' : Inv X pins σ (upd H p (.lst (xs.set j v))) { s with heap := s.heap.update p (Obj.mapSeq (·.setIfInBounds j u)) } :=
    I.lstUpd hp ho (mapSeq_set its n j u) (r.set rv j) (by rw [List.length_set]; exact hz) s.toks
  by_cases h0 : 0 ≤ k
  · have hk : k.toNat = j := by
      rw [seqIndex_of h0 h4] at h1
      exact Option.some.inj h1
    exact PySem.W.ki_setAt ho h0 (by omega) (by rw [List.size_toArray, ← hl]; exact h4) (by rw [hk]; exact ⟨_, I', q⟩)
  · have hk : (k + (its.toArray.size : Int)).toNat = j := by
      rw [seqIndex_neg (by omega) h3] at h1
      rw [List.size_toArray, ← hl]
      exact Option.some.inj h1
    exact PySem.W.ki_setBack ho (by omega) (by rw [List.size_toArray, ← hl]; exact h3) (by omega) (by rw [hk]; exact ⟨_, I', q⟩)

theorem slice_bounds (lo hi : Option Int) (n : Nat) : (sliceBounds lo hi none n).1 = ((HT.sIx n 0 lo : Nat) : Int) ∧ (sliceBounds lo hi none n).2.1 = ((HT.sIx n n hi : Nat) : Int) ∧ (sliceBounds lo hi none n).2.2 = 1 := by
  refine ⟨?_, ?_, rfl⟩
  · cases lo with
    | none => simp [sliceBounds, HT.sIx]
    | some i =>
      simp only [sliceBounds, HT.sIx, Option.getD_none, show (1 : Int) > 0 by decide, if_true]
      by_cases h : i < 0
      · simp only [h, if_true] <;> omega
      · simp only [h, if_false] <;> omega
  · cases hi with
    | none => simp [sliceBounds, HT.sIx]
    | some i =>
      simp only [sliceBounds, HT.sIx, Option.getD_none, show (1 : Int) > 0 by decide, if_true]
      by_cases h : i < 0
      · simp only [h, if_true] <;> omega
      · simp only [h, if_false] <;> omega
theorem slicePick_cut (its : List Value) (lo hi : Option Int) : slicePick its.toArray lo hi none = ((its.drop (HT.sIx its.length 0 lo)).take (HT.sIx its.length its.length hi - HT.sIx its.length 0 lo)).toArray := by
  obtain ⟨h1, h2, h3⟩ := slice_bounds lo hi its.toArray.size
  unfold slicePick
  rw [h1, h2, h3]
  simp only [sliceRange_one, pick_run, List.size_toArray] <;> rfl
/-- xs[lo:hi] of a list: a new list -/
inductive rSlL (K : PySem.W.Frag) (x : V) (lo : Option Int) (hi : Option Int) (H : Hp) (Q : VK) : Prop
  | mk : ∀ a xs, (x = .ref a) → (SqL K H a xs) → (∀ p, H p = none → Q (.ref p) (upd H p (.lst (cutV xs lo hi)))) → rSlL K x lo hi H Q
theorem sl_list : SlR X (rSlL X.K) := by
  intro pins s σ H x v vl vu lo hi sl Q I rx hs pl pu h
  obtain ⟨a, xs, rfl, hx, q⟩ := h
  cases rx
  obtain ⟨its, r, ht, hz⟩ := I.list hx
  have hlen := r.length
  refine ⟨"list", _, slot_list_getitem.lookup, ht.isList.typeIs, ?_⟩
  refine wpAny_getItem_list_slice ht.isList hs pl pu .none (by simp) ?_ (by rw [List.size_toArray] <;> omega)
  rw [slicePick_cut, ← hlen]
  refine ⟨.ref s.heap.objs.size, _, I.laid (t' := s.toks) (o := .lst (cutV xs lo hi)) (fun b ob q => Heap.get?_push_of_some _ q) (Nat.le_refl _) ?_, rfl, q _ (I.hok.fresh (Nat.le_refl _))⟩
  exact ⟨Nat.le_trans (cutV_length xs lo hi) hz, _, 0, (r.drop (HT.sIx xs.length 0 lo)).take (HT.sIx xs.length xs.length hi - HT.sIx xs.length 0 lo), Heap.get?_push_size _ rfl⟩

inductive call_len_seqY (K : PySem.W.Frag) (xs : List V) (H : Hp) (Q : VK) : Prop
  | mk : ∀ p ys, (xs = [.ref p]) → ((SqL K H p ys ∨ SqT K H p ys)) → (Q (.int ys.length) H) → call_len_seqY K xs H Q
theorem call_len_seq : CallR X (.builtin "len") (call_len_seqY X.K) := by
  intro pins s σ H xs us Q I r h
  obtain ⟨p, ys, rfl, hq, q⟩ := h
  obtain ⟨u, rfl, rx⟩ := vals1 r
  cases rx
  have hn := line63
  rcases hq with hq | hq
  · obtain ⟨its, r', pl, hz⟩ := I.list hq
    have hlen := r'.length
    exact Calls.call_len_list pl.isList (by simp only [List.size_toArray] <;> omega) ⟨.int ys.length, H, I.tok _, ⟨s.toks + 1, by rw [List.size_toArray, hlen]⟩, q⟩
  · obtain ⟨its, r', pl, hz⟩ := I.tuple hq
    have hlen := r'.length
    exact len_tuple pl (by simp only [List.size_toArray] <;> omega) ⟨.int ys.length, H, I.tok _, ⟨s.toks + 1, by rw [List.size_toArray, hlen]⟩, q⟩
theorem CallR.or {f : Value} {r r' : List V → Hp → VK → Prop} (h : CallR X f r) (h' : CallR X f r') : CallR X f (fun xs H Q => r xs H Q ∨ r' xs H Q) := by
  intro pins s σ H xs us Q I rs q
  rcases q with q | q
  · exact h pins s σ H xs us Q I rs q
  · exact h' pins s σ H xs us Q I rs q
inductive call_tuple_ofY (K : PySem.W.Frag) (xs : List V) (H : Hp) (Q : VK) : Prop
  | mk : ∀ p ys, (xs = [.ref p]) → (((SqL K H p ys ∧ ∀ l, H l = none → Q (.ref l) (upd H l (.tup ys))) ∨ (SqT K H p ys ∧ Q (.ref p) H))) → call_tuple_ofY K xs H Q
theorem call_tuple_of : CallR X (.type "tuple") (call_tuple_ofY X.K) := by
  intro pins s σ H xs us Q I r h
  obtain ⟨p, ys, rfl, h⟩ := h
  obtain ⟨u, rfl, rx⟩ := vals1 r
  cases rx
  rcases h with ⟨hq, q⟩ | ⟨hq, q⟩
  · obtain ⟨its, r', pl, hz⟩ := I.list hq
    have hlen := r'.length
    refine call_tuple_list pl.isList (fun h' kp => ?_) (by simp only [List.size_toArray] <;> omega)
    have I1 : Inv X pins σ H { s with heap := h' } := I.kept (t' := s.toks) kp
    have I2 : Inv X pins σ (upd H h'.objs.size (.tup ys)) { s with heap := h'.push { cls := .type "tuple", data := .seq its.toArray } } :=
      I1.laid (t' := s.toks) (fun b o e => Heap.get?_push_of_some _ e) (Nat.le_refl _) (show ObjOk X.prog X.w _ _ _ (.tup ys) from ⟨hz, its, r', IsTupN.new _ _⟩)
    exact ⟨.ref h'.objs.size, _, I2, rfl, q _ (I1.hok.fresh (Nat.le_refl _))⟩
  · obtain ⟨its, r', pl, hz⟩ := I.tuple hq
    exact call_tuple_same pl ⟨.ref p, H, I, rfl, q⟩

/-- the value is of that builtin type -/
def tyV (K : PySem.W.Frag) (T : String) (x : V) (H : Hp) : Prop := match x with
  | .str _ => T = "str"
  | .int _ => T = "int"
  | .ref p => (T = "list" ∧ ∃ xs, SqL K H p xs) ∨ (T = "tuple" ∧ ((∃ o, K.lookup p = some o ∧ o.cls = .type "tuple" ∧ o.dict = none) ∨ ∃ xs, H p = some (.tup xs))) ∨
      (T = "dict" ∧ ((∃ kvs, H p = some (.dK kvs)) ∨ ∃ kvs, H p = some (.dT kvs))) ∨ (T = "set" ∧ ∃ S n, H p = some (.set S n))
  | _ => False
theorem tyV_is {pins : List (Addr × Obj)} {σ : St} {H : Hp} {s : Shared} {T : String} {x : V} {v : Value} (I : Inv X pins σ H s) (r : RelV x v) (ty : tyV X.K T x H) :
    s.TypeIs v T ∧ ∀ a, v = .ref a → ∃ ob, s.heap.get? a = some ob ∧ ob.dict = none := by
  cases x with
  | str z =>
    obtain ⟨t, rfl⟩ := r
    cases (show T = "str" from ty)
    exact ⟨typeIs_str s z t, fun _ e => nomatch e⟩
  | int i =>
    obtain ⟨t, rfl⟩ := r
    cases (show T = "int" from ty)
    exact ⟨typeIs_int s i t, fun _ e => nomatch e⟩
  | ref p =>
    cases r
    rcases ty with ⟨rfl, xs, hq⟩ | ⟨rfl, ⟨o, hk, hc, hd⟩ | ⟨xs, hq⟩⟩ | ⟨rfl, hk⟩ | ⟨rfl, S, n, hk⟩
    · obtain ⟨its, _, pl, _⟩ := I.list hq
      refine ⟨pl.isList.typeIs, fun a e => ?_⟩
      cases e
      obtain ⟨o, n, e, c, hd, _⟩ := pl
      exact ⟨o, e, hd⟩
    · refine ⟨⟨o, I.kIn p o hk, hc⟩, fun a e => ?_⟩
      cases e
      exact ⟨o, I.kIn _ o hk, hd⟩
    · obtain ⟨_, its, _, o, e, c, n, _, hd⟩ := (show ObjOk X.prog X.w H s.heap p (.tup xs) from I.hok p _ hq)
      refine ⟨⟨o, e, c⟩, fun a e2 => ?_⟩
      cases e2
      exact ⟨o, e, hd⟩
    · have z : ∃ o, s.heap.get? p = some o ∧ o.ExactDict := by
        rcases hk with ⟨kvs, hk⟩ | ⟨kvs, hk⟩
        · obtain ⟨_, _, _, _, o, _, _, e, ex, _⟩ := I.hok p _ hk
          exact ⟨o, e, ex⟩
        · obtain ⟨_, _, _, _, o, _, _, e, ex, _⟩ := I.hok p _ hk
          exact ⟨o, e, ex⟩
      obtain ⟨o, e, ex⟩ := z
      refine ⟨⟨o, e, ex.1⟩, fun a e2 => ?_⟩
      cases e2
      exact ⟨o, e, ex.2.1⟩
    · obtain ⟨o, _, _, _, e, ex, _⟩ := I.hok p _ hk
      refine ⟨⟨o, e, ex.1⟩, fun a e2 => ?_⟩
      cases e2
      exact ⟨o, e, ex.2.1⟩
  | _ => exact False.elim ty
inductive tBMY (K : PySem.W.Frag) (T : String) (r : V → List V → Hp → VK → Prop) (t : TA) (σ : St) (Q : VK) (x : V) (H1 : Hp) : Prop
  | mk : (tyV K T x H1) → (t σ H1 fun xs H2 => r x xs H2 Q) → tBMY K T r t σ Q x H1
def tBM (K : PySem.W.Frag) (T : String) (r : V → List V → Hp → VK → Prop) (to : TE) (t : TA) : TE := fun σ H Q => to σ H fun x H1 => tBMY K T r t σ Q x H1
variable {o e : Expr} {es : List Expr} {to : TE} {t : TA} {name : Str} {apos cpos : Pos} {T id : String} {r : V → List V → Hp → VK → Prop}
theorem pe_bm (pa : PlainAttrs T) (slot : Slot T name id) (hty : typeOf (.builtin id) = pure (.type "method_descriptor")) (hm : MtR X id r) (ho : PE X o to) (ha : PA X (e :: es) t)
    (hbase : attributeBase o name X.env (eval o X.env) = eval o X.env := by rfl)
    (hfew : ((backTo cpos (starEach (e :: es) X.env)).all (fun x => !x.1) && (backToKw cpos (keywordEach [] X.env)).all (fun x => x.1.isSome)
      && decide ((e :: es).length + ([] : List Keyword).length + (if ([] : List Keyword).isEmpty then 0 else 1) < 30)) = true := by rfl)
    (hline : (apos.endLine == cpos.line) = true := by rfl) (hs : starEach (e :: es) X.env = (false, eval e X.env) :: starEach es X.env := by rfl) (hplain : (backTo cpos (starEach es X.env)).any (·.1) = false := by rfl) :
    PE X (.Call (.Attribute o name apos) (e :: es) [] cpos) (tBM X.K T r to t) := by
  intro pins s σ H Q I h
  refine wpAny_Call_method_late hbase hfew hline rfl (thn (ho pins s σ H _ I h) fun v s1 ⟨x, H1, I1, r1, ty, q1⟩ => ?_)
  obtain ⟨h1, h2⟩ := tyV_is I1 r1 ty
  refine ⟨T, id, pa, slot, hty, h1, h2, ?_⟩
  have hA := ha cpos pins s1 σ H1 _ I1 q1
  rw [hs] at hA ⊢
  refine Calls.callWith_builtin (by show (false || (backTo cpos (starEach es X.env)).any (·.1)) = false; rw [hplain] <;> rfl) (Calls.evalArgs_plain ?_)
  exact thn hA fun us s2 ⟨vs, H2, I2, r2, q2⟩ => hm pins s2 σ H2 x vs v us Q I2 r1 r2 q2
end
end L2

namespace L2
open PySem PySem.Spec PyProof.Rows

def MtM (X : Cx) (id : String) (r : V → List V → Hp → VK → Prop) : Prop :=
  ∀ (pins : List (Addr × Obj)) (s : Shared) (σ : St) (H : Hp) (x : V) (xs : List V) (v : Value) (us : List Value) (Q : VK), Inv X pins σ H s → RelV x v → Vals xs us → r x xs H Q →
    wpAny (model X.prog X.w) X.A (call (.builtin id) (v :: us)) (EP X pins σ Q) X.xe s

theorem Vals.one : ∀ {x : V} {us : List Value}, Vals [x] us → ∃ u, us = [u] ∧ RelV x u
  | _, _, .cons r .nil => ⟨_, rfl, r⟩
theorem Vals.two : ∀ {x y : V} {us : List Value}, Vals [x, y] us → ∃ u v, us = [u, v] ∧ RelV x u ∧ RelV y v
  | _, _, _, .cons r (.cons q .nil) => ⟨_, _, rfl, r, q⟩
theorem Vals.zero : ∀ {us : List Value}, Vals [] us → us = []
  | _, .nil => rfl
theorem Vals.dropLast {xs : List V} {us : List Value} (h : Vals xs us) : Vals xs.dropLast us.dropLast := by
  induction h with
  | nil => exact .nil
  | cons r t ih =>
    cases t with
    | nil => exact .nil
    | cons q t' => exact .cons r ih
theorem Vals.eraseIdx : ∀ {xs : List V} {us : List Value} (i : Nat), Vals xs us → Vals (xs.eraseIdx i) (us.eraseIdx i)
  | _, _, _, .nil => .nil
  | _, _, 0, .cons _ t => t
  | _, _, i + 1, .cons r t => .cons r (Vals.eraseIdx i t)
theorem Vals.reverse {xs : List V} {us : List Value} (h : Vals xs us) : Vals xs.reverse us.reverse := by
  induction h with
  | nil => exact .nil
  | cons r t ih => rw [List.reverse_cons, List.reverse_cons]; exact Vals.append ih (.cons r .nil)
theorem Vals.rep {xs : List V} {us : List Value} (h : Vals xs us) : ∀ k : Nat, Vals (List.replicate k xs).flatten (List.replicate k us).flatten
  | 0 => .nil
  | k + 1 => by
    rw [List.replicate_succ, List.replicate_succ, List.flatten_cons, List.flatten_cons]
    exact Vals.append h (Vals.rep h k)
theorem len_erase {α : Type} : ∀ (l : List α) (i : Nat), (l.eraseIdx i).length ≤ l.length
  | [], _ => Nat.le_refl _
  | _ :: _, 0 => Nat.le_succ _
  | _ :: r, i + 1 => Nat.succ_le_succ (len_erase r i)
section
variable {X : Cx} {pins : List (Addr × Obj)} {σ : St} {H : Hp} {s : Shared} {l b : Addr} {xs ys zs : List V}

theorem Inv.lset {its its' : List Value} {n : Nat} {f : Array Value → Array Value} {t' : Nat} (I : Inv X pins σ H s) (hH : H l = some (.lst xs))
    (e : s.heap.get? l = some { cls := .type "list", data := .seq its.toArray n }) (hf : f its.toArray = its'.toArray) (hv : Vals ys its') (hz : ys.length ≤ sizeLine) :
    Inv X pins σ (upd H l (.lst ys)) { s with heap := s.heap.update l (Obj.mapSeq f), toks := t' } := by
  have q := PySem.IsL.update e f
  rw [hf] at q
  refine I.write (x := l) (e := l) (by rw [hH]; exact trivial) (.inl rfl) (fun b' u hb hu => (Heap.get?_update_other s.heap (Obj.mapSeq f) (Ne.symm hb)).trans hu) ⟨_, q⟩ ?_
  exact ⟨hz, its', _, hv, q⟩
theorem Inv.lnew {its : List Value} {t' : Nat} (I : Inv X pins σ H s) (hv : Vals ys its) (hz : ys.length ≤ sizeLine) :
    Inv X pins σ (upd H s.heap.objs.size (.lst ys)) { s with heap := s.heap.push { cls := .type "list", data := .seq its.toArray }, toks := t' } :=
  I.laid (fun _ _ q => Heap.get?_push_of_some _ q) (Nat.le_refl _) ⟨hz, its, 0, hv, Heap.get?_push_size _ rfl⟩
theorem Inv.fresh (I : Inv X pins σ H s) : H s.heap.objs.size = none := I.hok.fresh (Nat.le_refl _)
theorem Inv.lstM (I : Inv X pins σ H s) (hH : H l = some (.lst xs)) : xs.length ≤ sizeLine ∧ ∃ (its : List Value) (n : Nat), Vals xs its ∧ xs.length = its.length ∧ s.heap.get? l = some { cls := .type "list", data := .seq its.toArray n } := by
  obtain ⟨z, its, n, r, e⟩ := I.hok l _ hH
  exact ⟨z, its, n, r, r.length, e⟩

end

section
variable {X : Cx}

inductive rAppend (x : V) (vs : List V) (H : Hp) (Q : VK) : Prop
  | mk : ∀ l xs y, (x = .ref l) → (vs = [y]) → (H l = some (.lst xs)) → (xs.length < sizeLine) → (Q .non (upd H l (.lst (xs ++ [y])))) → rAppend x vs H Q
theorem mt_append : MtM X "list.append" rAppend := by
  intro pins s σ H x vs v us Q I rx rv h
  obtain ⟨l, xs, y, rfl, rfl, hH, hz, q⟩ := h
  cases rx
  obtain ⟨u, rfl, ru⟩ := rv.one
  obtain ⟨z, its, n, r, hl, e⟩ := I.lstM hH
  refine call_meets F.slot_list_append ⟨_, e, rfl⟩ F.entry_list_append (F.args_list_append_2 _ _) (PySem.list_append l its.toArray n u (by rw [List.size_toArray]; omega)) ⟨e, ?_⟩
  refine ⟨.non, _, I.lset (its' := its ++ [u]) hH e (by simp) (r.append (.cons ru .nil)) ?_, rfl, q⟩
  rw [List.length_append, List.length_singleton]
  omega

inductive rCat (x : V) (y : V) (H : Hp) (Q : VK) : Prop
  | mk : ∀ l b xs zs, (x = .ref l) → (y = .ref b) → (H l = some (.lst xs)) → (H b = some (.lst zs)) → (xs.length + zs.length ≤ sizeLine) → (∀ p, H p = none → Q (.ref p) (upd H p (.lst (xs ++ zs)))) → rCat x y H Q
theorem op_cat : OpR X (binaryOp .Add) rCat := by
  intro pins s σ H x y v u Q I rx ry h
  obtain ⟨l, b, xs, zs, rfl, rfl, hH, hB, hz, q⟩ := h
  cases rx
  cases ry
  obtain ⟨z, its, n, r, hl, e⟩ := I.lstM hH
  obtain ⟨z2, its2, n2, r2, hl2, e2⟩ := I.lstM hB
  refine PySem.P.add_list e e2 ?_ (by rw [List.size_toArray, List.size_toArray]; omega)
  have ea : its.toArray ++ its2.toArray = (its ++ its2).toArray := by simp
  rw [ea]
  exact ⟨.ref _, _, I.lnew (t' := s.toks) (r.append r2) (by rw [List.length_append]; omega), rfl, q _ I.fresh⟩
end

section
variable {prog : Program} {w : World} {A : Around} {E : Value → Shared → Prop} {s : Shared}
end

section
variable {X : Cx}
end
end L2

namespace Att
open PySem PySem.W PySem.Calls PyProof.Rows

theorem ints_of_wellAll {P : Params} {h : Heap} : ∀ (ns : List Int) (vs : List Value), WellAll P h vs (ns.map WData.int) → IntsAre vs ns := by
  intro ns
  induction ns with
  | nil =>
    intro vs w
    rw [List.map_nil] at w
    cases w
    exact .nil
  | cons n ns ih =>
    intro vs w
    rw [List.map_cons] at w
    cases w with
    | cons a b =>
      cases a
      exact .cons _ _ (ih _ b)

theorem script_of {l : OpenLaw} {n : Nat} (hn : l.most = some n) {P : Params} {h : Heap} {args : List WData} {vals : List Value}
    (hpre : l.row.toRowW.claim.pre args = true) (hwl : WellAll P h vals args) :
    ∃ a vs ns, vals = [Value.ref a] ∧ args = [WData.list (ns.map WData.int)] ∧ h.get? a = some { cls := .type "list", data := .seq vs.toArray } ∧ IntsAre vs ns ∧ ns.length ≤ n := by
  have hsh : WShape.hasAll [] args [.list .int] = true := (pre_splitW hpre).1
  have hc : l.pre.holds [] { args := args } = true := (pre_splitW hpre).2
  obtain ⟨d, r, rfl, h1, h2⟩ := hasAllW_cons hsh
  obtain rfl := hasAllW_nil h2
  obtain ⟨xs, rfl, h3⟩ := hasW_list h1
  obtain ⟨ns, rfl⟩ := items_int h3
  have hlen : ns.length ≤ n := by
    unfold OpenLaw.pre at hc
    have h4 : (WTm.not (.lt (.lit (.int (n : Int))) (.len (.arg 0)))).holds [] { args := [.list (ns.map .int)] } = true := by
      have h4 := (holds_andW hc).1
      rw [hn] at h4
      exact h4
    have h5 := condW_of h4 (w_not (w_lt w_lit (w_len_list (w_arg rfl))))
    rw [List.length_map] at h5
    refine Nat.le_of_not_lt fun q => ?_
    have q' : (n : Int) < ((ns.length : Nat) : Int) := by omega
    first
      | (rw [decide_eq_true q'] at h5; exact absurd h5 (by decide))
      | (simp at h5; omega)
  cases hwl with
  | cons w1 w2 =>
    cases w2
    cases w1 with
    | list ho hall => exact ⟨_, _, ns, rfl, rfl, ho, ints_of_wellAll ns _ hall, hlen⟩

theorem post_true (l : OpenLaw) (args : List WData) : l.row.toRowW.claim.post args (.bool true) args = true :=
  postW_of (r := l.row.toRowW) (X := (true == true))
    (show WShape.has [] (.bool true) .bool = true by first | rfl | decide | simp [WShape.has, WShape.arms, WShape.armsAll])
    (show (WTm.eq .res (.lit (.bool true))).value [] { args := args, res := some (.bool true), after := args } = some (.bool (true == true)) from w_eq_bool (w_res rfl) w_lit) rfl

/-- the same from a codeAny of the CALL (for a layer whose function contracts speak of calls) -/
theorem attach_call {l : OpenLaw} {n : Nat} {q : Program} {loose : List Str} {XP : (Str → Option Value) → Heap → Prop} {YP : World → Heap → Prop} {d : DefRec}
    (hn : l.most = some n) (hdf : d.params.defaults = [])
    (call : ∀ (w : World) (s₀ s₁ : Shared) (mg mb : Str → Option Value) (fa : Addr) (o : Obj) (pm cd doc : Value) (a : Addr) (vs : List Value) (ns : List Int),
      Ground q loose [] XP w s₀ mg mb s₁.heap → YP w s₁.heap →
      s₁.heap.get? fa = some o → o.data = .func (docDef d.name d.params d.body d.scope pm cd doc) → s₁.heap.CodeRec cd d.name → mg d.name = some (.ref fa) →
      s₁.heap.get? a = some { cls := .type "list", data := .seq vs.toArray } → IntsAre vs ns → ns.length ≤ n → s₁.gens = #[] →
      codeAny (model l.prog w) callerA (.call (.ref fa) ⟨[.ref a], []⟩) (fun r s' => r = .ok (.ret (.bool true)) ∧ OldK s₁.heap s'.heap ∧ s'.os = s₁.os ∧ AllBare s'.gens) s₁) :
    WalkO q loose XP YP l.row.toRowW d [] (fun f vs => PySem.call f vs) := by
  intro w s₀ s₁ mg mb G Y fa o pm cd doc dV kV ho hd hcd hD hmg hg args vals as hpre hlay hrd hwl hlo
  obtain rfl : dV = .none := Dflts.none hD hdf
  obtain rfl : kV = .none := Dflts.noKw hD
  obtain ⟨a, vs, ns, rfl, rfl, hobj, hints, hlen⟩ := script_of hn hpre hwl
  refine enter_call (codeAny_mono (call w s₀ s₁ mg mb fa o pm cd doc a vs ns G Y ho (fd_plain hd) hcd hmg hobj hints hlen hg) fun r s' hq => ?_)
  obtain ⟨rfl, h2, h3, h4⟩ := hq
  exact ⟨.inl ⟨.bool true, .bool true, [], rfl, fun _ => rfl, .bool true, post_true l _, fun _ => ⟨List.Pairwise.nil, fun _ hm => (nomatch hm)⟩⟩, h2, h3, h4⟩

section
variable {prog : Program} {w : World} {A : Around} {E : Value → Shared → Prop} {s : Shared} {K : Frag}

end
end Att

namespace L2
open PySem PySem.Spec PyProof.Rows

theorem vals_ints : ∀ {vs : List Value} {ns : List Int}, IntsAre vs ns → Vals (ns.map V.int) vs
  | _, _, .nil => .nil
  | _, _, .cons n t h => .cons ⟨t, rfl⟩ (vals_ints h)

/-- nothing is tracked but the script, known to the object (or it is an object of the module) -/
def Only (H : Hp) : Prop := ∀ b, H b = none ∨ ∃ o xs, H b = some (.frz o (.lst xs))

/-- THE HEAD: the law's promise, at the heap behind the top. F, the promise of the law's def, may use that base is part of the heap (so K.In base, base.Ns mainGlobals mg stand in Mod) -/
theorem law_call {P : Program} {w : World} {K : PySem.W.Frag} {mg mb : Str → Option Value} {CX : CXT} {k : Nat} {fa a : Addr} {fd : FuncData} {x : Str} {sp : Sp} {s₁ : Shared} {vs : List Value} {ns : List Int}
    (KX : K.In s₁.heap) (hns : s₁.heap.Ns mainGlobals mg) (hb : s₁.heap.Ns builtinsNs mb) (hbb : ∀ x : Str, x ≠ "__name__" → mb x = bootBuiltins x) (hlim : s₁.heap.NoLimit) (hsee : s₁.heap.NoSeer) (hg : s₁.gens = #[])
    (ha : s₁.heap.get? a = some { cls := .type "list", data := .seq vs.toArray }) (hi : IntsAre vs ns) (hl : ns.length ≤ sizeLine) (hr : Room k callerA)
    (F : ∀ base : Heap, K.In base → base.Ns mainGlobals mg → FnOk P w K mg base CX k fa fd [x] sp) (hbind : ∀ (s : Shared) (u : Value), BindsTo s fd ⟨[u], []⟩ [(x, u)])
    (hsp : ∀ H : Hp, Only H → SqL K H a (ns.map V.int) → sp [.ref a] H (fun v _ => v = .bl true) fun _ _ _ => False)
    (hCX : ∀ H e s', CX [] H s₁ (fun _ _ _ => False) e s' → False) :
    codeAny (model P w) callerA (.call (.ref fa) ⟨[.ref a], []⟩) (fun r s' => r = .ok (.ret (.bool true)) ∧ OldK s₁.heap s'.heap ∧ s'.os = s₁.os ∧ AllBare s'.gens) s₁ := by
  have rv := vals_ints hi
  have lenV := hi.length
  -- from an abstract heap in which nothing but the script may be tracked
  have core : ∀ H : Hp, Only H → SqL K H a (ns.map V.int) → HOk P w H s₁.heap → (∀ b, H b ≠ none → b = a) → (H a ≠ none → K.lookup a = none) →
      codeAny (model P w) callerA (.call (.ref fa) ⟨[.ref a], []⟩) (fun r s' => r = .ok (.ret (.bool true)) ∧ OldK s₁.heap s'.heap ∧ s'.os = s₁.os ∧ AllBare s'.gens) s₁ := by
    intro H hO hS hok hA hK
    have base_of : ∀ {b : Addr} {o : Obj}, s₁.heap.get? b = some o → H b = none → (hidT s₁.heap H).get? b = some o := fun e n => hidT_get e n
    have noA : ∀ {b : Addr} {o : Obj} {es : Array DictEntry} {ep : Nat}, s₁.heap.get? b = some o → o.data = .dict es ep → H b = none := fun {b o es ep} e d => by
      cases q : H b with
      | none => rfl
      | some u =>
        have e' : b = a := hA b (by rw [q]; simp)
        subst e'
        rw [ha] at e; cases e
        have d' : Data.seq vs.toArray _ = Data.dict es ep := d
        cases d'
    have nsK : ∀ {b : Addr} {m : Str → Option Value}, s₁.heap.Ns b m → (hidT s₁.heap H).Ns b m := fun {b m} ⟨o, es, ep, e, d, r⟩ => ⟨o, es, ep, base_of e (noA e d), d, r⟩
    have hKb : K.In (hidT s₁.heap H) := fun b o e => base_of (KX b o e) (by
      cases q : H b with
      | none => rfl
      | some u =>
        have e' : b = a := hA b (by rw [q]; simp)
        subst e'
        rw [hK (by rw [q]; simp)] at e; cases e)
    have noM : ∀ {b : Addr} {o : Obj}, s₁.heap.get? b = some o → o.cls = .type "module" → H b = none := fun {b o} e c => by
      cases q : H b with
      | none => rfl
      | some u =>
        have e' : b = a := hA b (by rw [q]; simp)
        subst e'
        rw [ha] at e; cases e
        simp at c
    have hM : Mod K mg (hidT s₁.heap H) := ⟨hKb, nsK hns, ⟨mb, nsK hb, hbb⟩, let ⟨mc, h1, h2⟩ := hlim; ⟨mc, nsK h1, h2⟩, ⟨let ⟨mc, p, q⟩ := hsee.statics; ⟨mc, nsK p, q⟩, let ⟨mc, p, q⟩ := hsee.mods; ⟨mc, nsK p, q⟩, let ⟨mc, p, q⟩ := hsee.imp; ⟨mc, nsK p, q⟩, let ⟨m, bm, ob, p, q, r, t, u⟩ := hsee.main; ⟨m, bm, ob, nsK p, q, base_of r (noM r t), t, u⟩⟩⟩
    have e0 : Env0 P w K mg (hidT s₁.heap H) callerA [] s₁ H := ⟨rfl, hM, fun b o e => of_hidT e, Nat.le_of_eq (hidT_size _ _), trivial, fun b hb => absurd (show b ∈ ([] : List Addr) from hb) (by simp), hok, .of_eq hg⟩
    refine codeAny_mono ((F _ hKb (nsK hns)).run callerA [] s₁ H ⟨[.ref a], []⟩ [.ref a] [.ref a] _ _ hr e0 (hbind s₁ (.ref a)) (.cons rfl .nil) (hsp H hO hS)) fun r s' h => ?_
    cases r with
    | error e => exact (hCX H e s' h).elim
    | ok fl =>
      cases fl with
      | next => exact False.elim h
      | brk => exact False.elim h
      | cont => exact False.elim h
      | ret u =>
        obtain ⟨v, H', os, bare, un, hok', r', q⟩ := h
        have q' : v = .bl true := q
        subst q'
        obtain rfl : u = Value.bool true := r'
        refine ⟨rfl, OldK.of_keep fun b o e => ?_, os, bare⟩
        cases q : H b with
        | none => exact un.keep b o e q (by intro z; exact absurd (show b ∈ ([] : List Addr) from z) (by simp)) (by simp)
        | some u =>
          rcases hO b with z | ⟨ob, xs, z⟩
          · rw [q] at z; cases z
          · have z2 := un.frzs b ob _ z
            obtain ⟨e1, _⟩ := hok b _ z
            obtain ⟨e2, _⟩ := hok' b _ z2
            rw [e] at e1; cases e1
            exact e2
  cases hk : K.lookup a with
  | some o =>
    -- the script is one of the module's own objects
    have e := KX a o hk
    rw [ha] at e
    cases e
    refine core (fun _ => none) (fun _ => .inl rfl) (.inr ⟨_, vs.toArray, _, hk, rfl, rfl, rfl, by rw [List.size_toArray, lenV]; exact hl, by simpa using rv⟩) (fun b u z => by have z' : (none : Option HO) = some u := z; cases z') (fun b z => absurd rfl z) fun z => absurd rfl z
  | none =>
    refine core (fun b => if b = a then some (.frz { cls := .type "list", data := .seq vs.toArray } (.lst (ns.map V.int))) else none) (fun b => ?_) (.inl (.inr ⟨{ cls := .type "list", data := .seq vs.toArray }, if_pos rfl⟩)) (fun b u z => ?_) (fun b z => ?_) fun _ => hk
    · by_cases hb : b = a
      · exact .inr ⟨_, _, if_pos hb⟩
      · exact .inl (if_neg hb)
    · by_cases hb : b = a
      · have z' := (if_pos hb).symm.trans z
        cases z'
        subst hb
        exact ⟨ha, by rw [List.length_map]; exact hl, vs, _, rv, ha⟩
      · have z' := (if_neg hb).symm.trans z
        cases z'
    · by_cases hb : b = a
      · exact hb
      · exact absurd (if_neg hb) z
end L2

namespace L2
open PySem PySem.Spec PyProof.Rows

/-- the goal that k_head leaves (case hc), from the law's promise. F gives the function object fd (K's own) once, then the promise over every base -/
theorem walk_of {l : PySem.W.OpenLaw} {n k : Nat} {q : Program} {loose : List Str} {XP : (Str → Option Value) → Heap → Prop} {YP : World → Heap → Prop} {d : DefRec} {K : Params → PySem.W.Frag} {CX : World → CXT} {sp : World → Sp} {x : Str}
    (hn : l.most = some n) (hn2 : n ≤ sizeLine) (hdf : d.params.defaults = []) (hr : Room k callerA)
    (hY : ∀ (w : World) (h : Heap), YP w h → (K w.params).In h)
    (F : ∀ (w : World) (mg : Str → Option Value) (fa : Addr) (h : Heap), (K w.params).In h → h.Ns mainGlobals mg → mg d.name = some (.ref fa) →
      ∃ fd : FuncData, (∀ (s : Shared) (u : Value), BindsTo s fd ⟨[u], []⟩ [(x, u)]) ∧
        ∀ base : Heap, (K w.params).In base → base.Ns mainGlobals mg → FnOk l.prog w (K w.params) mg base (CX w) k fa fd [x] (sp w))
    (hsp : ∀ (w : World) (H : Hp) (a : Addr) (ns : List Int), ns.length ≤ n → Only H → SqL (K w.params) H a (ns.map V.int) → sp w [.ref a] H (fun v _ => v = .bl true) fun _ _ _ => False)
    (hCX : ∀ (w : World) (H : Hp) (s : Shared) (e : Value) (s' : Shared), CX w [] H s (fun _ _ _ => False) e s' → False) (hq : importsNone q = true := by first | assumption | decide +kernel) :
    PySem.W.WalkO q loose XP YP l.row.toRowW d [] (fun f vs => PySem.call f vs) := by
  refine Att.attach_call hn hdf fun w s₀ s₁ mg mb fa o pm cd doc a vs ns G Y ho hd hcd hmg hobj hints hlen hg => ?_
  have KX := hY w _ Y
  obtain ⟨fd, hb, hF⟩ := F w mg fa _ KX G.T.g hmg
  exact law_call KX G.T.g G.T.b G.T.builtins G.T.nolimit (G.T.seer hq) hg hobj hints (Nat.le_trans hlen hn2) hr hF hb (fun H hO hS => hsp w H a ns hlen hO hS) fun H e s' => hCX w H s₁ e s'
end L2


namespace L2
open PySem PySem.Spec PyProof.Rows

def defArgs (s : Stmt) : Arguments := match s with
  | .FunctionDef _ a _ _ _ _ _ _ _ _ => a
  | _ => { posonlyargs := [], args := [], vararg := none, kwonlyargs := [], kw_defaults := [], kwarg := none, defaults := [] }
def defBody (s : Stmt) : List Stmt := match s with
  | .FunctionDef _ _ b _ _ _ _ _ _ _ => b
  | _ => []
def defScope (s : Stmt) : Scope := match s with
  | .FunctionDef _ _ _ _ _ _ sc _ _ _ => sc
  | _ => { kind := .function, names := [], isGenerator := false, isCoroutine := false }

abbrev CX0 : CXT := fun _ _ _ _ _ _ => False
abbrev E0 : XK := fun _ _ _ => False
theorem pass0 {X : Cx} : Passes CX0 X E0 := fun _ _ _ _ _ _ _ h => h.elim

structure Fun (K : PySem.W.Frag) (x qual : Str) (st : Stmt) (f : Addr) (fd : FuncData) : Prop where
  ex : ∃ (oc : Value) (od : Option Addr) (kV doc pm : Value) (an : Option Addr) (cdv ct : Value) (osl : Array (Option Value)),
    fd = PySem.W.fnOf x qual (defArgs st) (defBody st) (defScope st) .none kV doc pm an cdv ct ∧ K.lookup f = some ⟨oc, od, .func fd, osl⟩ ∧ PySem.W.codeIn K cdv qual = true
  kp : PySem.W.keepIn K (.ref f) = true
section
variable {P : Program} {w : World} {K : PySem.W.Frag} {mg : Str → Option Value} {base : Heap}
/-- THE RULE for a def: its body as a term of rules, and the reading of that term -/
theorem Fun.ok {x qual : Str} {st : Stmt} {f : Addr} {fd : FuncData} {N ps : List Str} {k : Nat} {sp : Sp} (F : Fun K x qual st f fd) (S : FnScope N ps (defScope st)) (len : ∀ vs H Q E, sp vs H Q E → vs.length = ps.length)
    (hbody : ∀ (cdv : Value) (A : Around) (outer : List Env) (s : Shared) (H : Hp) (vs : List V) (Q : VK) (E : XK), Room k (A.deeper (envOfC qual (defScope st) s.heap.objs.size f cdv)) → sp vs H Q E →
      ∃ t, PSs (cxOf CX0 P w K mg base N qual (defScope st) f cdv A outer s H E).nox (defBody st) t ∧ t { nx := fun _ H' => Q .non H', rt := Q } (start N vs) H) : FnOk P w K mg base CX0 (k + 1) f fd ps sp := by
  obtain ⟨oc, od, kV, doc, pm, an, cdv, ct, osl, rfl, lk, hcd⟩ := F.ex
  refine fn_of lk hcd S len fun A outer s H vs Q E hr hsp => ?_
  obtain ⟨t, h, q⟩ := hbody cdv A outer s H vs Q E hr hsp
  exact ⟨t, h.nox, q⟩
/-- how its arguments bind (no defaults): h is «fun _ _ _ _ _ _ us hl => match us, hl with | [_, _], _ => rfl», one _ a parameter -/
theorem Fun.binds {x qual : Str} {st : Stmt} {f : Addr} {fd : FuncData} {ps : List Str} (F : Fun K x qual st f fd)
    (h : ∀ (kV doc pm : Value) (an : Option Addr) (cdv ct : Value) (us : List Value), us.length = ps.length → bindArgs (PySem.W.fnOf x qual (defArgs st) (defBody st) (defScope st) .none kV doc pm an cdv ct) ⟨us, []⟩ = pure (ps.zip us)) : Binds K fd ps [] := by
  obtain ⟨oc, od, kV, doc, pm, an, cdv, ct, osl, rfl, lk, hcd⟩ := F.ex
  exact .all (h kV doc pm an cdv ct)
theorem fun_mk {x qual : Str} {st : Stmt} {f : Addr} {oc : Value} {od an : Option Addr} {osl : Array (Option Value)} {kV doc pm cdv ct : Value} (l : K.lookup f = some ⟨oc, od, .func (PySem.W.fnOf x qual (defArgs st) (defBody st) (defScope st) .none kV doc pm an cdv ct), osl⟩)
    (c : PySem.W.codeIn K cdv qual = true) (k : PySem.W.keepIn K (.ref f) = true) : Fun K x qual st f (PySem.W.fnOf x qual (defArgs st) (defBody st) (defScope st) .none kV doc pm an cdv ct) := ⟨⟨oc, od, kV, doc, pm, an, cdv, ct, osl, rfl, l, c⟩, k⟩
end
theorem small1000 {n : Nat} (h : n ≤ 1000) : n < sizeLine := Nat.lt_of_le_of_lt h (by decide)

section
variable {X : Cx}
theorem pv (i : Nat) {x : Str} {pos : Pos} (hN : X.N[i]? = some x := by rfl) (hv : Vis X.env.scope x := by first | exact Or.inl rfl | exact Or.inr (Or.inl rfl) | exact Or.inr (Or.inr rfl)) (hd : (x == ("__debug__" : Str)) = false := by decide)
    (hcd : (x == ("__classdict__" : Str)) = false := by decide) : PE X (.Name x pos) (tVar i) := pe_var hN hv hd hcd
end

theorem iteF {A B : Prop} (h : B) : if false = true then A else B := by
  rw [if_neg Bool.false_ne_true]
  exact h
theorem iteT {A B : Prop} (h : A) : if true = true then A else B := by
  rw [if_pos rfl]
  exact h
theorem ite2 {c A B : Prop} [Decidable c] (h1 : c → A) (h2 : ¬ c → B) : if c then A else B := by
  by_cases h : c
  · rw [if_pos h]
    exact h1 h
  · rw [if_neg h]
    exact h2 h
/-- all that was tracked is as it was -/
def Same (H H' : Hp) : Prop := ∀ b o, H b = some o → H' b = some o
theorem Same.refl (H : Hp) : Same H H := fun _ _ h => h
theorem Same.trans {H H1 H2 : Hp} (a : Same H H1) (b : Same H1 H2) : Same H H2 := fun c o h => b c o (a c o h)
theorem Same.free {H H' : Hp} (e : Same H H') {l : Addr} (h : H' l = Option.none) : H l = Option.none := by
  cases q : H l with
  | none => rfl
  | some o =>
    rw [e l o q] at h
    cases h
theorem Same.seq {K : PySem.W.Frag} {H H' : Hp} {a : Addr} {xs : List V} (e : Same H H') (h : SqL K H a xs) : SqL K H' a xs := by
  rcases h with (h | ⟨o, h⟩) | h
  · exact .inl (.inl (e _ _ h))
  · exact .inl (.inr ⟨o, e _ _ h⟩)
  · exact .inr h

end L2
set_option Elab.async false
set_option linter.all false
set_option maxRecDepth 100000
namespace Own
open PySem PySem.Spec PyProof.Rows L2

def Has (P : Program) (w : World) (K : PySem.W.Frag) (mg : Str → Option Value) (base : Heap) (x : Str) (ps : List Str) (k : Nat) (sp : Sp) : Prop :=
  ∃ (f : Addr) (fd : FuncData), FnOk P w K mg base CX0 k f fd ps sp ∧ Binds K fd ps [] ∧ PySem.W.keepIn K (.ref f) = true ∧ mg x = some (.ref f)
theorem Has.mono {P : Program} {w : World} {K : PySem.W.Frag} {mg : Str → Option Value} {base : Heap} {x : Str} {ps : List Str} {j k : Nat} {sp : Sp} (h : Has P w K mg base x ps j sp) (hk : j ≤ k) : Has P w K mg base x ps k sp := by
  obtain ⟨f, fd, F, r⟩ := h
  exact ⟨f, fd, F.mono hk, r⟩
section
variable {X : Cx} {k : Nat} {ps : List Str} {sp : Sp} {x : Str} {p pos : Pos} {e : Expr} {es : List Expr} {t : TA}
theorem pe_has (h : Has X.prog X.w X.K X.mg X.base x ps k sp) (hr : Room k X.A) (hg : Gl X x)
    (ha : PA X (e :: es) t) (hdb : (x == ("__debug__" : Str)) = false := by decide) (he : starEach (e :: es) X.env = (false, eval e X.env) :: starEach es X.env := by rfl) (hpl : (backTo pos (starEach es X.env)).any (·.1) = false := by rfl) :
    PE X (.Call (.Name x p) (e :: es) [] pos) (tCall sp [] E0 t) := by
  obtain ⟨f, fd, F, b, kp, m⟩ := h
  exact pe_call F hr hg m kp b .nil pass0 ha hdb he hpl
end
section
variable {X : Cx}
theorem log2_lt {n : Nat} (h : n < 2 ^ 9000) : n.log2 < 9000 := by
  by_cases h0 : n = 0
  · subst h0; decide
  · exact (Nat.log2_lt h0).mpr h
/-- isinstance(x, T), T a built-in type -/
inductive call_isiY (K : PySem.W.Frag) (xs : List V) (H : Hp) (Q : VK) : Prop
  | mk : ∀ x t T b, (xs = [x, .ty T]) → (TyOf K H x t) → (PySem.W.kitOne K t (.type T) = some b) → (Q (.bl b) H) → call_isiY K xs H Q
theorem call_isi : CallR X (.builtin "isinstance") (call_isiY X.K) := by
  intro pins s σ H xs us Q I r h
  obtain ⟨x, t, T, b, rfl, ty, e, q⟩ := h
  obtain ⟨u, w', rfl, r1, r2⟩ := vals2 r
  cases r2
  exact isinst_ok I r1 ty e fun tk => ⟨.bl b, H, I.tok _, rfl, q⟩
end
end Own
set_option linter.all false
namespace L2
open PySem
/-- a def as it lies at the top -/
def DfAt (K : PySem.W.Frag) (n : Str) (st : Stmt) : Prop := ∃ (f : Addr) (fd : FuncData), PySem.W.nsIn K mainGlobals n = some (some (.ref f)) ∧ Fun K n n st f fd
theorem df_mk {K : PySem.W.Frag} {n : Str} {st : Stmt} {f : Addr} {oc : Value} {od an : Option Addr} {osl : Array (Option Value)} {kV doc pm cdv ct : Value} (a : PySem.W.nsIn K mainGlobals n = some (some (.ref f))) (l : K.lookup f = some ⟨oc, od, .func (PySem.W.fnOf n n (defArgs st) (defBody st) (defScope st) .none kV doc pm an cdv ct), osl⟩) (c : PySem.W.codeIn K cdv n = true) (k : PySem.W.keepIn K (.ref f) = true) : DfAt K n st := ⟨f, _, a, fun_mk l c k⟩
theorem has_mk {P : Program} {w : World} {K : PySem.W.Frag} {mg : Str → Option Value} {h base : Heap} (X : K.In h) (G : h.Ns mainGlobals mg) {n : Str} {st : Stmt} {ps : List Str} {lv : Nat} {sp : Sp} (d : DfAt K n st)
    (ok : ∀ (f : Addr) (fd : FuncData), Fun K n n st f fd → FnOk P w K mg base CX0 lv f fd ps sp) (b : ∀ (kV doc pm : Value) (an : Option Addr) (cdv ct : Value) (us : List Value), us.length = ps.length → bindArgs (PySem.W.fnOf n n (defArgs st) (defBody st) (defScope st) .none kV doc pm an cdv ct) ⟨us, []⟩ = pure (ps.zip us)) : Own.Has P w K mg base n ps lv sp := by
  obtain ⟨f, fd, a, F⟩ := d
  exact ⟨f, fd, ok f fd F, F.binds b, F.kp, PySem.W.mg_of X G a⟩
end L2
set_option Elab.async false
set_option linter.all false
set_option maxRecDepth 100000
namespace L2
open PySem PySem.Spec PyProof.Rows

section
variable {κ : Type} [DecidableEq κ]
def valV (kvs : List (κ × V)) (k : κ) : Option V := (kvs.find? fun kv => decide (kv.1 = k)).map (·.2)
/-- in its place, or at the end -/
def putK (kvs : List (κ × V)) (k : κ) (v : V) : List (κ × V) :=
  if (kvs.any fun kv => decide (kv.1 = k)) = true then kvs.map (fun kv => if kv.1 = k then (kv.1, v) else kv) else kvs ++ [(k, v)]
def dropK (kvs : List (κ × V)) (k : κ) : List (κ × V) := kvs.filter fun kv => decide (kv.1 ≠ k)

theorem valV_pos {p : κ × V} {r : List (κ × V)} {k : κ} (e : p.1 = k) : valV (p :: r) k = some p.2 := by simp [valV, List.find?_cons, e]
theorem valV_neg {p : κ × V} {r : List (κ × V)} {k : κ} (e : ¬ p.1 = k) : valV (p :: r) k = valV r k := by simp [valV, List.find?_cons, e]
theorem RelO.getD {o : Option V} {u : Option Value} {d : V} {d' : Value} (r : RelO o u) (rd : RelV d d') : RelV (o.getD d) (u.getD d') := by
  cases o with
  | none => cases u with
    | none => exact rd
    | some _ => exact (show False from r).elim
  | some _ => cases u with
    | none => exact (show False from r).elim
    | some _ => exact r

/-- raw tables of the same keys -/
theorem KV.val {kvs : List (κ × V)} {vs : List (κ × Value)} (r : KV kvs vs) (k : κ) : RelO (valV kvs k) (valueAt vs k) := by
  unfold KV at r
  induction r with
  | nil => exact True.intro
  | @cons p q ps qs h t ih =>
    obtain ⟨h1, h2⟩ := h
    by_cases e : p.1 = k
    · have e' : q.1 = k := h1.symm.trans e
      have b : valueAt (q :: qs) k = some q.2 := by simp [valueAt, List.find?_cons, e']
      rw [valV_pos e, b]; exact h2
    · have e' : ¬ q.1 = k := fun z => e (h1.trans z)
      have b : valueAt (q :: qs) k = valueAt qs k := by simp [valueAt, List.find?_cons, e']
      rw [valV_neg e, b]; exact ih
theorem KV.any {kvs : List (κ × V)} {vs : List (κ × Value)} (r : KV kvs vs) (k : κ) : (kvs.any fun kv => decide (kv.1 = k)) = vs.any fun kv => decide (kv.1 = k) := by
  unfold KV at r
  induction r with
  | nil => rfl
  | cons h t ih => rw [List.any_cons, List.any_cons, ih, h.1]
theorem KV.drop {kvs : List (κ × V)} {vs : List (κ × Value)} (r : KV kvs vs) (k : κ) : KV (dropK kvs k) (without vs k) := by
  unfold KV at r ⊢
  unfold dropK without
  induction r with
  | nil => exact .nil
  | @cons p q ps qs h t ih =>
    obtain ⟨h1, h2⟩ := h
    rw [List.filter_cons, List.filter_cons]
    by_cases e : p.1 = k
    · have a : ¬ decide (p.1 ≠ k) = true := by simp [e]
      have b : ¬ decide (q.1 ≠ k) = true := by simp [h1.symm.trans e]
      rw [if_neg a, if_neg b]; exact ih
    · have e' : ¬ q.1 = k := fun z => e (h1.trans z)
      have a : decide (p.1 ≠ k) = true := by simp [e]
      have b : decide (q.1 ≠ k) = true := by simp [e']
      rw [if_pos a, if_pos b]; exact .cons ⟨h1, h2⟩ ih
theorem KV.keys {kvs : List (κ × V)} {vs : List (κ × Value)} (r : KV kvs vs) : kvs.map (·.1) = vs.map (·.1) := by
  unfold KV at r
  induction r with
  | nil => rfl
  | cons h t ih => rw [List.map_cons, List.map_cons, ih, h.1]
theorem KV.length {kvs : List (κ × V)} {vs : List (κ × Value)} (r : KV kvs vs) : kvs.length = vs.length := Paired.length r
end


/-- raw entries of a dict with tuple keys -/
abbrev KT (H : Hp) : List (List Key × V) → List (List Key × Addr × Value) → Prop := Paired fun p q => p.1 = q.1 ∧ H q.2.1 = some (.tup (p.1.map kV)) ∧ RelV p.2 q.2.2
theorem KT.val {H : Hp} {kvs : List (List Key × V)} {xs : List (List Key × Addr × Value)} (r : KT H kvs xs) (k : List Key) : RelO (valV kvs k) ((atKey xs k).map (·.2)) := by
  induction r with
  | nil => exact True.intro
  | @cons p q ps qs h t ih =>
    obtain ⟨h1, _, h2⟩ := h
    by_cases e : p.1 = k
    · have e' : q.1 = k := h1.symm.trans e
      have b : atKey (q :: qs) k = some q.2 := by simp [atKey, List.find?_cons, e']
      rw [valV_pos e, b]; exact h2
    · have e' : ¬ q.1 = k := fun z => e (h1.trans z)
      have b : atKey (q :: qs) k = atKey qs k := by simp [atKey, List.find?_cons, e']
      rw [valV_neg e, b]; exact ih
theorem KT.keeps {H H' : Hp} {kvs : List (List Key × V)} {xs : List (List Key × Addr × Value)} (r : KT H kvs xs) (ht : ∀ b ys, H b = some (.tup ys) → H' b = some (.tup ys)) : KT H' kvs xs :=
  Paired.mapP r fun _ _ z => ⟨z.1, ht _ _ z.2.1, z.2.2⟩

section
variable {P : Program} {w : World} {H : Hp} {h : Heap} {a : Addr}
end

/-- what the dict at a holds at the key y -/
def DGet (H : Hp) (a : Addr) (y : V) (r : Option V) : Prop :=
  (∃ kvs k, Rd H a (.dK kvs) ∧ y = kV k ∧ r = valV kvs k) ∨ ∃ kvs k b, Rd H a (.dT kvs) ∧ y = .ref b ∧ H b = some (.tup (k.map kV)) ∧ r = valV kvs k
/-- the heap behind a[y] = v -/
def DPut (H : Hp) (a : Addr) (y v : V) (H' : Hp) : Prop :=
  (∃ kvs k, H a = some (.dK kvs) ∧ y = kV k ∧ kvs.length < sizeLine ∧ H' = upd H a (.dK (putK kvs k v))) ∨
  ∃ kvs k b, H a = some (.dT kvs) ∧ y = .ref b ∧ H b = some (.tup (k.map kV)) ∧ kvs.length < sizeLine ∧ H' = upd H a (.dT (putK kvs k v))
theorem DGet.k {H : Hp} {a : Addr} {kvs : List (Key × V)} {k : Key} (e : H a = some (.dK kvs)) : DGet H a (kV k) (valV kvs k) := .inl ⟨kvs, k, .inl e, rfl, rfl⟩
theorem DGet.t {H : Hp} {a b : Addr} {kvs : List (List Key × V)} {k : List Key} (e : H a = some (.dT kvs)) (eb : H b = some (.tup (k.map kV))) : DGet H a (.ref b) (valV kvs k) := .inr ⟨kvs, k, b, .inl e, rfl, eb, rfl⟩
theorem DPut.k {H : Hp} {a : Addr} {kvs : List (Key × V)} {k : Key} {v : V} (e : H a = some (.dK kvs)) (hl : kvs.length < sizeLine) : DPut H a (kV k) v (upd H a (.dK (putK kvs k v))) := .inl ⟨kvs, k, e, rfl, hl, rfl⟩
theorem DPut.t {H : Hp} {a b : Addr} {kvs : List (List Key × V)} {k : List Key} {v : V} (e : H a = some (.dT kvs)) (eb : H b = some (.tup (k.map kV))) (hl : kvs.length < sizeLine) :
    DPut H a (.ref b) v (upd H a (.dT (putK kvs k v))) := .inr ⟨kvs, k, b, e, rfl, eb, hl, rfl⟩


section
variable {X : Cx} {pins : List (Addr × Obj)} {σ : St} {H : Hp} {s : Shared} {a : Addr} {y v : V} {u r : Value} {o : Option V} {A : Around} {E : Value → Shared → Prop}

theorem Inv.big (I : Inv X pins σ H s) : sysModules < s.heap.objs.size := by
  have h : mainGlobals < s.heap.objs.size := (I.mod.glob.keeps I.bk).lt
  exact Nat.lt_trans (by decide) h

end

section
variable {X : Cx} {pins : List (Addr × Obj)} {σ : St} {H : Hp} {s : Shared} {a : Addr} {kvs : List (Key × V)} {k : Key} {u : Value} {A : Around} {E : Value → Shared → Prop}
end


section
variable {X : Cx} {o i e value : Expr} {pos pos' tpos : Pos} {td ty tv : TE}
end


section
variable {X : Cx} {pos : Pos}
end

section
variable {X : Cx} {pins : List (Addr × Obj)} {σ : St} {H : Hp} {s : Shared} {a : Addr} {y d : V} {u r : Value} {o : Option V} {A : Around} {E : Value → Shared → Prop}
end

section
variable {X : Cx} {o e f : Expr} {apos cpos : Pos} {td ty tx : TE}
end

section
variable {X : Cx} {pins : List (Addr × Obj)} {σ : St} {H : Hp} {s : Shared} {a : Addr} {kvs : List (Key × V)} {A : Around} {E : Value → Shared → Prop}
end


section
variable {X : Cx} {pins : List (Addr × Obj)} {σ : St} {H : Hp} {s : Shared} {a : Addr} {y : V} {u : Value} {A : Around} {E : Value → Shared → Prop}
end
end L2

namespace L2
open PySem PySem.Spec PyProof.Rows
section
variable {κ : Type} [DecidableEq κ]
end
end L2
set_option Elab.async false
set_option linter.all false
set_option maxRecDepth 100000
set_option maxHeartbeats 4000000
namespace L2
open PySem PySem.Spec PyProof.Rows

abbrev TB := (St → Hp → Prop) → St → Hp → Prop
/-- a piece of code within a comprehension's turn -/
def PBd (X : Cx) (code : Sem Unit) (b : TB) : Prop :=
  ∀ (pins : List (Addr × Obj)) (s : Shared) (σ : St) (H : Hp) (N : St → Hp → Prop), Inv X pins σ H s → b N σ H →
    wpAny (model X.prog X.w) X.A code (fun _ s' => ∃ σ' H', Inv X pins σ' H' s' ∧ N σ' H') X.xe s
/-- the rest of a turn: it ends with the loop again -/
def PTl (X : Cx) (tail : Sem PySem.Fin) (L : Code) (b : TB) : Prop :=
  ∀ (pins : List (Addr × Obj)) (s : Shared) (σ : St) (H : Hp) (N : St → Hp → Prop), Inv X pins σ H s → b N σ H →
    wpAny (model X.prog X.w) X.A tail (fun fin s' => fin = .again L ∧ ∃ σ' H', Inv X pins σ' H' s' ∧ N σ' H') X.xe s
def tailOf (ifs : List Expr) (env : Env) (body : Sem Unit) (L : Code) : Sem PySem.Fin :=
  (forIn ifs true fun c r => if r = true then do let ok ← isTrue c env (eval c env); pure (ForInStep.yield ok) else pure (ForInStep.yield r)) >>= fun ok => if ok = true then body >>= fun _ => again L else again L
/-- the walk of one clause: as tFor, without break and return -/
def tWalk (J : It) (g : TG) (b : TB) (N0 : St → Hp → Prop) (σ : St) (H : Hp) : Prop :=
  ∃ W : Nat → Nat → St → Hp → Prop, (∃ m, W 0 m σ H) ∧ ∀ i m σ H, W i m σ H →
    (J.stop i H ∧ N0 σ H) ∨ (J.go i H ∧ ∃ N : St → Hp → Prop, (∀ σ' H', N σ' H' → ∃ m', m' < m ∧ W (i + 1) m' σ' H') ∧ ∀ x H', J.yld i H x H' → g x σ H' fun σ2 H2 => b N σ2 H2)
section
variable {X : Cx} {e tg : Expr} {gens : List Comprehension} {sc : Scope} {cpos : Pos} {d : Nat} {it : Addr} {acc : Value} {tail : Sem PySem.Fin} {p : Pos} {g : TG} {b : TB} {J : It} {fp : List Addr} {tn : Nat → Heap → Prop} {N0 : St → Hp → Prop} {R : Result → Shared → Prop}
theorem comp_loop (he : (∃ el, e = .ListComp el gens sc cpos) ∨ ∃ k v, e = .DictComp k v gens sc cpos) (hx : X.xe = fun _ _ => False) (hc : X.calm = true)
    (ht : compTurn e d (.ref it) acc X.env = (standAt p >>= fun _ => pyNext (.ref it) >>= fun r => match r with
      | none => pure (.done .next)
      | some v => letOwnedTupleGo tg (.ref it) v >>= fun _ => assign tg X.env v >>= fun _ => tail))
    (T : Turn X.prog X.w X.K tg J fp it tn) (hg : PG X tg g) (hb : PTl X tail (.compLoop e d (.ref it) acc X.env) b) {pins : List (Addr × Obj)} {σ : St} {H : Hp} {s : Shared}
    (I : Inv X pins σ H s) (st : tn 0 s.heap) (f2 : ∀ b ∈ fp, FpOk X pins H b) (hw : tWalk J g b N0 σ H)
    (hR : ∀ σ' H' s', Inv X pins σ' H' s' → N0 σ' H' → R (.ok .next) s') :
    codeAny (model X.prog X.w) X.A (.compLoop e d (.ref it) acc X.env) R s := by
  obtain ⟨W, ⟨m0, w0⟩, turn⟩ := hw
  have stat : ∀ {H' : Hp}, (∀ b ∈ fp, H' b = none) → ∀ b ∈ fp, FpOk X pins H' b := fun hn b hb => ⟨hn b hb, (f2 b hb).2⟩
  refine codeAny_loop rfl (fun n s' => ∃ i σ' H', Inv X pins σ' H' s' ∧ tn i s'.heap ∧ (∀ b ∈ fp, H' b = none) ∧ W i n σ' H') ?_ m0 ⟨0, σ, H, I, st, fun b hb => (f2 b hb).1, w0⟩
  rintro n s3 ⟨i, σ3, H3, I3, st3, fr3, w3⟩
  have hden : (model X.prog X.w).den (.compLoop e d (.ref it) acc X.env) = ((compTurn e d (.ref it) acc X.env).onRaise (fun x => do noteFrame x X.env; theTreesLotGoes x)) ∧ X.A.under (.compLoop e d (.ref it) acc X.env) = X.A := by
    rcases he with ⟨el, rfl⟩ | ⟨k, v, rfl⟩ <;> exact ⟨rfl, rfl⟩
  rw [hden.1, hden.2]
  show wpAny _ _ ((compTurn e d (.ref it) acc X.env).onRaise (fun x => do noteFrame x X.env; theTreesLotGoes x)) _ _ s3
  refine wpAny_noted ?_
  rw [ht]
  have no : ∀ {α : Type} {t : Sem α} {Q : α → Shared → Prop} {E : Value → Shared → Prop} {s : Shared}, wpAny (model X.prog X.w) X.A t Q X.xe s → wpAny (model X.prog X.w) X.A t Q E s :=
    fun h => wpAny_mono h (fun _ _ q => q) fun _ _ q => by rw [hx] at q; exact q.elim
  refine wpAny_bind (wpAny_standAt (wpAny_bind ?_))
  rcases turn i n σ3 H3 w3 with ⟨stop, qn⟩ | ⟨go, N, hN, step⟩
  · refine no (thn (T.done X rfl rfl rfl hc i pins s3 σ3 H3 X.xe I3 (stat fr3) st3 stop) fun r s4 ⟨hr, I4⟩ => ?_)
    subst hr
    exact wpAny_pure (hR _ _ _ I4 qn)
  · refine no (thn (T.item X rfl rfl rfl hc i pins s3 σ3 H3 X.xe I3 (stat fr3) st3 go) fun r s4 ⟨u, hr, h4⟩ => ?_)
    subst hr
    refine wpAny_bind (no (thn h4 fun _ s5 ⟨x, H5, I5, r5, y5, st5, fr5⟩ => ?_))
    have I5' := I5.pinned (stat fr5) (T.obj _ _ st5)
    refine wpAny_bind (no (thn (hg _ s5 σ3 H5 x u _ I5' r5 (step x H5 y5)) fun _ s6 ⟨σ6, H6, I6, q6⟩ => ?_))
    refine no (thn (hb _ s6 σ6 H6 _ I6 q6) fun fin s7 ⟨hf, σ7, H7, I7, n7⟩ => ?_)
    subst hf
    obtain ⟨m', hm, w7⟩ := hN σ7 H7 n7
    refine ⟨rfl, m', hm, i + 1, σ7, H7, I7.unpinned, T.keep _ _ _ st5 fun b hb o e => (I7.pin (b, o) (List.mem_append_right _ (List.mem_append_right _ (mem_pinsAt hb e)))).1, fun b hb => ?_, w7⟩
    obtain ⟨o, e, d⟩ := T.obj _ _ st5 b hb
    exact (I7.pin (b, o) (List.mem_append_right _ (List.mem_append_right _ (mem_pinsAt hb e)))).2.1
end
/-- no test; one test; two -/
def bIf (t : TT) (b : TB) : TB := fun N σ H => t σ H fun c H1 => if c = true then b N σ H1 else N σ H1
theorem pt_tail0 {X : Cx} {body : Sem Unit} {L : Code} {b : TB} (hb : PBd X body b) : PTl X (tailOf [] X.env body L) L b := by
  intro pins s σ H N I h
  unfold tailOf
  refine wpAny_bind (wpAny_tests_nil ?_)
  show wpAny _ _ (body >>= fun _ => again L) _ _ s
  exact wpAny_bind (thn (hb pins s σ H N I h) fun _ s' q => wpAny_pure ⟨rfl, q⟩)
theorem pt_tail1 {X : Cx} {c : Expr} {t : TT} {body : Sem Unit} {L : Code} {b : TB} (hc : PT X c t) (hb : PBd X body b) : PTl X (tailOf [c] X.env body L) L (bIf t b) := by
  intro pins s σ H N I h
  unfold tailOf
  refine wpAny_bind (wpAny_tests_one (thn (hc pins s σ H _ I h) fun ok s1 ⟨H1, I1, q⟩ => ?_))
  cases ok with
  | true => exact wpAny_bind (thn (hb pins s1 σ H1 N I1 (by simpa using q)) fun _ s' q => wpAny_pure ⟨rfl, q⟩)
  | false => exact wpAny_pure ⟨rfl, σ, H1, I1, by simpa using q⟩
/-- the item onto the list at D -/
def bApp (D : Addr) (te : TE) : TB := fun N σ H => te σ H fun x H1 => ∃ xs, H1 D = some (.lst xs) ∧ xs.length < sizeLine ∧ N σ (upd H1 D (.lst (xs ++ [x])))
theorem pb_app {X : Cx} {el : Expr} {te : TE} {D : Addr} (he : PE X el te) : PBd X (do let _ ← call (.builtin "list.append") [.ref D, ← eval el X.env]) (bApp D te) := by
  intro pins s σ H N I h
  refine wpAny_bind (thn (he pins s σ H _ I h) fun u s1 ⟨x, H1, I1, r, xs, hD, hz, q⟩ => ?_)
  refine wpAny_bind (thn (mt_append pins s1 σ H1 (.ref D) [x] (.ref D) [u] (fun _ H2 => N σ H2) I1 rfl (.cons r .nil) ⟨D, xs, x, rfl, rfl, hD, hz, q⟩) fun _ s2 ⟨_, H2, I2, _, q2⟩ => ?_)
  exact wpAny_pure ⟨σ, H2, I2, q2⟩
theorem turn_l1 (el tg iter : Expr) (ifs : List Expr) (sc : Scope) (pos : Pos) (it acc : Value) (env : Env) :
    compTurn (.ListComp el [⟨tg, iter, ifs, 0⟩] sc pos) 0 it acc env = (standAt iter.pos >>= fun _ => pyNext it >>= fun r => match r with
      | none => pure (.done .next)
      | some v => letOwnedTupleGo tg it v >>= fun _ => assign tg env v >>= fun _ => tailOf ifs env (do let _ ← call (.builtin "list.append") [acc, ← eval el env]) (.compLoop (.ListComp el [⟨tg, iter, ifs, 0⟩] sc pos) 0 it acc env)) := by rfl
end L2
set_option Elab.async false
set_option linter.all false
set_option maxRecDepth 100000
set_option maxHeartbeats 4000000
namespace L2
open PySem PySem.Spec PyProof.Rows

/-- the cells of the enclosing frame that the block's free names stand for -/
def clStep (env : Env) (cs : List (Str × Addr)) (y : Str × NameKind) : List (Str × Addr) :=
  if (y.2 == .free) = true then (match env.cells.lookup y.1 with | some c => (y.1, c) :: cs | none => cs) else cs
def clOf (sc : Scope) (env : Env) : List (Str × Addr) := sc.names.foldl (clStep env) []
def clTurn (env : Env) (x : Str × NameKind) (r : List (Str × Addr)) : Sem (ForInStep (List (Str × Addr))) :=
  match x with | (name, kind) => if (kind == .free) = true then (do let a ← cellOf env name; pure (ForInStep.yield ((name, a) :: r))) else pure (ForInStep.yield r)
theorem clTurn_eq {env : Env} {y : Str × NameKind} {cs : List (Str × Addr)} (h : y.2 = .free → ∃ c, env.cells.lookup y.1 = some c) : clTurn env y cs = pure (ForInStep.yield (clStep env cs y)) := by
  obtain ⟨n, k⟩ := y
  unfold clTurn clStep
  cases hk : k == NameKind.free with
  | false => simp [hk]
  | true =>
    obtain ⟨c, hc⟩ := h (by simpa using hk)
    have hc' : List.lookup n env.cells = some c := hc
    simp only [hk, if_true, cellOf, hc', pure_bind]
theorem closure_go {env : Env} : ∀ (l : List (Str × NameKind)) (cs : List (Str × Addr)), (∀ y ∈ l, y.2 = .free → ∃ c, env.cells.lookup y.1 = some c) →
    (forIn l cs (clTurn env) : Sem (List (Str × Addr))) = pure (l.foldl (clStep env) cs)
  | [], cs, _ => rfl
  | y :: r, cs, h => by
    rw [List.forIn_cons, clTurn_eq (h y List.mem_cons_self), pure_bind, List.foldl_cons]
    exact closure_go r _ fun y hy => h y (List.mem_cons_of_mem _ hy)
theorem closure_of {sc : Scope} {env : Env} (h : ∀ y ∈ sc.names, y.2 = .free → ∃ c, env.cells.lookup y.1 = some c) : closureFor sc env = pure (clOf sc env) := by
  have q := closure_go (env := env) sc.names [] h
  have z : closureFor sc env = (forIn sc.names [] (clTurn env) >>= fun r => pure r) := rfl
  rw [z, q]
  rfl
theorem cl_in {env : Env} {x : Str} {c : Addr} : ∀ (l : List (Str × NameKind)) (cs : List (Str × Addr)), (cs.lookup x = some c → env.cells.lookup x = some c) → (l.foldl (clStep env) cs).lookup x = some c → env.cells.lookup x = some c
  | [], cs, h, e => h e
  | (n, k) :: r, cs, h, e => by
    rw [List.foldl_cons] at e
    refine cl_in r _ (fun z => ?_) e
    unfold clStep at z
    split at z
    · split at z
      · rename_i c' hc
        rw [List.lookup_cons] at z
        split at z
        · rename_i hx
          have : x = n := by simpa using hx
          subst this
          cases z
          exact hc
        · exact h z
      · exact h z
    · exact h z
theorem cl_has {env : Env} {x : Str} : ∀ (l : List (Str × NameKind)) (cs : List (Str × Addr)), (∃ c, env.cells.lookup x = some c) → ((∃ c, cs.lookup x = some c) ∨ (x, NameKind.free) ∈ l) → ∃ c, (l.foldl (clStep env) cs).lookup x = some c
  | [], cs, _, h => h.elim id (fun z => nomatch z)
  | (n, k) :: r, cs, he, h => by
    rw [List.foldl_cons]
    refine cl_has r _ he ?_
    rcases h with ⟨c, h⟩ | h
    · left
      unfold clStep
      split
      · split
        · rename_i c' hc
          rw [List.lookup_cons]
          split
          · exact ⟨_, rfl⟩
          · exact ⟨c, h⟩
        · exact ⟨c, h⟩
      · exact ⟨c, h⟩
    · rcases List.mem_cons.mp h with z | z
      · cases z
        obtain ⟨c, hc⟩ := he
        left
        refine ⟨c, ?_⟩
        unfold clStep
        simp [hc]
      · exact .inr z

structure CS (sc S0 : Scope) : Prop where
  kind : sc.kind = .function
  names : ∀ y ∈ sc.names, y.2 = .local → sc.names.lookup y.1 = some .local
  nocell : ∀ y ∈ sc.names, y.2 ≠ .cell
  free : ∀ y ∈ sc.names, y.2 = .free → S0.names.lookup y.1 = some .cell
def relOne (env : Env) (y : Str × NameKind) : Str × NameKind := if (y.2 == .free && env.scope.kind == .function && env.kindOf y.1 == some .cell) = true then (y.1, .cell) else (y.1, y.2)
theorem relOne_fst (env : Env) (y : Str × NameKind) : (relOne env y).1 = y.1 := by
  unfold relOne
  split <;> rfl
theorem rel_look {env : Env} {x : Str} : ∀ (l : List (Str × NameKind)), (l.map (relOne env)).lookup x = (l.lookup x).map fun k => (relOne env (x, k)).2
  | [] => rfl
  | (n, k) :: r => by
    rw [List.map_cons]
    have e : relOne env (n, k) = (n, (relOne env (n, k)).2) := Prod.ext (relOne_fst env (n, k)) rfl
    rw [e, List.lookup_cons, List.lookup_cons]
    cases hx : x == n with
    | true =>
      have : x = n := by simpa using hx
      subst this
      rfl
    | false => exact rel_look r
/-- the context of the block: s₂, H₂ ahead of it, the locals at C -/
def cxC (X : Cx) (Nc : List Str) (sc : Scope) (C : Addr) (s₂ : Shared) (H₂ : Hp) (fp : List Addr) (pins : List (Addr × Obj)) : Cx :=
  { X with N := Nc, s₀ := s₂, H₀ := H₂, env := compEnvC sc (clOf sc X.env) C X.env, outer := X.stack, ex := fp, fn := fun _ => false, pn := X.pn ++ pins }
/-- the names' values at the block's start: js says which name of the frame each is, none: the block's own -/
def compSt (js : List (Option Nat)) (σ : St) : St := js.map fun o => o.bind fun j => (σ[j]?).join
def capOk (js : List (Option Nat)) (Nc N : List Str) (names : List (Str × NameKind)) : Bool :=
  decide (js.length = Nc.length) && (js.zip Nc).all fun (o, x) => match o with | none => true | some j => decide (N[j]? = some x) && decide (names.lookup x = some .free)
theorem cap_of {js : List (Option Nat)} {Nc N : List Str} {names : List (Str × NameKind)} (h : capOk js Nc N names = true) : js.length = Nc.length ∧ ∀ (i j : Nat) (x : Str), js[i]? = some (some j) → Nc[i]? = some x → N[j]? = some x ∧ names.lookup x = some .free := by
  unfold capOk at h
  rw [Bool.and_eq_true] at h
  refine ⟨of_decide_eq_true h.1, fun i j x e1 e2 => ?_⟩
  have z : (js.zip Nc)[i]? = some (some j, x) := by
    rw [List.getElem?_zip_eq_some]
    exact ⟨e1, e2⟩
  have q := List.all_eq_true.mp h.2 _ (List.mem_of_getElem? z)
  dsimp only at q
  rw [Bool.and_eq_true] at q
  exact ⟨of_decide_eq_true q.1, of_decide_eq_true q.2⟩
section
variable {X : Cx} {pins : List (Addr × Obj)} {σ : St} {H : Hp} {s : Shared} {sc : Scope} {Nc : List Str} {js : List (Option Nat)} {fp : List Addr}
theorem ok_comp (I : Inv X pins σ H s) (S : CS sc X.env.scope) (f : ∀ b ∈ fp, FpOk X pins H b) (hlt : ∀ b ∈ fp, b < s.heap.objs.size) {C : Addr} (hC : s.heap.objs.size ≤ C) : (cxC X Nc sc C s H fp pins).Ok := by
  have inX : ∀ x c, (clOf sc X.env).lookup x = some c → X.env.cells.lookup x = some c := fun x c e => cl_in sc.names [] (fun z => nomatch z) e
  refine ⟨I.ok.mod, S.kind, I.ok.glob, I.ok.blt, hC, fun x y c e1 e2 => I.ok.inj x y c (inX x c e1) (inX y c e2), fun x hx => ?_, fun x c z => (nomatch z), I.ok.hd, I.ok.frames, .inl rfl, fun b hb => ⟨?_, fun x c e => (f b hb).2.2.2.2.1 x c (inX x c e)⟩, I.bs, Nat.le_trans I.ok.bsz I.sz, fun b o e hb => ?_, fun b hb hs => ?_, I.stack, I.stkFree⟩
  · have hx' : (sc.names.map (relOne X.env)).lookup x = some .cell ∨ (sc.names.map (relOne X.env)).lookup x = some .free := hx
    rw [rel_look] at hx'
    cases e : sc.names.lookup x with
    | none => rw [e] at hx'; rcases hx' with z | z <;> cases z
    | some k =>
      rw [e] at hx'
      have m : (x, k) ∈ sc.names := PySem.mem_of_lookup e
      have kf : k = .free := by
        have nk := S.nocell _ m
        unfold relOne at hx'
        by_cases hk : (k == NameKind.free) = true
        · simpa using hk
        · have hk' : (k == NameKind.free) = false := by simpa using hk
          simp only [hk', Bool.false_and, Option.map_some] at hx'
          rcases hx' with z | z
          · exact absurd (by simpa using z) nk
          · simpa using z
      subst kf
      have hx2 := S.free _ m rfl
      obtain ⟨c, hc⟩ := I.ok.has x (.inl hx2)
      exact cl_has sc.names [] ⟨c, hc⟩ (.inr m)
  · exact Nat.ne_of_lt (Nat.lt_of_lt_of_le (hlt b hb) hC)
  · obtain ⟨h0, h1, h2, h3, h4, h5⟩ := f b hb
    rcases h3 with z | z
    · exact I.ok.noex b o e z
    · exact absurd (Nat.lt_of_lt_of_le (Heap.lt_size (I.ok.bs b o e).1) z) (Nat.lt_irrefl _)
  · obtain ⟨h0, h1, h2, h3, h4, h5⟩ := f b hb
    rcases List.mem_cons.mp (I.stkSub b hs) with z | z
    · exact h1 z
    · exact h2 z
/-- the block begins: h₁ is the heap with the new object at D (tracked as o) and the block's names at C -/
theorem inv_comp (I : Inv X pins σ H s) (S : CS sc X.env.scope) (f : ∀ b ∈ fp, FpOk X pins H b) (hlt : ∀ b ∈ fp, b < s.heap.objs.size) (cap : capOk js Nc X.N sc.names = true) {C D : Addr} {o : HO} {h₁ : Heap} {m : Str → Option Value} {tk : Nat}
    (hC : s.heap.objs.size ≤ C) (hD : s.heap.objs.size ≤ D) (hDC : D ≠ C) (hk : ∀ b ob, s.heap.get? b = some ob → h₁.get? b = some ob) (hns : h₁.Ns C m) (new : ObjOk X.prog X.w (upd H D o) h₁ D o) :
    Inv (cxC X Nc sc C s H fp pins) [] (compSt js σ) (upd H D o) { s with heap := h₁, toks := tk } := by
  have inX : ∀ x c, (clOf sc X.env).lookup x = some c → X.env.cells.lookup x = some c := fun x c e => cl_in sc.names [] (fun z => nomatch z) e
  have fresh : ∀ a, s.heap.objs.size ≤ a → H a = none := fun a ha => I.hok.fresh ha
  obtain ⟨cl, cp⟩ := cap_of cap
  refine ⟨ok_comp I S f hlt hC, rfl, I.bare, Un.laid hk hD (fresh D hD), ⟨m, hns, fun i x v e1 e2 e3 => ?_⟩, fun x c e => ?_, ?_, fun x c e => ?_, fun p hp => ?_, I.hok.laid hk hD new, ?_⟩
  · -- a name of the frame's
    unfold compSt at e2
    rw [List.getElem?_map] at e2
    cases ej : js[i]? with
    | none => rw [ej] at e2; cases e2
    | some oj =>
      rw [ej] at e2
      cases oj with
      | none => cases e2
      | some j =>
        obtain ⟨hN, hfree⟩ := cp i j x ej e1
        have hv : σ[j]? = some (some v) := by
          simp only [Option.map_some, Option.bind_some, Option.some.injEq] at e2
          cases e : σ[j]? with
          | none => rw [e] at e2; cases e2
          | some w => rw [e] at e2; exact congrArg some e2
        have kc : X.env.kindOf x = some .cell := S.free _ (PySem.mem_of_lookup hfree) rfl
        obtain ⟨m', hn', hl⟩ := I.loc
        obtain ⟨u, r, lk⟩ := hl j x v hN hv (.inr (.inl kc))
        refine ⟨u, r, .inr ⟨.inl ?_, ?_⟩⟩
        · show (sc.names.map (relOne X.env)).lookup x = some .cell
          rw [rel_look, hfree]
          unfold relOne
          simp [I.ok.kind, kc]
        · rcases lk with ⟨z, _⟩ | ⟨_, c, hc, ic⟩
          · rw [kc] at z; cases z
          · obtain ⟨c', hc'⟩ := cl_has sc.names [] ⟨c, hc⟩ (.inr (PySem.mem_of_lookup hfree))
            have : c' = c := Option.some.inj ((inX x c' hc').symm.trans hc)
            subst this
            exact ⟨c', hc', ic.keeps hk⟩
  · obtain ⟨v, ic⟩ := I.cell x c (inX x c e)
    exact ⟨v, ic.keeps hk⟩
  · show upd H D o C = none
    rw [upd_ne hDC.symm]
    exact fresh C hC
  · have q := inX x c e
    obtain ⟨v, ic⟩ := I.cell x c q
    show upd H D o c = none
    rw [upd_ne (Nat.ne_of_lt (Nat.lt_of_lt_of_le ic.lt hD))]
    exact I.freeC x c q
  · have hp' : p ∈ X.pn ++ pins := by
      rcases List.mem_append.mp hp with z | z
      · exact z
      · exact absurd z (by simp)
    obtain ⟨a1, a2, a3, a4, a5⟩ := I.pin p hp'
    have lt := Heap.lt_size a1
    refine ⟨hk _ _ a1, ?_, Nat.ne_of_lt (Nat.lt_of_lt_of_le lt hC), fun z => ?_, a5⟩
    · rw [upd_ne (Nat.ne_of_lt (Nat.lt_of_lt_of_le lt hD))]
      exact a2
    · rcases List.mem_cons.mp (I.stkSub _ z) with z | z
      · exact a3 z
      · exact a4 z
  · unfold compSt
    rw [List.length_map]
    exact cl
/-- the block ends: its names are let go (h' is as h but at C) -/
theorem inv_back {C : Addr} {σ' : St} {H' : Hp} {s' : Shared} {h' : Heap} (I : Inv X pins σ H s) (f : ∀ b ∈ fp, FpOk X pins H b) (hC : s.heap.objs.size ≤ C) (J : Inv (cxC X Nc sc C s H fp pins) [] σ' H' s') (hs : Heap.SameBut C s'.heap h') :
    Inv X pins σ H' { s' with heap := h' } := by
  have u := J.base
  have nC : H' C = none := J.free
  have stay : ∀ b ob, b ≠ C → s'.heap.get? b = some ob → h'.get? b = some ob := fun b ob hb e => hs.extBut b ob hb e
  have neC : ∀ b ob, s.heap.get? b = some ob → b ≠ C := fun b ob e => Nat.ne_of_lt (Nat.lt_of_lt_of_le (Heap.lt_size e) hC)
  refine I.call' (ch := fp) J.os ?_ (fun b v e => ?_) J.bare fun b hb => ⟨(f b hb).2.2.2.1, (f b hb).2.1, (f b hb).2.2.2.2.1, (f b hb).2.2.2.2.2⟩
  · refine ⟨fun b ob e n h1 h2 => stay b ob (neC b ob e) (u.keep b ob e n h1 h2), fun b ob e n h1 h2 => ?_, u.free, fun b ob e h2 => ?_, u.tups, u.frzs, u.tbls⟩
    · obtain ⟨sl, q⟩ := u.slot b ob e n h1 h2
      exact ⟨sl, stay b _ (neC b ob e) q⟩
    · obtain ⟨o', q⟩ := u.there b ob e h2
      exact ⟨o', stay b _ (neC b ob e) q⟩
  · have nb : ∀ c w, H' c = some w → c ≠ C := fun c w e z => by rw [z, nC] at e; cases e
    refine (J.hok b v e).stay (fun c w hc q => stay c w ?_ q) (fun _ q => q) fun _ _ q => q
    rcases hc with z | z
    · rw [z]; exact nb b v e
    · exact nb c _ z
end
end L2
set_option Elab.async false
set_option linter.all false
set_option maxRecDepth 100000
set_option maxHeartbeats 4000000
namespace L2
open PySem PySem.Spec PyProof.Rows
section
variable {X : Cx} {e tg iter el : Expr} {ifs : List Expr} {gens rest : List Comprehension} {sc : Scope} {pos : Pos} {Nc : List Str} {js : List (Option Nat)} {wi : TI}
theorem comp_start {prog : Program} {w : World} {A : Around} {env : Env} {R : Result → Shared → Prop} {s : Shared} {d : Nat} {it acc : Value} {g : Comprehension} (he : (∃ el, e = .ListComp el gens sc pos) ∨ ∃ k v, e = .DictComp k v gens sc pos)
    (hg : (clausesOf e)[d]? = some g) (ha : g.is_async = 0)
    (h0 : codeAny (model prog w) A (.compLoop e d it acc env) R s)
    (h : wpAny (model prog w) A (pyIter it) (fun it' s' => codeAny (model prog w) A (.compLoop e d it' acc env) R s') (fun _ _ => False) s) :
    codeAny (model prog w) A (.compStart e d it acc env) R s := by
  refine codeAny_of_tree ?_
  have hden : (model prog w).den (.compStart e d it acc env) = ((compStart e d it acc env).onRaise (fun x => do noteFrame x env; standAt theWindowsPlace)) ∧ A.under (.compStart e d it acc env) = A := by
    rcases he with ⟨el, rfl⟩ | ⟨k, v, rfl⟩ <;> exact ⟨rfl, rfl⟩
  have hq : ∀ d it acc, (Code.compLoop e d it acc env).quiet = true := fun _ _ _ => rfl
  rw [hden.1, hden.2]
  refine wpAny_notedAt ?_
  unfold compStart
  rw [hg]
  have hz : ((some g).elim false fun x => x.is_async != 0) = false := by show (g.is_async != 0) = false; rw [ha]; rfl
  rw [hz]
  show wpAny _ _ (ask >>= _) _ _ s
  refine wpAny_bind (wpAny_askSetting (wpAny_ite ?_))
  split
  · first
      | exact wpAny_bind (wpAny_pure (wpAny_pure (And.intro rfl h0)))
      | exact wpAny_pure (And.intro rfl h0)
  · refine wpAny_bind (wpAny_rule ?_)
    show wpAny _ _ (standAt g.iter.pos >>= _) _ _ s
    exact wpAny_bind (wpAny_standAt (wpAny_bind (wpAny_mono h (fun it' s' h' => wpAny_pure (And.intro rfl h')) fun _ _ x => x.elim)))
/-- [el for tg in iter if ..]: bd is what a turn does behind the target's store, for the list at D -/
def tLC (js : List (Option Nat)) (wi : TI) (g : TG) (bd : Addr → TB) : TE := fun σ H Q => wi σ H fun J H1 => ∀ D, H1 D = none → tWalk J g (bd D) (fun _ H' => Q (.ref D) H') (compSt js σ) (upd H1 D (.lst []))
theorem pe_lc1x {g : TG} {bd : Addr → TB} (hx : X.xe = fun _ _ => False) (hc : X.calm = true) (hi : PI X tg iter wi) (S : CS sc X.env.scope) (cap : capOk js Nc X.N sc.names = true)
    (hg : ∀ C s₂ H₂ fp pins, PG (cxC X Nc sc C s₂ H₂ fp pins) tg g)
    (hb : ∀ C s₂ H₂ fp pins D L, PTl (cxC X Nc sc C s₂ H₂ fp pins) (tailOf ifs (cxC X Nc sc C s₂ H₂ fp pins).env (do let _ ← call (.builtin "list.append") [.ref D, ← eval el (cxC X Nc sc C s₂ H₂ fp pins).env]) L) L (bd D))
    (hs : ∀ x, foldedSetIterable iter X.env x = pure x := by intro _; rfl) :
    PE X (.ListComp el [⟨tg, iter, ifs, 0⟩] sc pos) (tLC js wi g bd) := by
  intro pins s σ H Q I h
  rw [eval_ListComp]
  have hcl : closureFor sc X.env = pure (clOf sc X.env) := closure_of fun y hy hf => I.ok.has y.1 (.inl (S.free y hy hf))
  refine wpAny_comprehension_free (use := none) rfl hs hcl S.kind S.names (thn (hi pins s σ H _ I h) fun v s1 h1 => thn h1 fun itv s2 h2 => ?_)
  obtain ⟨it, fp, tn, J, H2, e, I2, T, st2, f2, hw⟩ := h2
  subst e
  have hlt : ∀ b ∈ fp, b < s2.heap.objs.size := fun b hb => let ⟨o, ho, _⟩ := T.obj _ _ st2 b hb; Heap.lt_size ho
  refine wpAny_newObj_type (wpAny_newFunctionEnv S.nocell (by intro y hy; simp at hy) (fun h₁ hns₁ hsb₁ => ?_) S.kind)
  dsimp only at hns₁ hsb₁ ⊢
  generalize hH2 : s2.heap.push { cls := .type "list", dict := none, data := .seq ([] : List Value).toArray } = G at hns₁ hsb₁ ⊢
  have hCs : G.objs.size = s2.heap.objs.size + 1 := by rw [← hH2, Heap.size_push]
  have hDC : s2.heap.objs.size ≠ G.objs.size := by omega
  have hCle : s2.heap.objs.size ≤ G.objs.size := by omega
  have old : ∀ b o, s2.heap.get? b = some o → h₁.get? b = some o := fun b o e => hsb₁.extBut b o (Nat.ne_of_lt (Nat.lt_of_lt_of_le (Heap.lt_size e) hCle)) (Heap.get?_push_of_some _ (hH2 ▸ Heap.get?_push_of_some _ e))
  have hacc : h₁.get? s2.heap.objs.size = some { cls := .type "list", dict := none, data := .seq ([] : List Value).toArray } := hsb₁.extBut _ _ hDC (Heap.get?_push_of_some _ (hH2 ▸ Heap.get?_push_size _ rfl))
  have new : ObjOk X.prog X.w (upd H2 s2.heap.objs.size (.lst [])) h₁ s2.heap.objs.size (.lst []) := ⟨Nat.zero_le _, [], _, .nil, hacc⟩
  have I4 := inv_comp (js := js) (Nc := Nc) (tk := s2.toks + ([] : List (Str × Value)).length) I2 S f2 hlt cap hCle (Nat.le_refl _) hDC old hns₁ new
  have hn : H2 s2.heap.objs.size = none := I2.fresh
  have f4 : ∀ b ∈ fp, FpOk (cxC X Nc sc G.objs.size s2 H2 fp pins) [] (upd H2 s2.heap.objs.size (.lst [])) b := fun b hb => by
    obtain ⟨h0, h1, h2, h3, h4, h5⟩ := f2 b hb
    refine ⟨?_, Nat.ne_of_lt (Nat.lt_of_lt_of_le (hlt b hb) hCle), fun z => ?_, .inl hb, fun x c z => ?_, fun p hp => ?_⟩
    · rw [upd_ne (Nat.ne_of_lt (hlt b hb))]; exact h0
    · rcases List.mem_cons.mp (I2.stkSub b z) with q | q
      · exact h1 q
      · exact h2 q
    · exact h4 x c (cl_in sc.names [] (fun z => nomatch z) z)
    · rcases List.mem_append.mp hp with z | z
      · exact h5 p z
      · exact absurd z (by simp)
  have st4 : tn 0 h₁ := T.keep _ _ _ st2 fun b hb o e => old b o e
  have loop : codeAny (model X.prog X.w) X.A (.compLoop (.ListComp el [⟨tg, iter, ifs, 0⟩] sc pos) 0 (.ref it) (.ref s2.heap.objs.size) (compEnvC sc (clOf sc X.env) G.objs.size X.env))
      (compPost (model X.prog X.w) X.A X.xe none (EP X pins σ Q) (.ref s2.heap.objs.size) G.objs.size) { s2 with heap := h₁, toks := s2.toks + ([] : List (Str × Value)).length } := by
    refine comp_loop (X := cxC X Nc sc G.objs.size s2 H2 fp pins) (.inl ⟨el, rfl⟩) hx hc (turn_l1 _ _ _ _ _ _ _ _ _) T (hg _ _ _ _ _) (hb _ _ _ _ _ _ _) I4 st4 f4 (hw _ hn) fun σ' H' s' I' q => ?_
    obtain ⟨m', hm', _⟩ := I'.loc
    exact ⟨m', hm', fun h' hs' => ⟨.ref s2.heap.objs.size, H', inv_back I2 f2 hCle I' hs', rfl, q⟩⟩
  exact comp_start (.inl ⟨el, rfl⟩) rfl rfl loop (T.self _ _ _ _ _ st4 loop)
end
end L2
set_option Elab.async false
set_option linter.all false
set_option maxRecDepth 100000
set_option maxHeartbeats 4000000
namespace L2
open PySem PySem.Spec PyProof.Rows
section
variable {X : Cx}
end
end L2
set_option Elab.async false
set_option linter.all false
set_option maxRecDepth 100000
set_option maxHeartbeats 4000000
namespace L2
open PySem PySem.Spec PyProof.Rows

theorem walk_range {lo : Int} {n : Nat} {g : TG} {b : TB} {N0 : St → Hp → Prop} {σ : St} {H : Hp} (Pv : Nat → St → Hp → Prop) (h0 : Pv 0 σ H)
    (hs : ∀ i σ H, i < n → Pv i σ H → g (.int (lo + i)) σ H fun σ2 H2 => b (Pv (i + 1)) σ2 H2) (hd : ∀ σ H, Pv n σ H → N0 σ H) : tWalk (Itr lo n) g b N0 σ H := by
  refine ⟨fun i m σ H => m = n - i ∧ i ≤ n ∧ Pv i σ H, ⟨n, by simp, Nat.zero_le _, h0⟩, ?_⟩
  rintro i m σ H ⟨rfl, hle, p⟩
  by_cases hi : i < n
  · refine .inr ⟨hi, Pv (i + 1), fun σ' H' q => ⟨n - (i + 1), by omega, rfl, by omega, q⟩, fun x H' hy => ?_⟩
    obtain ⟨rfl, rfl⟩ := hy
    exact hs i σ _ hi p
  · have : i = n := by omega
    subst this
    exact .inl ⟨Nat.le_refl _, hd σ H p⟩
theorem walk_list {K : PySem.W.Frag} {a : Addr} {xs : List V} {g : TG} {b : TB} {N0 : St → Hp → Prop} {σ : St} {H : Hp} (Pv : Nat → St → Hp → Prop) (h0 : Pv 0 σ H) (hl : ∀ i σ H, i ≤ xs.length → Pv i σ H → SqL K H a xs)
    (hs : ∀ i x σ H, xs[i]? = some x → Pv i σ H → g x σ H fun σ2 H2 => b (Pv (i + 1)) σ2 H2) (hd : ∀ σ H, Pv xs.length σ H → N0 σ H) : tWalk (Itl K a) g b N0 σ H := by
  refine ⟨fun i m σ H => m = xs.length - i ∧ i ≤ xs.length ∧ Pv i σ H, ⟨xs.length, by simp, Nat.zero_le _, h0⟩, ?_⟩
  rintro i m σ H ⟨rfl, hle, p⟩
  by_cases hi : i < xs.length
  · refine .inr ⟨⟨xs, xs[i], hl i σ H hle p, by simp [hi]⟩, Pv (i + 1), fun σ' H' q => ⟨xs.length - (i + 1), by omega, rfl, by omega, q⟩, fun x H' hy => ?_⟩
    obtain ⟨rfl, hy⟩ := hy
    exact hs i x σ _ (hy xs (hl i σ _ hle p)) p
  · have : i = xs.length := by omega
    subst this
    exact .inl ⟨⟨xs, hl _ σ H hle p, Nat.le_refl _⟩, hd σ H p⟩
theorem walk_tup {K : PySem.W.Frag} {a : Addr} {xs : List V} {g : TG} {b : TB} {N0 : St → Hp → Prop} {σ : St} {H : Hp} (Pv : Nat → St → Hp → Prop) (h0 : Pv 0 σ H) (hl : ∀ i σ H, i ≤ xs.length → Pv i σ H → SqT K H a xs)
    (hs : ∀ i x σ H, xs[i]? = some x → Pv i σ H → g x σ H fun σ2 H2 => b (Pv (i + 1)) σ2 H2) (hd : ∀ σ H, Pv xs.length σ H → N0 σ H) : tWalk (Itt K a) g b N0 σ H := by
  refine ⟨fun i m σ H => m = xs.length - i ∧ i ≤ xs.length ∧ Pv i σ H, ⟨xs.length, by simp, Nat.zero_le _, h0⟩, ?_⟩
  rintro i m σ H ⟨rfl, hle, p⟩
  by_cases hi : i < xs.length
  · refine .inr ⟨⟨xs, xs[i], hl i σ H hle p, by simp [hi]⟩, Pv (i + 1), fun σ' H' q => ⟨xs.length - (i + 1), by omega, rfl, by omega, q⟩, fun x H' hy => ?_⟩
    obtain ⟨rfl, hy⟩ := hy
    exact hs i x σ _ (hy xs (hl i σ _ hle p)) p
  · have : i = xs.length := by omega
    subst this
    exact .inl ⟨⟨xs, hl _ σ H hle p, Nat.le_refl _⟩, hd σ H p⟩

section
variable {prog : Program} {w : World} {A : Around} {E : Value → Shared → Prop}
end
section
variable {X : Cx} {pos : Pos}
inductive call_divmodWY (xs : List V) (H : Hp) (Q : VK) : Prop
  | mk : ∀ (i j : Int), (xs = [.int i, .int j]) → ((0 < j ∧ j.natAbs < 2 ^ 9000)) → (∀ p, H p = none → Q (.ref p) (upd H p (.tup [.int (i / j), .int (i % j)]))) → call_divmodWY xs H Q
theorem call_divmodW : CallR X (.builtin "divmod") call_divmodWY := by
  intro pins s σ H xs us Q I r h
  obtain ⟨i, j, rfl, ⟨h1, h2⟩, q⟩ := h
  obtain ⟨u, w', rfl, ⟨t, rfl⟩, ⟨t', rfl⟩⟩ := vals2 r
  refine divmod_int (by omega) ?_ (.inl (PyProof.noPylong_of_log2 (Own.log2_lt h2)))
  rw [Int.fdiv_eq_ediv_of_nonneg i (by omega), Int.fmod_eq_emod_of_nonneg i (by omega)]
  have hn : H s.heap.objs.size = none := I.hok.fresh (Nat.le_refl _)
  refine ⟨.ref s.heap.objs.size, _, ?_, rfl, q _ hn⟩
  refine I.laid (fun b o e => Heap.get?_push_of_some _ e) (Nat.le_refl _) ⟨by simp only [List.length_cons, List.length_nil]; rw [sizeLine_eq]; decide, [.int (i / j) s.toks, .int (i % j) (s.toks + 1)], .cons ⟨_, rfl⟩ (.cons ⟨_, rfl⟩ .nil), ?_⟩
  exact ⟨_, Heap.get?_push_size s.heap rfl, rfl, 0, rfl, rfl⟩

end

mutual
def Dt (K : PySem.W.Frag) (H : Hp) : PyData → V → Prop
  | .none, v => v = .non
  | .bool b, v => v = .bl b
  | .int i, v => v = .int i
  | .str x, v => v = .str x
  | .tuple xs, v => ∃ a vs, v = .ref a ∧ SqT K H a vs ∧ DtAll K H xs vs
  | .list xs, v => ∃ a vs, v = .ref a ∧ SqL K H a vs ∧ DtAll K H xs vs
  | .dict _, _ => False
def DtAll (K : PySem.W.Frag) (H : Hp) : List PyData → List V → Prop
  | [], vs => vs = []
  | d :: ds, vs => ∃ v vr, vs = v :: vr ∧ Dt K H d v ∧ DtAll K H ds vr
end
section
variable {X : Cx} {pins : List (Addr × Obj)} {σ : St} {H : Hp} {s : Shared}
mutual
theorem Dt.reads (I : Inv X pins σ H s) : ∀ (d : PyData) (v : V) (u : Value), RelV v u → Dt X.K H d v → ∃ as, Reads s.heap u d as
  | .none, v, u, r, h => by unfold Dt at h; subst h; cases r; exact ⟨_, .none⟩
  | .bool b, v, u, r, h => by unfold Dt at h; subst h; cases r; exact ⟨_, .bool b⟩
  | .int i, v, u, r, h => by unfold Dt at h; subst h; obtain ⟨t, rfl⟩ := r; exact ⟨_, .int i t⟩
  | .str x, v, u, r, h => by unfold Dt at h; subst h; obtain ⟨t, rfl⟩ := r; exact ⟨_, .str x t⟩
  | .tuple xs, v, u, r, h => by
    unfold Dt at h
    obtain ⟨a, vs, rfl, hs, hd⟩ := h
    cases r
    obtain ⟨its, rv, ⟨o, e1, e2, n, e3⟩, hz⟩ := I.tuple hs
    obtain ⟨as, ra⟩ := DtAll.reads I xs vs its rv hd
    exact ⟨_, .tuple e1 e2 e3 (by simpa using ra)⟩
  | .list xs, v, u, r, h => by
    unfold Dt at h
    obtain ⟨a, vs, rfl, hs, hd⟩ := h
    cases r
    obtain ⟨its, rv, ht, hz⟩ := I.list hs
    obtain ⟨as, ra⟩ := DtAll.reads I xs vs its rv hd
    obtain ⟨o, e1, e2, n, e3⟩ := ht.isList
    exact ⟨_, .list e1 e2 e3 (by simpa using ra)⟩
  | .dict _, v, u, r, h => by unfold Dt at h; exact h.elim
theorem DtAll.reads (I : Inv X pins σ H s) : ∀ (ds : List PyData) (vs : List V) (us : List Value), Vals vs us → DtAll X.K H ds vs → ∃ as, ReadsAll s.heap us ds as
  | [], vs, us, r, h => by unfold DtAll at h; subst h; cases r; exact ⟨_, .nil⟩
  | d :: ds, vs, us, r, h => by
    unfold DtAll at h
    obtain ⟨v, vr, rfl, h1, h2⟩ := h
    cases r with
    | cons r1 r2 =>
      obtain ⟨as, q1⟩ := Dt.reads I d v _ r1 h1
      obtain ⟨bs, q2⟩ := DtAll.reads I ds vr _ r2 h2
      exact ⟨_, .cons q1 q2⟩
end
end
section
variable {X : Cx}
/-- x == y, x != y, told deep -/
inductive rEqD (K : PySem.W.Frag) (neg : Bool) (x : V) (y : V) (H : Hp) (Q : VK) : Prop
  | mk : ∀ d e, (Dt K H d x) → (Dt K H e y) → (SeqAt.shaped d = true) → (SeqAt.shaped e = true) → (Q (.bl (if neg then !PyData.eqv d e else PyData.eqv d e)) H) → rEqD K neg x y H Q
theorem op_eqD (hu : X.A.units + 64 < cLine) : OpR X (compareOp .Eq) (rEqD X.K false) := by
  intro pins s σ H x y v u Q I rx ry h
  obtain ⟨d, e, h1, h2, s1, s2, q⟩ := h
  obtain ⟨as, p1⟩ := Dt.reads I d x v rx h1
  obtain ⟨bs, p2⟩ := Dt.reads I e y u ry h2
  exact SeqAt.compareEq_shaped p1 p2 s1 s2 hu ⟨.bl _, H, I, rfl, q⟩
theorem op_neD (hu : X.A.units + 64 < cLine) : OpR X (compareOp .NotEq) (rEqD X.K true) := by
  intro pins s σ H x y v u Q I rx ry h
  obtain ⟨d, e, h1, h2, s1, s2, q⟩ := h
  obtain ⟨as, p1⟩ := Dt.reads I d x v rx h1
  obtain ⟨bs, p2⟩ := Dt.reads I e y u ry h2
  exact SeqAt.compareNe_shaped p1 p2 s1 s2 hu ⟨.bl _, H, I, rfl, q⟩
end
end L2
set_option Elab.async false
set_option linter.all false
set_option maxRecDepth 100000
set_option maxHeartbeats 4000000
namespace L2
open PySem PySem.Spec PyProof.Rows
open Classical in
noncomputable def eqD (h : Heap) (d : PyData) (u : Value) : Bool := if z : ∃ d', d'.canLay0 = true ∧ ∃ as, Reads h u d' as then PyData.eqv z.choose d else false
theorem eqD_of {h : Heap} {d d' : PyData} {u : Value} {as : List Addr} (c : d'.canLay0 = true) (r : Reads h u d' as) : eqD h d u = PyData.eqv d' d := by
  have z : ∃ d', d'.canLay0 = true ∧ ∃ as, Reads h u d' as := ⟨d', c, as, r⟩
  unfold eqD
  rw [dif_pos z]
  obtain ⟨c1, as', r1⟩ := z.choose_spec
  rw [SeqAt.Reads.unique _ _ _ _ _ c1 r1 r]
section
variable {X : Cx}
end
def csOk (sc S0 : Scope) : Bool := (sc.names.all fun y => (y.2 != .local || sc.names.lookup y.1 == some .local) && y.2 != .cell && (y.2 != .free || S0.names.lookup y.1 == some .cell))
theorem CS.of {sc S0 : Scope} (k : sc.kind = .function) (h : csOk sc S0 = true) : CS sc S0 := by
  have q : ∀ y ∈ sc.names, _ := List.all_eq_true.mp h
  refine ⟨k, fun y hy e => ?_, fun y hy e => ?_, fun y hy e => ?_⟩ <;> have z := q y hy <;> rw [Bool.and_eq_true, Bool.and_eq_true] at z <;> obtain ⟨⟨z1, z2⟩, z3⟩ := z
  · rw [e] at z1; simpa using z1
  · rw [e] at z2; simp at z2
  · rw [e] at z3; simpa using z3
end L2
set_option Elab.async false
set_option linter.all false
set_option maxRecDepth 100000
set_option maxHeartbeats 4000000
namespace L2
open PySem PySem.Spec PyProof.Rows
section
variable {prog : Program} {w : World} {A : Around} {E : Value → Shared → Prop} {s : Shared}
theorem nextOf_tup {it t : Addr} {i : Nat} {items : Array Value} {x : Value} {Q : Value → Shared → Prop} (hit : s.heap.IsTupleIter it t i) (ht : s.heap.IsTuple t items) (hx : items[i]? = some x)
    (hQ : ∀ h', h'.IsTupleIter it t (i + 1) → Heap.SameBut it s.heap h' → Q x { s with heap := h' }) : wpAny (model prog w) A (Builtin.SmallTypes.nextOf (.ref it)) Q E s := by
  obtain ⟨o, ho, hc, hd⟩ := id hit
  obtain ⟨ot, hot, _, nt, hdt⟩ := ht
  unfold Builtin.SmallTypes.nextOf
  refine wpAny_bind (wpAny_callSpecial?_slot (name := Str.ofString "__next__") hit.typeIs F.slot_tuple_iterator_next (wpAny_call_entry F.slot_tuple_iterator_next hit.typeIs F.entry_tuple_iterator_next ?_ (F.args_tuple_iterator_next_1 _)))
  show wpAny _ _ (field (.ref it) 0 >>= _) _ _ s
  refine wpAny_bind (wpAny_field ho hd (x := .ref t) rfl ?_)
  show wpAny _ _ (if (Value.ref t == Value.none) = true then _ else _) _ _ s
  rw [if_neg (show ¬ ((Value.ref t == Value.none) = true) from Bool.false_ne_true)]
  show wpAny _ _ (field (.ref it) 1 >>= _) _ _ s
  refine wpAny_bind (wpAny_field ho hd (x := .int i 0) rfl ?_)
  show wpAny _ _ (seqItems? (.ref t) >>= _) _ _ s
  refine wpAny_bind (wpAny_seqItems hot hdt ?_)
  simp only [Int.toNat_natCast, hx]
  refine wpAny_bind (wpAny_setField ho hd (by simp) (wpAny_pure ⟨x, rfl, wpAny_pure (hQ _ ?_ (Heap.SameBut.update ..))⟩))
  refine ⟨_, Heap.get?_update_self _ ho (Obj.isFreed_of_fields (Obj.data_mapFields hd _)), (Obj.cls_mapFields ..).trans hc, ?_⟩
  rw [Obj.data_mapFields hd]
  simp [rawInt]
theorem nextOf_tup_end {it t : Addr} {i : Nat} {items : Array Value} {Q : Value → Shared → Prop} (hh : A.handled = none) (hit : s.heap.IsTupleIter it t i) (ht : s.heap.IsTuple t items) (hx : items[i]? = none)
    (hE : ∀ h' e, Heap.ExtBut it s.heap h' → (∃ o, h'.get? e = some o ∧ o.cls = .type "StopIteration") → E (.ref e) { s with heap := h' }) : wpAny (model prog w) A (Builtin.SmallTypes.nextOf (.ref it)) Q E s := by
  obtain ⟨o, ho, hc, hd⟩ := id hit
  obtain ⟨ot, hot, _, nt, hdt⟩ := ht
  unfold Builtin.SmallTypes.nextOf
  refine wpAny_bind (wpAny_callSpecial?_slot (name := Str.ofString "__next__") hit.typeIs F.slot_tuple_iterator_next (wpAny_call_entry F.slot_tuple_iterator_next hit.typeIs F.entry_tuple_iterator_next ?_ (F.args_tuple_iterator_next_1 _)))
  show wpAny _ _ (field (.ref it) 0 >>= _) _ _ s
  refine wpAny_bind (wpAny_field ho hd (x := .ref t) rfl ?_)
  show wpAny _ _ (if (Value.ref t == Value.none) = true then _ else _) _ _ s
  rw [if_neg (show ¬ ((Value.ref t == Value.none) = true) from Bool.false_ne_true)]
  show wpAny _ _ (field (.ref it) 1 >>= _) _ _ s
  refine wpAny_bind (wpAny_field ho hd (x := .int i 0) rfl ?_)
  show wpAny _ _ (seqItems? (.ref t) >>= _) _ _ s
  refine wpAny_bind (wpAny_seqItems hot hdt ?_)
  simp only [Int.toNat_natCast, hx]
  refine wpAny_bind (wpAny_rule (wpAny_bind (wpAny_setField ho hd (by simp) ?_)))
  show wpAny _ _ (newExc (.type "StopIteration") [] >>= _) _ _ _
  refine wpAny_bind ?_
  simp only [newExc, newTuple]
  refine wpAny_bind (wpAny_newObj_type ?_ (by size_fits))
  refine wpAny_bind (m := firstArgMember _ _) (wpAny_of_eq (a := Value.none) (by first | rfl | (simp only [firstArgMember]; rfl)) ?_)
  refine wpAny_newObj_type ?_ (by size_fits)
  simp only [raiseNew]
  refine wpAny_bind (wpAny_handled ?_)
  first | rw [show A.in1.handled = none from hh] | rw [hh]
  refine wpAny_bind (wpAny_pure (wpAny_throw ?_))
  exact hE _ _ (((Heap.SameBut.update ..).extBut.push _).push _) ⟨_, Heap.get?_push_size _ rfl, rfl⟩
end
def ItOf (k : Bool) (h : Heap) (it a : Addr) (i : Nat) : Prop := match k with | true => h.IsListIter it a i | false => h.IsTupleIter it a i
def SqOf (k : Bool) (h : Heap) (a : Addr) (items : Array Value) : Prop := match k with | true => h.IsList a items | false => h.IsTuple a items
def itName (k : Bool) : String := match k with | true => "list_iterator" | false => "tuple_iterator"
def SqX (K : PySem.W.Frag) (k : Bool) (H : Hp) (a : Addr) (xs : List V) : Prop := match k with | true => SqL K H a xs | false => SqT K H a xs
theorem ItOf.at {k : Bool} {h h' : Heap} {it a : Addr} {i : Nat} (x : ItOf k h it a i) (g : ∀ o, h.get? it = some o → h'.get? it = some o) : ItOf k h' it a i := by
  cases k
  · obtain ⟨o, e, r⟩ := x; exact ⟨o, g o e, r⟩
  · obtain ⟨o, e, r⟩ := x; exact ⟨o, g o e, r⟩
theorem ItOf.live {k : Bool} {h : Heap} {it a : Addr} {i : Nat} (x : ItOf k h it a i) : ∃ o, h.get? it = some o ∧ ∀ v, o.data ≠ .cell v := by
  cases k
  · obtain ⟨o, e, c, d⟩ := x; exact ⟨o, e, fun v z => by rw [d] at z; cases z⟩
  · obtain ⟨o, e, c, d⟩ := x; exact ⟨o, e, fun v z => by rw [d] at z; cases z⟩
theorem SqOf.at {k : Bool} {h h' : Heap} {a : Addr} {items : Array Value} (x : SqOf k h a items) (g : ∀ o, h.get? a = some o → h'.get? a = some o) : SqOf k h' a items := by
  cases k
  · obtain ⟨o, e, r⟩ := x; exact ⟨o, g o e, r⟩
  · obtain ⟨o, e, r⟩ := x; exact ⟨o, g o e, r⟩
theorem SqOf.there {k : Bool} {h : Heap} {a : Addr} {items : Array Value} (x : SqOf k h a items) : ∃ o, h.get? a = some o := by
  cases k
  · obtain ⟨o, e, r⟩ := x; exact ⟨o, e⟩
  · obtain ⟨o, e, r⟩ := x; exact ⟨o, e⟩
theorem SqOf.lt {k : Bool} {h : Heap} {a : Addr} {items : Array Value} (x : SqOf k h a items) : a < h.objs.size := let ⟨_, e⟩ := x.there; Heap.lt_size e
theorem ItOf.new (k : Bool) (h : Heap) (a : Addr) : ItOf k (h.push { cls := .type (itName k), data := .fields #[.ref a, .int 0 0] }) h.objs.size a 0 := by
  cases k
  · exact ⟨_, Heap.get?_push_size _ rfl, rfl, rfl⟩
  · exact ⟨_, Heap.get?_push_size _ rfl, rfl, rfl⟩
theorem Inv.sq {X : Cx} {pins : List (Addr × Obj)} {σ : St} {H : Hp} {s : Shared} {k : Bool} {a : Addr} {xs : List V} (I : Inv X pins σ H s) (h : SqX X.K k H a xs) : ∃ its : List Value, Vals xs its ∧ SqOf k s.heap a its.toArray := by
  cases k
  · obtain ⟨its, r, p, _⟩ := I.tuple h
    exact ⟨its, r, p⟩
  · obtain ⟨its, r, p, _⟩ := I.list h
    exact ⟨its, r, p.isList⟩
theorem Inv.sq_inj {X : Cx} {pins : List (Addr × Obj)} {σ : St} {H : Hp} {s : Shared} {k : Bool} {a : Addr} {xs ys : List V} (I : Inv X pins σ H s) (h : SqX X.K k H a xs) (h' : SqX X.K k H a ys) : xs = ys := by
  cases k
  · exact I.tuple_inj h h'
  · exact I.list_inj h h'
section
variable {prog : Program} {w : World} {A : Around} {E : Value → Shared → Prop} {s : Shared}
theorem iter_sq {k : Bool} {a : Addr} {items : Array Value} {Q : Value → Shared → Prop} (h : SqOf k s.heap a items) (hQ : Q (.ref s.heap.objs.size) { s with heap := s.heap.push { cls := .type (itName k), data := .fields #[.ref a, .int 0 0] } }) :
    wpAny (model prog w) A (pyIter (.ref a)) Q E s := by
  cases k
  · exact wpAny_pyIter_tuple h hQ
  · exact wpAny_pyIter_list h hQ
theorem draws_sq (hh : A.handled = none) (k : Bool) (it a : Addr) (hne : a ≠ it) (items : Array Value) : Draws prog w A it [it, a] items.size (fun i v => items[i]? = some v) (fun i h => ItOf k h it a i ∧ SqOf k h a items) where
  live := fun _ _ st => let ⟨o, ho, _⟩ := st.1.live; ⟨o, ho⟩
  frame := fun _ _ _ st hk => ⟨st.1.at fun o e => hk it (by simp) o e, st.2.at fun o e => hk a (by simp) o e⟩
  item := fun i s Q E hi st hQ => by
    have hx : items[i]? = some items[i] := by simp [hi]
    cases k
    · exact nextOf_tup st.1 st.2 hx fun h' hit' hs' => hQ _ h' s.toks hx ⟨hit', st.2.at fun o e => hs'.extBut a o hne e⟩ hs'
    · exact wpAny_nextOf_list_item st.1 st.2 hx fun h' hit' hs' => hQ _ h' s.toks hx ⟨hit', st.2.at fun o e => hs'.extBut a o hne e⟩ hs'
  done := fun s Q E st hE => by
    cases k
    · exact nextOf_tup_end hh st.1 st.2 (by simp) hE
    · exact wpAny_nextOf_list_end hh st.1 st.2 (by simp) hE
end
theorem Inv.turnedL {X : Cx} {pins : List (Addr × Obj)} {σ : St} {H : Hp} {s : Shared} {h' : Heap} {t' : Nat} {ch : List Addr} (I : Inv X pins σ H s) (k : ∀ b o, b ∉ ch → s.heap.get? b = some o → h'.get? b = some o) (hf : ∀ b ∈ ch, FpOk X pins H b) :
    Inv X pins σ H { s with heap := h', toks := t' } := by
  have nit : ∀ b u, H b = some u → b ∉ ch := fun b u e z => by rw [(hf b z).1] at e; cases e
  refine I.step (g' := s.gens) (d' := s.drawn) (ch := ch) (fun b hb => ?_) (fun b o _ _ hc e _ => k b o hc e) (fun b o _ _ hc e _ => ⟨o.slots, k b o hc e⟩) (fun _ _ _ _ n => n)
    (fun b o hc e => ⟨o, k b o hc e⟩) (fun _ _ e => e) (fun _ _ _ e => e) (fun b ps e => ⟨#[], by rw [e]; simp⟩) (fun m hm => ?_) (fun b u e => ?_) I.bare
  · obtain ⟨f0, f1, f2, f3, f4, f5⟩ := hf b hb
    exact ⟨f3, f1, f4, f5⟩
  · obtain ⟨o, es, ep, ho, r⟩ := hm
    exact ⟨o, es, ep, k _ o (fun z => (hf _ z).2.1 rfl) ho, r⟩
  · refine (I.hok b u e).stay (fun c v hc q => k c v ?_ q) (fun _ q => q) fun _ _ q => q
    rcases hc with z | z
    · rw [z]; exact nit b u e
    · exact nit c _ z
end L2
set_option Elab.async false
set_option linter.all false
set_option maxRecDepth 100000
set_option maxHeartbeats 4000000
namespace L2
open PySem PySem.Spec PyProof.Rows
open AutoSeq1 (wpAny_loadPart')
theorem enum_new_tup (l : Addr) (items : Array Value) (n : Nat) (dct : Option Addr) (sl : Array (Option Value)) :
    Meets (Builtin.«enumerate.__new__» ⟨[.type "enumerate", .ref l], []⟩) (fun _ R s => s.heap.get? l = some { cls := .type "tuple", dict := dct, data := .seq items n, slots := sl } ∧
      R (.ok (.ret (.ref (s.heap.push { cls := .type "tuple_iterator", data := .fields #[.ref l, .int 0 0] }).objs.size)))
        { s with heap := (s.heap.push { cls := .type "tuple_iterator", data := .fields #[.ref l, .int 0 0] }).push { cls := .type "enumerate", data := .fields #[.none, .bool false, .ref s.heap.objs.size, rawInt 0, .none, .none] } }) :=
  .of_wp fun prog w A R s h => by
    obtain ⟨hp, g, d, tk, os⟩ := s; obtain ⟨hl, h⟩ := h
    have hsub := sub_enumerate
    have hL : Heap.IsTuple (Shared.heap ⟨hp, g, d, tk, os⟩) l items := ⟨_, hl, rfl, n, rfl⟩
    wp_walk using wpAny_loadPart' hl
    refine wpAny_stack_any fun st => wpAny_pure ?_
    split
    · rename_i c _ _ _ _ _
      cases (c == Value.type "enumerate")
      · wp_walk using wpAny_loadPart' hl, wpAny_pyIter_tuple hL
        exact ⟨_, rfl, h⟩
      · wp_walk using wpAny_loadPart' hl, wpAny_pyIter_tuple hL
        exact ⟨_, rfl, h⟩
    · wp_walk using wpAny_loadPart' hl, wpAny_pyIter_tuple hL
      exact ⟨_, rfl, h⟩
section
variable {prog : Program} {w : World} {A : Around} {E : Value → Shared → Prop} {s : Shared}
theorem call_enum_sq {k : Bool} {l : Addr} {items : Array Value} {Q : Value → Shared → Prop} (hL : SqOf k s.heap l items)
    (h : ∀ h', IsEnum h' (s.heap.objs.size + 1) s.heap.objs.size 0 .none → ItOf k h' s.heap.objs.size l 0 → (∀ b o, s.heap.get? b = some o → h'.get? b = some o) → Q (.ref (s.heap.objs.size + 1)) { s with heap := h' }) :
    wpAny (model prog w) A (call (.type "enumerate") [.ref l]) Q E s := by
  cases k
  · obtain ⟨⟨c, dct, dt, sl⟩, hl, hc, n, hd⟩ := hL
    replace hc : c = .type "tuple" := hc
    replace hd : dt = .seq items n := hd
    subst hc hd
    refine callType_new F.called_enumerate (by decide) (F.typeCall_enumerate_1 _) (F.newCall_enumerate_1 _) (fun obj => F.args_object_init_2 obj _) F.entry_enumerate_new (enum_new_tup l items n dct sl) ⟨hl, ?_⟩
    have hz : (s.heap.push { cls := .type "tuple_iterator", data := .fields #[.ref l, .int 0 0] }).objs.size = s.heap.objs.size + 1 := Heap.size_push ..
    show _ ∧ _
    rw [hz]
    have he := Heap.get?_push_size (s.heap.push { cls := .type "tuple_iterator", data := .fields #[.ref l, .int 0 0] }) (o := { cls := .type "enumerate", data := .fields #[.none, .bool false, .ref s.heap.objs.size, rawInt 0, .none, .none] }) rfl
    rw [hz] at he
    exact ⟨⟨_, he, rfl⟩, h _ he ⟨_, Heap.get?_push_of_some _ (Heap.get?_push_size _ rfl), rfl, rfl⟩ fun b o x => Heap.get?_push_of_some _ (Heap.get?_push_of_some _ x)⟩
  · exact call_enumerate_list hL fun h' he hi _ hk => h h' he hi hk
end
theorem sq_it {k k' : Bool} {h : Heap} {a it b : Addr} {i : Nat} {items : Array Value} (x : SqOf k h a items) (y : ItOf k' h it b i) : a ≠ it := by
  intro z
  subst z
  cases k <;> cases k' <;> obtain ⟨o, e, c, _⟩ := x <;> obtain ⟨o', e', c', _⟩ := y <;> rw [e] at e' <;> cases e' <;> rw [c] at c' <;> revert c' <;> decide
theorem cls_ne {h : Heap} {a b : Addr} {o u : Obj} {m n : String} (h1 : h.get? a = some o) (h2 : h.get? b = some u) (c1 : o.cls = .type m) (c2 : u.cls = .type n) (d : m ≠ n) : a ≠ b := by
  intro z
  subst z
  rw [h1] at h2
  cases h2
  rw [c1] at c2
  injection c2 with e
  exact d e
theorem ItOf.cls {k : Bool} {h : Heap} {it a : Addr} {i : Nat} (x : ItOf k h it a i) : ∃ o, h.get? it = some o ∧ o.cls = .type (itName k) := by
  cases k <;> obtain ⟨o, e, c, _⟩ := x <;> exact ⟨o, e, c⟩
def sqName (k : Bool) : String := match k with | true => "list" | false => "tuple"
theorem SqOf.cls {k : Bool} {h : Heap} {a : Addr} {items : Array Value} (x : SqOf k h a items) : ∃ o, h.get? a = some o ∧ o.cls = .type (sqName k) := by
  cases k <;> obtain ⟨o, e, c, _⟩ := x <;> exact ⟨o, e, c⟩
/-- a new pair handed out by an iterator, its records turned -/
theorem Inv.handed {X : Cx} {pins : List (Addr × Obj)} {σ : St} {H : Hp} {s : Shared} {h' : Heap} {t' : Nat} {ch : List Addr} {x y : V} {u v : Value} (I : Inv X pins σ H s) (rx : RelV x u) (ry : RelV y v)
    (hT : h'.get? s.heap.objs.size = some { cls := .type "tuple", data := .seq #[u, v] }) (k : ∀ b o, b ∉ ch → s.heap.get? b = some o → h'.get? b = some o) (hf : ∀ b ∈ ch, FpOk X pins H b) (hlt : ∀ b ∈ ch, b < s.heap.objs.size) :
    Inv X pins σ (upd H s.heap.objs.size (.tup [x, y])) { s with heap := h', toks := t' } ∧ (∀ b ∈ ch, upd H s.heap.objs.size (.tup [x, y]) b = none) := by
  have hn : ∀ b ∈ ch, upd H s.heap.objs.size (.tup [x, y]) b = none := fun b hb => by rw [upd_ne (Nat.ne_of_lt (hlt b hb))]; exact (hf b hb).1
  have I1 : Inv X pins σ (upd H s.heap.objs.size (.tup [x, y])) { s with heap := s.heap.push { cls := .type "tuple", data := .seq #[u, v] }, toks := s.toks } :=
    I.laid (fun b o e => Heap.get?_push_of_some _ e) (Nat.le_refl _) ⟨by simp only [List.length_cons, List.length_nil]; rw [sizeLine_eq]; decide, [u, v], .cons rx (.cons ry .nil), ⟨_, Heap.get?_push_size _ rfl, rfl, 0, rfl, rfl⟩⟩
  have I2 := Inv.turnedL (h' := h') (t' := t') (ch := ch) I1 (fun b o hb e => by
    rcases Heap.get?_push_cases e with ⟨rfl, rfl⟩ | e
    · exact hT
    · exact k b o hb e) (fun b hb => by
    obtain ⟨f0, f1, f2, f3, f4, f5⟩ := hf b hb
    exact ⟨hn b hb, f1, f2, f3, f4, f5⟩)
  exact ⟨I2, hn⟩
/-- (i, x) of a list or tuple -/
def Ite (k : Bool) (K : PySem.W.Frag) (a : Addr) : It :=
  ⟨fun i H => ∃ xs x, SqX K k H a xs ∧ xs[i]? = some x, fun i H v H' => ∃ T x, H T = none ∧ v = .ref T ∧ (∀ xs, SqX K k H a xs → xs[i]? = some x) ∧ H' = upd H T (.tup [.int i, x]), fun i H => ∃ xs, SqX K k H a xs ∧ xs.length = i⟩
theorem turn_enum {P : Program} {w : World} {K : PySem.W.Frag} {elts : List Expr} {x1} {pos : Pos} (k : Bool) (a e it : Addr) : Turn P w K (.Tuple elts x1 pos) (Ite k K a) [e, it] e (fun i h => (∃ old, IsEnum h e it i old) ∧ ItOf k h it a i) where
  mem := by simp
  obj := fun i h st b hb => by
    obtain ⟨⟨old, he⟩, hi⟩ := st
    rcases List.mem_cons.mp hb with rfl | hb
    · exact ⟨_, he, fun v z => by cases z⟩
    · have : b = it := by simpa using hb
      subst this
      exact hi.live
  keep := fun i h h' st kk => by
    obtain ⟨⟨old, he⟩, hi⟩ := st
    exact ⟨⟨old, kk e (by simp) _ he⟩, hi.at fun o q => kk it (by simp) o q⟩
  item := by
    intro X hP hw hK hc i pins s σ H E I hf st hg
    subst hP hw hK
    obtain ⟨⟨old, he⟩, hi⟩ := st
    obtain ⟨xs, x, hq, hx⟩ := hg
    obtain ⟨its, rv, p⟩ := I.sq hq
    obtain ⟨u, hu, ru⟩ := rv.get hx
    have nai := sq_it p hi
    obtain ⟨oi, ei, ci⟩ := hi.cls
    obtain ⟨oa, ea, ca⟩ := p.cls
    have nei : e ≠ it := cls_ne he ei rfl ci (by cases k <;> decide)
    have nea : e ≠ a := cls_ne he ea rfl ca (by cases k <;> decide)
    have D := draws_sq (prog := X.prog) (w := X.w) (A := X.A.in1) (I.ok.hd hc) k it a nai its.toArray
    have hlt : i < its.toArray.size := by
      have := (List.getElem?_eq_some_iff.mp hu).1
      simpa using this
    refine wpAny_pyNext_enum_itemD D he ⟨hi, p⟩ hlt nei (by simp [nei, nea]) fun y h' tk hy ho hs' hT hz hk => ?_
    have ey : y = u := by
      have hy' : its[i]? = some y := by simpa using hy
      rw [hu] at hy'
      exact (Option.some.inj hy').symm
    subst ey
    refine ⟨_, rfl, wpAny_letOwnedTupleGo_enum ho fun h2 he2 hs2 => ?_⟩
    have hel : e < s.heap.objs.size := Heap.lt_size he
    have hil : it < s.heap.objs.size := Heap.lt_size ei
    have hT2 : h2.get? s.heap.objs.size = some { cls := .type "tuple", data := .seq #[.int i tk, y] } := hs2.extBut _ _ (Nat.ne_of_gt hel) hT
    obtain ⟨I2, n2⟩ := I.handed (x := .int i) (u := .int i tk) (t' := tk + 1) (ch := [e, it]) ⟨tk, rfl⟩ ru hT2 (fun b o hb q => hs2.extBut b o (fun z => hb (by simp [z])) (hk b o (fun z => hb (by simp [z])) (fun z => hb (by simp [z])) q)) hf
      (fun b hb => by rcases List.mem_cons.mp hb with rfl | hb; exact hel; rw [List.mem_singleton.mp hb]; exact hil)
    refine ⟨.ref s.heap.objs.size, _, I2, rfl, ⟨_, x, I.hok.fresh (Nat.le_refl _), rfl, fun ys hys => by rw [I.sq_inj hys hq]; exact hx, rfl⟩, ⟨⟨_, by simpa using he2⟩, hs'.1.at fun o q => hs2.extBut it o nei.symm q⟩, n2⟩
  done := by
    intro X hP hw hK hc i pins s σ H E I hf st hg
    subst hP hw hK
    obtain ⟨⟨old, he⟩, hi⟩ := st
    obtain ⟨xs, hq, hx⟩ := hg
    obtain ⟨its, rv, p⟩ := I.sq hq
    have nai := sq_it p hi
    have D := draws_sq (prog := X.prog) (w := X.w) (A := X.A.in1) (I.ok.hd hc) k it a nai its.toArray
    have hl : its.toArray.size = i := by rw [← hx, rv.length]; simp
    refine wpAny_pyNext_enum_endD D he ⟨hl ▸ hi, p⟩ fun h' eb => ⟨rfl, I.turnedL (t' := s.toks) (ch := [it]) (fun b o hb q => eb b o (fun z => hb (by simp [z])) q) fun b hb => hf b (by simp at hb ⊢; exact .inr hb)⟩
  self := fun _ _ _ _ _ st h => by
    obtain ⟨⟨old, he⟩, _⟩ := st
    exact wpAny_pyIter_enum he h
section
variable {X : Cx}
inductive iEnumY (k : Bool) (K : PySem.W.Frag) (R : It → Hp → Prop) (vs : List V) (H1 : Hp) : Prop
  | mk : ∀ a, (vs = [.ref a]) → ((∃ xs, SqX K k H1 a xs)) → (R (Ite k K a) H1) → iEnumY k K R vs H1
def iEnum (k : Bool) (K : PySem.W.Frag) (ta : TA) : TI := fun σ H R => ta σ H fun vs H1 => iEnumY k K R vs H1
theorem pi_enum (k : Bool) {a : Expr} {ta : TA} {p pos tpos : Pos} {elts : List Expr} {x1} (hg : Gl X "enumerate") (hm : X.mg "enumerate" = none) (ha : PA X [a] ta) (hs : starEach [a] X.env = [(false, eval a X.env)] := by rfl) :
    PI X (.Tuple elts x1 tpos) (.Call (.Name "enumerate" p) [a] [] pos) (iEnum k X.K ta) := by
  intro pins s σ H R I h
  refine Call_ (ld_blt I hg hm boot_enumerate (PyProof.Rows.callWith_type1 (thn (ha pos pins s σ H _ I h) fun us s1 ⟨vs, H1, I1, r1, q1⟩ => ?_) hs rfl))
  obtain ⟨l, rfl, ⟨xs, hq⟩, q⟩ := q1
  obtain ⟨u, rfl, r⟩ := vals1 r1
  cases r
  obtain ⟨its, rv, pq⟩ := I1.sq hq
  refine call_enum_sq pq fun h' he hi hk => ?_
  refine wpAny_pyIter_enum (s := { s1 with heap := h' }) he ?_
  have f : ∀ b, s1.heap.objs.size ≤ b → FpOk X pins H1 b := fun b hb => I1.fpOk hb (I1.hok.fresh hb)
  refine ⟨_, [s1.heap.objs.size + 1, s1.heap.objs.size], _, _, H1, rfl, I1.kept (t' := s1.toks) hk, turn_enum k l _ _, ⟨⟨_, he⟩, hi⟩, fun b hb => ?_, q⟩
  rcases List.mem_cons.mp hb with rfl | hb
  · exact f _ (by omega)
  · rw [List.mem_singleton.mp hb]; exact f _ (Nat.le_refl _)
end
end L2
set_option Elab.async false
set_option linter.all false
set_option maxRecDepth 100000
set_option maxHeartbeats 4000000
namespace L2
open PySem PySem.Spec PyProof.Rows
structure ZAp (z TI TO i1 i2 : Addr) (fp1 fp2 : List Addr) : Prop where
  zTI : z ≠ TI
  zTO : z ≠ TO
  zi1 : z ≠ i1
  zi2 : z ≠ i2
  TOi1 : TO ≠ i1
  TOi2 : TO ≠ i2
  i12 : i1 ≠ i2
  TITO : TI ≠ TO
  TIi1 : TI ≠ i1
  TIi2 : TI ≠ i2
  z1 : z ∉ fp1
  z2 : z ∉ fp2
  t1 : TO ∉ fp1
  t2 : TO ∉ fp2
  i2f : i2 ∉ fp1
  i1f : i1 ∉ fp2
section
variable {prog : Program} {w : World} {A : Around} {E : Value → Shared → Prop} {s : Shared} {z TI TO i1 i2 : Addr} {fp1 fp2 : List Addr} {n1 n2 j : Nat} {P1 P2 : Nat → Value → Prop} {S1 S2 : Nat → Heap → Prop} {a b : Value}
theorem zipD_item {Q : Value → Shared → Prop} (D1 : Draws prog w A i1 fp1 n1 P1 S1) (D2 : Draws prog w A i2 fp2 n2 P2 S2) (ap : ZAp z TI TO i1 i2 fp1 fp2)
    (hz : IsZip s.heap z TI TO .none) (hTI : IsPair s.heap TI (.ref i1) (.ref i2)) (hTO : IsPair s.heap TO a b) (h1 : S1 j s.heap) (h2 : S2 j s.heap) (l1 : j < n1) (l2 : j < n2)
    (hQ : ∀ x y h' tk, P1 j x → P2 j y → IsZip h' z TI TO (rawInt s.heap.objs.size) → IsPair h' TO x y → S1 (j + 1) h' → S2 (j + 1) h' → IsPair h' s.heap.objs.size x y →
      (∀ c o, c ≠ z → c ≠ TO → c ≠ i1 → c ≠ i2 → s.heap.get? c = some o → h'.get? c = some o) → Q (.ref s.heap.objs.size) { s with heap := h', toks := tk }) :
    wpAny (model prog w) A (Builtin.«zip.__next__» ⟨[.ref z], []⟩) (fun fin s' => ∃ v, fin = .done (.ret v) ∧ Q v s') E s := by
  have fr1 : ∀ {i : Nat} {h h' : Heap} {c : Addr}, S1 i h → Heap.SameBut c h h' → c ∉ fp1 → S1 i h' := fun st sb hc => D1.frame _ _ _ st fun b hb o e => sb.extBut b o (fun q => hc (q ▸ hb)) e
  have fr2 : ∀ {i : Nat} {h h' : Heap} {c : Addr}, S2 i h → Heap.SameBut c h h' → c ∉ fp2 → S2 i h' := fun st sb hc => D2.frame _ _ _ st fun b hb o e => sb.extBut b o (fun q => hc (q ▸ hb)) e
  show wpAny _ _ (field (.ref z) 2 >>= _) _ _ _
  refine wpAny_bind (wpAny_field hz rfl (x := .bool false) rfl ?_)
  show wpAny _ _ (field (.ref z) 3 >>= _) _ _ _
  refine wpAny_bind (wpAny_field hz rfl (x := .ref TI) rfl ?_)
  refine wpAny_bind (wpAny_seqItems hTI rfl ?_)
  show wpAny _ _ (Builtin.SmallTypes.ownedTupleIsFree (.ref z) >>= _) _ _ _
  refine wpAny_bind ?_
  unfold Builtin.SmallTypes.ownedTupleIsFree
  refine wpAny_bind (wpAny_field hz rfl (x := .none) rfl (wpAny_pure ?_))
  simp only [if_true]
  refine wpAny_bind (wpAny_rule ?_)
  refine wpAny_bind (wpAny_field hz rfl (x := .ref TO) rfl ?_)
  refine wpAny_bind (wpAny_setField_rec hz (by simp) fun g1 z1 s1 => ?_)
  replace z1 : IsZip g1 z TI TO .ellipsis := z1
  refine wpAny_bind ?_
  simp only [List.zipIdx_cons, List.zipIdx_nil, List.forIn_cons, List.forIn_nil]
  -- the first one
  refine wpAny_bind (wpAny_bind (wpAny_onRaise ?_))
  show wpAny _ _ (Builtin.SmallTypes.nextOf (.ref i1) >>= _) _ _ _
  refine wpAny_bind (D1.item j _ _ _ l1 (fr1 h1 s1 ap.z1) fun x g2 tk2 px st2 s2 => wpAny_pure ?_)
  have o2 : IsPair g2 TO a b := s2.extBut _ _ ap.TOi1 (s1.extBut _ _ ap.zTO.symm hTO)
  refine wpAny_bind (wpAny_seqItems o2 rfl ?_)
  refine wpAny_bind (wpAny_updateSeq_pair o2 fun g3 o3 s3 => ?_)
  replace o3 : IsPair g3 TO x b := o3
  refine wpAny_bind (wpAny_letGo (wpAny_pure ?_))
  -- the second one
  refine wpAny_bind (wpAny_bind (wpAny_onRaise ?_))
  show wpAny _ _ (Builtin.SmallTypes.nextOf (.ref i2) >>= _) _ _ _
  refine wpAny_bind (D2.item j _ _ _ l2 (fr2 (fr2 (fr2 h2 s1 ap.z2) s2 ap.i1f) s3 ap.t2) fun y g4 tk4 py st4 s4 => wpAny_pure ?_)
  have o4 : IsPair g4 TO x b := s4.extBut _ _ ap.TOi2 o3
  refine wpAny_bind (wpAny_seqItems o4 rfl ?_)
  refine wpAny_bind (wpAny_updateSeq_pair o4 fun g5 o5 s5 => ?_)
  replace o5 : IsPair g5 TO x y := o5
  refine wpAny_bind (wpAny_letGo (wpAny_pure (wpAny_pure ?_)))
  -- the pair
  refine wpAny_bind (wpAny_seqItems o5 rfl ?_)
  refine wpAny_bind (wpAny_newTuple ?_)
  have sz : g5.objs.size = s.heap.objs.size := by rw [s5.1, s4.1, s3.1, s2.1, s1.1]
  have z5 : IsZip g5 z TI TO .ellipsis := s5.extBut _ _ ap.zTO (s4.extBut _ _ ap.zi2 (s3.extBut _ _ ap.zTO (s2.extBut _ _ ap.zi1 z1)))
  have k5 : ∀ c o, c ≠ z → c ≠ TO → c ≠ i1 → c ≠ i2 → s.heap.get? c = some o → g5.get? c = some o := fun c o c1 c2 c3 c4 e =>
    s5.extBut _ _ c2 (s4.extBut _ _ c4 (s3.extBut _ _ c2 (s2.extBut _ _ c3 (s1.extBut _ _ c1 e))))
  have st1 : S1 (j + 1) g5 := fr1 (fr1 (fr1 st2 s3 ap.t1) s4 ap.i2f) s5 ap.t1
  have st2' : S2 (j + 1) g5 := fr2 st4 s5 ap.t2
  have zlt : z < g5.objs.size := Heap.lt_size z5
  show wpAny _ _ (Builtin.SmallTypes.ownedTupleHandOut (.ref z) (.ref g5.objs.size) >>= _) _ _ _
  refine wpAny_bind ?_
  unfold Builtin.SmallTypes.ownedTupleHandOut
  have z6 : IsZip (g5.push { cls := .type "tuple", data := .seq #[x, y] }) z TI TO .ellipsis := Heap.get?_push_of_some _ z5
  refine wpAny_bind (wpAny_setField_rec z6 (by simp) fun g7 z7 s7 => ?_)
  replace z7 : IsZip g7 z TI TO (rawInt g5.objs.size) := z7
  refine wpAny_setField_rec z7 (by simp) fun g8 z8 s8 => ?_
  replace z8 : IsZip g8 z TI TO (rawInt g5.objs.size) := z8
  have up : ∀ c o, c ≠ z → g5.get? c = some o → g8.get? c = some o := fun c o c1 e => s8.extBut _ _ c1 (s7.extBut _ _ c1 (Heap.get?_push_of_some _ e))
  have t8 : IsPair g8 g5.objs.size x y := s8.extBut _ _ (Nat.ne_of_gt zlt) (s7.extBut _ _ (Nat.ne_of_gt zlt) (Heap.get?_push_size _ rfl))
  rw [sz] at z8 t8
  refine wpAny_pure ⟨_, rfl, ?_⟩
  show Q (.ref g5.objs.size) _
  rw [sz]
  exact hQ x y g8 _ px py z8 (up _ _ ap.zTO.symm o5) (D1.frame _ _ _ st1 fun b hb o e => up b o (fun q => ap.z1 (q ▸ hb)) e) (D2.frame _ _ _ st2' fun b hb o e => up b o (fun q => ap.z2 (q ▸ hb)) e) t8 fun c o c1 c2 c3 c4 e => up c o c1 (k5 c o c1 c2 c3 c4 e)
/-- both end together, or the first one ahead -/
theorem zipD_end {Q : PySem.Fin → Shared → Prop} (D1 : Draws prog w A i1 fp1 n1 P1 S1) (ap : ZAp z TI TO i1 i2 fp1 fp2)
    (hz : IsZip s.heap z TI TO .none) (hTI : IsPair s.heap TI (.ref i1) (.ref i2)) (hTO : IsPair s.heap TO a b) (h1 : S1 n1 s.heap)
    (hE : ∀ h' e, (∀ c o, c ≠ z → c ≠ TO → c ≠ i1 → c ≠ i2 → s.heap.get? c = some o → h'.get? c = some o) → (∃ o, h'.get? e = some o ∧ o.cls = .type "StopIteration") → E (.ref e) { s with heap := h' }) :
    wpAny (model prog w) A (Builtin.«zip.__next__» ⟨[.ref z], []⟩) Q E s := by
  show wpAny _ _ (field (.ref z) 2 >>= _) _ _ _
  refine wpAny_bind (wpAny_field hz rfl (x := .bool false) rfl ?_)
  show wpAny _ _ (field (.ref z) 3 >>= _) _ _ _
  refine wpAny_bind (wpAny_field hz rfl (x := .ref TI) rfl ?_)
  refine wpAny_bind (wpAny_seqItems hTI rfl ?_)
  show wpAny _ _ (Builtin.SmallTypes.ownedTupleIsFree (.ref z) >>= _) _ _ _
  refine wpAny_bind ?_
  unfold Builtin.SmallTypes.ownedTupleIsFree
  refine wpAny_bind (wpAny_field hz rfl (x := .none) rfl (wpAny_pure ?_))
  simp only [if_true]
  refine wpAny_bind (wpAny_rule ?_)
  refine wpAny_bind (wpAny_field hz rfl (x := .ref TO) rfl ?_)
  refine wpAny_bind (wpAny_setField_rec hz (by simp) fun g1 z1 s1 => ?_)
  replace z1 : IsZip g1 z TI TO .ellipsis := z1
  refine wpAny_bind ?_
  simp only [List.zipIdx_cons, List.zipIdx_nil, List.forIn_cons, List.forIn_nil]
  refine wpAny_bind (wpAny_bind (wpAny_onRaise ?_))
  show wpAny _ _ (Builtin.SmallTypes.nextOf (.ref i1) >>= _) _ _ _
  refine wpAny_bind (D1.done _ _ _ (D1.frame _ _ _ h1 fun b hb o e => s1.extBut b o (fun q => ap.z1 (q ▸ hb)) e) fun g2 e s2 he => ?_)
  obtain ⟨oe, hoe, hce⟩ := he
  have z2 : IsZip g2 z TI TO .ellipsis := s2 _ _ ap.zi1 z1
  have ez : e ≠ z := fun q => by subst q; rw [z2] at hoe; cases hoe; simp at hce
  exact wpAny_setField_rec z2 (by simp) fun g3 _ s3 => hE g3 e (fun c o c1 _ c3 _ q => s3.extBut _ _ c1 (s2 _ _ c3 (s1.extBut _ _ c1 q))) ⟨oe, s3.extBut _ _ ez hoe, hce⟩
end
theorem zip_new_sq (k1 k2 : Bool) (l1 l2 : Addr) (xs ys : Array Value) :
    Meets (Builtin.«zip.__new__» ⟨[.type "zip", .ref l1, .ref l2], []⟩) (fun _ R s => SqOf k1 s.heap l1 xs ∧ SqOf k2 s.heap l2 ys ∧
      ∀ (g1 g2 g3 g4 g5 : Heap), g1 = s.heap.push { cls := .type (itName k1), data := .fields #[.ref l1, .int 0 0] } → g2 = g1.push { cls := .type (itName k2), data := .fields #[.ref l2, .int 0 0] } →
        g3 = g2.push { cls := .type "tuple", data := .seq #[.ref s.heap.objs.size, .ref g1.objs.size] } → g4 = g3.push { cls := .type "tuple", data := .seq #[.none, .none] } →
        g5 = g4.push { cls := .type "zip", data := .fields #[.none, .bool false, .bool false, .ref g2.objs.size, .ref g3.objs.size] } → R (.ok (.ret (.ref g4.objs.size))) { s with heap := g5 }) :=
  .of_wp fun prog w A R s h => by
    obtain ⟨hp, g, d, tk, os⟩ := s; obtain ⟨hl1, hl2, h⟩ := h
    have hsub := sub_zip
    have hL1 : SqOf k1 (Shared.heap ⟨hp, g, d, tk, os⟩) l1 xs := hl1
    have hL2 : SqOf k2 (Shared.heap ⟨hp.push { cls := .type (itName k1), data := .fields #[.ref l1, .int 0 0] }, g, d, tk, os⟩) l2 ys := hl2.at fun o e => Heap.get?_push_of_some _ e
    have h := h _ _ _ _ _ rfl rfl rfl rfl rfl
    wp_walk using iter_sq hL1, iter_sq hL2
    exact ⟨_, rfl, h⟩
end L2
set_option Elab.async false
set_option linter.all false
set_option maxRecDepth 100000
set_option maxHeartbeats 4000000
namespace L2
open PySem PySem.Spec PyProof.Rows
section
variable {prog : Program} {w : World} {A : Around} {E : Value → Shared → Prop} {s : Shared}
theorem call_zip_sq {k1 k2 : Bool} {l1 l2 : Addr} {xs ys : Array Value} {Q : Value → Shared → Prop} (h1 : SqOf k1 s.heap l1 xs) (h2 : SqOf k2 s.heap l2 ys)
    (h : ∀ h', IsZip h' (s.heap.objs.size + 4) (s.heap.objs.size + 2) (s.heap.objs.size + 3) .none → IsPair h' (s.heap.objs.size + 2) (.ref s.heap.objs.size) (.ref (s.heap.objs.size + 1)) →
      IsPair h' (s.heap.objs.size + 3) .none .none → ItOf k1 h' s.heap.objs.size l1 0 → ItOf k2 h' (s.heap.objs.size + 1) l2 0 → (∀ c o, s.heap.get? c = some o → h'.get? c = some o) → Q (.ref (s.heap.objs.size + 4)) { s with heap := h' }) :
    wpAny (model prog w) A (call (.type "zip") [.ref l1, .ref l2]) Q E s := by
  refine callType_new F.called_zip (by decide) (F.typeCall_zip_2 _ _) (F.newCall_zip_2 _ _) (fun obj => F.args_object_init_3 obj _ _) F.entry_zip_new (zip_new_sq k1 k2 l1 l2 xs ys) ⟨h1, h2, ?_⟩
  intro g1 g2 g3 g4 g5 e1 e2 e3 e4 e5
  have z1 : g1.objs.size = s.heap.objs.size + 1 := by rw [e1]; exact Heap.size_push ..
  have z2 : g2.objs.size = s.heap.objs.size + 2 := by rw [e2, Heap.size_push, z1]
  have z3 : g3.objs.size = s.heap.objs.size + 3 := by rw [e3, Heap.size_push, z2]
  have z4 : g4.objs.size = s.heap.objs.size + 4 := by rw [e4, Heap.size_push, z3]
  have u1 : ∀ c o, s.heap.get? c = some o → g1.get? c = some o := fun c o e => by rw [e1]; exact Heap.get?_push_of_some _ e
  have u2 : ∀ c o, g1.get? c = some o → g2.get? c = some o := fun c o e => by rw [e2]; exact Heap.get?_push_of_some _ e
  have u3 : ∀ c o, g2.get? c = some o → g3.get? c = some o := fun c o e => by rw [e3]; exact Heap.get?_push_of_some _ e
  have u4 : ∀ c o, g3.get? c = some o → g4.get? c = some o := fun c o e => by rw [e4]; exact Heap.get?_push_of_some _ e
  have u5 : ∀ c o, g4.get? c = some o → g5.get? c = some o := fun c o e => by rw [e5]; exact Heap.get?_push_of_some _ e
  have b5 : IsZip g5 g4.objs.size g2.objs.size g3.objs.size .none := by rw [e5]; exact Heap.get?_push_size _ rfl
  have b4 : IsPair g5 g3.objs.size .none .none := u5 _ _ (by rw [e4]; exact Heap.get?_push_size _ rfl)
  have b3 : IsPair g5 g2.objs.size (.ref s.heap.objs.size) (.ref g1.objs.size) := u5 _ _ (u4 _ _ (by rw [e3]; exact Heap.get?_push_size _ rfl))
  have i1 : ItOf k1 g5 s.heap.objs.size l1 0 := ItOf.at (h := g1) (by rw [e1]; exact ItOf.new k1 s.heap l1) fun o e => u5 _ _ (u4 _ _ (u3 _ _ (u2 _ _ e)))
  have i2 : ItOf k2 g5 g1.objs.size l2 0 := ItOf.at (h := g2) (by rw [e2]; exact ItOf.new k2 g1 l2) fun o e => u5 _ _ (u4 _ _ (u3 _ _ e))
  show _ ∧ _
  rw [z2, z3, z4] at b5
  rw [z1, z2] at b3
  rw [z3] at b4
  rw [z1] at i2
  rw [z4]
  exact ⟨⟨_, b5, rfl⟩, h _ b5 b3 b4 i1 i2 fun c o x => u5 _ _ (u4 _ _ (u3 _ _ (u2 _ _ (u1 _ _ x))))⟩
end
/-- (x, y) of two; the first one ends first, or both together -/
def Itz (k1 k2 : Bool) (K : PySem.W.Frag) (a b : Addr) : It :=
  ⟨fun i H => ∃ xs ys x y, SqX K k1 H a xs ∧ SqX K k2 H b ys ∧ xs[i]? = some x ∧ ys[i]? = some y,
   fun i H v H' => ∃ T x y, H T = none ∧ v = .ref T ∧ (∀ xs, SqX K k1 H a xs → xs[i]? = some x) ∧ (∀ ys, SqX K k2 H b ys → ys[i]? = some y) ∧ H' = upd H T (.tup [x, y]),
   fun i H => ∃ xs, SqX K k1 H a xs ∧ xs.length = i⟩
theorem turn_zip {P : Program} {w : World} {K : PySem.W.Frag} {elts : List Expr} {x1} {pos : Pos} (k1 k2 : Bool) (a b z TI TO i1 i2 : Addr) (ap : ZAp z TI TO i1 i2 [i1, a] [i2, b]) :
    Turn P w K (.Tuple elts x1 pos) (Itz k1 k2 K a b) [z, TO, i1, i2, TI] z
      (fun i h => IsZip h z TI TO .none ∧ IsPair h TI (.ref i1) (.ref i2) ∧ (∃ u v, IsPair h TO u v) ∧ ItOf k1 h i1 a i ∧ ItOf k2 h i2 b i) where
  mem := by simp
  obj := fun i h st c hc => by
    obtain ⟨hz, hTI, ⟨u, v, hTO⟩, h1, h2⟩ := st
    simp only [List.mem_cons, List.not_mem_nil, or_false] at hc
    rcases hc with rfl | rfl | rfl | rfl | rfl
    · exact ⟨_, hz, fun v q => by cases q⟩
    · exact ⟨_, hTO, fun v q => by cases q⟩
    · exact h1.live
    · exact h2.live
    · exact ⟨_, hTI, fun v q => by cases q⟩
  keep := fun i h h' st kk => by
    obtain ⟨hz, hTI, ⟨u, v, hTO⟩, h1, h2⟩ := st
    exact ⟨kk z (by simp) _ hz, kk TI (by simp) _ hTI, ⟨u, v, kk TO (by simp) _ hTO⟩, h1.at fun o q => kk i1 (by simp) o q, h2.at fun o q => kk i2 (by simp) o q⟩
  item := by
    intro X hP hw hK hc i pins s σ H E I hf st hg
    subst hP hw hK
    obtain ⟨hz, hTI, ⟨u0, v0, hTO⟩, h1, h2⟩ := st
    obtain ⟨xs, ys, x, y, hq1, hq2, hx, hy⟩ := hg
    obtain ⟨its1, rv1, p1⟩ := I.sq hq1
    obtain ⟨its2, rv2, p2⟩ := I.sq hq2
    obtain ⟨u, hu, ru⟩ := rv1.get hx
    obtain ⟨v, hv, rv⟩ := rv2.get hy
    have D1 := draws_sq (prog := X.prog) (w := X.w) (A := X.A.in1) (I.ok.hd hc) k1 i1 a (sq_it p1 h1) its1.toArray
    have D2 := draws_sq (prog := X.prog) (w := X.w) (A := X.A.in1) (I.ok.hd hc) k2 i2 b (sq_it p2 h2) its2.toArray
    have hlt1 : i < its1.toArray.size := by simpa using (List.getElem?_eq_some_iff.mp hu).1
    have hlt2 : i < its2.toArray.size := by simpa using (List.getElem?_eq_some_iff.mp hv).1
    have hT : s.TypeIs (.ref z) "zip" := ⟨_, hz, rfl⟩
    unfold pyNext
    refine wpAny_bind (wpAny_attempt (wpAny_callSpecial?_slot (name := Str.ofString "__next__") hT F.slot_zip_next (wpAny_call_entry F.slot_zip_next hT F.entry_zip_next
      (zipD_item D1 D2 ap hz hTI hTO ⟨h1, p1⟩ ⟨h2, p2⟩ hlt1 hlt2 fun u' v' h' tk hu' hv' z' o' s1' s2' t' hk => wpAny_pure ?_) (F.args_zip_next_1 _))))
    have eu : u' = u := by
      have q : its1[i]? = some u' := by simpa using hu'
      rw [hu] at q
      exact (Option.some.inj q).symm
    have ev : v' = v := by
      have q : its2[i]? = some v' := by simpa using hv'
      rw [hv] at q
      exact (Option.some.inj q).symm
    subst eu ev
    refine ⟨_, rfl, wpAny_letOwnedTupleGo_zip z' fun g hz2 hs2 => ?_⟩
    have zlt : z < s.heap.objs.size := Heap.lt_size hz
    have TOlt : TO < s.heap.objs.size := Heap.lt_size hTO
    have i1lt : i1 < s.heap.objs.size := let ⟨_, e, _⟩ := h1.live; Heap.lt_size e
    have i2lt : i2 < s.heap.objs.size := let ⟨_, e, _⟩ := h2.live; Heap.lt_size e
    have TIlt : TI < s.heap.objs.size := Heap.lt_size hTI
    have hT2 : g.get? s.heap.objs.size = some { cls := .type "tuple", data := .seq #[u', v'] } := hs2.extBut _ _ (Nat.ne_of_gt zlt) t'
    obtain ⟨I2, n2⟩ := I.handed (t' := tk) (ch := [z, TO, i1, i2]) ru rv hT2 (fun c o hc' q => hs2.extBut c o (fun e => hc' (by simp [e])) (hk c o (fun e => hc' (by simp [e])) (fun e => hc' (by simp [e])) (fun e => hc' (by simp [e])) (fun e => hc' (by simp [e])) q))
      (fun c hc' => hf c (by simp at hc' ⊢; rcases hc' with e | e | e | e <;> simp [e]))
      (fun c hc' => by simp at hc'; rcases hc' with rfl | rfl | rfl | rfl <;> assumption)
    refine ⟨.ref s.heap.objs.size, _, I2, rfl, ⟨_, x, y, I.hok.fresh (Nat.le_refl _), rfl, (fun xs' hxs => by rw [I.sq_inj hxs hq1]; exact hx), (fun ys' hys => by rw [I.sq_inj hys hq2]; exact hy), rfl⟩, ?_, fun c hc' => ?_⟩
    · exact ⟨hz2, hs2.extBut _ _ ap.zTI.symm (hk _ _ ap.zTI.symm ap.TITO ap.TIi1 ap.TIi2 hTI), ⟨_, _, hs2.extBut _ _ ap.zTO.symm o'⟩, s1'.1.at fun o q => hs2.extBut i1 o ap.zi1.symm q, s2'.1.at fun o q => hs2.extBut i2 o ap.zi2.symm q⟩
    · by_cases e : c = TI
      · subst e
        rw [upd_ne (Nat.ne_of_lt TIlt)]
        exact (hf c (by simp)).1
      · exact n2 c (by simp at hc' ⊢; rcases hc' with q | q | q | q | q <;> simp_all)
  done := by
    intro X hP hw hK hc i pins s σ H E I hf st hg
    subst hP hw hK
    obtain ⟨hz, hTI, ⟨u0, v0, hTO⟩, h1, h2⟩ := st
    obtain ⟨xs, hq, hx⟩ := hg
    obtain ⟨its, rv, p⟩ := I.sq hq
    have D1 := draws_sq (prog := X.prog) (w := X.w) (A := X.A.in1) (I.ok.hd hc) k1 i1 a (sq_it p h1) its.toArray
    have hl : its.toArray.size = i := by rw [← hx, rv.length]; simp
    have hT : s.TypeIs (.ref z) "zip" := ⟨_, hz, rfl⟩
    unfold pyNext
    refine wpAny_bind (wpAny_attempt (wpAny_callSpecial?_slot (name := Str.ofString "__next__") hT F.slot_zip_next (wpAny_call_entry F.slot_zip_next hT F.entry_zip_next
      (zipD_end D1 ap hz hTI hTO ⟨hl ▸ h1, p⟩ fun h' e hk he => ?_) (F.args_zip_next_1 _))))
    obtain ⟨o, ho, hcl⟩ := he
    refine wpAny_bind (wpAny_isInstance (T := "StopIteration") (b := true) ⟨o, ho, hcl⟩ isSubtype_stop ?_)
    refine wpAny_pure ⟨rfl, I.turnedL (t' := s.toks) (ch := [z, TO, i1, i2]) (fun c o hc' q => hk c o (fun e => hc' (by simp [e])) (fun e => hc' (by simp [e])) (fun e => hc' (by simp [e])) (fun e => hc' (by simp [e])) q)
      (fun c hc' => hf c (by simp at hc' ⊢; rcases hc' with e | e | e | e <;> simp [e]))⟩
  self := fun _ _ _ _ _ st h => wpAny_pyIter_zip st.1 h
theorem zap (n a b : Nat) (ha : a < n) (hb : b < n) : ZAp (n + 4) (n + 2) (n + 3) n (n + 1) [n, a] [n + 1, b] := by
  have q : ∀ {x y u : Nat}, x ≠ y → x ≠ u → ¬ x ∈ [y, u] := fun h1 h2 h3 => by
    rcases List.mem_cons.mp h3 with e | e
    · exact h1 e
    · exact h2 (List.mem_singleton.mp e)
  have d : ∀ {x y : Nat}, x < y → y ≠ x := fun h => Nat.ne_of_gt h
  have e : ∀ {x y : Nat}, x < y → x ≠ y := fun h => Nat.ne_of_lt h
  exact ⟨d (by omega), d (by omega), d (by omega), d (by omega), d (by omega), d (by omega), e (by omega), e (by omega), d (by omega), d (by omega),
    q (d (by omega)) (d (by omega)), q (d (by omega)) (d (by omega)), q (d (by omega)) (d (by omega)), q (d (by omega)) (d (by omega)), q (d (by omega)) (d (by omega)), q (e (by omega)) (d (by omega))⟩
section
variable {X : Cx}
inductive iZipY (k1 : Bool) (k2 : Bool) (K : PySem.W.Frag) (R : It → Hp → Prop) (vs : List V) (H1 : Hp) : Prop
  | mk : ∀ a b, (vs = [.ref a, .ref b]) → ((∃ xs, SqX K k1 H1 a xs)) → ((∃ ys, SqX K k2 H1 b ys)) → (R (Itz k1 k2 K a b) H1) → iZipY k1 k2 K R vs H1
def iZip (k1 k2 : Bool) (K : PySem.W.Frag) (ta : TA) : TI := fun σ H R => ta σ H fun vs H1 => iZipY k1 k2 K R vs H1
theorem pi_zip (k1 k2 : Bool) {a b : Expr} {ta : TA} {p pos tpos : Pos} {elts : List Expr} {x1} (hg : Gl X "zip") (hm : X.mg "zip" = none) (ha : PA X [a, b] ta) (hs : starEach [a, b] X.env = [(false, eval a X.env), (false, eval b X.env)] := by rfl) (hs2 : starEach [b] X.env = [(false, eval b X.env)] := by rfl) :
    PI X (.Tuple elts x1 tpos) (.Call (.Name "zip" p) [a, b] [] pos) (iZip k1 k2 X.K ta) := by
  intro pins s σ H R I h
  refine Call_ (ld_blt I hg hm boot_zip (PyProof.Rows.callWith_type1 (thn (ha pos pins s σ H _ I h) fun us s1 ⟨vs, H1, I1, r1, q1⟩ => ?_) (by rw [hs, hs2]) (by rw [hs2]; rfl)))
  obtain ⟨l1, l2, rfl, ⟨xs, hq1⟩, ⟨ys, hq2⟩, q⟩ := q1
  obtain ⟨u, v, rfl, r, r'⟩ := vals2 r1
  cases r
  cases r'
  obtain ⟨its1, rv1, p1⟩ := I1.sq hq1
  obtain ⟨its2, rv2, p2⟩ := I1.sq hq2
  have lt1 := p1.lt
  have lt2 := p2.lt
  refine call_zip_sq p1 p2 fun h' hz hTI hTO h1 h2 hk => ?_
  refine wpAny_pyIter_zip (s := { s1 with heap := h' }) hz ?_
  have f : ∀ c, s1.heap.objs.size ≤ c → FpOk X pins H1 c := fun c hc => I1.fpOk hc (I1.hok.fresh hc)
  refine ⟨_, [s1.heap.objs.size + 4, s1.heap.objs.size + 3, s1.heap.objs.size, s1.heap.objs.size + 1, s1.heap.objs.size + 2], _, _, H1, rfl, I1.kept (t' := s1.toks) hk,
    turn_zip k1 k2 l1 l2 _ _ _ _ _ (zap _ _ _ lt1 lt2), ⟨hz, hTI, ⟨_, _, hTO⟩, h1, h2⟩, fun c hc => ?_, q⟩
  simp at hc
  rcases hc with rfl | rfl | rfl | rfl | rfl <;> exact f _ (by omega)
end
end L2
set_option Elab.async false
set_option linter.all false
set_option maxRecDepth 100000
set_option maxHeartbeats 4000000
namespace L2
open PySem PySem.Spec PyProof.Rows
section
variable {X : Cx} {tg iter el : Expr} {ifs : List Expr} {sc : Scope} {pos py spos : Pos} {Nc : List Str} {js : List (Option Nat)} {wi : TI} {i : Nat} {y : Str}
/-- name = [el for tg in iter if ..], the name a local one: it is stored ahead of the block's end -/
theorem ps_lc1x {g : TG} {bd : Addr → TB} (hx : X.xe = fun _ _ => False) (hc : X.calm = true) (hN : X.N.Nodup) (hiN : X.N[i]? = some y) (hy : Loc X.env.scope y) (hi : PI X tg iter wi) (S : CS sc X.env.scope) (cap : capOk js Nc X.N sc.names = true)
    (hg : ∀ C s₂ H₂ fp pins, PG (cxC X Nc sc C s₂ H₂ fp pins) tg g)
    (hb : ∀ C s₂ H₂ fp pins D L, PTl (cxC X Nc sc C s₂ H₂ fp pins) (tailOf ifs (cxC X Nc sc C s₂ H₂ fp pins).env (do let _ ← call (.builtin "list.append") [.ref D, ← eval el (cxC X Nc sc C s₂ H₂ fp pins).env]) L) L (bd D))
    (hs : ∀ x, foldedSetIterable iter X.env x = pure x := by intro _; rfl)
    (hsw : swapsWith (.ListComp el [⟨tg, iter, ifs, 0⟩] sc pos) (some (.Name y py)) spos.line X.env = pure true := by rfl)
    (hf : X.fn y = true ∨ X.env.scope.names.lookup y = some .local := by first | exact .inl rfl | exact .inr rfl | assumption) :
    PS X (.Assign [.Name y py] (.ListComp el [⟨tg, iter, ifs, 0⟩] sc pos) spos) (tAsg (tLC js wi g bd) (gName i)) := by
  intro pins s σ H D0 I h
  have hcl : closureFor sc X.env = pure (clOf sc X.env) := closure_of fun y hy hf => I.ok.has y.1 (.inl (S.free y hy hf))
  rw [exec_Assign_Name_used _ _ _ _ hsw]
  refine wpAny_bind (wpAny_standAt (wpAny_bind ?_))
  show wpAny _ X.A (do let _ ← comprehension (.ListComp el [⟨tg, iter, ifs, 0⟩] sc pos) sc X.env _ (newList []) false (eval iter X.env) (some (assign (.Name y py) X.env))) _ _ s
  refine wpAny_bind (wpAny_mono (wpAny_comprehension_free (use := some (assign (.Name y py) X.env)) (Q := fun _ s' => SP X pins D0 .next s') rfl hs hcl S.kind S.names
    (thn (hi pins s σ H _ I h) fun v s1 h1 => thn h1 fun itv s2 h2 => ?_)) (fun _ s' hq => wpAny_pure (wpAny_pure hq)) fun _ _ e => e)
  obtain ⟨it, fp, tn, J, H2, e, I2, T, st2, f2, hw⟩ := h2
  subst e
  have hlt : ∀ b ∈ fp, b < s2.heap.objs.size := fun b hb => let ⟨o, ho, _⟩ := T.obj _ _ st2 b hb; Heap.lt_size ho
  refine wpAny_newObj_type (wpAny_newFunctionEnv S.nocell (by intro y hy; simp at hy) (fun h₁ hns₁ hsb₁ => ?_) S.kind)
  dsimp only at hns₁ hsb₁ ⊢
  generalize hH2 : s2.heap.push { cls := .type "list", dict := none, data := .seq ([] : List Value).toArray } = G at hns₁ hsb₁ ⊢
  have hCs : G.objs.size = s2.heap.objs.size + 1 := by rw [← hH2, Heap.size_push]
  have hDC : s2.heap.objs.size ≠ G.objs.size := by omega
  have hCle : s2.heap.objs.size ≤ G.objs.size := by omega
  have old : ∀ b o, s2.heap.get? b = some o → h₁.get? b = some o := fun b o e => hsb₁.extBut b o (Nat.ne_of_lt (Nat.lt_of_lt_of_le (Heap.lt_size e) hCle)) (Heap.get?_push_of_some _ (hH2 ▸ Heap.get?_push_of_some _ e))
  have hacc : h₁.get? s2.heap.objs.size = some { cls := .type "list", dict := none, data := .seq ([] : List Value).toArray } := hsb₁.extBut _ _ hDC (Heap.get?_push_of_some _ (hH2 ▸ Heap.get?_push_size _ rfl))
  have new : ObjOk X.prog X.w (upd H2 s2.heap.objs.size (.lst [])) h₁ s2.heap.objs.size (.lst []) := ⟨Nat.zero_le _, [], _, .nil, hacc⟩
  have I4 := inv_comp (js := js) (Nc := Nc) (tk := s2.toks + ([] : List (Str × Value)).length) I2 S f2 hlt cap hCle (Nat.le_refl _) hDC old hns₁ new
  have hn : H2 s2.heap.objs.size = none := I2.fresh
  have f4 : ∀ b ∈ fp, FpOk (cxC X Nc sc G.objs.size s2 H2 fp pins) [] (upd H2 s2.heap.objs.size (.lst [])) b := fun b hb => by
    obtain ⟨h0, h1, h2, h3, h4, h5⟩ := f2 b hb
    refine ⟨?_, Nat.ne_of_lt (Nat.lt_of_lt_of_le (hlt b hb) hCle), fun z => ?_, .inl hb, fun x c z => ?_, fun p hp => ?_⟩
    · rw [upd_ne (Nat.ne_of_lt (hlt b hb))]; exact h0
    · rcases List.mem_cons.mp (I2.stkSub b z) with q | q
      · exact h1 q
      · exact h2 q
    · exact h4 x c (cl_in sc.names [] (fun z => nomatch z) z)
    · rcases List.mem_append.mp hp with z | z
      · exact h5 p z
      · exact absurd z (by simp)
  have st4 : tn 0 h₁ := T.keep _ _ _ st2 fun b hb o e => old b o e
  have loop : codeAny (model X.prog X.w) X.A (.compLoop (.ListComp el [⟨tg, iter, ifs, 0⟩] sc pos) 0 (.ref it) (.ref s2.heap.objs.size) (compEnvC sc (clOf sc X.env) G.objs.size X.env))
      (compPost (model X.prog X.w) X.A X.xe (some (assign (.Name y py) X.env)) (fun _ s' => SP X pins D0 .next s') (.ref s2.heap.objs.size) G.objs.size) { s2 with heap := h₁, toks := s2.toks + ([] : List (Str × Value)).length } := by
    refine comp_loop (X := cxC X Nc sc G.objs.size s2 H2 fp pins) (.inl ⟨el, rfl⟩) hx hc (turn_l1 _ _ _ _ _ _ _ _ _) T (hg _ _ _ _ _) (hb _ _ _ _ _ _ _) I4 st4 f4 (hw _ hn) fun σ' H' s' I' q => ?_
    obtain ⟨m', hm', _⟩ := I'.loc
    have IB : Inv X pins σ H' { s' with heap := s'.heap } := inv_back I2 f2 hCle I' (Heap.SameBut.refl ..)
    have nC : H' G.objs.size = none := I'.free
    have fC : FpOk X pins H' G.objs.size := I2.fpOk hCle nC
    show wpAny _ X.A (assign (.Name y py) X.env (.ref s2.heap.objs.size)) _ _ s'
    refine wpAny_assign_Name (store_ok2 (v := .ref s2.heap.objs.size) IB hN hiN hy rfl (fun s'' IC hsb => ?_) hf)
    obtain ⟨a, sb, ha⟩ := hsb
    have aC : G.objs.size ≠ a := by
      rcases ha with rfl | ha
      · exact fC.2.1
      · exact fun z => fC.2.2.2.2.1 y a ha z.symm
    refine ⟨m', hm'.sameBut sb aC, fun h' hs' => ?_⟩
    exact ⟨_, H', IC.turnedL (t' := s''.toks) (ch := [G.objs.size]) (fun b o hb' e => hs'.extBut b o (fun z => hb' (by simp [z])) e) (fun b hb' => by rw [List.mem_singleton.mp hb']; exact fC), q⟩
  exact comp_start (.inl ⟨el, rfl⟩) rfl rfl loop (T.self _ _ _ _ _ st4 loop)
end
theorem walk_zip {k1 k2 : Bool} {K : PySem.W.Frag} {a b : Addr} {xs ys : List V} {g : TG} {bd : TB} {N0 : St → Hp → Prop} {σ : St} {H : Hp} (Pv : Nat → St → Hp → Prop) (hxy : xs.length = ys.length) (h0 : Pv 0 σ H)
    (hl : ∀ i σ H, i ≤ xs.length → Pv i σ H → SqX K k1 H a xs ∧ SqX K k2 H b ys)
    (hs : ∀ i x y T σ H, xs[i]? = some x → ys[i]? = some y → H T = none → Pv i σ H → g (.ref T) σ (upd H T (.tup [x, y])) fun σ2 H2 => bd (Pv (i + 1)) σ2 H2) (hd : ∀ σ H, Pv xs.length σ H → N0 σ H) : tWalk (Itz k1 k2 K a b) g bd N0 σ H := by
  refine ⟨fun i m σ H => m = xs.length - i ∧ i ≤ xs.length ∧ Pv i σ H, ⟨xs.length, by simp, Nat.zero_le _, h0⟩, ?_⟩
  rintro i m σ H ⟨rfl, hle, p⟩
  obtain ⟨q1, q2⟩ := hl i σ H hle p
  by_cases hi : i < xs.length
  · refine .inr ⟨⟨xs, ys, xs[i], ys[i]'(by omega), q1, q2, by simp [hi], by simp [show i < ys.length by omega]⟩, Pv (i + 1), fun σ' H' q => ⟨xs.length - (i + 1), by omega, rfl, by omega, q⟩, fun x H' hy => ?_⟩
    obtain ⟨T, x1, x2, nT, rfl, e1, e2, rfl⟩ := hy
    exact hs i x1 x2 T σ H (e1 xs q1) (e2 ys q2) nT p
  · have : i = xs.length := by omega
    subst this
    exact .inl ⟨⟨xs, q1, rfl⟩, hd σ H p⟩
end L2
set_option Elab.async false
set_option linter.all false
set_option maxRecDepth 100000
set_option maxHeartbeats 4000000
namespace L2
open PySem PySem.Spec PyProof.Rows
theorem range_all (bs : List Bool) : (List.range bs.length).all (fun i => bs.getD i false) = bs.all id := by
  rw [Bool.eq_iff_iff, List.all_eq_true, List.all_eq_true]
  constructor
  · intro h b hb
    obtain ⟨i, hi, rfl⟩ := List.mem_iff_getElem.mp hb
    have := h i (List.mem_range.mpr hi)
    simpa [List.getD_eq_getElem?_getD, hi] using this
  · intro h i hi
    have hl : i < bs.length := List.mem_range.mp hi
    have := h bs[i] (List.getElem_mem hl)
    simpa [List.getD_eq_getElem?_getD, hl] using this
theorem vals_bl : ∀ {bs : List Bool} {its : List Value}, Vals (bs.map V.bl) its → its = bs.map Value.bool
  | [], _, r => by cases r; rfl
  | b :: bs, _, r => by
    cases r with
    | cons r1 r2 =>
      cases r1
      rw [vals_bl r2]
      rfl
section
variable {X : Cx}
theorem truth_bl {prog : Program} {w : World} {A : Around} {bs : List Bool} {items : Array Value} (e : items = (bs.map Value.bool).toArray) : TruthOf prog w A (fun i v => items[i]? = some v) (fun i => bs.getD i false) := by
  intro i v s Q E h q
  rw [e] at h
  have h' : (bs.map Value.bool)[i]? = some v := by simpa using h
  rw [List.getElem?_map] at h'
  cases z : bs[i]? with
  | none => rw [z] at h'; cases h'
  | some b =>
    rw [z] at h'
    cases h'
    refine wpAny_truthy_bool ?_
    simpa [List.getD_eq_getElem?_getD, z] using q
inductive call_allLY (K : PySem.W.Frag) (xs : List V) (H : Hp) (Q : VK) : Prop
  | mk : ∀ (a : Addr) (bs : List Bool), (xs = [.ref a]) → (SqL K H a (bs.map V.bl)) → (Q (.bl (bs.all id)) H) → call_allLY K xs H Q
theorem call_allL (hc : X.calm = true) : CallR X (.builtin "all") (call_allLY X.K) := by
  intro pins s σ H xs us Q I r h
  obtain ⟨a, bs, rfl, hS, q⟩ := h
  obtain ⟨u, rfl, r1⟩ := vals1 r
  cases r1
  obtain ⟨its, rv, ht, hz⟩ := I.list hS
  have hl := ht.isList
  have hne : a ≠ s.heap.objs.size := by obtain ⟨o, e, _⟩ := hl; exact Nat.ne_of_lt (Heap.lt_size e)
  have eits := vals_bl rv
  refine call_all_walk (wpAny_pyIter_list hl ⟨_, _, _, _, _, _, _, rfl, Walks.list (A := X.A.in1) (I.ok.hd hc) _ a hne its.toArray, ⟨⟨_, Heap.get?_push_size _ rfl, rfl, rfl⟩, hl.push _⟩, truth_bl (bs := bs) (by rw [eits]), fun h' tk hk => ?_⟩)
  have e : its.toArray.size = bs.length := by rw [eits]; simp
  rw [e, range_all]
  refine ⟨.bl _, H, I.kept fun b o e' => hk b o (fun z => ?_) (Heap.get?_push_of_some _ e'), rfl, q⟩
  rw [List.mem_singleton.mp z] at e'
  exact absurd (Heap.lt_size e') (Nat.lt_irrefl _)
inductive call_reprDY (K : PySem.W.Frag) (xs : List V) (H : Hp) (Q : VK) : Prop
  | mk : ∀ (a : Addr) (d : PyData), (xs = [.ref a]) → (Dt K H d (.ref a)) → (d.showable = true) → (d.hasDict = false) → (d.depth ≤ 60) → (d.shown.length ≤ sizeLine) → (Q (.str d.shown) H) → call_reprDY K xs H Q
theorem call_reprD (hg : X.A.guards = some []) (hu : X.A.units + 64 < cLine) : CallR X (.builtin "repr") (call_reprDY X.K) := by
  intro pins s σ H xs us Q I r h
  obtain ⟨a, d, rfl, hd, h1, h2, h3, h4, q⟩ := h
  obtain ⟨u, rfl, r1⟩ := vals1 r
  cases r1
  obtain ⟨as, rd⟩ := Dt.reads I d (.ref a) _ rfl hd
  exact repr_of_reads' rd h1 (fun z => by rw [h2] at z; cases z) hg (by omega) (fun b o e => e) (fun h' u tk hk => ⟨.str d.shown, H, I.kept hk, ⟨_, rfl⟩, q⟩) h4
end
end L2
set_option Elab.async false
set_option linter.all false
set_option maxRecDepth 100000
set_option maxHeartbeats 4000000
namespace L2
open PySem PySem.Spec PyProof.Rows
section
variable {X : Cx}
end
mutual
/-- tuples, ints, truths, texts alone -/
def onlyT : PyData → Bool
  | .none | .bool _ | .int _ | .str _ => true
  | .tuple xs => onlyTs xs
  | .list _ | .dict _ => false
def onlyTs : List PyData → Bool
  | [] => true
  | x :: xs => onlyT x && onlyTs xs
end
mutual
theorem reads_no {h : Heap} : ∀ (d : PyData) (u : Value) (as : List Addr), Reads h u d as → onlyT d = true → as = []
  | .none, _, _, r, _ => by cases r; rfl
  | .bool _, _, _, r, _ => by cases r; rfl
  | .int _, _, _, r, _ => by cases r; rfl
  | .str _, _, _, r, _ => by cases r; rfl
  | .tuple xs, _, _, r, e => by
    cases r with
    | tuple h1 h2 h3 h4 => exact reads_nos xs _ _ h4 (by simpa [onlyT] using e)
  | .list _, _, _, _, e => by simp [onlyT] at e
  | .dict _, _, _, _, e => by simp [onlyT] at e
theorem reads_nos {h : Heap} : ∀ (ds : List PyData) (us : List Value) (as : List Addr), ReadsAll h us ds as → onlyTs ds = true → as = []
  | [], _, _, r, _ => by cases r; rfl
  | d :: ds, _, _, r, e => by
    have e' : onlyT d = true ∧ onlyTs ds = true := by simpa [onlyTs] using e
    cases r with
    | cons r1 r2 => rw [reads_no d _ _ r1 e'.1, reads_nos ds _ _ r2 e'.2]; rfl
end
section
variable {X : Cx}
def DtS (X : Cx) (H : Hp) (d : PyData) (v : V) : Prop := ∀ (pins : List (Addr × Obj)) (s : Shared) (σ : St) (u : Value), Inv X pins σ H s → RelV v u → ∃ as, Reads s.heap u d as ∧ sysModules ∉ as
theorem DtS.of {H : Hp} {d : PyData} {v : V} (h : Dt X.K H d v) (o : onlyT d = true) : DtS X H d v := fun pins s σ u I r => by
  obtain ⟨as, q⟩ := Dt.reads I d v u r h
  rw [reads_no d u as q o] at q
  exact ⟨[], q, by simp⟩
theorem DtS.pair {H : Hp} {a : Addr} {d e : PyData} {x y : V} (h : H a = some (.tup [x, y])) (h1 : DtS X H d x) (h2 : DtS X H e y) : DtS X H (.tuple [d, e]) (.ref a) := fun pins s σ u I r => by
  cases r
  obtain ⟨its, rv, ⟨o, e1, e2, n, e3⟩, hz⟩ := I.tuple (SqT.of (K := X.K) h)
  cases rv with
  | cons r1 rr =>
    cases rr with
    | cons r2 rr =>
      cases rr
      obtain ⟨as, q1, w1⟩ := h1 pins s σ _ I r1
      obtain ⟨bs, q2, w2⟩ := h2 pins s σ _ I r2
      refine ⟨_, .tuple e1 e2 e3 (by simpa using ReadsAll.cons q1 (ReadsAll.cons q2 .nil)), ?_⟩
      simp [w1, w2]
/-- a table from tuples of ints to ints -/
def kvD (p : List Int × Int) : PyData × PyData := (.tuple (p.1.map PyData.int), .int p.2)
theorem dt_ints {H : Hp} {P : Program} {w : World} {h : Heap} {b : Addr} {k : List Int} (ok : HOk P w H h) (e : H b = some (.tup (k.map V.int))) : Reads h (.ref b) (.tuple (k.map PyData.int)) [] := by
  obtain ⟨z, its, rv, ⟨o, e1, e2, n, e3, _⟩⟩ := (show ObjOk P w H h b (.tup (k.map V.int)) from ok b _ e)
  refine .tuple e1 e2 e3 ?_
  have : ∀ (k : List Int) (its : List Value), Vals (k.map V.int) its → ReadsAll h its (k.map PyData.int) [] := fun k => by
    induction k with
    | nil => intro its r; cases r; exact .nil
    | cons i k ih =>
      intro its r
      cases r with
      | cons r1 r2 =>
        obtain ⟨t, rfl⟩ := r1
        exact ReadsAll.cons (.int i t) (ih _ r2)
  simpa using this k its rv
def kvV (p : List Int × Int) : List Key × V := (p.1.map Sum.inl, .int p.2)
theorem kv_key (k : List Int) : (k.map (Sum.inl (α := Int) (β := Str))).map kV = k.map V.int := by
  rw [List.map_map]
  rfl
theorem DtS.table {H : Hp} {a : Addr} {ps : List (List Int × Int)} (h : H a = some (.dT (ps.map kvV))) : DtS X H (.dict (ps.map kvD)) (.ref a) := fun pins s σ u I r => by
  cases r
  obtain ⟨z, y, xs, pr, o, es, ep, h1, h2, h3, h4, h5⟩ := (show ObjOk X.prog X.w H s.heap a (.dT (ps.map kvV)) from I.hok a _ h)
  have key : ∀ (ps : List (List Int × Int)) (xs : List (List Key × Addr × Value)), Paired (fun (p : List Key × V) (q : List Key × Addr × Value) => p.1 = q.1 ∧ H q.2.1 = some (.tup (p.1.map kV)) ∧ RelV p.2 q.2.2) (ps.map kvV) xs →
      ReadsAll s.heap ((xs.map (entryOfKey (tupleKind (mixKind X.prog X.w)))).map (·.key)) ((ps.map kvD).map (·.1)) [] ∧ ReadsAll s.heap ((xs.map (entryOfKey (tupleKind (mixKind X.prog X.w)))).map (·.val)) ((ps.map kvD).map (·.2)) [] := fun ps => by
    induction ps with
    | nil => intro xs r; cases r; exact ⟨.nil, .nil⟩
    | cons p ps ih =>
      intro xs r
      cases r with
      | cons r1 r2 =>
        obtain ⟨e1, e2, e3⟩ := r1
        obtain ⟨i1, i2⟩ := ih _ r2
        have e2' := e2
        rw [show (kvV p).1.map kV = p.1.map V.int from kv_key p.1] at e2'
        obtain ⟨t, et⟩ := e3
        have hv : ∀ {q : List Key × Addr × Value}, q.2.2 = Value.int p.2 t → Reads s.heap (entryOfKey (tupleKind (mixKind X.prog X.w)) q).val (.int p.2) [] := fun {q} z => by
          show Reads s.heap q.2.2 (.int p.2) []
          rw [z]; exact .int _ _
        exact ⟨ReadsAll.cons (as := []) (bs := []) (dt_ints I.hok e2') i1, ReadsAll.cons (as := []) (bs := []) (hv et) i2⟩
  obtain ⟨k1, k2⟩ := key ps xs pr
  have hcls : o.cls = .type "dict" := h2.1
  refine ⟨a :: [] ++ [], .dict h1 hcls h3 (by rw [h4]; exact k1) (by rw [h4]; exact k2), ?_⟩
  intro w
  have e : sysModules = a := by simpa using w
  rw [e] at y
  simp at y
end
end L2
set_option Elab.async false
set_option linter.all false
set_option maxRecDepth 100000
set_option maxHeartbeats 4000000
namespace L2
open PySem PySem.Spec PyProof.Rows
section
variable {X : Cx} {tg iter el tg2 iter2 : Expr} {ifs ifs2 : List Expr} {sc : Scope} {pos : Pos} {Nc : List Str} {js : List (Option Nat)} {wi wi2 : TI} {g g2 : TG}
end
end L2
set_option Elab.async false
set_option linter.all false
set_option maxRecDepth 100000
set_option maxHeartbeats 4000000
namespace L2
open PySem PySem.Spec PyProof.Rows
open AutoSeq1 (wpAny_loadPart')
section
variable {X : Cx}
end
end L2
set_option linter.all false
set_option maxRecDepth 100000
namespace L2
open PySem PySem.Spec PyProof.Rows
theorem sc_mk {N P : List Str} {sc : Scope} (a : sc.kind = .function := by rfl) (b : sc.isCoroutine = false := by rfl) (c : sc.isGenerator = false := by rfl) (d : N.Nodup := by decide +kernel) (e : N.take P.length = P := by rfl)
    (g : ∀ x ∈ P, sc.names.lookup x = some .local ∨ sc.names.lookup x = some .cell := by decide +kernel) (h : ∀ y ∈ sc.names, y.2 ≠ .free := by decide +kernel) : FnScope N P sc := ⟨a, b, c, d, e, g, h⟩
theorem len0 {α : Type} {us : List α} (h : us.length = 0) : us = [] := List.length_eq_zero_iff.mp h
theorem lenS {α : Type} {us : List α} {n : Nat} (h : us.length = n + 1) : ∃ a r, us = a :: r ∧ r.length = n := by
  cases us with
  | nil => exact nomatch h
  | cons a r => exact ⟨a, r, rfl, Nat.succ.inj h⟩
theorem len1 {α : Type} {us : List α} (h : us.length = 1) : ∃ a, us = [a] := by
  obtain ⟨a, r, rfl, g⟩ := lenS h
  exact ⟨a, by rw [len0 g]⟩
theorem len2 {α : Type} {us : List α} (h : us.length = 2) : ∃ a b, us = [a, b] := by
  obtain ⟨a, r, rfl, g⟩ := lenS h
  obtain ⟨b, rfl⟩ := len1 g
  exact ⟨a, b, rfl⟩
theorem len3 {α : Type} {us : List α} (h : us.length = 3) : ∃ a b c, us = [a, b, c] := by
  obtain ⟨a, r, rfl, g⟩ := lenS h
  obtain ⟨b, c, rfl⟩ := len2 g
  exact ⟨a, b, c, rfl⟩
theorem len4 {α : Type} {us : List α} (h : us.length = 4) : ∃ a b c d, us = [a, b, c, d] := by
  obtain ⟨a, r, rfl, g⟩ := lenS h
  obtain ⟨b, c, d, rfl⟩ := len3 g
  exact ⟨a, b, c, d, rfl⟩
theorem len5 {α : Type} {us : List α} (h : us.length = 5) : ∃ a b c d e, us = [a, b, c, d, e] := by
  obtain ⟨a, r, rfl, g⟩ := lenS h
  obtain ⟨b, c, d, e, rfl⟩ := len4 g
  exact ⟨a, b, c, d, e, rfl⟩
section
variable {P : Program} {w : World} {K : PySem.W.Frag} {mg : Str → Option Value} {base : Heap}
theorem hs_of {n : Str} {st : Stmt} {N ps : List Str} {k : Nat} {sp : Sp} (X : ∃ h : Heap, K.In h ∧ h.Ns mainGlobals mg) (d : DfAt K n st) (S : FnScope N ps (defScope st))
    (hbody : ∀ (f : Addr) (cdv : Value) (A : Around) (outer : List Env) (s : Shared) (H : Hp) (vs : List V) (Q : VK) (E : XK), N.Nodup → Room k (A.deeper (envOfC n (defScope st) s.heap.objs.size f cdv)) → sp vs H Q E →
      ∃ t, PSs (cxOf CX0 P w K mg base N n (defScope st) f cdv A outer s H E).nox (defBody st) t ∧ t { nx := fun _ H' => Q .non H', rt := Q } (start N vs) H)
    (len : ∀ vs H Q E, sp vs H Q E → vs.length = ps.length := by intro _ _ _ _ h; first | (cases h; subst_vars; rfl) | (rcases h with h | h <;> cases h <;> subst_vars <;> rfl))
    (b : ∀ (kV doc pm : Value) (an : Option Addr) (cdv ct : Value) (us : List Value), us.length = ps.length → bindArgs (PySem.W.fnOf n n (defArgs st) (defBody st) (defScope st) .none kV doc pm an cdv ct) ⟨us, []⟩ = pure (ps.zip us) := by
      intro _ _ _ _ _ _ us hl; first | (obtain ⟨_, rfl⟩ := len1 hl; rfl) | (obtain ⟨_, _, rfl⟩ := len2 hl; rfl) | (obtain ⟨_, _, _, rfl⟩ := len3 hl; rfl) | (obtain ⟨_, _, _, _, rfl⟩ := len4 hl; rfl) | (obtain ⟨_, _, _, _, _, rfl⟩ := len5 hl; rfl) | (obtain rfl := len0 hl; rfl)) : Own.Has P w K mg base n ps (k + 1) sp := by
  obtain ⟨h, x, g⟩ := X
  exact has_mk x g d (fun f fd F => F.ok S len fun cdv A outer s H vs Q E => hbody f cdv A outer s H vs Q E S.nd) b
end
inductive spLaw (K : PySem.W.Frag) (vs : List V) (H : Hp) (Q : VK) (E : XK) : Prop
  | mk (a : Addr) (ns : List Int) : vs = [.ref a] → SqL K H a (ns.map V.int) → ns.length ≤ 63 → (∀ H', Q (.bl true) H') → spLaw K vs H Q E
structure Cn where
  P : Program
  w : World
  K : PySem.W.Frag
  mg : Str → Option Value
  base : Heap
instance : Nonempty Cn := ⟨⟨default, ⟨fun _ _ => 0, { strHash := fun _ => 0, shareClass := id, mergeTok := id, idOf := fun _ => 0, idOfShared := fun _ _ => 0, followText := fun _ => true, idOfImm := fun _ => 0 }⟩, default, fun _ => none, default⟩⟩
section
variable {X : Cx} {e : Expr} {es : List Expr} {te : TE} {t : TA} {p pos pos' : Pos} {x : Str}
theorem pf {j k : Nat} {ps : List Str} {sp : Sp} (h : Own.Has X.prog X.w X.K X.mg X.base x ps j sp) (hr : Room k X.A) (ha : PA X (e :: es) t) (hj : j ≤ k := by decide) (hg : Gl X x := by rfl)
    (hdb : (x == ("__debug__" : Str)) = false := by decide) (he : starEach (e :: es) X.env = (false, eval e X.env) :: starEach es X.env := by rfl) (hpl : (backTo pos (starEach es X.env)).any (·.1) = false := by rfl) :
    PE X (.Call (.Name x p) (e :: es) [] pos) (tCall sp [] E0 t) := Own.pe_has h (hr.mono hj) hg ha hdb he hpl
theorem pst (i : Nat) (hN : X.N.Nodup) (he : PE X e te) (hi : X.N[i]? = some x := by rfl) (hx : Loc X.env.scope x := by first | exact Or.inl rfl | exact Or.inr rfl) (hs : swapsWith e (some (.Name x pos')) pos.line X.env = pure false := by rfl)
    (hf : X.fn x = true ∨ X.env.scope.names.lookup x = some .local := by first | exact .inl rfl | exact .inr rfl) : PS X (.Assign [.Name x pos'] e pos) (tAsg te (gName i)) := ps_set hN hi hx he hs hf
theorem pgn (i : Nat) (hN : X.N.Nodup) (hi : X.N[i]? = some x := by rfl) (hx : Loc X.env.scope x := by first | exact Or.inl rfl | exact Or.inr rfl) (hf : X.fn x = true ∨ X.env.scope.names.lookup x = some .local := by first | exact .inl rfl | exact .inr rfl) : PG X (.Name x pos) (gName i) := pg_name hN hi hx hf
theorem pfor {tg iter : Expr} {body : List Stmt} {wi : TI} {g : TG} {tb : TS} (hi : PI X tg iter wi) (hg : PG X tg g) (hb : PSs X body tb) (hp : PassesOwn (model X.prog X.w) X.A X.env X.xe := by exact PassesOwn.never) (hc : X.calm = true := by rfl)
    (hs : ∀ x, foldedSetIterable iter X.env x = pure x := by intro _; rfl) : PS X (.For tg iter body [] pos) (tFor wi g tb) := ps_for hp hc hi hg hb hs
variable {a b c d : Expr} {ta tb tc td : TE}
theorem pix {r : R2} (hr : IxR X r) (ha : PE X a ta) (hb : PE X b tb) (hs : PlainIx b := by exact fun _ _ => rfl) : PE X (.Subscript a b pos) (tOp r ta tb) := pe_ix hr ha hb hs
theorem p1 (ha : PE X a ta) (h1 : starEach [a] X.env = (false, eval a X.env) :: starEach [] X.env := by rfl) : PA X [a] (tCons ta tNil) := pa_cons ha pa_nil h1
theorem p2 (ha : PE X a ta) (hb : PE X b tb) (h1 : starEach [a, b] X.env = (false, eval a X.env) :: starEach [b] X.env := by rfl) (h2 : starEach [b] X.env = (false, eval b X.env) :: starEach [] X.env := by rfl) : PA X [a, b] (tCons ta (tCons tb tNil)) := pa_cons ha (pa_cons hb pa_nil h2) h1
theorem nd1 {a : Str} : [a].Nodup := List.nodup_cons.mpr ⟨List.not_mem_nil, List.nodup_nil⟩
theorem nd2 {a b : Str} (h : a ≠ b) : [a, b].Nodup := List.nodup_cons.mpr ⟨fun m => h (List.mem_singleton.mp m), nd1⟩
theorem nd3 {a b c : Str} (h : a ≠ b) (h' : a ≠ c) (h2 : b ≠ c) : [a, b, c].Nodup := List.nodup_cons.mpr ⟨fun m => (List.mem_cons.mp m).elim h fun m => h' (List.mem_singleton.mp m), nd2 h2⟩
/-- a target of a comprehension -/
theorem pgc (i : Nat) (hN : X.N.Nodup := by first | exact nd1 | exact nd2 (by decide) | exact nd3 (by decide) (by decide) (by decide)) (hi : X.N[i]? = some x := by rfl) (hx : Loc X.env.scope x := by first | exact Or.inl rfl | exact Or.inr rfl) (hf : X.fn x = true ∨ X.env.scope.names.lookup x = some .local := by first | exact .inl rfl | exact .inr rfl) : PG X (.Name x pos) (gName i) := pg_name hN hi hx hf
section
variable {o : Expr} {to : TE} {r : V → List V → Hp → VK → Prop} {apos cpos : Pos}
theorem m_list {n : Str} {id : String} (slot : Slot "list" n id) (hty : typeOf (.builtin id) = pure (.type "method_descriptor")) (hm : MtR X id r) (ho : PE X o to) (ha : PA X (e :: es) t)
    (hbase : attributeBase o n X.env (eval o X.env) = eval o X.env := by rfl)
    (hfew : ((backTo cpos (starEach (e :: es) X.env)).all (fun x => !x.1) && (backToKw cpos (keywordEach [] X.env)).all (fun x => x.1.isSome)
      && decide ((e :: es).length + ([] : List Keyword).length + (if ([] : List Keyword).isEmpty then 0 else 1) < 30)) = true := by rfl)
    (hline : (apos.endLine == cpos.line) = true := by rfl) (hs : starEach (e :: es) X.env = (false, eval e X.env) :: starEach es X.env := by rfl) (hplain : (backTo cpos (starEach es X.env)).any (·.1) = false := by rfl) :
    PE X (.Call (.Attribute o n apos) (e :: es) [] cpos) (tBM X.K "list" r to t) := pe_bm PySem.F.plainAttrs_list slot hty hm ho ha hbase hfew hline hs hplain
end
end
theorem snoc {α : Type} {xs : List α} {x y : α} {i : Nat} (h : (xs ++ [x])[i]? = some y) : (i < xs.length ∧ xs[i]? = some y) ∨ (i = xs.length ∧ some x = some y) := by
  rcases Nat.lt_or_ge i xs.length with c | c
  · rw [List.getElem?_append_left c] at h
    exact .inl ⟨c, h⟩
  · have e : i = xs.length := by
      have := (List.getElem?_eq_some_iff.mp h).1
      rw [List.length_append, List.length_singleton] at this
      omega
    rw [e, List.getElem?_concat_length] at h
    exact .inr ⟨e, h⟩
end L2
set_option Elab.async false
set_option linter.all false
set_option maxRecDepth 100000
set_option maxHeartbeats 4000000
namespace L2
open PySem PySem.Spec PyProof.Rows
section
variable {X : Cx} {tg iter kx vx : Expr} {ifs : List Expr} {sc : Scope} {pos : Pos} {Nc : List Str} {js : List (Option Nat)} {wi : TI}
end
end L2
set_option Elab.async false
set_option linter.all false
set_option maxRecDepth 100000
set_option maxHeartbeats 4000000
namespace L2
open PySem PySem.Spec PyProof.Rows
section
variable {prog : Program} {w : World} {A : Around} {E : Value → Shared → Prop} {s : Shared} {z TI TO i1 i2 : Addr} {fp1 fp2 : List Addr} {n1 n2 j : Nat} {P1 P2 : Nat → Value → Prop} {S1 S2 : Nat → Heap → Prop} {a b : Value}
end
section
variable {X : Cx}
end
end L2
set_option Elab.async false
set_option linter.all false
set_option maxRecDepth 100000
set_option maxHeartbeats 4000000
namespace HT
open PySem PySem.Spec PyProof.Rows
section
variable {prog : Program} {w : World} {A : Around} {E : Value → Shared → Prop} {s : Shared}
end
end HT
namespace L2
open PySem PySem.Spec PyProof.Rows
section
variable {X : Cx}
/-- loops over zip -/
theorem for_zip {k1 k2 : Bool} {K : PySem.W.Frag} {a b : Addr} {xs ys : List V} {g : TG} {tb : TS} {D : Ends} {σ : St} {H : Hp} (Pv : Nat → St → Hp → Prop) (hxy : xs.length = ys.length) (h0 : Pv 0 σ H)
    (hl : ∀ i σ H, i ≤ xs.length → Pv i σ H → SqX K k1 H a xs ∧ SqX K k2 H b ys)
    (hs : ∀ i x y T σ H, xs[i]? = some x → ys[i]? = some y → H T = none → Pv i σ H → g (.ref T) σ (upd H T (.tup [x, y])) fun σ2 H2 => tb { D with nx := Pv (i + 1), ct := Pv (i + 1), bk := D.nx } σ2 H2) (hd : ∀ σ H, Pv xs.length σ H → D.nx σ H) :
    ∃ W : Nat → Nat → St → Hp → Prop, (∃ m, W 0 m σ H) ∧ ∀ i m σ H, W i m σ H →
      ((Itz k1 k2 K a b).stop i H ∧ D.nx σ H) ∨ ((Itz k1 k2 K a b).go i H ∧ ∃ N : St → Hp → Prop, (∀ σ' H', N σ' H' → ∃ m', m' < m ∧ W (i + 1) m' σ' H') ∧ ∀ x H', (Itz k1 k2 K a b).yld i H x H' → g x σ H' fun σ2 H2 => tb { D with nx := N, ct := N, bk := D.nx } σ2 H2) := by
  refine ⟨fun i m σ H => m = xs.length - i ∧ i ≤ xs.length ∧ Pv i σ H, ⟨xs.length, by simp, Nat.zero_le _, h0⟩, ?_⟩
  rintro i m σ H ⟨rfl, hle, p⟩
  obtain ⟨q1, q2⟩ := hl i σ H hle p
  by_cases hi : i < xs.length
  · refine .inr ⟨⟨xs, ys, xs[i], ys[i]'(by omega), q1, q2, by simp [hi], by simp [show i < ys.length by omega]⟩, Pv (i + 1), fun σ' H' q => ⟨xs.length - (i + 1), by omega, rfl, by omega, q⟩, fun x H' hy => ?_⟩
    obtain ⟨T, x1, x2, nT, rfl, e1, e2, rfl⟩ := hy
    exact hs i x1 x2 T σ H (e1 xs q1) (e2 ys q2) nT p
  · have : i = xs.length := by omega
    subst this
    exact .inl ⟨⟨xs, q1, rfl⟩, hd σ H p⟩
end
end L2
set_option Elab.async false
set_option linter.all false
set_option maxRecDepth 100000
set_option maxHeartbeats 4000000
namespace L2
open PySem PySem.Spec PyProof.Rows
section
variable {prog : Program} {w : World} {A : Around} {E : Value → Shared → Prop} {s : Shared}
end
theorem KV.at' {kvs : List (Key × V)} {vs : List (Key × Value)} (r : KV kvs vs) {i : Nat} {kv : Key × V} {p : Key × Value} (h1 : kvs[i]? = some kv) (h2 : vs[i]? = some p) : kv.1 = p.1 ∧ RelV kv.2 p.2 := by
  induction r generalizing i with
  | nil => simp at h1
  | cons h t ih =>
    cases i with
    | zero =>
      simp at h1 h2
      subst h1
      subst h2
      exact h
    | succ i => exact ih (by simpa using h1) (by simpa using h2)
section
variable {X : Cx}
end
end L2
set_option linter.all false
namespace L2
open PySem
section
variable {X : Cx}
theorem pe_mono {o : Expr} {td : TE} (ho : PE X o td) : PE X o (fun σ H Q => ∃ P : V → Hp → Prop, td σ H P ∧ ∀ x H1, P x H1 → Q x H1) := fun pins s σ H Q I ⟨P, h, m⟩ => thn (ho pins s σ H P I h) fun v s1 ⟨x, H1, I1, r1, q1⟩ => ⟨x, H1, I1, r1, m x H1 q1⟩
end
end L2
set_option linter.all false
set_option maxRecDepth 100000
namespace L2
open PySem PySem.Spec PyProof.Rows
def HoX (k : Bool) (xs : List V) : HO := match k with | true => .lst xs | false => .tup xs
def Itk (k : Bool) (K : PySem.W.Frag) (a : Addr) : It := match k with | true => Itl K a | false => Itt K a
theorem SqX.of {K : PySem.W.Frag} {k : Bool} {H : Hp} {a : Addr} {xs : List V} (h : H a = some (HoX k xs)) : SqX K k H a xs := by
  cases k
  · exact SqT.of h
  · exact SqL.of h
inductive iKY (k : Bool) (K : PySem.W.Frag) (R : It → Hp → Prop) (x : V) (H1 : Hp) : Prop
  | mk : ∀ a, (x = .ref a) → (∃ xs, SqX K k H1 a xs) → (R (Itk k K a) H1) → iKY k K R x H1
def iK (k : Bool) (K : PySem.W.Frag) (tl : TE) : TI := fun σ H R => tl σ H fun x H1 => iKY k K R x H1
section
variable {X : Cx} {tg : Expr}
theorem pi_k (k : Bool) {l : Expr} {tl : TE} (hl : PE X l tl) : PI X tg l (iK k X.K tl) := by
  intro pins s σ H R I h
  cases k
  · exact pi_tup (pe_mono hl) pins s σ H R I ⟨_, h, fun x H1 ⟨a, e, q, r⟩ => ⟨a, e, q, r⟩⟩
  · exact pi_list (pe_mono hl) pins s σ H R I ⟨_, h, fun x H1 ⟨a, e, q, r⟩ => ⟨a, e, q, r⟩⟩
end
end L2
set_option Elab.async false
set_option linter.all false
set_option maxRecDepth 100000
set_option maxHeartbeats 4000000
namespace L2
open PySem PySem.Spec PyProof.Rows
section
variable {X : Cx}
end
section
variable {X : Cx} {tg : Expr}
end
section
variable {X : Cx} {tg : Expr}
end
end L2
set_option Elab.async false
set_option linter.all false
set_option maxRecDepth 100000
set_option maxHeartbeats 4000000
namespace L2
open PySem PySem.Spec PyProof.Rows
section
variable {X : Cx}
end
section
variable {X : Cx} {tg : Expr}
end
end L2
set_option linter.all false
namespace Txs
open PySem PySem.Builtin PySem.Builtin.Str PySem.StrLaws
/-- a text of these signs -/
def tx (l : List Nat) : Str := ⟨l.toArray⟩
theorem tx_list (z : Str) : tx z.cps.toList = z := by
  cases z
  simp [tx]
/-- the parts between the c's -/
def spl (c : Nat) : List Nat → List (List Nat)
  | [] => [[]]
  | a :: r => if a = c then [] :: spl c r else match spl c r with
    | [] => [[a]]
    | p :: q => (a :: p) :: q
theorem spl_line (c : Nat) : ∀ (a r : List Nat), c ∉ a → spl c (a ++ c :: r) = a :: spl c r
  | [], r, _ => by
    show (if c = c then [] :: spl c r else _) = _
    rw [if_pos rfl]
  | x :: a, r, h => by
    have hx : ¬ x = c := fun z => h (z ▸ List.mem_cons_self)
    show (if x = c then [] :: spl c (a ++ c :: r) else match spl c (a ++ c :: r) with | [] => [[x]] | p :: q => (x :: p) :: q) = _
    rw [if_neg hx, spl_line c a r fun z => h (List.mem_cons_of_mem _ z)]
/-- lines, each with its c behind it -/
theorem spl_lines (c : Nat) : ∀ (ls : List (List Nat)), (∀ l ∈ ls, c ∉ l) → spl c (ls.map (· ++ [c])).flatten = ls ++ [[]]
  | [], _ => rfl
  | a :: r, h => by
    rw [List.map_cons, List.flatten_cons, List.append_assoc]
    show spl c (a ++ c :: (r.map (· ++ [c])).flatten) = _
    rw [spl_line c a _ (h a List.mem_cons_self), spl_lines c r fun l hl => h l (List.mem_cons_of_mem _ hl)]
    rfl
end Txs
set_option linter.all false
namespace L2
open PySem PySem.Spec PyProof.Rows
@[irreducible] def PAi (X : Cx) (es : List Expr) (t : TA) : Prop := PA X es t
@[irreducible] def PSi (X : Cx) (st : Stmt) (t : TS) : Prop := PS X st t
@[irreducible] def PSsi (X : Cx) (l : List Stmt) (t : TS) : Prop := PSs X l t
section
variable {X : Cx} {es : List Expr} {t : TA}
end
section
variable {P : Program} {w : World} {K : PySem.W.Frag} {mg : Str → Option Value} {base : Heap}
end
section
variable {X : Cx}
end
end L2
set_option linter.all false
namespace L2
open PySem
def CnAt (K : PySem.W.Frag) (n : Str) (xs : List Int) : Prop := ∃ (f : Addr) (od : Option Addr) (its : Array Value) (c : Nat) (osl : Array (Option Value)), PySem.W.nsIn K mainGlobals n = some (some (.ref f)) ∧ K.lookup f = some ⟨.type "tuple", od, .seq its c, osl⟩ ∧ its.toList.map absV = xs.map fun x => some (V.int x)
theorem cn_mk {K : PySem.W.Frag} {n : Str} {xs : List Int} {f : Addr} {od : Option Addr} {its : Array Value} {c : Nat} {osl : Array (Option Value)} (a : PySem.W.nsIn K mainGlobals n = some (some (.ref f))) (l : K.lookup f = some ⟨.type "tuple", od, .seq its c, osl⟩) (v : its.toList.map absV = xs.map fun x => some (V.int x)) : CnAt K n xs := ⟨f, od, its, c, osl, a, l, v⟩
def CvAt (K : PySem.W.Frag) (n : Str) (v : V) : Prop := ∃ u : Value, PySem.W.nsIn K mainGlobals n = some (some u) ∧ absV u = some v
theorem cv_mk {K : PySem.W.Frag} {n : Str} {v : V} {u : Value} (a : PySem.W.nsIn K mainGlobals n = some (some u)) (e : absV u = some v) : CvAt K n v := ⟨u, a, e⟩
end L2
set_option Elab.async false
set_option linter.all false
set_option maxRecDepth 100000
set_option maxHeartbeats 4000000
namespace Hsh
set_option autoImplicit false
open PySem PySem.Spec PyProof.Rows
/-- the hash of a pair, brought above nought -/
def hp (p q : Nat) : Nat := (reduceHash (Builtin.Tuple.tupleHashOf [hashInt (p : Int), hashInt (q : Int)]) + 2 ^ 63).toNat
def all : List Nat := (List.range 1764).map fun i => hp (i / 42) (i % 42)
end Hsh
set_option Elab.async false
set_option linter.all false
set_option maxRecDepth 100000
set_option maxHeartbeats 4000000
namespace Dct
set_option autoImplicit false
open PySem PySem.Spec PyProof.Rows
section
variable {prog : Program} {w : World} {A : Around} {E : Value → Shared → Prop} {s : Shared} {κ : Type} [DecidableEq κ] {kd : KeyKind prog w κ}
end
end Dct
set_option Elab.async false
set_option linter.all false
set_option maxRecDepth 100000
set_option maxHeartbeats 4000000
namespace Dcl
open PySem PySem.Spec PyProof.Rows L2
section
variable {prog : Program} {w : World} {A : Around} {E : Value → Shared → Prop} {s : Shared}
end
section
variable {X : Cx} {pins : List (Addr × Obj)} {σ : L2.St} {A : Around} {R : Result → Shared → Prop}
end
end Dcl
set_option Elab.async false
set_option linter.all false
set_option maxRecDepth 100000
set_option maxHeartbeats 4000000
namespace Dcl
open PySem PySem.Spec PyProof.Rows L2
section
variable {prog : Program} {w : World} {A : Around} {E : Value → Shared → Prop} {s : Shared}
end
end Dcl
set_option Elab.async false
set_option linter.all false
set_option maxRecDepth 100000
set_option maxHeartbeats 4000000
namespace Dcl
open PySem PySem.Spec PyProof.Rows L2
section
variable {prog : Program} {w : World} {A : Around} {E : Value → Shared → Prop} {s : Shared} {z TI TO i1 i2 T : Addr} {fp1 fp2 : List Addr} {n1 n2 j : Nat} {P1 P2 : Nat → Value → Prop} {S1 S2 : Nat → Heap → Prop} {f1 : Bool}
end
end Dcl
set_option Elab.async false
set_option linter.all false
set_option maxRecDepth 100000
set_option maxHeartbeats 4000000
namespace Dcl
open PySem PySem.Spec PyProof.Rows L2
section
variable {prog : Program} {w : World} {A : Around} {E : Value → Shared → Prop} {s : Shared} {a b z TI TO i1 i2 : Addr} {j : Nat} {xs ys : Array Value}
end
section
variable {X : Cx} {pins : List (Addr × Obj)} {σ : L2.St} {A : Around} {R : Result → Shared → Prop}
end
section
variable {X : Cx}
end
end Dcl
set_option linter.all false
namespace Dcl
open PySem L2
section
variable {ps : List (Key × V)}
end
end Dcl
set_option linter.all false
set_option Elab.async false
namespace Pic
open PySem Txs
def SG : List Nat := [97, 98, 99, 100, 101, 102, 103, 104, 105, 106, 107, 108, 109, 110, 111, 112, 113, 114, 115, 116, 117, 118, 119, 120, 121, 122, 65, 66, 67, 68, 69, 70, 71, 72, 73, 74, 75, 76, 77, 78]
theorem sg_nd : SG.Nodup := by decide
theorem sg_len : SG.length = 40 := rfl
theorem sg_at {i : Nat} (h : i < 40) : SG[i]? = some (SG.getD i 0) := by
  rw [List.getD_eq_getElem?_getD, List.getElem?_eq_getElem (by rw [sg_len]; exact h)]
  rfl
theorem sg_mem {i : Nat} (h : i < 40) : SG.getD i 0 ∈ SG := List.mem_of_getElem? (sg_at h)
theorem sg_inj {i j : Nat} (hi : i < 40) (hj : j < 40) (h : SG.getD i 0 = SG.getD j 0) : i = j := by
  have a := sg_at hi
  have b := sg_at hj
  rw [h, ← b] at a
  have := (List.getElem?_inj (by rw [sg_len]; exact hi) sg_nd).mp a
  exact this
theorem sg_lt {c : Nat} (h : c ∈ SG) : c < 128 ∧ c ≠ 10 ∧ c ≠ 46 := by
  revert c
  decide
abbrev Pl := List (Nat × Nat)
def cell (ps : Pl) (x y : Nat) : Nat := if (x, y) ∈ ps then SG.getD (ps.idxOf (x, y)) 0 else 46
theorem cell_miss {ps : Pl} {x y : Nat} (h : (x, y) ∉ ps) : cell ps x y = 46 := if_neg h
theorem idx_at {ps : Pl} (nd : ps.Nodup) {i : Nat} {a : Nat × Nat} (h : ps[i]? = some a) : ps.idxOf a = i := by
  obtain ⟨hi, e⟩ := List.getElem?_eq_some_iff.mp h
  subst e
  exact List.Nodup.idxOf_getElem nd i hi
theorem cell_at {ps : Pl} (nd : ps.Nodup) {i x y : Nat} (h : ps[i]? = some (x, y)) : cell ps x y = SG.getD i 0 := by
  unfold cell
  rw [if_pos (List.mem_of_getElem? h), idx_at nd h]
theorem cell_cases (ps : Pl) (nd : ps.Nodup) (x y : Nat) : ((x, y) ∉ ps ∧ cell ps x y = 46) ∨ ∃ i, ps[i]? = some (x, y) ∧ cell ps x y = SG.getD i 0 := by
  by_cases m : (x, y) ∈ ps
  · obtain ⟨i, hi, e⟩ := List.getElem_of_mem m
    have : ps[i]? = some (x, y) := by rw [List.getElem?_eq_getElem hi, e]
    exact .inr ⟨i, this, cell_at nd this⟩
  · exact .inl ⟨m, cell_miss m⟩
/-- the places of a picture -/
structure Ok (ps : Pl) : Prop where
  nd : ps.Nodup
  few : ps.length ≤ 40
  lo : 3 ≤ ps.length
  x : ∀ p ∈ ps, p.1 ≤ 76
  y : ∀ p ∈ ps, p.2 ≤ 40
theorem cell_ok {ps : Pl} (o : Ok ps) (x y : Nat) : cell ps x y < 128 ∧ cell ps x y ≠ 10 := by
  rcases cell_cases ps o.nd x y with ⟨_, e⟩ | ⟨i, h, e⟩
  · rw [e]; decide
  · have hi := (List.getElem?_eq_some_iff.mp h).1
    have := o.few
    have := sg_lt (sg_mem (i := i) (by omega))
    rw [e]
    exact ⟨this.1, this.2.1⟩
/-- the greatest of both -/
structure Bx (ps : Pl) (W h : Nat) : Prop where
  xm : ∃ p ∈ ps, p.1 = W
  xl : ∀ p ∈ ps, p.1 ≤ W
  ym : ∃ p ∈ ps, p.2 = h
  yl : ∀ p ∈ ps, p.2 ≤ h
theorem Bx.uniq {ps : Pl} {W h W' h' : Nat} (a : Bx ps W h) (b : Bx ps W' h') : W = W' ∧ h = h' := by
  obtain ⟨p, hp, rfl⟩ := a.xm
  obtain ⟨q, hq, rfl⟩ := b.xm
  obtain ⟨r, hr, rfl⟩ := a.ym
  obtain ⟨t, ht, rfl⟩ := b.ym
  have := a.xl _ hq
  have := b.xl _ hp
  have := a.yl _ ht
  have := b.yl _ hr
  omega
theorem Bx.le {ps : Pl} {W h : Nat} (o : Ok ps) (a : Bx ps W h) : W ≤ 76 ∧ h ≤ 40 := by
  obtain ⟨p, hp, rfl⟩ := a.xm
  obtain ⟨r, hr, rfl⟩ := a.ym
  exact ⟨o.x _ hp, o.y _ hr⟩
def line (ps : Pl) (W y : Nat) : List Nat := (List.range (W + 1)).map fun x => cell ps x y
def lines (ps : Pl) (W h : Nat) : List (List Nat) := (List.range (h + 1)).map fun i => line ps W (h - i)
def pic (ps : Pl) (W h : Nat) : List Nat := ((lines ps W h).map (· ++ [10])).flatten
theorem line_len (ps : Pl) (W y : Nat) : (line ps W y).length = W + 1 := by simp [line]
theorem lines_len (ps : Pl) (W h : Nat) : (lines ps W h).length = h + 1 := by simp [lines]
theorem line_at {ps : Pl} {W y x : Nat} (h : x < W + 1) : (line ps W y)[x]? = some (cell ps x y) := by
  unfold line
  rw [List.getElem?_map, List.getElem?_range h]
  rfl
theorem lines_at {ps : Pl} {W h i : Nat} (hi : i < h + 1) : (lines ps W h)[i]? = some (line ps W (h - i)) := by
  unfold lines
  rw [List.getElem?_map, List.getElem?_range hi]
  rfl
theorem lines_rev {ps : Pl} {W h y : Nat} (hy : y < h + 1) : (lines ps W h).reverse[y]? = some (line ps W y) := by
  rw [List.getElem?_reverse (by rw [lines_len]; exact hy), lines_len, lines_at (by omega)]
  congr 2
  omega
theorem line_ok {ps : Pl} (o : Ok ps) {W y : Nat} : ∀ c ∈ line ps W y, c < 128 ∧ c ≠ 10 := by
  intro c hc
  obtain ⟨x, _, rfl⟩ := List.mem_map.mp hc
  exact cell_ok o x y
theorem pic_spl {ps : Pl} (o : Ok ps) (W h : Nat) : spl 10 (pic ps W h) = lines ps W h ++ [[]] := by
  refine spl_lines 10 _ fun l hl z => ?_
  obtain ⟨i, _, rfl⟩ := List.mem_map.mp hl
  exact (line_ok o 10 z).2 rfl
/-- the places read, row by row, up to (x, y) -/
structure Scan (ps : Pl) (y x : Nat) (D : List Nat) : Prop where
  nd : D.Nodup
  mem : ∀ p, p ∈ D ↔ ∃ a b, ps[p]? = some (a, b) ∧ (b < y ∨ b = y ∧ a < x)
theorem Scan.start (ps : Pl) : Scan ps 0 0 [] := ⟨List.nodup_nil, fun p => ⟨fun z => (nomatch z), fun ⟨_, _, _, z⟩ => by omega⟩⟩
theorem Scan.hit {ps : Pl} (nd : ps.Nodup) {y x : Nat} {D : List Nat} (s : Scan ps y x D) {p : Nat} (h : ps[p]? = some (x, y)) : p ∉ D ∧ Scan ps y (x + 1) (D ++ [p]) := by
  have n : p ∉ D := fun z => by
    obtain ⟨a, b, e, c⟩ := (s.mem p).mp z
    rw [h] at e
    cases e
    omega
  refine ⟨n, ?_, fun q => ?_⟩
  · rw [List.nodup_append]
    exact ⟨s.nd, by simp, fun a ha b hb z => n (by rw [List.mem_singleton] at hb; rw [← hb, ← z]; exact ha)⟩
  · rw [List.mem_append, List.mem_singleton, s.mem]
    constructor
    · rintro (⟨a, b, e, c⟩ | rfl)
      · exact ⟨a, b, e, by omega⟩
      · exact ⟨x, y, h, by omega⟩
    · rintro ⟨a, b, e, c⟩
      by_cases z : b = y ∧ a = x
      · obtain ⟨rfl, rfl⟩ := z
        right
        rw [← idx_at nd e, ← idx_at nd h]
      · left
        exact ⟨a, b, e, by omega⟩
theorem Scan.row {ps : Pl} {y W : Nat} {D : List Nat} (s : Scan ps y (W + 1) D) (h : ∀ p ∈ ps, p.1 ≤ W) : Scan ps (y + 1) 0 D := by
  refine ⟨s.nd, fun q => ?_⟩
  rw [s.mem]
  constructor
  · rintro ⟨a, b, e, c⟩
    exact ⟨a, b, e, by omega⟩
  · rintro ⟨a, b, e, c⟩
    have : a ≤ W := h _ (List.mem_of_getElem? e)
    exact ⟨a, b, e, by omega⟩
theorem Scan.end {ps : Pl} {h : Nat} {D : List Nat} (s : Scan ps (h + 1) 0 D) (hl : ∀ p ∈ ps, p.2 ≤ h) : D.Perm (List.range ps.length) := by
  refine (List.perm_ext_iff_of_nodup s.nd List.nodup_range).mpr fun p => ?_
  rw [s.mem, List.mem_range]
  constructor
  · rintro ⟨a, b, e, _⟩
    exact (List.getElem?_eq_some_iff.mp e).1
  · intro hp
    refine ⟨ps[p].1, ps[p].2, List.getElem?_eq_getElem hp, ?_⟩
    have := hl _ (List.getElem_mem hp)
    omega
end Pic
set_option linter.all false
set_option Elab.async false
namespace Pic
def code (h : Nat) (p : Nat × Nat) : Nat := p.1 * (h + 1) + p.2
/-- a free place's code -/
theorem free {W h : Nat} {ps : Pl} (few : ps.length < (W + 1) * (h + 1)) : ∃ f, f < (W + 1) * (h + 1) ∧ ∀ p ∈ ps, code h p ≠ f := by
  refine Classical.byContradiction fun n => ?_
  have all : List.range ((W + 1) * (h + 1)) ⊆ ps.map (code h) := fun c hc => by
    refine Classical.byContradiction fun m => n ⟨c, List.mem_range.mp hc, fun p hp e => m (List.mem_map.mpr ⟨p, hp, e⟩)⟩
  have := List.Nodup.length_le_of_subset List.nodup_range all
  rw [List.length_range, List.length_map] at this
  omega
/-- how far it is -/
def far (N f e : Nat) : Nat := if e ≤ f then f - e else f + N - e
end Pic
set_option Elab.async false
set_option linter.all false
set_option maxRecDepth 100000
set_option maxHeartbeats 4000000
namespace L2
open PySem PySem.Spec PyProof.Rows
theorem walk_enum {k : Bool} {K : PySem.W.Frag} {a : Addr} {xs : List V} {g : TG} {b : TB} {N0 : St → Hp → Prop} {σ : St} {H : Hp} (Pv : Nat → St → Hp → Prop) (h0 : Pv 0 σ H) (hl : ∀ i σ H, i ≤ xs.length → Pv i σ H → SqX K k H a xs)
    (hs : ∀ i x T σ H, xs[i]? = some x → H T = none → Pv i σ H → g (.ref T) σ (upd H T (.tup [.int i, x])) fun σ2 H2 => b (Pv (i + 1)) σ2 H2) (hd : ∀ σ H, Pv xs.length σ H → N0 σ H) : tWalk (Ite k K a) g b N0 σ H := by
  refine ⟨fun i m σ H => m = xs.length - i ∧ i ≤ xs.length ∧ Pv i σ H, ⟨xs.length, by simp, Nat.zero_le _, h0⟩, ?_⟩
  rintro i m σ H ⟨rfl, hle, p⟩
  have q1 := hl i σ H hle p
  rcases Nat.lt_or_ge i xs.length with hi | hi
  · refine .inr ⟨⟨xs, xs[i], q1, by simp [hi]⟩, Pv (i + 1), fun σ' H' q => ⟨xs.length - (i + 1), by omega, rfl, by omega, q⟩, fun x H' hy => ?_⟩
    obtain ⟨T, x1, nT, rfl, e1, rfl⟩ := hy
    exact hs i x1 T σ H (e1 xs q1) nT p
  · obtain rfl : i = xs.length := by omega
    exact .inl ⟨⟨xs, q1, rfl⟩, hd σ H p⟩
end L2
set_option Elab.async false
set_option linter.all false
set_option maxRecDepth 100000
set_option maxHeartbeats 4000000
namespace Dct
set_option autoImplicit false
open PySem PySem.Spec PyProof.Rows
end Dct
namespace L2
open PySem PySem.Spec PyProof.Rows
section
variable {X : Cx} {pins : List (Addr × Obj)} {σ : St} {H : Hp} {s : Shared} {a : Addr} {y v : V} {u r : Value} {o : Option V} {A : Around} {E : Value → Shared → Prop}
end
section
variable {X : Cx} {tg iter kx vx : Expr} {ifs : List Expr} {sc : Scope} {pos : Pos} {Nc : List Str} {js : List (Option Nat)} {wi : TI}
end
end L2
set_option linter.all false
set_option maxRecDepth 100000
namespace HT
open PySem PySem.Spec PyProof.Rows
section
variable {M : Model} {A : Around} {E : Value → Shared → Prop} {s : Shared}
/-- the frame of a comprehension that has cells of its own -/
theorem nfe_own {scope : Scope} {globals : Addr} {closure : List (Str × Addr)} {qual : Str} {func : Option Addr} {code : Value} {outer : Env} {builtins : Addr} {Q : Env → Shared → Prop}
    (hQ : Q (newEnv scope s.heap.objs.size globals (cellsFrom (s.heap.objs.size + 1) scope.names closure) qual func code (some outer) builtins)
      { s with heap := pushCells (s.heap.push { cls := .type "dict", data := .dict #[] }) scope.names }) :
    wpAny M A (newFunctionEnv scope globals closure [] qual func code (some outer) builtins) Q E s := by
  simp only [newFunctionEnv, Option.isSome_some, if_true]
  refine wpAny_bind (wpAny_alloc ?_)
  refine wpAny_bind (wpAny_layCells _ (fun name kind cells => by cases hkc : kind == NameKind.cell <;> simp [hkc]) _ _ _ _ ?_)
  rw [show ({ s with heap := s.heap.push { cls := .type "dict", data := .dict #[] } } : Shared).heap.objs.size = s.heap.objs.size + 1 from Heap.size_push ..]
  refine wpAny_bind (wpAny_pure (wpAny_pure ?_))
  exact hQ
end
end HT
set_option linter.all false
set_option maxRecDepth 100000
namespace HT
open PySem PySem.Spec PyProof.Rows
/-- a name's cell is a new one, if it is the block's own, else the one that it was -/
theorem cells_of : ∀ (names : List (Str × NameKind)) (lo : Nat) (acc : List (Str × Addr)) (x : Str) (c : Addr), (cellsFrom lo names acc).lookup x = some c → (lo ≤ c ∧ (x, NameKind.cell) ∈ names) ∨ acc.lookup x = some c
  | [], _, _, _, _, h => .inr h
  | (n, k) :: r, lo, acc, x, c, h => by
    unfold cellsFrom at h
    split at h
    · rename_i hk
      have hk : k = .cell := by simpa using hk
      rcases cells_of r (lo + 1) _ x c h with ⟨a, b⟩ | b
      · exact .inl ⟨by omega, List.mem_cons_of_mem _ b⟩
      · rw [List.lookup_cons] at b
        cases e : x == n with
        | true =>
          rw [e] at b
          cases b
          rw [beq_iff_eq.mp e, hk]
          exact .inl ⟨Nat.le_refl _, List.mem_cons_self⟩
        | false =>
          rw [e] at b
          exact .inr b
    · rcases cells_of r lo acc x c h with ⟨a, b⟩ | b
      · exact .inl ⟨a, List.mem_cons_of_mem _ b⟩
      · exact .inr b
/-- one that is none of the block's own stays -/
theorem cells_keep : ∀ (names : List (Str × NameKind)) (lo : Nat) (acc : List (Str × Addr)) (x : Str), (x, NameKind.cell) ∉ names → (cellsFrom lo names acc).lookup x = acc.lookup x
  | [], _, _, _, _ => rfl
  | (n, k) :: r, lo, acc, x, h => by
    have hr : (x, NameKind.cell) ∉ r := fun z => h (List.mem_cons_of_mem _ z)
    unfold cellsFrom
    split
    · rename_i hk
      have hk : k = .cell := by simpa using hk
      rw [cells_keep r _ _ x hr, List.lookup_cons]
      cases e : x == n with
      | true =>
        rw [beq_iff_eq.mp e, hk] at h
        exact absurd List.mem_cons_self h
      | false => rfl
    · exact cells_keep r _ _ x hr
/-- each of the block's own has one -/
theorem cells_has : ∀ (names : List (Str × NameKind)) (lo : Nat) (acc : List (Str × Addr)) (x : Str), (x, NameKind.cell) ∈ names ∨ (∃ c, acc.lookup x = some c) → ∃ c, (cellsFrom lo names acc).lookup x = some c
  | [], _, _, _, h => h.elim (fun z => nomatch z) id
  | (n, k) :: r, lo, acc, x, h => by
    unfold cellsFrom
    split
    · refine cells_has r _ _ x ?_
      by_cases e : x = n
      · subst e
        exact .inr ⟨lo, by rw [List.lookup_cons]; simp⟩
      · rcases h with h | ⟨c, h⟩
        · rcases List.mem_cons.mp h with z | z
          · exact absurd (congrArg Prod.fst z) e
          · exact .inl z
        · refine .inr ⟨c, ?_⟩
          rw [List.lookup_cons, show (x == n) = false by simpa using e]
          exact h
    · rename_i hk
      refine cells_has r _ _ x ?_
      rcases h with h | h
      · rcases List.mem_cons.mp h with z | z
        · have z2 : NameKind.cell = k := congrArg Prod.snd z
          exact absurd (by rw [← z2]; rfl) hk
        · exact .inl z
      · exact .inr h
/-- two names have two cells -/
theorem cells_inj : ∀ (names : List (Str × NameKind)) (lo : Nat) (acc : List (Str × Addr)), (∀ x c, acc.lookup x = some c → c < lo) → (∀ x y c, acc.lookup x = some c → acc.lookup y = some c → x = y) →
    ∀ x y c, (cellsFrom lo names acc).lookup x = some c → (cellsFrom lo names acc).lookup y = some c → x = y
  | [], _, _, _, h, x, y, c, e1, e2 => h x y c e1 e2
  | (n, k) :: r, lo, acc, hl, h, x, y, c, e1, e2 => by
    unfold cellsFrom at e1 e2
    split at e1
    · rename_i hk
      rw [if_pos hk] at e2
      have look : ∀ z d, ((n, lo) :: acc).lookup z = some d → (z = n ∧ d = lo) ∨ (z ≠ n ∧ acc.lookup z = some d) := fun z d q => by
        rw [List.lookup_cons] at q
        cases e : z == n with
        | true =>
          rw [e] at q
          cases q
          exact .inl ⟨beq_iff_eq.mp e, rfl⟩
        | false =>
          rw [e] at q
          exact .inr ⟨by simpa using e, q⟩
      refine cells_inj r (lo + 1) ((n, lo) :: acc) (fun z d q => ?_) (fun z z' d q q' => ?_) x y c e1 e2
      · rcases look z d q with ⟨_, b⟩ | ⟨_, b⟩
        · rw [b]; exact Nat.lt_succ_self _
        · exact Nat.lt_succ_of_lt (hl z d b)
      · rcases look z d q with ⟨a, b⟩ | ⟨a, b⟩ <;> rcases look z' d q' with ⟨a', b'⟩ | ⟨a', b'⟩
        · rw [a, a']
        · exact absurd (hl z' d b') (by rw [b]; exact Nat.lt_irrefl _)
        · exact absurd (hl z d b) (by rw [b']; exact Nat.lt_irrefl _)
        · exact h z z' d b b'
    · rename_i hk
      rw [if_neg hk] at e2
      exact cells_inj r lo acc hl h x y c e1 e2
end HT
set_option linter.all false
set_option maxRecDepth 100000
set_option maxHeartbeats 4000000
namespace HT
open PySem PySem.Spec PyProof.Rows
/-- the cell of one of the block's own is new -/
theorem cells_own : ∀ (names : List (Str × NameKind)) (lo : Nat) (acc : List (Str × Addr)) (x : Str) (c : Addr), (x, NameKind.cell) ∈ names → (cellsFrom lo names acc).lookup x = some c → lo ≤ c
  | (n, k) :: r, lo, acc, x, c, m, h => by
    unfold cellsFrom at h
    by_cases mr : (x, NameKind.cell) ∈ r
    · split at h
      · exact Nat.le_of_succ_le (cells_own r (lo + 1) _ x c mr h)
      · exact cells_own r lo acc x c mr h
    · rcases List.mem_cons.mp m with z | z
      · injection z with z1 z2
        subst z1 z2
        rw [if_pos (by rfl), cells_keep r _ _ x mr, List.lookup_cons] at h
        simp at h
        exact Nat.le_of_eq h
      · exact absurd z mr
end HT
namespace L2
open PySem PySem.Spec PyProof.Rows
/-- a comprehension's scope, perhaps with cells of its own -/
structure CS2 (sc S0 : Scope) : Prop where
  kind : sc.kind = .function
  names : ∀ y ∈ sc.names, y.2 = .local → sc.names.lookup y.1 = some .local
  own : ∀ y ∈ sc.names, y.2 = .cell → sc.names.lookup y.1 = some .cell
  nof : ∀ x, sc.names.lookup x = some .free → (x, NameKind.cell) ∉ sc.names
  free : ∀ y ∈ sc.names, y.2 = .free → S0.names.lookup y.1 = some .cell
def cxD (X : Cx) (Nc : List Str) (sc : Scope) (C : Addr) (s₂ : Shared) (H₂ : Hp) (fp : List Addr) (pins : List (Addr × Obj)) : Cx :=
  { X with N := Nc, s₀ := s₂, H₀ := H₂, env := compEnvC sc (cellsFrom (C + 1) sc.names (clOf sc X.env)) C X.env, outer := X.stack, ex := fp, fn := fun x => decide ((x, NameKind.cell) ∈ sc.names), pn := X.pn ++ pins }
section
variable {X : Cx} {pins : List (Addr × Obj)} {σ : St} {H : Hp} {s : Shared} {sc : Scope} {Nc : List Str} {js : List (Option Nat)} {fp : List Addr}
theorem ok_comp2 (I : Inv X pins σ H s) (S : CS2 sc X.env.scope) (f : ∀ b ∈ fp, FpOk X pins H b) (hlt : ∀ b ∈ fp, b < s.heap.objs.size) {C : Addr} (hC : s.heap.objs.size ≤ C) : (cxD X Nc sc C s H fp pins).Ok := by
  have inX : ∀ x c, (clOf sc X.env).lookup x = some c → X.env.cells.lookup x = some c := fun x c e => cl_in sc.names [] (fun z => nomatch z) e
  have low : ∀ x c, (clOf sc X.env).lookup x = some c → c < C + 1 := fun x c e => by
    obtain ⟨v, ic⟩ := I.cell x c (inX x c e)
    exact Nat.lt_succ_of_lt (Nat.lt_of_lt_of_le ic.lt hC)
  refine ⟨I.ok.mod, S.kind, I.ok.glob, I.ok.blt, hC, HT.cells_inj sc.names (C + 1) _ low fun x y c e1 e2 => I.ok.inj x y c (inX x c e1) (inX y c e2), fun x hx => ?_, fun x c z e => ?_, I.ok.hd, I.ok.frames, .inl rfl, fun b hb => ⟨?_, fun x c e => ?_⟩, I.bs, Nat.le_trans I.ok.bsz I.sz, fun b o e hb => ?_, fun b hb hs => ?_, I.stack, I.stkFree⟩
  · have hx' : (sc.names.map (relOne X.env)).lookup x = some .cell ∨ (sc.names.map (relOne X.env)).lookup x = some .free := hx
    rw [rel_look] at hx'
    refine HT.cells_has sc.names (C + 1) _ x ?_
    cases e : sc.names.lookup x with
    | none => rw [e] at hx'; rcases hx' with z | z <;> cases z
    | some k =>
      rw [e] at hx'
      have m : (x, k) ∈ sc.names := PySem.mem_of_lookup e
      have kf : k = .free ∨ k = .cell := by
        unfold relOne at hx'
        by_cases hk : (k == NameKind.free) = true
        · exact .inl (by simpa using hk)
        · have hk' : (k == NameKind.free) = false := by simpa using hk
          simp only [hk', Bool.false_and, Option.map_some] at hx'
          rcases hx' with z | z
          · exact .inr (by simpa using z)
          · exact .inl (by simpa using z)
      rcases kf with rfl | rfl
      · have hx2 := S.free _ m rfl
        obtain ⟨c, hc⟩ := I.ok.has x (.inl hx2)
        exact .inr (cl_has sc.names [] ⟨c, hc⟩ (.inr m))
      · exact .inl m
  · exact Nat.le_trans hC (Nat.le_of_succ_le (HT.cells_own sc.names (C + 1) _ x c (of_decide_eq_true z) e))
  · exact Nat.ne_of_lt (Nat.lt_of_lt_of_le (hlt b hb) hC)
  · rcases HT.cells_of sc.names (C + 1) _ x c e with ⟨a, _⟩ | q
    · exact (Nat.ne_of_lt (Nat.lt_of_lt_of_le (hlt b hb) (Nat.le_trans hC (Nat.le_of_succ_le a)))).symm
    · exact (f b hb).2.2.2.2.1 x c (inX x c q)
  · obtain ⟨h0, h1, h2, h3, h4, h5⟩ := f b hb
    rcases h3 with z | z
    · exact I.ok.noex b o e z
    · exact absurd (Nat.lt_of_lt_of_le (Heap.lt_size (I.ok.bs b o e).1) z) (Nat.lt_irrefl _)
  · obtain ⟨h0, h1, h2, h3, h4, h5⟩ := f b hb
    rcases List.mem_cons.mp (I.stkSub b hs) with z | z
    · exact h1 z
    · exact h2 z
end
end L2
set_option linter.all false
set_option maxRecDepth 100000
set_option maxHeartbeats 4000000
namespace L2
open PySem PySem.Spec PyProof.Rows
section
variable {X : Cx} {pins : List (Addr × Obj)} {σ : St} {H : Hp} {s : Shared} {sc : Scope} {Nc : List Str} {js : List (Option Nat)} {fp : List Addr}
/-- the block begins: h₁ is the heap with the new object at D (tracked as o) and the block's names at C -/
theorem inv_comp2 (I : Inv X pins σ H s) (S : CS2 sc X.env.scope) (f : ∀ b ∈ fp, FpOk X pins H b) (hlt : ∀ b ∈ fp, b < s.heap.objs.size) (cap : capOk js Nc X.N sc.names = true) {C D : Addr} {o : HO} {h₁ : Heap} {m : Str → Option Value} {tk : Nat}
    (hC : s.heap.objs.size ≤ C) (hD : s.heap.objs.size ≤ D) (hDC : D < C) (hcl : ∀ x c, (x, NameKind.cell) ∈ sc.names → (cellsFrom (C + 1) sc.names (clOf sc X.env)).lookup x = some c → h₁.IsCell c none) (hk : ∀ b ob, s.heap.get? b = some ob → h₁.get? b = some ob) (hns : h₁.Ns C m) (new : ObjOk X.prog X.w (upd H D o) h₁ D o) :
    Inv (cxD X Nc sc C s H fp pins) [] (compSt js σ) (upd H D o) { s with heap := h₁, toks := tk } := by
  have inX : ∀ x c, (clOf sc X.env).lookup x = some c → X.env.cells.lookup x = some c := fun x c e => cl_in sc.names [] (fun z => nomatch z) e
  have fresh : ∀ a, s.heap.objs.size ≤ a → H a = none := fun a ha => I.hok.fresh ha
  obtain ⟨cl, cp⟩ := cap_of cap
  refine ⟨ok_comp2 I S f hlt hC, rfl, I.bare, Un.laid hk hD (fresh D hD), ⟨m, hns, fun i x v e1 e2 e3 => ?_⟩, fun x c e => ?_, ?_, fun x c e => ?_, fun p hp => ?_, I.hok.laid hk hD new, ?_⟩
  · -- a name of the frame's
    unfold compSt at e2
    rw [List.getElem?_map] at e2
    cases ej : js[i]? with
    | none => rw [ej] at e2; cases e2
    | some oj =>
      rw [ej] at e2
      cases oj with
      | none => cases e2
      | some j =>
        obtain ⟨hN, hfree⟩ := cp i j x ej e1
        have hv : σ[j]? = some (some v) := by
          simp only [Option.map_some, Option.bind_some, Option.some.injEq] at e2
          cases e : σ[j]? with
          | none => rw [e] at e2; cases e2
          | some w => rw [e] at e2; exact congrArg some e2
        have kc : X.env.kindOf x = some .cell := S.free _ (PySem.mem_of_lookup hfree) rfl
        obtain ⟨m', hn', hl⟩ := I.loc
        obtain ⟨u, r, lk⟩ := hl j x v hN hv (.inr (.inl kc))
        refine ⟨u, r, .inr ⟨.inl ?_, ?_⟩⟩
        · show (sc.names.map (relOne X.env)).lookup x = some .cell
          rw [rel_look, hfree]
          unfold relOne
          simp [I.ok.kind, kc]
        · rcases lk with ⟨z, _⟩ | ⟨_, c, hc, ic⟩
          · rw [kc] at z; cases z
          · obtain ⟨c', hc'⟩ := cl_has sc.names [] ⟨c, hc⟩ (.inr (PySem.mem_of_lookup hfree))
            have : c' = c := Option.some.inj ((inX x c' hc').symm.trans hc)
            subst this
            exact ⟨c', by show (cellsFrom (C + 1) sc.names (clOf sc X.env)).lookup x = some c'; rw [HT.cells_keep _ _ _ x (S.nof x hfree)]; exact hc', ic.keeps hk⟩
  · by_cases own : (x, NameKind.cell) ∈ sc.names
    · exact ⟨none, hcl x c own e⟩
    · have e' : (clOf sc X.env).lookup x = some c := by rw [← HT.cells_keep sc.names (C + 1) _ x own]; exact e
      obtain ⟨v, ic⟩ := I.cell x c (inX x c e')
      exact ⟨v, ic.keeps hk⟩
  · show upd H D o C = none
    rw [upd_ne (Nat.ne_of_lt hDC).symm]
    exact fresh C hC
  · by_cases own : (x, NameKind.cell) ∈ sc.names
    · have lo := HT.cells_own sc.names (C + 1) _ x c own e
      show upd H D o c = none
      rw [upd_ne (Nat.ne_of_lt (Nat.lt_trans hDC (Nat.lt_of_succ_le lo))).symm]
      exact fresh c (Nat.le_trans hC (Nat.le_of_succ_le lo))
    · have e' : (clOf sc X.env).lookup x = some c := by rw [← HT.cells_keep sc.names (C + 1) _ x own]; exact e
      have q := inX x c e'
      obtain ⟨v, ic⟩ := I.cell x c q
      show upd H D o c = none
      rw [upd_ne (Nat.ne_of_lt (Nat.lt_of_lt_of_le ic.lt hD))]
      exact I.freeC x c q
  · have hp' : p ∈ X.pn ++ pins := by
      rcases List.mem_append.mp hp with z | z
      · exact z
      · exact absurd z (by simp)
    obtain ⟨a1, a2, a3, a4, a5⟩ := I.pin p hp'
    have lt := Heap.lt_size a1
    refine ⟨hk _ _ a1, ?_, Nat.ne_of_lt (Nat.lt_of_lt_of_le lt hC), fun z => ?_, a5⟩
    · rw [upd_ne (Nat.ne_of_lt (Nat.lt_of_lt_of_le lt hD))]
      exact a2
    · rcases List.mem_cons.mp (I.stkSub _ z) with z | z
      · exact a3 z
      · exact a4 z
  · unfold compSt
    rw [List.length_map]
    exact cl
/-- the block ends: its names are let go (h' is as h but at C) -/
theorem inv_back2 {C : Addr} {σ' : St} {H' : Hp} {s' : Shared} {h' : Heap} (I : Inv X pins σ H s) (f : ∀ b ∈ fp, FpOk X pins H b) (hC : s.heap.objs.size ≤ C) (J : Inv (cxD X Nc sc C s H fp pins) [] σ' H' s') (hs : Heap.SameBut C s'.heap h') :
    Inv X pins σ H' { s' with heap := h' } := by
  have u := J.base
  have nC : H' C = none := J.free
  have stay : ∀ b ob, b ≠ C → s'.heap.get? b = some ob → h'.get? b = some ob := fun b ob hb e => hs.extBut b ob hb e
  have neC : ∀ b ob, s.heap.get? b = some ob → b ≠ C := fun b ob e => Nat.ne_of_lt (Nat.lt_of_lt_of_le (Heap.lt_size e) hC)
  refine I.call' (ch := fp) J.os ?_ (fun b v e => ?_) J.bare fun b hb => ⟨(f b hb).2.2.2.1, (f b hb).2.1, (f b hb).2.2.2.2.1, (f b hb).2.2.2.2.2⟩
  · refine ⟨fun b ob e n h1 h2 => stay b ob (neC b ob e) (u.keep b ob e n h1 h2), fun b ob e n h1 h2 => ?_, u.free, fun b ob e h2 => ?_, u.tups, u.frzs, u.tbls⟩
    · obtain ⟨sl, q⟩ := u.slot b ob e n h1 h2
      exact ⟨sl, stay b _ (neC b ob e) q⟩
    · obtain ⟨o', q⟩ := u.there b ob e h2
      exact ⟨o', stay b _ (neC b ob e) q⟩
  · have nb : ∀ c w, H' c = some w → c ≠ C := fun c w e z => by rw [z, nC] at e; cases e
    refine (J.hok b v e).stay (fun c w hc q => stay c w ?_ q) (fun _ q => q) fun _ _ q => q
    rcases hc with z | z
    · rw [z]; exact nb b v e
    · exact nb c _ z
end
end L2
set_option Elab.async false
set_option linter.all false
set_option maxRecDepth 100000
set_option maxHeartbeats 4000000
namespace HT
open PySem PySem.Spec PyProof.Rows
/-- the block's own cells hold nothing yet -/
theorem cells_none : ∀ (names : List (Str × NameKind)) (h : Heap) (acc : List (Str × Addr)) (x : Str) (c : Addr), (x, NameKind.cell) ∈ names → (cellsFrom h.objs.size names acc).lookup x = some c → (pushCells h names).IsCell c none := by
  intro names
  induction names with
  | nil => intro h acc x c m; cases m
  | cons p r ih =>
    obtain ⟨n, k⟩ := p
    intro h acc x c m e
    unfold cellsFrom at e
    unfold pushCells
    by_cases mr : (x, NameKind.cell) ∈ r
    · split at e
      · rename_i hk
        rw [if_pos hk]
        refine ih _ ((n, h.objs.size) :: acc) x c mr ?_
        rw [Heap.size_push]
        exact e
      · rename_i hk
        rw [if_neg hk]
        exact ih _ _ x c mr e
    · rcases List.mem_cons.mp m with z | z
      · injection z with z1 z2
        subst z1 z2
        rw [if_pos (by rfl), cells_keep r _ _ x mr, List.lookup_cons] at e
        simp at e
        subst e
        rw [if_pos (by rfl)]
        have q : (h.push { cls := .type "cell", data := .cell none }).IsCell h.objs.size none := by
          first
            | exact ⟨_, Heap.get?_push_size _ rfl, rfl⟩
            | exact ⟨_, Heap.get?_push_size _ rfl⟩
            | exact Heap.get?_push_size _ rfl
        exact q.keeps fun b o hb => pushCells_keeps r _ b o hb
      · exact absurd z mr
end HT
namespace L2
open PySem PySem.Spec PyProof.Rows
section
variable {X : Cx} {e tg iter el : Expr} {ifs : List Expr} {gens rest : List Comprehension} {sc : Scope} {pos : Pos} {Nc : List Str} {js : List (Option Nat)} {wi : TI}
/-- as pe_lc1x: the block may have cells of its own -/
theorem pe_lc1y {g : TG} {bd : Addr → TB} (hx : X.xe = fun _ _ => False) (hc : X.calm = true) (hi : PI X tg iter wi) (S : CS2 sc X.env.scope) (cap : capOk js Nc X.N sc.names = true)
    (hg : ∀ C s₂ H₂ fp pins, PG (cxD X Nc sc C s₂ H₂ fp pins) tg g)
    (hb : ∀ C s₂ H₂ fp pins D L, PTl (cxD X Nc sc C s₂ H₂ fp pins) (tailOf ifs (cxD X Nc sc C s₂ H₂ fp pins).env (do let _ ← call (.builtin "list.append") [.ref D, ← eval el (cxD X Nc sc C s₂ H₂ fp pins).env]) L) L (bd D))
    (hs : ∀ x, foldedSetIterable iter X.env x = pure x := by intro _; rfl) :
    PE X (.ListComp el [⟨tg, iter, ifs, 0⟩] sc pos) (tLC js wi g bd) := by
  intro pins s σ H Q I h
  rw [eval_ListComp]
  have hcl : closureFor sc X.env = pure (clOf sc X.env) := closure_of fun y hy hf => I.ok.has y.1 (.inl (S.free y hy hf))
  refine wpAny_comprehension_free (use := none) rfl hs hcl S.kind S.names (thn (hi pins s σ H _ I h) fun v s1 h1 => thn h1 fun itv s2 h2 => ?_)
  obtain ⟨it, fp, tn, J, H2, e, I2, T, st2, f2, hw⟩ := h2
  subst e
  have hlt : ∀ b ∈ fp, b < s2.heap.objs.size := fun b hb => let ⟨o, ho, _⟩ := T.obj _ _ st2 b hb; Heap.lt_size ho
  refine wpAny_newObj_type (HT.nfe_own ?_)
  dsimp only
  generalize hH2 : s2.heap.push { cls := .type "list", dict := none, data := .seq ([] : List Value).toArray } = G
  have hCs : G.objs.size = s2.heap.objs.size + 1 := by rw [← hH2, Heap.size_push]
  have hDC : s2.heap.objs.size < G.objs.size := by omega
  have hCle : s2.heap.objs.size ≤ G.objs.size := by omega
  generalize hh₁ : pushCells (G.push { cls := .type "dict", data := .dict #[] }) sc.names = h₁
  have old : ∀ b o, s2.heap.get? b = some o → h₁.get? b = some o := fun b o e => hh₁ ▸ pushCells_keeps sc.names _ b o (Heap.get?_push_of_some _ (hH2 ▸ Heap.get?_push_of_some _ e))
  have hacc : h₁.get? s2.heap.objs.size = some { cls := .type "list", dict := none, data := .seq ([] : List Value).toArray } := hh₁ ▸ pushCells_keeps sc.names _ _ _ (Heap.get?_push_of_some _ (hH2 ▸ Heap.get?_push_size _ rfl))
  have hns₁ : h₁.Ns G.objs.size fun _ => none := by
    obtain ⟨o, es, k, a, b⟩ := Heap.Ns.new G (.type "dict")
    exact ⟨o, es, k, hh₁ ▸ pushCells_keeps sc.names _ _ _ a, b⟩
  have hcl₁ : ∀ x c, (x, NameKind.cell) ∈ sc.names → (cellsFrom (G.objs.size + 1) sc.names (clOf sc X.env)).lookup x = some c → h₁.IsCell c none := fun x c m e => by
    rw [← hh₁]
    refine HT.cells_none sc.names _ (clOf sc X.env) x c m ?_
    rw [Heap.size_push]
    exact e
  have new : ObjOk X.prog X.w (upd H2 s2.heap.objs.size (.lst [])) h₁ s2.heap.objs.size (.lst []) := ⟨Nat.zero_le _, [], _, .nil, hacc⟩
  have I4 := inv_comp2 (js := js) (Nc := Nc) (tk := s2.toks) I2 S f2 hlt cap hCle (Nat.le_refl _) hDC hcl₁ old hns₁ new
  have hn : H2 s2.heap.objs.size = none := I2.fresh
  have f4 : ∀ b ∈ fp, FpOk (cxD X Nc sc G.objs.size s2 H2 fp pins) [] (upd H2 s2.heap.objs.size (.lst [])) b := fun b hb => by
    obtain ⟨h0, h1, h2, h3, h4, h5⟩ := f2 b hb
    refine ⟨?_, Nat.ne_of_lt (Nat.lt_of_lt_of_le (hlt b hb) hCle), fun z => ?_, .inl hb, fun x c z => ?_, fun p hp => ?_⟩
    · rw [upd_ne (Nat.ne_of_lt (hlt b hb))]; exact h0
    · rcases List.mem_cons.mp (I2.stkSub b z) with q | q
      · exact h1 q
      · exact h2 q
    · rcases HT.cells_of sc.names (G.objs.size + 1) _ x c z with ⟨a, _⟩ | q
      · exact (Nat.ne_of_lt (Nat.lt_of_lt_of_le (hlt b hb) (Nat.le_trans hCle (Nat.le_of_succ_le a)))).symm
      · exact h4 x c (cl_in sc.names [] (fun z => nomatch z) q)
    · rcases List.mem_append.mp hp with z | z
      · exact h5 p z
      · exact absurd z (by simp)
  have st4 : tn 0 h₁ := T.keep _ _ _ st2 fun b hb o e => old b o e
  have loop : codeAny (model X.prog X.w) X.A (.compLoop (.ListComp el [⟨tg, iter, ifs, 0⟩] sc pos) 0 (.ref it) (.ref s2.heap.objs.size) (compEnvC sc (cellsFrom (G.objs.size + 1) sc.names (clOf sc X.env)) G.objs.size X.env))
      (compPost (model X.prog X.w) X.A X.xe none (EP X pins σ Q) (.ref s2.heap.objs.size) G.objs.size) { s2 with heap := h₁, toks := s2.toks } := by
    refine comp_loop (X := cxD X Nc sc G.objs.size s2 H2 fp pins) (.inl ⟨el, rfl⟩) hx hc (turn_l1 _ _ _ _ _ _ _ _ _) T (hg _ _ _ _ _) (hb _ _ _ _ _ _ _) I4 st4 f4 (hw _ hn) fun σ' H' s' I' q => ?_
    obtain ⟨m', hm', _⟩ := I'.loc
    exact ⟨m', hm', fun h' hs' => ⟨.ref s2.heap.objs.size, H', inv_back2 I2 f2 hCle I' hs', rfl, q⟩⟩
  exact comp_start (.inl ⟨el, rfl⟩) rfl rfl loop (T.self _ _ _ _ _ st4 loop)
end
end L2
set_option linter.all false
set_option maxRecDepth 100000
set_option maxHeartbeats 4000000
namespace L2
open PySem PySem.Spec PyProof.Rows
def csOk2 (sc S0 : Scope) : Bool := (sc.names.all fun y => (y.2 != .local || sc.names.lookup y.1 == some .local) && (y.2 != .cell || sc.names.lookup y.1 == some .cell) && (y.2 != .free || S0.names.lookup y.1 == some .cell))
theorem CS2.of {sc S0 : Scope} (k : sc.kind = .function) (h : csOk2 sc S0 = true) : CS2 sc S0 := by
  have q : ∀ y ∈ sc.names, _ := List.all_eq_true.mp h
  have own : ∀ y ∈ sc.names, y.2 = .cell → sc.names.lookup y.1 = some .cell := fun y hy e => by
    have z := q y hy
    rw [Bool.and_eq_true, Bool.and_eq_true] at z
    obtain ⟨⟨z1, z2⟩, z3⟩ := z
    rw [e] at z2
    simpa using z2
  refine ⟨k, fun y hy e => ?_, own, fun x e m => ?_, fun y hy e => ?_⟩
  · have z := q y hy
    rw [Bool.and_eq_true, Bool.and_eq_true] at z
    obtain ⟨⟨z1, z2⟩, z3⟩ := z
    rw [e] at z1; simpa using z1
  · have := own _ m rfl
    rw [e] at this
    cases this
  · have z := q y hy
    rw [Bool.and_eq_true, Bool.and_eq_true] at z
    obtain ⟨⟨z1, z2⟩, z3⟩ := z
    rw [e] at z3; simpa using z3
end L2
set_option Elab.async false
set_option linter.all false
set_option maxRecDepth 100000
set_option maxHeartbeats 4000000
namespace L2
open PySem PySem.Spec PyProof.Rows
section
variable {X : Cx} {tg iter el : Expr} {ifs : List Expr} {sc : Scope} {pos py spos : Pos} {Nc : List Str} {js : List (Option Nat)} {wi : TI} {i : Nat} {y : Str}
end
end L2
set_option Elab.async false
set_option linter.all false
set_option maxRecDepth 100000
set_option maxHeartbeats 4000000
namespace L2
open PySem PySem.Spec PyProof.Rows
section
variable {X : Cx} {tg iter kx vx tg2 iter2 : Expr} {ifs ifs2 : List Expr} {sc : Scope} {pos : Pos} {Nc : List Str} {js : List (Option Nat)} {wi wi2 : TI} {g g2 : TG}
end
end L2
set_option Elab.async false
set_option linter.all false
set_option maxRecDepth 100000
set_option maxHeartbeats 4000000
namespace HT
open PySem PySem.Spec PyProof.Rows
end HT
namespace L2
open PySem PySem.Spec PyProof.Rows
section
variable {X : Cx}
end
end L2
set_option Elab.async false
set_option linter.all false
set_option maxRecDepth 100000
set_option maxHeartbeats 4000000
namespace L2
open PySem PySem.Spec PyProof.Rows
section
variable {X : Cx}
end
theorem tup_shown {xs : List PyData} {B n : Nat} (h : ((PyData.shownAll xs).map (·.length)).sum ≤ B) (h' : (PyData.shownAll xs).length = n) : (PyData.tuple xs).shown.length ≤ B + 2 * n + 3 := by
  rw [PyData.shown]
  have := PySem.tupleText_len_le (PyData.shownAll xs)
  omega
end L2
set_option linter.all false
namespace Cyc
def Adj : List Nat → Nat → Nat → Prop
  | x :: y :: r, a, b => (a = x ∧ b = y) ∨ Adj (y :: r) a b
  | _, _, _ => False
def Nx (row : List Nat) (a b : Nat) : Prop := Adj (row ++ row.head?.toList) a b
end Cyc
set_option linter.all false
set_option maxHeartbeats 1000000
namespace Tri
open Cyc
abbrev Rows := List (List Nat)
/-- in the row of q, b comes right behind a -/
def R (L : Rows) (q a b : Nat) : Prop := ∃ row, L[q]? = some row ∧ Nx row a b
/-- b stands in the row of a -/
def E (L : Rows) (a b : Nat) : Prop := ∃ row, L[a]? = some row ∧ b ∈ row
inductive Reach (L : Rows) : Nat → Nat → Prop
  | here (a : Nat) : Reach L a a
  | more {a b c : Nat} : Reach L a b → E L b c → Reach L a c
theorem Reach.trans {L : Rows} {a b c : Nat} (h : Reach L a b) (h' : Reach L b c) : Reach L a c := by
  induction h' with
  | here => exact h
  | more _ e ih => exact .more ih e
theorem Reach.by {L L' : Rows} (h : ∀ a b, E L a b → Reach L' a b) {a b : Nat} (r : Reach L a b) : Reach L' a b := by
  induction r with
  | here => exact .here _
  | more _ e ih => exact ih.trans (h _ _ e)
section
variable {L : Rows} {p q r : Nat} {rp rq rr : List Nat}
end
end Tri
set_option linter.all false
set_option maxHeartbeats 1000000
namespace Tri
open Cyc
section
variable {L : Rows} {p q r s : Nat} {rp rq rr rs : List Nat}
end
end Tri
set_option linter.all false
namespace Tri
open Cyc
end Tri
set_option linter.all false
set_option maxHeartbeats 1000000
namespace Rnd
open Cyc Tri
section
variable {α : Type} [DecidableEq α]
def it (f : α → α) : Nat → α → α
  | 0, x => x
  | n + 1, x => f (it f n x)
theorem it_add (f : α → α) (m n : Nat) (x : α) : it f (m + n) x = it f m (it f n x) := by
  induction m with
  | zero => rw [Nat.zero_add]; rfl
  | succ m ih => rw [Nat.succ_add]; show f _ = f _; rw [ih]
structure Perm (f : α → α) (S : List α) : Prop where
  to : ∀ x, x ∈ S → f x ∈ S
  one : ∀ x y, x ∈ S → y ∈ S → f x = f y → x = y
theorem Perm.it {f : α → α} {S : List α} (h : Perm f S) (n : Nat) {x : α} (hx : x ∈ S) : it f n x ∈ S := by
  induction n with
  | zero => exact hx
  | succ n ih => exact h.to _ ih
theorem Perm.back {f : α → α} {S : List α} (h : Perm f S) (n : Nat) {x y : α} (hx : x ∈ S) (hy : y ∈ S) (e : Rnd.it f n x = Rnd.it f n y) : x = y := by
  induction n with
  | zero => exact e
  | succ n ih => exact ih (h.one _ _ (h.it n hx) (h.it n hy) e)
theorem map_nodup {f : Nat → α} : ∀ (n : Nat), (∀ i j, i < j → j < n → f i ≠ f j) → ((List.range n).map f).Nodup
  | 0, _ => by simp
  | n + 1, h => by
    rw [List.range_succ, List.map_append, List.nodup_append]
    refine ⟨map_nodup n fun i j a b => h i j a (by omega), by simp, fun a ha b hb => ?_⟩
    obtain ⟨i, hi, rfl⟩ := List.mem_map.mp ha
    have : b = f n := by simpa using hb
    subst this
    exact h i n (List.mem_range.mp hi) (by omega)
/-- it comes back, after as many turns at most as there are -/
theorem Perm.comes {f : α → α} {S : List α} (h : Perm f S) {x : α} (hx : x ∈ S) : ∃ k, 0 < k ∧ k ≤ S.length ∧ Rnd.it f k x = x ∧ ∀ j, 0 < j → j < k → Rnd.it f j x ≠ x := by
  have some : ∃ k, 0 < k ∧ k ≤ S.length ∧ Rnd.it f k x = x := by
    refine Classical.byContradiction fun no => ?_
    have nd : ((List.range (S.length + 1)).map fun i => Rnd.it f i x).Nodup := map_nodup _ fun i j hij hj e => by
      refine no ⟨j - i, by omega, by omega, ?_⟩
      have e2 : Rnd.it f i (Rnd.it f (j - i) x) = Rnd.it f i x := by
        rw [← it_add, show i + (j - i) = j by omega]; exact e.symm
      exact h.back i (h.it _ hx) hx e2
    have le := List.Nodup.length_le_of_subset nd (l₂ := S) fun y hy => by
      obtain ⟨i, _, rfl⟩ := List.mem_map.mp hy
      exact h.it i hx
    rw [List.length_map, List.length_range] at le
    omega
  obtain ⟨k0, p0, l0, e0⟩ := some
  have least : ∀ n, (∃ k, 0 < k ∧ k ≤ n ∧ Rnd.it f k x = x) → ∃ k, 0 < k ∧ k ≤ n ∧ Rnd.it f k x = x ∧ ∀ j, 0 < j → j < k → Rnd.it f j x ≠ x := fun n => by
    induction n with
    | zero => rintro ⟨k, a, b, _⟩; omega
    | succ n ih =>
      intro hk
      by_cases c : ∃ k, 0 < k ∧ k ≤ n ∧ Rnd.it f k x = x
      · obtain ⟨k, a, b, e, m⟩ := ih c
        exact ⟨k, a, by omega, e, m⟩
      · obtain ⟨k, a, b, e⟩ := hk
        refine ⟨k, a, b, e, fun j j0 jk ej => c ⟨j, j0, by omega, ej⟩⟩
  exact least S.length ⟨k0, p0, l0, e0⟩
end
end Rnd
set_option linter.all false
set_option Elab.async false
namespace Pic
open PySem Txs
/-- the lines, from the last one up, without what stands behind the last line feed -/
def rows (l : List Nat) : List (List Nat) := (spl 10 l).dropLast.reverse
def chr (l : List Nat) (x y : Nat) : Option Nat := (rows l)[y]?.bind (·[x]?)
theorem rows_pic {ps : Pl} (o : Ok ps) (W h : Nat) : rows (pic ps W h) = (lines ps W h).reverse := by
  unfold rows
  rw [pic_spl o, List.dropLast_concat]
theorem chr_pic {ps : Pl} (o : Ok ps) {W h x y : Nat} (hx : x < W + 1) (hy : y < h + 1) : chr (pic ps W h) x y = some (cell ps x y) := by
  unfold chr
  rw [rows_pic o, lines_rev hy]
  exact line_at hx
theorem chr_some {ps : Pl} (o : Ok ps) {W h x y c : Nat} (e : chr (pic ps W h) x y = some c) : x < W + 1 ∧ y < h + 1 ∧ c = cell ps x y := by
  unfold chr at e
  rw [rows_pic o] at e
  by_cases hy : y < h + 1
  · rw [lines_rev hy] at e
    have e : (line ps W y)[x]? = some c := e
    by_cases hx : x < W + 1
    · rw [line_at hx] at e
      exact ⟨hx, hy, (Option.some.inj e).symm⟩
    · rw [List.getElem?_eq_none (by rw [line_len]; omega)] at e
      cases e
  · rw [List.getElem?_eq_none (by rw [List.length_reverse, lines_len]; omega)] at e
    cases e
/-- signs and a place of each -/
structure Rd3 (l : List Nat) (es : List (Nat × Nat × Nat)) : Prop where
  nd : (es.map (·.1)).Nodup
  ok : ∀ e ∈ es, e.1 ∈ SG ∧ chr l e.2.1 e.2.2 = some e.1
  all : ∀ x y c, chr l x y = some c → c ∈ SG → c ∈ es.map (·.1)
theorem Rd3.few {l : List Nat} {es : List (Nat × Nat × Nat)} (r : Rd3 l es) : es.length ≤ 40 := by
  have := List.Nodup.length_le_of_subset r.nd (l₂ := SG) fun c hc => by
    obtain ⟨e, he, rfl⟩ := List.mem_map.mp hc
    exact (r.ok e he).1
  rw [List.length_map] at this
  exact this
/-- of a picture: each sign at its place -/
theorem Rd3.pic {ps : Pl} (o : Ok ps) {W h : Nat} (b : Bx ps W h) {es : List (Nat × Nat × Nat)} (r : Rd3 (pic ps W h) es) : es.length = ps.length ∧ (∀ e ∈ es, ∃ i, e.1 = SG.getD i 0 ∧ ps[i]? = some (e.2.1, e.2.2)) ∧ ∀ i, i < ps.length → SG.getD i 0 ∈ es.map (·.1) := by
  have few := o.few
  have h1 : ∀ e ∈ es, ∃ i, e.1 = SG.getD i 0 ∧ ps[i]? = some (e.2.1, e.2.2) := fun e he => by
    obtain ⟨s, q⟩ := r.ok e he
    obtain ⟨hx, hy, q⟩ := chr_some o q
    rcases cell_cases ps o.nd e.2.1 e.2.2 with ⟨n, z⟩ | ⟨i, hi, z⟩
    · rw [q, z] at s
      exact absurd s (by decide)
    · exact ⟨i, q.trans z, hi⟩
  have h2 : ∀ i, i < ps.length → SG.getD i 0 ∈ es.map (·.1) := fun i hi => by
    have e : ps[i]? = some (ps[i].1, ps[i].2) := List.getElem?_eq_getElem hi
    have m := List.getElem_mem hi
    have := chr_pic o (W := W) (h := h) (x := ps[i].1) (y := ps[i].2) (by have := b.xl _ m; omega) (by have := b.yl _ m; omega)
    rw [cell_at o.nd e] at this
    exact r.all _ _ _ this (sg_mem (by omega))
  refine ⟨?_, h1, h2⟩
  have p : (es.map (·.1)).Perm ((List.range ps.length).map fun i => SG.getD i 0) := by
    refine (List.perm_ext_iff_of_nodup r.nd ?_).mpr fun c => ⟨fun hc => ?_, fun hc => ?_⟩
    · refine List.pairwise_map.mpr (List.nodup_range.imp_of_mem fun {i j} hi hj ne e => ne (sg_inj ?_ ?_ e))
      · have := List.mem_range.mp hi; omega
      · have := List.mem_range.mp hj; omega
    · obtain ⟨e, he, rfl⟩ := List.mem_map.mp hc
      obtain ⟨i, e1, e2⟩ := h1 e he
      exact List.mem_map.mpr ⟨i, List.mem_range.mpr (List.getElem?_eq_some_iff.mp e2).1, e1.symm⟩
    · obtain ⟨i, hi, rfl⟩ := List.mem_map.mp hc
      exact h2 i (List.mem_range.mp hi)
  have := p.length_eq
  rw [List.length_map, List.length_map, List.length_range] at this
  exact this
/-- the places told: ps[i] is where the i-th sign stands -/
structure Pk (es : List (Nat × Nat × Nat)) (ps : Pl) : Prop where
  len : ps.length = es.length
  at' : ∀ i x y, ps[i]? = some (x, y) → (SG.getD i 0, x, y) ∈ es
theorem Rd3.unique {l : List Nat} {es : List (Nat × Nat × Nat)} (r : Rd3 l es) {c x y x' y' : Nat} (h : (c, x, y) ∈ es) (h' : (c, x', y') ∈ es) : x = x' ∧ y = y' := by
  have nd := r.nd
  clear r
  induction es with
  | nil => cases h
  | cons e es ih =>
    rw [List.map_cons, List.nodup_cons] at nd
    rcases List.mem_cons.mp h with a | a <;> rcases List.mem_cons.mp h' with b | b
    · rw [← a] at b
      injection b with _ b
      injection b with b1 b2
      exact ⟨b1.symm, b2.symm⟩
    · exact absurd (List.mem_map.mpr ⟨_, b, by rw [← a]⟩) nd.1
    · exact absurd (List.mem_map.mpr ⟨_, a, by rw [← b]⟩) nd.1
    · exact ih a b nd.2
/-- where what is read is a picture of these, it was of these -/
theorem Pk.same {ps ps' : Pl} {W' h' : Nat} (o' : Ok ps') (b' : Bx ps' W' h') {es : List (Nat × Nat × Nat)} (r : Rd3 (pic ps' W' h') es) (k : Pk es ps) : ps = ps' := by
  obtain ⟨l, h1, _⟩ := r.pic o' b'
  have few := o'.few
  refine List.ext_getElem? fun i => ?_
  by_cases hi : i < ps.length
  · have e : ps[i]? = some (ps[i].1, ps[i].2) := List.getElem?_eq_getElem hi
    obtain ⟨j, e1, e2⟩ := h1 _ (k.at' i _ _ e)
    have hj := (List.getElem?_eq_some_iff.mp e2).1
    have hk := k.len
    have ij : i = j := sg_inj (by omega) (by omega) e1
    subst ij
    rw [e, e2]
  · have := k.len
    rw [List.getElem?_eq_none (by omega), List.getElem?_eq_none (by omega)]
/-- places so told are places of a picture, where they lie within the bounds -/
theorem Pk.ok {l : List Nat} {es : List (Nat × Nat × Nat)} (r : Rd3 l es) {ps : Pl} (k : Pk es ps) (lo : 3 ≤ es.length) (hx : ∀ e ∈ es, e.2.1 ≤ 76 ∧ e.2.2 ≤ 40) : Ok ps := by
  have few := r.few
  have len := k.len
  have inb : ∀ p ∈ ps, p.1 ≤ 76 ∧ p.2 ≤ 40 := fun p hp => by
    obtain ⟨i, hi, e⟩ := List.getElem_of_mem hp
    exact hx _ (k.at' i p.1 p.2 (by rw [List.getElem?_eq_getElem hi, e]))
  refine ⟨?_, by omega, by omega, fun p hp => (inb p hp).1, fun p hp => (inb p hp).2⟩
  refine List.pairwise_iff_getElem.mpr fun i j hi hj ij e => ?_
  have e0 : ps[i]? = some (ps[i].1, ps[i].2) := List.getElem?_eq_getElem hi
  have e1 : ps[j]? = some (ps[j].1, ps[j].2) := List.getElem?_eq_getElem hj
  have a := (r.ok _ (k.at' i _ _ e0)).2
  have b := (r.ok _ (k.at' j _ _ e1)).2
  rw [e] at a
  have c := a.symm.trans b
  have := sg_inj (i := i) (j := j) (by omega) (by omega) (Option.some.inj c)
  omega
end Pic
set_option linter.all false
set_option Elab.async false
namespace Txs
open PySem PySem.Builtin PySem.Builtin.Str PySem.StrLaws
end Txs
set_option linter.all false
set_option Elab.async false
namespace Txs
open PySem L2 PyProof.Rows
end Txs
set_option linter.all false
set_option Elab.async false
set_option maxRecDepth 100000
namespace L2
open PySem PySem.Spec PyProof.Rows Txs
section
variable {X : Cx}
end
section
variable {X : Cx} {tg : Expr}
end
end L2
set_option linter.all false
set_option Elab.async false
namespace Dig
open PySem PySem.NumText Txs
def dg (n : Nat) : List Nat := (Nat.toDigits 10 n).map Char.toNat
theorem val_dg (n : Nat) : digitsVal (dg n) = n := PySem.W.KIN.val_back n
theorem dg_small {n : Nat} (h : n < 10) : dg n = [48 + n] := by
  unfold dg
  rw [Nat.toDigits_of_lt_base h]
  revert n
  decide
theorem dg_step {n : Nat} (h : 10 ≤ n) : dg n = dg (n / 10) ++ [48 + n % 10] := by
  have hm : n % 10 < 10 := Nat.mod_lt n (by decide)
  have t : Nat.toDigits 10 (n / 10) ++ Nat.toDigits 10 (n % 10) = Nat.toDigits 10 (10 * (n / 10) + n % 10) := Nat.toDigits_append_toDigits (by decide) (by omega) hm
  rw [Nat.div_add_mod] at t
  rw [← dg_small hm]
  unfold dg
  rw [← List.map_append, t]
theorem dg_dig (n : Nat) : ∀ c ∈ dg n, 48 ≤ c ∧ c ≤ 57 := by
  induction n using Nat.strongRecOn with
  | _ n ih =>
    intro c hc
    by_cases h : n < 10
    · rw [dg_small h, List.mem_singleton] at hc
      omega
    · rw [dg_step (by omega)] at hc
      rcases List.mem_append.mp hc with hc | hc
      · exact ih (n / 10) (by omega) c hc
      · rw [List.mem_singleton] at hc
        omega
theorem dg_head (n : Nat) (h : 0 < n) : ∃ c r, dg n = c :: r ∧ 49 ≤ c := by
  induction n using Nat.strongRecOn with
  | _ n ih =>
    by_cases h9 : n < 10
    · exact ⟨48 + n, [], dg_small h9, by omega⟩
    · obtain ⟨c, r, e, hc⟩ := ih (n / 10) (by omega) (by omega)
      exact ⟨c, r ++ [48 + n % 10], by rw [dg_step (by omega), e]; rfl, hc⟩
theorem dg_ne (n : Nat) : dg n ≠ [] := by
  rcases Nat.eq_zero_or_pos n with rfl | h
  · rw [dg_small (by decide)]
    exact fun z => nomatch z
  · obtain ⟨c, r, e, _⟩ := dg_head n h
    rw [e]
    exact fun z => nomatch z
def sdg (i : Int) : List Nat := if i < 0 then 45 :: dg i.natAbs else dg i.natAbs
theorem str_int (i : Int) : (Str.ofString (toString i)) = tx (sdg i) := by
  have back : ∀ (z : Str) (l : List Nat), z.cps.toList = l → z = tx l := fun z l e => by rw [← e, tx_list]
  cases i with
  | ofNat n =>
    refine back _ _ ?_
    rw [show (Int.ofNat n : Int) = ((n : Nat) : Int) from rfl, PySem.W.KIN.signs_num]
    unfold sdg
    rw [if_neg (by omega)]
    rfl
  | negSucc n =>
    refine back _ _ ?_
    unfold sdg
    rw [if_pos (by omega), PyProof.Rows.signs_ofString]
    show ("-" ++ Nat.repr (n + 1)).toList.map Char.toNat = _
    rw [String.toList_append, List.map_append, Nat.toList_repr]
    rfl
def ft (n : Int) (d : Nat) : List Nat := sdg n ++ (if d = 1 then [] else 47 :: dg d)
/-- l is the text of n over d -/
structure Frac (l : List Nat) (n : Int) (d : Nat) : Prop where
  pos : 1 ≤ d
  gcd : Nat.gcd n.natAbs d = 1
  txt : l = ft n d
def ng (l : List Nat) : Bool := l.head? == some 45
def bd (l : List Nat) : List Nat := if ng l then l.tail else l
def fg (l : List Nat) : List Nat := (bd l).takeWhile (· != 47)
def sk (l : List Nat) : Bool := decide (47 ∈ bd l)
def dn (l : List Nat) : List Nat := ((bd l).dropWhile (· != 47)).tail
theorem parts (l : List Nat) : l = (if ng l then [45] else []) ++ (fg l ++ (if sk l then 47 :: dn l else [])) := by
  have h : bd l = fg l ++ (if sk l then 47 :: dn l else []) := by
    unfold fg sk dn
    generalize bd l = b
    induction b with
    | nil => rfl
    | cons a b ih =>
      by_cases e : a = 47
      · subst e
        simp
      · have e2 : decide (47 ∈ a :: b) = decide (47 ∈ b) := by
          rw [decide_eq_decide]
          simp only [List.mem_cons]
          exact ⟨fun z => z.resolve_left (fun y => e y.symm), .inr⟩
        have hx : (a != 47) = true := by simpa using e
        rw [e2, List.takeWhile_cons_of_pos (p := fun x => x != 47) hx, List.dropWhile_cons_of_pos (p := fun x => x != 47) hx, List.cons_append, ← ih]
  rw [← h]
  unfold bd ng
  cases l with
  | nil => rfl
  | cons a r =>
    by_cases e : a = 45
    · subst e
      rfl
    · have : ((a :: r).head? == some 45) = false := by simpa using e
      rw [this]
      rfl
theorem no_mark (n : Nat) {c : Nat} (hc : c < 48 ∨ 57 < c) : c ∉ dg n := fun z => by have := dg_dig n c z; omega
theorem take_dg (n : Nat) (r : List Nat) (h : r = [] ∨ ∃ t, r = 47 :: t) : (dg n ++ r).takeWhile (· != 47) = dg n ∧ (dg n ++ r).dropWhile (· != 47) = r := by
  have g : ∀ a : List Nat, 47 ∉ a → (a ++ r).takeWhile (· != 47) = a ∧ (a ++ r).dropWhile (· != 47) = r := by
    intro a
    induction a with
    | nil =>
      intro _
      rcases h with rfl | ⟨t, rfl⟩
      · exact ⟨rfl, rfl⟩
      · exact ⟨rfl, rfl⟩
    | cons x a ih =>
      intro n
      have ne : x ≠ 47 := fun z => n (by rw [z]; exact List.mem_cons_self)
      obtain ⟨h1, h2⟩ := ih fun z => n (List.mem_cons_of_mem _ z)
      rw [List.cons_append, List.takeWhile_cons, List.dropWhile_cons, if_pos (by simpa using ne), if_pos (by simpa using ne), h1, h2]
      exact ⟨rfl, rfl⟩
  exact g _ (no_mark n (by decide))
theorem ft_parts (n : Int) (d : Nat) : ng (ft n d) = decide (n < 0) ∧ fg (ft n d) = dg n.natAbs ∧ sk (ft n d) = decide (d ≠ 1) ∧ dn (ft n d) = if d = 1 then [] else dg d := by
  have hn : ng (ft n d) = decide (n < 0) := by
    unfold ng ft sdg
    by_cases h : n < 0
    · rw [if_pos h, decide_eq_true h]
      rfl
    · rw [if_neg h, decide_eq_false h]
      have := dg_dig n.natAbs
      have ne := dg_ne n.natAbs
      cases e : dg n.natAbs with
      | nil => exact absurd e ne
      | cons c r =>
        have := this c (by rw [e]; exact List.mem_cons_self)
        show (some c == some 45) = false
        simp
        omega
  have hb : bd (ft n d) = dg n.natAbs ++ (if d = 1 then [] else 47 :: dg d) := by
    unfold bd
    rw [hn]
    unfold ft sdg
    by_cases h : n < 0
    · rw [if_pos h, decide_eq_true h]
      rfl
    · rw [if_neg h, decide_eq_false h]
      rfl
  have tk := take_dg n.natAbs (if d = 1 then [] else 47 :: dg d) (by split; exact .inl rfl; exact .inr ⟨_, rfl⟩)
  refine ⟨hn, ?_, ?_, ?_⟩
  · unfold fg
    rw [hb, tk.1]
  · unfold sk
    rw [hb, decide_eq_decide, List.mem_append]
    by_cases h : d = 1
    · rw [if_pos h]
      exact ⟨fun z => z.elim (fun y => absurd y (no_mark _ (by decide))) (fun y => nomatch y), fun z => absurd h z⟩
    · rw [if_neg h]
      exact ⟨fun _ => h, fun _ => .inr List.mem_cons_self⟩
  · unfold dn
    rw [hb, tk.2]
    split <;> rfl
theorem Frac.uniq {l : List Nat} {n n' : Int} {d d' : Nat} (a : Frac l n d) (b : Frac l n' d') : n = n' ∧ d = d' := by
  have pa := ft_parts n d
  have pb := ft_parts n' d'
  rw [← a.txt] at pa
  rw [← b.txt] at pb
  have h1 : n.natAbs = n'.natAbs := by rw [← val_dg n.natAbs, ← pa.2.1, pb.2.1, val_dg]
  have h2 : (n < 0) ↔ (n' < 0) := by rw [← decide_eq_decide, ← pa.1, pb.1]
  have h3 : (d ≠ 1) ↔ (d' ≠ 1) := by rw [← decide_eq_decide, ← pa.2.2.1, pb.2.2.1]
  refine ⟨by omega, ?_⟩
  by_cases e : d = 1
  · have : d' = 1 := Classical.byContradiction fun z => (h3.mpr z) e
    omega
  · have e' := h3.mp e
    have x := pa.2.2.2
    have y := pb.2.2.2
    rw [if_neg e] at x
    rw [if_neg e'] at y
    rw [← val_dg d, ← x, y, val_dg]
end Dig
set_option Elab.async false
set_option linter.all false
namespace Mth
structure Fr (n d n' d' : Int) : Prop where
  pos : 0 < d'
  co : Int.gcd n' d' = 1
  eq : n' * d = n * d'
  ln : n'.natAbs ≤ n.natAbs
  ld : d'.natAbs ≤ d.natAbs
theorem gcd_pos {n d : Int} (h : d ≠ 0) : 0 < (Int.gcd n d : Int) := by
  have : Int.gcd n d ≠ 0 := by
    intro e
    exact h (Int.gcd_eq_zero_iff.mp e).2
  omega
theorem natAbs_mul_le {a b c : Int} (h : a = b * c) (hc : c ≠ 0) : b.natAbs ≤ a.natAbs := by
  rw [h, Int.natAbs_mul]
  exact Nat.le_mul_of_pos_right _ (Int.natAbs_pos.mpr hc)
theorem fr_of {n d g : Int} (hd : d ≠ 0) (hg : g = (Int.gcd n d : Int) ∨ g = -(Int.gcd n d : Int)) (hs : 0 < d.fdiv g) : Fr n d (n.fdiv g) (d.fdiv g) := by
  have gp := gcd_pos (n := n) hd
  have g0 : g ≠ 0 := by rcases hg with e | e <;> omega
  have dn : g ∣ n := by
    rcases hg with e | e
    · rw [e]; exact Int.gcd_dvd_left _ _
    · rw [e]; exact Int.neg_dvd.mpr (Int.gcd_dvd_left _ _)
  have dd : g ∣ d := by
    rcases hg with e | e
    · rw [e]; exact Int.gcd_dvd_right _ _
    · rw [e]; exact Int.neg_dvd.mpr (Int.gcd_dvd_right _ _)
  have en : n = n.fdiv g * g := by rw [Int.fdiv_eq_ediv_of_dvd dn, Int.ediv_mul_cancel dn]
  have ed : d = d.fdiv g * g := by rw [Int.fdiv_eq_ediv_of_dvd dd, Int.ediv_mul_cancel dd]
  have gabs : g.natAbs = Int.gcd n d := by rcases hg with e | e <;> omega
  refine ⟨hs, ?_, ?_, natAbs_mul_le en g0, natAbs_mul_le ed g0⟩
  · have e1 : Int.gcd (n.fdiv g * g) (d.fdiv g * g) = Int.gcd n d := by rw [← en, ← ed]
    rw [Int.gcd_mul_right, gabs] at e1
    have : 0 < Int.gcd n d := by omega
    exact Nat.eq_of_mul_eq_mul_right this (by omega)
  · calc n.fdiv g * d = n.fdiv g * (d.fdiv g * g) := by rw [← ed]
      _ = (n.fdiv g * g) * d.fdiv g := by rw [Int.mul_comm (d.fdiv g) g, Int.mul_assoc]
      _ = n * d.fdiv g := by rw [← en]
/-- the divisor has the sign of d -/
theorem fdiv_pos_of {n d g : Int} (hd : d ≠ 0) (hg : (0 < d ∧ g = (Int.gcd n d : Int)) ∨ (d < 0 ∧ g = -(Int.gcd n d : Int))) : 0 < d.fdiv g := by
  have gp := gcd_pos (n := n) hd
  have dd : g ∣ d := by
    rcases hg with ⟨_, e⟩ | ⟨_, e⟩
    · rw [e]; exact Int.gcd_dvd_right _ _
    · rw [e]; exact Int.neg_dvd.mpr (Int.gcd_dvd_right _ _)
  have ed : d = d.fdiv g * g := by rw [Int.fdiv_eq_ediv_of_dvd dd, Int.ediv_mul_cancel dd]
  rcases hg with ⟨h, e⟩ | ⟨h, e⟩
  · have g1 : 0 < g := by omega
    rw [ed] at h
    refine Int.not_le.mp fun z => ?_
    have := Int.mul_nonpos_of_nonpos_of_nonneg z (Int.le_of_lt g1)
    omega
  · have g1 : g < 0 := by omega
    refine Int.not_le.mp fun z => ?_
    have := Int.mul_nonneg_of_nonpos_of_nonpos z (Int.le_of_lt g1)
    omega
theorem gcd_le {n d : Int} (h : d ≠ 0) : Int.gcd n d ≤ d.natAbs := Nat.le_of_dvd (Int.natAbs_pos.mpr h) (Int.gcd_dvd_natAbs_right n d)
/-- one turn of Euclid's way -/
theorem gcd_turn (a b : Nat) : Nat.gcd b (a % b) = Nat.gcd a b := by
  rw [Nat.gcd_comm a b, Nat.gcd_rec b a, Nat.gcd_comm]
theorem up {a : Int} {i j : Nat} (h : a.natAbs < 2 ^ i) (hij : i ≤ j) : a.natAbs < 2 ^ j := Nat.lt_of_lt_of_le h (Nat.pow_le_pow_right (by decide) hij)
end Mth
set_option Elab.async false
set_option linter.all false
set_option maxRecDepth 100000
namespace Own
open PySem PySem.Spec PyProof.Rows L2
def CMulV (i j : Int) : Prop := ∃ m n, i.natAbs < 2 ^ m ∧ j.natAbs < 2 ^ n ∧ m + n ≤ 134217728
def CDivV (_ j : Int) : Prop := j ≠ 0
/-- the frame that runs is a plain def's, or a block's within one -/
def TopOk (X : Cx) : Prop := ∃ e l, X.stack = e :: l ∧ e.scope.isGenerator = false ∧ e.scope.isCoroutine = false ∧ e.builtins = builtinsNs ∧ e.globals = mainGlobals
section
variable {X : Cx}
theorem op_mulV : OpR X (binaryOp .Mult) (rI CMulV fun i j => .int (i * j)) := opI fun _ _ _ _ _ _ _ hc q => by
  obtain ⟨m, n, h1, h2, h⟩ := hc
  exact mul_int q (IntMulOk.of_le (intBits_le_iff.mpr h1) (intBits_le_iff.mpr h2) h)
theorem op_fdivV (hd : X.A.depth + Builtin.pylongFrames < recursionLimit) (htop : TopOk X := by exact ⟨_, _, rfl, rfl, rfl, rfl, rfl⟩) (ht : X.prog.given.tree = none := by rfl) :
    OpR X (binaryOp .FloorDiv) (rI CDivV fun i j => .int (i.fdiv j)) := by
  intro pins s σ H x y v u Q I rx ry h
  obtain ⟨i, j, rfl, rfl, hc, q⟩ := h
  obtain ⟨t, rfl⟩ := rx
  obtain ⟨t', rfl⟩ := ry
  obtain ⟨e, l, hs, h1, h2, h3, h4⟩ := htop
  exact floordiv_int hc ⟨.int (i.fdiv j), H, I.tok _, ⟨_, rfl⟩, q⟩ (.inr (PylongRoom.of I.nolimit hd (SeerAt.of (I.ok.mod.seer.keeps I.bk) ht (I.ok.frames.trans (congrArg some hs)) h1 h2 h3 h4)))
end
theorem deep32 {k : Nat} {A : Around} (r : Room k A) (h : 32 ≤ k) : A.depth + Builtin.pylongFrames < recursionLimit := by
  have := r.dp
  show A.depth + 100 < recursionLimit
  omega
end Own
set_option Elab.async false
set_option linter.all false
set_option maxRecDepth 100000
namespace L2
open PySem PySem.Spec PyProof.Rows
/-- a loop over a list or a tuple -/
theorem for_k {k : Bool} {K : PySem.W.Frag} {a : Addr} {xs : List V} {g : TG} {tb : TS} {D : Ends} {σ : St} {H : Hp} (Pv : Nat → St → Hp → Prop) (h0 : Pv 0 σ H) (hl : ∀ i σ H, i ≤ xs.length → Pv i σ H → SqX K k H a xs)
    (hs : ∀ i x σ H, xs[i]? = some x → Pv i σ H → g x σ H fun σ2 H2 => tb { D with nx := Pv (i + 1), ct := Pv (i + 1), bk := D.nx } σ2 H2) (hd : ∀ σ H, Pv xs.length σ H → D.nx σ H) :
    ∃ W : Nat → Nat → St → Hp → Prop, (∃ m, W 0 m σ H) ∧ ∀ i m σ H, W i m σ H →
      ((Itk k K a).stop i H ∧ D.nx σ H) ∨ ((Itk k K a).go i H ∧ ∃ N : St → Hp → Prop, (∀ σ' H', N σ' H' → ∃ m', m' < m ∧ W (i + 1) m' σ' H') ∧ ∀ x H', (Itk k K a).yld i H x H' → g x σ H' fun σ2 H2 => tb { D with nx := N, ct := N, bk := D.nx } σ2 H2) := by
  cases k
  · exact for_tup Pv h0 hl hs hd
  · exact for_list Pv h0 hl hs hd
end L2
set_option Elab.async false
set_option linter.all false
set_option maxRecDepth 100000
set_option maxHeartbeats 4000000
namespace L2
open PySem PySem.Spec PyProof.Rows
section
variable {prog : Program} {w : World} {A : Around} {E : Value → Shared → Prop} {s : Shared}
end
section
variable {prog : Program} {w : World} {A : Around} {E : Value → Shared → Prop} {s : Shared} {z TI TO i1 i2 i3 : Addr} {fp1 fp2 fp3 : List Addr} {n1 n2 n3 j : Nat} {P1 P2 P3 : Nat → Value → Prop} {S1 S2 S3 : Nat → Heap → Prop} {a b c : Value}
end
end L2
set_option Elab.async false
set_option linter.all false
set_option maxRecDepth 100000
set_option maxHeartbeats 4000000
namespace L2
open PySem PySem.Spec PyProof.Rows
section
variable {prog : Program} {w : World} {A : Around} {E : Value → Shared → Prop} {s : Shared}
end
section
variable {X : Cx}
end
end L2
set_option Elab.async false
set_option linter.all false
set_option maxRecDepth 100000
set_option maxHeartbeats 4000000
namespace L2
open PySem PySem.Spec PyProof.Rows
theorem typeCall_zip4 (a b c d : Value) : checkTypeCall "zip" ⟨[a, b, c, d], []⟩ = pure () := by kernel_rfl
theorem newCall_zip4 (a b c d : Value) : checkBuiltinCall "zip.__new__" ⟨[.type "zip", a, b, c, d], []⟩ = pure () := by kernel_rfl
theorem args_init5 (o a b c d : Value) : argsOk "object.__init__" ⟨[o, a, b, c, d], []⟩ := by first | kernel_rfl | decide +kernel | rfl
abbrev IsQuad (h : Heap) (T : Addr) (a b c d : Value) : Prop := h.get? T = some { cls := .type "tuple", data := .seq #[a, b, c, d] }
section
variable {prog : Program} {w : World} {A : Around} {E : Value → Shared → Prop} {s : Shared}
theorem updateSeq_quad {T : Addr} {a b c d x : Value} {k : Nat} {Q : Unit → Shared → Prop} (hT : IsQuad s.heap T a b c d)
    (h : ∀ h', h'.get? T = some { cls := .type "tuple", data := .seq ((#[a, b, c, d] : Array Value).setIfInBounds k x) } → Heap.SameBut T s.heap h' → Q () { s with heap := h' }) :
    wpAny (model prog w) A (updateSeq T (·.setIfInBounds k x)) Q E s := by
  refine wpAny_updateSeq hT rfl (h _ ?_ (Heap.SameBut.update ..))
  rw [Heap.get?_update_self _ hT rfl]
  simp [Obj.mapSeq]
end
structure ZAp4 (z TI TO i1 i2 i3 i4 : Addr) (fp1 fp2 fp3 fp4 : List Addr) : Prop where
  zTI : z ≠ TI
  zTO : z ≠ TO
  TITO : TI ≠ TO
  zi1 : z ≠ i1
  TOi1 : TO ≠ i1
  TIi1 : TI ≠ i1
  z1 : z ∉ fp1
  t1 : TO ∉ fp1
  zi2 : z ≠ i2
  TOi2 : TO ≠ i2
  TIi2 : TI ≠ i2
  z2 : z ∉ fp2
  t2 : TO ∉ fp2
  zi3 : z ≠ i3
  TOi3 : TO ≠ i3
  TIi3 : TI ≠ i3
  z3 : z ∉ fp3
  t3 : TO ∉ fp3
  zi4 : z ≠ i4
  TOi4 : TO ≠ i4
  TIi4 : TI ≠ i4
  z4 : z ∉ fp4
  t4 : TO ∉ fp4
  i1f2 : i1 ∉ fp2
  i1f3 : i1 ∉ fp3
  i1f4 : i1 ∉ fp4
  i2f1 : i2 ∉ fp1
  i2f3 : i2 ∉ fp3
  i2f4 : i2 ∉ fp4
  i3f1 : i3 ∉ fp1
  i3f2 : i3 ∉ fp2
  i3f4 : i3 ∉ fp4
  i4f1 : i4 ∉ fp1
  i4f2 : i4 ∉ fp2
  i4f3 : i4 ∉ fp3
section
variable {prog : Program} {w : World} {A : Around} {E : Value → Shared → Prop} {s : Shared} {z TI TO i1 i2 i3 i4 : Addr} {fp1 fp2 fp3 fp4 : List Addr} {n1 n2 n3 n4 j : Nat} {P1 P2 P3 P4 : Nat → Value → Prop} {S1 S2 S3 S4 : Nat → Heap → Prop} {a b c d : Value}
theorem zipD4_item {Q : Value → Shared → Prop} (D1 : Draws prog w A i1 fp1 n1 P1 S1) (D2 : Draws prog w A i2 fp2 n2 P2 S2) (D3 : Draws prog w A i3 fp3 n3 P3 S3) (D4 : Draws prog w A i4 fp4 n4 P4 S4) (ap : ZAp4 z TI TO i1 i2 i3 i4 fp1 fp2 fp3 fp4)
    (hz : IsZip s.heap z TI TO .none) (hTI : IsQuad s.heap TI (.ref i1) (.ref i2) (.ref i3) (.ref i4)) (hTO : IsQuad s.heap TO a b c d) (h1 : S1 j s.heap) (l1 : j < n1) (h2 : S2 j s.heap) (l2 : j < n2) (h3 : S3 j s.heap) (l3 : j < n3) (h4 : S4 j s.heap) (l4 : j < n4)
    (hQ : ∀ x y v u h' tk, P1 j x → P2 j y → P3 j v → P4 j u → IsZip h' z TI TO (rawInt s.heap.objs.size) → IsQuad h' TO x y v u → S1 (j + 1) h' → S2 (j + 1) h' → S3 (j + 1) h' → S4 (j + 1) h' → IsQuad h' s.heap.objs.size x y v u →
      (∀ c o, c ≠ z → c ≠ TO → c ≠ i1 → c ≠ i2 → c ≠ i3 → c ≠ i4 → s.heap.get? c = some o → h'.get? c = some o) → Q (.ref s.heap.objs.size) { s with heap := h', toks := tk }) :
    wpAny (model prog w) A (Builtin.«zip.__next__» ⟨[.ref z], []⟩) (fun fin s' => ∃ v, fin = .done (.ret v) ∧ Q v s') E s := by
  have fr1 : ∀ {i : Nat} {h h' : Heap} {c : Addr}, S1 i h → Heap.SameBut c h h' → c ∉ fp1 → S1 i h' := fun st sb hc => D1.frame _ _ _ st fun b hb o e => sb.extBut b o (fun q => hc (q ▸ hb)) e
  have fr2 : ∀ {i : Nat} {h h' : Heap} {c : Addr}, S2 i h → Heap.SameBut c h h' → c ∉ fp2 → S2 i h' := fun st sb hc => D2.frame _ _ _ st fun b hb o e => sb.extBut b o (fun q => hc (q ▸ hb)) e
  have fr3 : ∀ {i : Nat} {h h' : Heap} {c : Addr}, S3 i h → Heap.SameBut c h h' → c ∉ fp3 → S3 i h' := fun st sb hc => D3.frame _ _ _ st fun b hb o e => sb.extBut b o (fun q => hc (q ▸ hb)) e
  have fr4 : ∀ {i : Nat} {h h' : Heap} {c : Addr}, S4 i h → Heap.SameBut c h h' → c ∉ fp4 → S4 i h' := fun st sb hc => D4.frame _ _ _ st fun b hb o e => sb.extBut b o (fun q => hc (q ▸ hb)) e
  show wpAny _ _ (field (.ref z) 2 >>= _) _ _ _
  refine wpAny_bind (wpAny_field hz rfl (x := .bool false) rfl ?_)
  show wpAny _ _ (field (.ref z) 3 >>= _) _ _ _
  refine wpAny_bind (wpAny_field hz rfl (x := .ref TI) rfl ?_)
  refine wpAny_bind (wpAny_seqItems hTI rfl ?_)
  show wpAny _ _ (Builtin.SmallTypes.ownedTupleIsFree (.ref z) >>= _) _ _ _
  refine wpAny_bind ?_
  unfold Builtin.SmallTypes.ownedTupleIsFree
  refine wpAny_bind (wpAny_field hz rfl (x := .none) rfl (wpAny_pure ?_))
  simp only [if_true]
  refine wpAny_bind (wpAny_rule ?_)
  refine wpAny_bind (wpAny_field hz rfl (x := .ref TO) rfl ?_)
  refine wpAny_bind (wpAny_setField_rec hz (by simp) fun g1 z1 s1 => ?_)
  replace z1 : IsZip g1 z TI TO .ellipsis := z1
  refine wpAny_bind ?_
  simp only [List.zipIdx_cons, List.zipIdx_nil, List.forIn_cons, List.forIn_nil]
  refine wpAny_bind (wpAny_bind (wpAny_onRaise ?_))
  show wpAny _ _ (Builtin.SmallTypes.nextOf (.ref i1) >>= _) _ _ _
  refine wpAny_bind (D1.item j _ _ _ l1 (fr1 h1 s1 ap.z1) fun x g2 tk2 p1 st1 s2 => wpAny_pure ?_)
  have o2 : IsQuad g2 TO a b c d := s2.extBut _ _ ap.TOi1 (s1.extBut _ _ ap.zTO.symm hTO)
  refine wpAny_bind (wpAny_seqItems o2 rfl ?_)
  refine wpAny_bind (updateSeq_quad o2 fun g3 o3 s3 => ?_)
  replace o3 : IsQuad g3 TO x b c d := o3
  refine wpAny_bind (wpAny_letGo (wpAny_pure ?_))
  refine wpAny_bind (wpAny_bind (wpAny_onRaise ?_))
  show wpAny _ _ (Builtin.SmallTypes.nextOf (.ref i2) >>= _) _ _ _
  refine wpAny_bind (D2.item j _ _ _ l2 (fr2 (fr2 (fr2 h2 s1 ap.z2) s2 ap.i1f2) s3 ap.t2) fun y g4 tk4 p2 st2 s4 => wpAny_pure ?_)
  have o4 : IsQuad g4 TO x b c d := s4.extBut _ _ ap.TOi2 (o3)
  refine wpAny_bind (wpAny_seqItems o4 rfl ?_)
  refine wpAny_bind (updateSeq_quad o4 fun g5 o5 s5 => ?_)
  replace o5 : IsQuad g5 TO x y c d := o5
  refine wpAny_bind (wpAny_letGo (wpAny_pure ?_))
  refine wpAny_bind (wpAny_bind (wpAny_onRaise ?_))
  show wpAny _ _ (Builtin.SmallTypes.nextOf (.ref i3) >>= _) _ _ _
  refine wpAny_bind (D3.item j _ _ _ l3 (fr3 (fr3 (fr3 (fr3 (fr3 h3 s1 ap.z3) s2 ap.i1f3) s3 ap.t3) s4 ap.i2f3) s5 ap.t3) fun v g6 tk6 p3 st3 s6 => wpAny_pure ?_)
  have o6 : IsQuad g6 TO x y c d := s6.extBut _ _ ap.TOi3 (o5)
  refine wpAny_bind (wpAny_seqItems o6 rfl ?_)
  refine wpAny_bind (updateSeq_quad o6 fun g7 o7 s7 => ?_)
  replace o7 : IsQuad g7 TO x y v d := o7
  refine wpAny_bind (wpAny_letGo (wpAny_pure ?_))
  refine wpAny_bind (wpAny_bind (wpAny_onRaise ?_))
  show wpAny _ _ (Builtin.SmallTypes.nextOf (.ref i4) >>= _) _ _ _
  refine wpAny_bind (D4.item j _ _ _ l4 (fr4 (fr4 (fr4 (fr4 (fr4 (fr4 (fr4 h4 s1 ap.z4) s2 ap.i1f4) s3 ap.t4) s4 ap.i2f4) s5 ap.t4) s6 ap.i3f4) s7 ap.t4) fun u g8 tk8 p4 st4 s8 => wpAny_pure ?_)
  have o8 : IsQuad g8 TO x y v d := s8.extBut _ _ ap.TOi4 (o7)
  refine wpAny_bind (wpAny_seqItems o8 rfl ?_)
  refine wpAny_bind (updateSeq_quad o8 fun g9 o9 s9 => ?_)
  replace o9 : IsQuad g9 TO x y v u := o9
  refine wpAny_bind (wpAny_letGo (wpAny_pure (wpAny_pure ?_)))
  refine wpAny_bind (wpAny_seqItems o9 rfl ?_)
  refine wpAny_bind (wpAny_newTuple ?_)
  have sz : g9.objs.size = s.heap.objs.size := by rw [s9.1, s8.1, s7.1, s6.1, s5.1, s4.1, s3.1, s2.1, s1.1]
  have z9 : IsZip g9 z TI TO .ellipsis := (s9.extBut _ _ ap.zTO (s8.extBut _ _ ap.zi4 (s7.extBut _ _ ap.zTO (s6.extBut _ _ ap.zi3 (s5.extBut _ _ ap.zTO (s4.extBut _ _ ap.zi2 (s3.extBut _ _ ap.zTO (s2.extBut _ _ ap.zi1 z1))))))))
  have k9 : ∀ c o, c ≠ z → c ≠ TO → c ≠ i1 → c ≠ i2 → c ≠ i3 → c ≠ i4 → s.heap.get? c = some o → g9.get? c = some o := fun c o c1 c2 d1 d2 d3 d4 e => (s9.extBut _ _ c2 (s8.extBut _ _ d4 (s7.extBut _ _ c2 (s6.extBut _ _ d3 (s5.extBut _ _ c2 (s4.extBut _ _ d2 (s3.extBut _ _ c2 (s2.extBut _ _ d1 (s1.extBut _ _ c1 e)))))))))
  have sf1 : S1 (j + 1) g9 := (fr1 (fr1 (fr1 (fr1 (fr1 (fr1 (fr1 st1 s3 ap.t1) s4 ap.i2f1) s5 ap.t1) s6 ap.i3f1) s7 ap.t1) s8 ap.i4f1) s9 ap.t1)
  have sf2 : S2 (j + 1) g9 := (fr2 (fr2 (fr2 (fr2 (fr2 st2 s5 ap.t2) s6 ap.i3f2) s7 ap.t2) s8 ap.i4f2) s9 ap.t2)
  have sf3 : S3 (j + 1) g9 := (fr3 (fr3 (fr3 st3 s7 ap.t3) s8 ap.i4f3) s9 ap.t3)
  have sf4 : S4 (j + 1) g9 := (fr4 st4 s9 ap.t4)
  have zlt : z < g9.objs.size := Heap.lt_size z9
  show wpAny _ _ (Builtin.SmallTypes.ownedTupleHandOut (.ref z) (.ref g9.objs.size) >>= _) _ _ _
  refine wpAny_bind ?_
  unfold Builtin.SmallTypes.ownedTupleHandOut
  have z10 : IsZip (g9.push { cls := .type "tuple", data := .seq #[x, y, v, u] }) z TI TO .ellipsis := Heap.get?_push_of_some _ z9
  refine wpAny_bind (wpAny_setField_rec z10 (by simp) fun g11 z11 s11 => ?_)
  replace z11 : IsZip g11 z TI TO (rawInt g9.objs.size) := z11
  refine wpAny_setField_rec z11 (by simp) fun g12 z12 s12 => ?_
  replace z12 : IsZip g12 z TI TO (rawInt g9.objs.size) := z12
  have up : ∀ c o, c ≠ z → g9.get? c = some o → g12.get? c = some o := fun c o c1 e => s12.extBut _ _ c1 (s11.extBut _ _ c1 (Heap.get?_push_of_some _ e))
  have t12 : IsQuad g12 g9.objs.size x y v u := s12.extBut _ _ (Nat.ne_of_gt zlt) (s11.extBut _ _ (Nat.ne_of_gt zlt) (Heap.get?_push_size _ rfl))
  rw [sz] at z12 t12
  refine wpAny_pure ⟨_, rfl, ?_⟩
  show Q (.ref g9.objs.size) _
  rw [sz]
  exact hQ x y v u g12 _ p1 p2 p3 p4 z12 (up _ _ ap.zTO.symm o9) (D1.frame _ _ _ sf1 fun b hb o e => up b o (fun q => ap.z1 (q ▸ hb)) e) (D2.frame _ _ _ sf2 fun b hb o e => up b o (fun q => ap.z2 (q ▸ hb)) e) (D3.frame _ _ _ sf3 fun b hb o e => up b o (fun q => ap.z3 (q ▸ hb)) e) (D4.frame _ _ _ sf4 fun b hb o e => up b o (fun q => ap.z4 (q ▸ hb)) e) t12 fun c o c1 c2 d1 d2 d3 d4 e => up c o c1 (k9 c o c1 c2 d1 d2 d3 d4 e)
theorem zipD4_end {Q : PySem.Fin → Shared → Prop} (D1 : Draws prog w A i1 fp1 n1 P1 S1) (ap : ZAp4 z TI TO i1 i2 i3 i4 fp1 fp2 fp3 fp4)
    (hz : IsZip s.heap z TI TO .none) (hTI : IsQuad s.heap TI (.ref i1) (.ref i2) (.ref i3) (.ref i4)) (hTO : IsQuad s.heap TO a b c d) (h1 : S1 n1 s.heap)
    (hE : ∀ h' e, (∀ c o, c ≠ z → c ≠ TO → c ≠ i1 → c ≠ i2 → c ≠ i3 → c ≠ i4 → s.heap.get? c = some o → h'.get? c = some o) → (∃ o, h'.get? e = some o ∧ o.cls = .type "StopIteration") → E (.ref e) { s with heap := h' }) :
    wpAny (model prog w) A (Builtin.«zip.__next__» ⟨[.ref z], []⟩) Q E s := by
  show wpAny _ _ (field (.ref z) 2 >>= _) _ _ _
  refine wpAny_bind (wpAny_field hz rfl (x := .bool false) rfl ?_)
  show wpAny _ _ (field (.ref z) 3 >>= _) _ _ _
  refine wpAny_bind (wpAny_field hz rfl (x := .ref TI) rfl ?_)
  refine wpAny_bind (wpAny_seqItems hTI rfl ?_)
  show wpAny _ _ (Builtin.SmallTypes.ownedTupleIsFree (.ref z) >>= _) _ _ _
  refine wpAny_bind ?_
  unfold Builtin.SmallTypes.ownedTupleIsFree
  refine wpAny_bind (wpAny_field hz rfl (x := .none) rfl (wpAny_pure ?_))
  simp only [if_true]
  refine wpAny_bind (wpAny_rule ?_)
  refine wpAny_bind (wpAny_field hz rfl (x := .ref TO) rfl ?_)
  refine wpAny_bind (wpAny_setField_rec hz (by simp) fun g1 z1 s1 => ?_)
  replace z1 : IsZip g1 z TI TO .ellipsis := z1
  refine wpAny_bind ?_
  simp only [List.zipIdx_cons, List.zipIdx_nil, List.forIn_cons, List.forIn_nil]
  refine wpAny_bind (wpAny_bind (wpAny_onRaise ?_))
  show wpAny _ _ (Builtin.SmallTypes.nextOf (.ref i1) >>= _) _ _ _
  refine wpAny_bind (D1.done _ _ _ (D1.frame _ _ _ h1 fun b hb o e => s1.extBut b o (fun q => ap.z1 (q ▸ hb)) e) fun g2 e s2 he => ?_)
  obtain ⟨oe, hoe, hce⟩ := he
  have z2 : IsZip g2 z TI TO .ellipsis := s2 _ _ ap.zi1 z1
  have ez : e ≠ z := fun q => by subst q; rw [z2] at hoe; cases hoe; simp at hce
  exact wpAny_setField_rec z2 (by simp) fun g3 _ s3 => hE g3 e (fun c o c1 _ c3 _ _ _ q => s3.extBut _ _ c1 (s2 _ _ c3 (s1.extBut _ _ c1 q))) ⟨oe, s3.extBut _ _ ez hoe, hce⟩
end
theorem zip_new_sq4 (k1 k2 k3 k4 : Bool) (l1 l2 l3 l4 : Addr) (xs ys zs us : Array Value) :
    Meets (Builtin.«zip.__new__» ⟨[.type "zip", .ref l1, .ref l2, .ref l3, .ref l4], []⟩) (fun _ R s => SqOf k1 s.heap l1 xs ∧ SqOf k2 s.heap l2 ys ∧ SqOf k3 s.heap l3 zs ∧ SqOf k4 s.heap l4 us ∧
      ∀ (g1 g2 g3 g4 g5 g6 g7 : Heap), g1 = s.heap.push { cls := .type (itName k1), data := .fields #[.ref l1, .int 0 0] } → g2 = g1.push { cls := .type (itName k2), data := .fields #[.ref l2, .int 0 0] } → g3 = g2.push { cls := .type (itName k3), data := .fields #[.ref l3, .int 0 0] } → g4 = g3.push { cls := .type (itName k4), data := .fields #[.ref l4, .int 0 0] } →
        g5 = g4.push { cls := .type "tuple", data := .seq #[.ref s.heap.objs.size, .ref g1.objs.size, .ref g2.objs.size, .ref g3.objs.size] } → g6 = g5.push { cls := .type "tuple", data := .seq #[.none, .none, .none, .none] } →
        g7 = g6.push { cls := .type "zip", data := .fields #[.none, .bool false, .bool false, .ref g4.objs.size, .ref g5.objs.size] } → R (.ok (.ret (.ref g6.objs.size))) { s with heap := g7 }) :=
  .of_wp fun prog w A R s h => by
    obtain ⟨hp, g, d, tk, os⟩ := s; obtain ⟨hl1, hl2, hl3, hl4, h⟩ := h
    have hsub := sub_zip
    have hL1 : SqOf k1 (Shared.heap ⟨hp, g, d, tk, os⟩) l1 xs := hl1
    have hL2 : SqOf k2 (Shared.heap ⟨hp.push { cls := .type (itName k1), data := .fields #[.ref l1, .int 0 0] }, g, d, tk, os⟩) l2 ys := hl2.at fun o e => Heap.get?_push_of_some _ e
    have hL3 : SqOf k3 (Shared.heap ⟨(hp.push { cls := .type (itName k1), data := .fields #[.ref l1, .int 0 0] }).push { cls := .type (itName k2), data := .fields #[.ref l2, .int 0 0] }, g, d, tk, os⟩) l3 zs := hl3.at fun o e => Heap.get?_push_of_some _ (Heap.get?_push_of_some _ e)
    have hL4 : SqOf k4 (Shared.heap ⟨((hp.push { cls := .type (itName k1), data := .fields #[.ref l1, .int 0 0] }).push { cls := .type (itName k2), data := .fields #[.ref l2, .int 0 0] }).push { cls := .type (itName k3), data := .fields #[.ref l3, .int 0 0] }, g, d, tk, os⟩) l4 us := hl4.at fun o e => Heap.get?_push_of_some _ (Heap.get?_push_of_some _ (Heap.get?_push_of_some _ e))
    have h := h _ _ _ _ _ _ _ rfl rfl rfl rfl rfl rfl rfl
    wp_walk using iter_sq hL1, iter_sq hL2, iter_sq hL3, iter_sq hL4
    exact ⟨_, rfl, h⟩
section
variable {prog : Program} {w : World} {A : Around} {E : Value → Shared → Prop} {s : Shared}
theorem call_zip_sq4 {k1 k2 k3 k4 : Bool} {l1 l2 l3 l4 : Addr} {xs ys zs us : Array Value} {Q : Value → Shared → Prop} (h1 : SqOf k1 s.heap l1 xs) (h2 : SqOf k2 s.heap l2 ys) (h3 : SqOf k3 s.heap l3 zs) (h4 : SqOf k4 s.heap l4 us)
    (h : ∀ h', IsZip h' (s.heap.objs.size + 6) (s.heap.objs.size + 4) (s.heap.objs.size + 5) .none → IsQuad h' (s.heap.objs.size + 4) (.ref s.heap.objs.size) (.ref (s.heap.objs.size + 1)) (.ref (s.heap.objs.size + 2)) (.ref (s.heap.objs.size + 3)) →
      IsQuad h' (s.heap.objs.size + 5) .none .none .none .none → ItOf k1 h' s.heap.objs.size l1 0 → ItOf k2 h' (s.heap.objs.size + 1) l2 0 → ItOf k3 h' (s.heap.objs.size + 2) l3 0 → ItOf k4 h' (s.heap.objs.size + 3) l4 0 → (∀ c o, s.heap.get? c = some o → h'.get? c = some o) → Q (.ref (s.heap.objs.size + 6)) { s with heap := h' }) :
    wpAny (model prog w) A (call (.type "zip") [.ref l1, .ref l2, .ref l3, .ref l4]) Q E s := by
  refine callType_new F.called_zip (by decide) (typeCall_zip4 _ _ _ _) (newCall_zip4 _ _ _ _) (fun obj => args_init5 obj _ _ _ _) F.entry_zip_new (zip_new_sq4 k1 k2 k3 k4 l1 l2 l3 l4 xs ys zs us) ⟨h1, h2, h3, h4, ?_⟩
  intro g1 g2 g3 g4 g5 g6 g7 e1 e2 e3 e4 e5 e6 e7
  have z1 : g1.objs.size = s.heap.objs.size + 1 := by rw [e1]; exact Heap.size_push ..
  have z2 : g2.objs.size = s.heap.objs.size + 2 := by rw [e2, Heap.size_push, z1]
  have z3 : g3.objs.size = s.heap.objs.size + 3 := by rw [e3, Heap.size_push, z2]
  have z4 : g4.objs.size = s.heap.objs.size + 4 := by rw [e4, Heap.size_push, z3]
  have z5 : g5.objs.size = s.heap.objs.size + 5 := by rw [e5, Heap.size_push, z4]
  have z6 : g6.objs.size = s.heap.objs.size + 6 := by rw [e6, Heap.size_push, z5]
  have u1 : ∀ c o, s.heap.get? c = some o → g1.get? c = some o := fun c o e => by rw [e1]; exact Heap.get?_push_of_some _ e
  have u2 : ∀ c o, g1.get? c = some o → g2.get? c = some o := fun c o e => by rw [e2]; exact Heap.get?_push_of_some _ e
  have u3 : ∀ c o, g2.get? c = some o → g3.get? c = some o := fun c o e => by rw [e3]; exact Heap.get?_push_of_some _ e
  have u4 : ∀ c o, g3.get? c = some o → g4.get? c = some o := fun c o e => by rw [e4]; exact Heap.get?_push_of_some _ e
  have u5 : ∀ c o, g4.get? c = some o → g5.get? c = some o := fun c o e => by rw [e5]; exact Heap.get?_push_of_some _ e
  have u6 : ∀ c o, g5.get? c = some o → g6.get? c = some o := fun c o e => by rw [e6]; exact Heap.get?_push_of_some _ e
  have u7 : ∀ c o, g6.get? c = some o → g7.get? c = some o := fun c o e => by rw [e7]; exact Heap.get?_push_of_some _ e
  have b7 : IsZip g7 g6.objs.size g4.objs.size g5.objs.size .none := by rw [e7]; exact Heap.get?_push_size _ rfl
  have b6 : IsQuad g7 g5.objs.size .none .none .none .none := u7 _ _ (by rw [e6]; exact Heap.get?_push_size _ rfl)
  have b5 : IsQuad g7 g4.objs.size (.ref s.heap.objs.size) (.ref g1.objs.size) (.ref g2.objs.size) (.ref g3.objs.size) := u7 _ _ (u6 _ _ (by rw [e5]; exact Heap.get?_push_size _ rfl))
  have i1 : ItOf k1 g7 s.heap.objs.size l1 0 := ItOf.at (h := g1) (by rw [e1]; exact ItOf.new k1 s.heap l1) fun o e => (u7 _ _ (u6 _ _ (u5 _ _ (u4 _ _ (u3 _ _ (u2 _ _ e))))))
  have i2 : ItOf k2 g7 g1.objs.size l2 0 := ItOf.at (h := g2) (by rw [e2]; exact ItOf.new k2 g1 l2) fun o e => (u7 _ _ (u6 _ _ (u5 _ _ (u4 _ _ (u3 _ _ e)))))
  have i3 : ItOf k3 g7 g2.objs.size l3 0 := ItOf.at (h := g3) (by rw [e3]; exact ItOf.new k3 g2 l3) fun o e => (u7 _ _ (u6 _ _ (u5 _ _ (u4 _ _ e))))
  have i4 : ItOf k4 g7 g3.objs.size l4 0 := ItOf.at (h := g4) (by rw [e4]; exact ItOf.new k4 g3 l4) fun o e => (u7 _ _ (u6 _ _ (u5 _ _ e)))
  show _ ∧ _
  rw [z4, z5, z6] at b7
  rw [z1, z2, z3, z4] at b5
  rw [z5] at b6
  rw [z1] at i2
  rw [z2] at i3
  rw [z3] at i4
  rw [z6]
  exact ⟨⟨_, b7, rfl⟩, h _ b7 b5 b6 i1 i2 i3 i4 fun c o x => (u7 _ _ (u6 _ _ (u5 _ _ (u4 _ _ (u3 _ _ (u2 _ _ (u1 _ _ x)))))))⟩
end
theorem Inv.handed4 {X : Cx} {pins : List (Addr × Obj)} {σ : St} {H : Hp} {s : Shared} {h' : Heap} {t' : Nat} {ch : List Addr} {x y z q : V} {u v r p : Value} (I : Inv X pins σ H s) (rx : RelV x u) (ry : RelV y v) (rz : RelV z r) (rq : RelV q p)
    (hT : h'.get? s.heap.objs.size = some { cls := .type "tuple", data := .seq #[u, v, r, p] }) (k : ∀ b o, b ∉ ch → s.heap.get? b = some o → h'.get? b = some o) (hf : ∀ b ∈ ch, FpOk X pins H b) (hlt : ∀ b ∈ ch, b < s.heap.objs.size) :
    Inv X pins σ (upd H s.heap.objs.size (.tup [x, y, z, q])) { s with heap := h', toks := t' } ∧ (∀ b ∈ ch, upd H s.heap.objs.size (.tup [x, y, z, q]) b = none) := by
  have hn : ∀ b ∈ ch, upd H s.heap.objs.size (.tup [x, y, z, q]) b = none := fun b hb => by rw [upd_ne (Nat.ne_of_lt (hlt b hb))]; exact (hf b hb).1
  have I1 : Inv X pins σ (upd H s.heap.objs.size (.tup [x, y, z, q])) { s with heap := s.heap.push { cls := .type "tuple", data := .seq #[u, v, r, p] }, toks := s.toks } :=
    I.laid (fun b o e => Heap.get?_push_of_some _ e) (Nat.le_refl _) ⟨by simp only [List.length_cons, List.length_nil]; rw [sizeLine_eq]; decide, [u, v, r, p], .cons rx (.cons ry (.cons rz (.cons rq .nil))), ⟨_, Heap.get?_push_size _ rfl, rfl, 0, rfl, rfl⟩⟩
  have I2 := Inv.turnedL (h' := h') (t' := t') (ch := ch) I1 (fun b o hb e => by
    rcases Heap.get?_push_cases e with ⟨rfl, rfl⟩ | e
    · exact hT
    · exact k b o hb e) (fun b hb => by
    obtain ⟨f0, f1, f2, f3, f4, f5⟩ := hf b hb
    exact ⟨hn b hb, f1, f2, f3, f4, f5⟩)
  exact ⟨I2, hn⟩
/-- (x, y, z, u) of four; the first one ends first, or all together -/
def Itz4 (k1 k2 k3 k4 : Bool) (K : PySem.W.Frag) (a b c d : Addr) : It :=
  ⟨fun i H => ∃ xs ys zs us x y z u, SqX K k1 H a xs ∧ SqX K k2 H b ys ∧ SqX K k3 H c zs ∧ SqX K k4 H d us ∧ xs[i]? = some x ∧ ys[i]? = some y ∧ zs[i]? = some z ∧ us[i]? = some u,
   fun i H v H' => ∃ T x y z u, H T = none ∧ v = .ref T ∧ (∀ xs, SqX K k1 H a xs → xs[i]? = some x) ∧ (∀ ys, SqX K k2 H b ys → ys[i]? = some y) ∧ (∀ zs, SqX K k3 H c zs → zs[i]? = some z) ∧ (∀ us, SqX K k4 H d us → us[i]? = some u) ∧ H' = upd H T (.tup [x, y, z, u]),
   fun i H => ∃ xs, SqX K k1 H a xs ∧ xs.length = i⟩
theorem turn_zip4 {P : Program} {w : World} {K : PySem.W.Frag} {elts : List Expr} {x1} {pos : Pos} (k1 k2 k3 k4 : Bool) (a b c d z TI TO i1 i2 i3 i4 : Addr) (ap : ZAp4 z TI TO i1 i2 i3 i4 [i1, a] [i2, b] [i3, c] [i4, d]) :
    Turn P w K (.Tuple elts x1 pos) (Itz4 k1 k2 k3 k4 K a b c d) [z, TO, i1, i2, i3, i4, TI] z
      (fun i h => IsZip h z TI TO .none ∧ IsQuad h TI (.ref i1) (.ref i2) (.ref i3) (.ref i4) ∧ (∃ u v r p, IsQuad h TO u v r p) ∧ ItOf k1 h i1 a i ∧ ItOf k2 h i2 b i ∧ ItOf k3 h i3 c i ∧ ItOf k4 h i4 d i) where
  mem := by simp
  obj := fun i h st e he => by
    obtain ⟨hz, hTI, ⟨u, v, r, p, hTO⟩, h1, h2, h3, h4⟩ := st
    simp only [List.mem_cons, List.not_mem_nil, or_false] at he
    rcases he with rfl | rfl | rfl | rfl | rfl | rfl | rfl
    · exact ⟨_, hz, fun v q => by cases q⟩
    · exact ⟨_, hTO, fun v q => by cases q⟩
    · exact h1.live
    · exact h2.live
    · exact h3.live
    · exact h4.live
    · exact ⟨_, hTI, fun v q => by cases q⟩
  keep := fun i h h' st kk => by
    obtain ⟨hz, hTI, ⟨u, v, r, p, hTO⟩, h1, h2, h3, h4⟩ := st
    exact ⟨kk z (by simp) _ hz, kk TI (by simp) _ hTI, ⟨u, v, r, p, kk TO (by simp) _ hTO⟩, h1.at fun o q => kk i1 (by simp) o q, h2.at fun o q => kk i2 (by simp) o q, h3.at fun o q => kk i3 (by simp) o q, h4.at fun o q => kk i4 (by simp) o q⟩
  item := by
    intro X hP hw hK hc i pins s σ H E I hf st hg
    subst hP hw hK
    obtain ⟨hz, hTI, ⟨u0, v0, r0, p0, hTO⟩, h1, h2, h3, h4⟩ := st
    obtain ⟨xs, ys, zs, us, x, y, zz, uu, hq1, hq2, hq3, hq4, hx, hy, hzz, huu⟩ := hg
    obtain ⟨its1, rv1, p1⟩ := I.sq hq1
    obtain ⟨its2, rv2, p2⟩ := I.sq hq2
    obtain ⟨its3, rv3, p3⟩ := I.sq hq3
    obtain ⟨its4, rv4, p4⟩ := I.sq hq4
    obtain ⟨u, hv1, rr1⟩ := rv1.get hx
    obtain ⟨v, hv2, rr2⟩ := rv2.get hy
    obtain ⟨r, hv3, rr3⟩ := rv3.get hzz
    obtain ⟨p, hv4, rr4⟩ := rv4.get huu
    have D1 := draws_sq (prog := X.prog) (w := X.w) (A := X.A.in1) (I.ok.hd hc) k1 i1 a (sq_it p1 h1) its1.toArray
    have D2 := draws_sq (prog := X.prog) (w := X.w) (A := X.A.in1) (I.ok.hd hc) k2 i2 b (sq_it p2 h2) its2.toArray
    have D3 := draws_sq (prog := X.prog) (w := X.w) (A := X.A.in1) (I.ok.hd hc) k3 i3 c (sq_it p3 h3) its3.toArray
    have D4 := draws_sq (prog := X.prog) (w := X.w) (A := X.A.in1) (I.ok.hd hc) k4 i4 d (sq_it p4 h4) its4.toArray
    have hlt1 : i < its1.toArray.size := by simpa using (List.getElem?_eq_some_iff.mp hv1).1
    have hlt2 : i < its2.toArray.size := by simpa using (List.getElem?_eq_some_iff.mp hv2).1
    have hlt3 : i < its3.toArray.size := by simpa using (List.getElem?_eq_some_iff.mp hv3).1
    have hlt4 : i < its4.toArray.size := by simpa using (List.getElem?_eq_some_iff.mp hv4).1
    have hT : s.TypeIs (.ref z) "zip" := ⟨_, hz, rfl⟩
    unfold pyNext
    refine wpAny_bind (wpAny_attempt (wpAny_callSpecial?_slot (name := Str.ofString "__next__") hT F.slot_zip_next (wpAny_call_entry F.slot_zip_next hT F.entry_zip_next
      (zipD4_item D1 D2 D3 D4 ap hz hTI hTO ⟨h1, p1⟩ hlt1 ⟨h2, p2⟩ hlt2 ⟨h3, p3⟩ hlt3 ⟨h4, p4⟩ hlt4 fun u' v' r' p' h' tk hu1 hu2 hu3 hu4 z' o' s1' s2' s3' s4' t' hk => wpAny_pure ?_) (F.args_zip_next_1 _))))
    have eu1 : u' = u := by
      have q : its1[i]? = some u' := by simpa using hu1
      rw [hv1] at q
      exact (Option.some.inj q).symm
    have eu2 : v' = v := by
      have q : its2[i]? = some v' := by simpa using hu2
      rw [hv2] at q
      exact (Option.some.inj q).symm
    have eu3 : r' = r := by
      have q : its3[i]? = some r' := by simpa using hu3
      rw [hv3] at q
      exact (Option.some.inj q).symm
    have eu4 : p' = p := by
      have q : its4[i]? = some p' := by simpa using hu4
      rw [hv4] at q
      exact (Option.some.inj q).symm
    subst eu1 eu2 eu3 eu4
    refine ⟨_, rfl, wpAny_letOwnedTupleGo_zip z' fun g hz2 hs2 => ?_⟩
    have zlt : z < s.heap.objs.size := Heap.lt_size hz
    have TOlt : TO < s.heap.objs.size := Heap.lt_size hTO
    have i1lt : i1 < s.heap.objs.size := let ⟨_, e, _⟩ := h1.live; Heap.lt_size e
    have i2lt : i2 < s.heap.objs.size := let ⟨_, e, _⟩ := h2.live; Heap.lt_size e
    have i3lt : i3 < s.heap.objs.size := let ⟨_, e, _⟩ := h3.live; Heap.lt_size e
    have i4lt : i4 < s.heap.objs.size := let ⟨_, e, _⟩ := h4.live; Heap.lt_size e
    have TIlt : TI < s.heap.objs.size := Heap.lt_size hTI
    have hT2 : g.get? s.heap.objs.size = some { cls := .type "tuple", data := .seq #[u', v', r', p'] } := hs2.extBut _ _ (Nat.ne_of_gt zlt) t'
    obtain ⟨I2, n2⟩ := I.handed4 (t' := tk) (ch := [z, TO, i1, i2, i3, i4]) rr1 rr2 rr3 rr4 hT2 (fun c o hc' q => hs2.extBut c o (fun e => hc' (by simp [e])) (hk c o (fun e => hc' (by simp [e])) (fun e => hc' (by simp [e])) (fun e => hc' (by simp [e])) (fun e => hc' (by simp [e])) (fun e => hc' (by simp [e])) (fun e => hc' (by simp [e])) q))
      (fun c hc' => hf c (by simp at hc' ⊢; rcases hc' with e | e | e | e | e | e <;> simp [e]))
      (fun c hc' => by simp at hc'; rcases hc' with rfl | rfl | rfl | rfl | rfl | rfl <;> assumption)
    refine ⟨.ref s.heap.objs.size, _, I2, rfl, ⟨_, x, y, zz, uu, I.hok.fresh (Nat.le_refl _), rfl, (fun xs' hxs => by rw [I.sq_inj hxs hq1]; exact hx), (fun xs' hxs => by rw [I.sq_inj hxs hq2]; exact hy), (fun xs' hxs => by rw [I.sq_inj hxs hq3]; exact hzz), (fun xs' hxs => by rw [I.sq_inj hxs hq4]; exact huu), rfl⟩, ?_, fun c hc' => ?_⟩
    · exact ⟨hz2, hs2.extBut _ _ ap.zTI.symm (hk _ _ ap.zTI.symm ap.TITO ap.TIi1 ap.TIi2 ap.TIi3 ap.TIi4 hTI), ⟨_, _, _, _, hs2.extBut _ _ ap.zTO.symm o'⟩, s1'.1.at fun o q => hs2.extBut i1 o ap.zi1.symm q, s2'.1.at fun o q => hs2.extBut i2 o ap.zi2.symm q, s3'.1.at fun o q => hs2.extBut i3 o ap.zi3.symm q, s4'.1.at fun o q => hs2.extBut i4 o ap.zi4.symm q⟩
    · by_cases e : c = TI
      · subst e
        rw [upd_ne (Nat.ne_of_lt TIlt)]
        exact (hf c (by simp)).1
      · exact n2 c (by simp at hc' ⊢; rcases hc' with q | q | q | q | q | q | q <;> simp_all)
  done := by
    intro X hP hw hK hc i pins s σ H E I hf st hg
    subst hP hw hK
    obtain ⟨hz, hTI, ⟨u0, v0, r0, p0, hTO⟩, h1, h2, h3, h4⟩ := st
    obtain ⟨xs, hq, hx⟩ := hg
    obtain ⟨its, rv, p⟩ := I.sq hq
    have D1 := draws_sq (prog := X.prog) (w := X.w) (A := X.A.in1) (I.ok.hd hc) k1 i1 a (sq_it p h1) its.toArray
    have hl : its.toArray.size = i := by rw [← hx, rv.length]; simp
    have hT : s.TypeIs (.ref z) "zip" := ⟨_, hz, rfl⟩
    unfold pyNext
    refine wpAny_bind (wpAny_attempt (wpAny_callSpecial?_slot (name := Str.ofString "__next__") hT F.slot_zip_next (wpAny_call_entry F.slot_zip_next hT F.entry_zip_next
      (zipD4_end D1 ap hz hTI hTO ⟨hl ▸ h1, p⟩ fun h' e hk he => ?_) (F.args_zip_next_1 _))))
    obtain ⟨o, ho, hcl⟩ := he
    refine wpAny_bind (wpAny_isInstance (T := "StopIteration") (b := true) ⟨o, ho, hcl⟩ isSubtype_stop ?_)
    refine wpAny_pure ⟨rfl, I.turnedL (t' := s.toks) (ch := [z, TO, i1, i2, i3, i4]) (fun c o hc' q => hk c o (fun e => hc' (by simp [e])) (fun e => hc' (by simp [e])) (fun e => hc' (by simp [e])) (fun e => hc' (by simp [e])) (fun e => hc' (by simp [e])) (fun e => hc' (by simp [e])) q)
      (fun c hc' => hf c (by simp at hc' ⊢; rcases hc' with e | e | e | e | e | e <;> simp [e]))⟩
  self := fun _ _ _ _ _ st h => wpAny_pyIter_zip st.1 h
theorem zap4 (n a b c d : Nat) (ha : a < n) (hb : b < n) (hc : c < n) (hd : d < n) : ZAp4 (n + 6) (n + 4) (n + 5) n (n + 1) (n + 2) (n + 3) [n, a] [n + 1, b] [n + 2, c] [n + 3, d] := by
  have q : ∀ {x y u : Nat}, x ≠ y → x ≠ u → ¬ x ∈ [y, u] := fun h1 h2 h3 => by
    rcases List.mem_cons.mp h3 with e | e
    · exact h1 e
    · exact h2 (List.mem_singleton.mp e)
  constructor <;> first | (intro e; have e : (_ : Nat) = _ := e; omega) | exact q (fun e => by have e : (_ : Nat) = _ := e; omega) (fun e => by have e : (_ : Nat) = _ := e; omega)
section
variable {X : Cx}
inductive iZip4Y (k1 k2 k3 k4 : Bool) (K : PySem.W.Frag) (R : It → Hp → Prop) (vs : List V) (H1 : Hp) : Prop
  | mk : ∀ a b c d, (vs = [.ref a, .ref b, .ref c, .ref d]) → ((∃ xs, SqX K k1 H1 a xs)) → ((∃ ys, SqX K k2 H1 b ys)) → ((∃ zs, SqX K k3 H1 c zs)) → ((∃ us, SqX K k4 H1 d us)) → (R (Itz4 k1 k2 k3 k4 K a b c d) H1) → iZip4Y k1 k2 k3 k4 K R vs H1
def iZip4 (k1 k2 k3 k4 : Bool) (K : PySem.W.Frag) (ta : TA) : TI := fun σ H R => ta σ H fun vs H1 => iZip4Y k1 k2 k3 k4 K R vs H1
theorem pi_zip4 (k1 k2 k3 k4 : Bool) {a b c d : Expr} {ta : TA} {p pos tpos : Pos} {elts : List Expr} {x1} (hg : Gl X "zip") (hm : X.mg "zip" = none) (ha : PA X [a, b, c, d] ta) (hs : starEach [a, b, c, d] X.env = [(false, eval a X.env), (false, eval b X.env), (false, eval c X.env), (false, eval d X.env)] := by rfl) (hs2 : starEach [b, c, d] X.env = [(false, eval b X.env), (false, eval c X.env), (false, eval d X.env)] := by rfl) :
    PI X (.Tuple elts x1 tpos) (.Call (.Name "zip" p) [a, b, c, d] [] pos) (iZip4 k1 k2 k3 k4 X.K ta) := by
  intro pins s σ H R I h
  refine Call_ (ld_blt I hg hm boot_zip (PyProof.Rows.callWith_type1 (thn (ha pos pins s σ H _ I h) fun us s1 ⟨vs, H1, I1, r1, q1⟩ => ?_) (by rw [hs, hs2]) (by rw [hs2]; rfl)))
  obtain ⟨l1, l2, l3, l4, rfl, ⟨xs, hq1⟩, ⟨ys, hq2⟩, ⟨zs, hq3⟩, ⟨ws, hq4⟩, q⟩ := q1
  cases r1 with
  | cons r r1 =>
  cases r1 with
  | cons r0 r1 =>
  obtain ⟨v, v', rfl, r', r''⟩ := vals2 r1
  cases r
  cases r0
  cases r'
  cases r'' 
  obtain ⟨its1, rv1, p1⟩ := I1.sq hq1
  obtain ⟨its2, rv2, p2⟩ := I1.sq hq2
  obtain ⟨its3, rv3, p3⟩ := I1.sq hq3
  obtain ⟨its4, rv4, p4⟩ := I1.sq hq4
  have lt1 := p1.lt
  have lt2 := p2.lt
  have lt3 := p3.lt
  have lt4 := p4.lt
  refine call_zip_sq4 p1 p2 p3 p4 fun h' hz hTI hTO h1 h2 h3 h4 hk => ?_
  refine wpAny_pyIter_zip (s := { s1 with heap := h' }) hz ?_
  have f : ∀ c, s1.heap.objs.size ≤ c → FpOk X pins H1 c := fun c hc => I1.fpOk hc (I1.hok.fresh hc)
  refine ⟨_, [s1.heap.objs.size + 6, s1.heap.objs.size + 5, s1.heap.objs.size, s1.heap.objs.size + 1, s1.heap.objs.size + 2, s1.heap.objs.size + 3, s1.heap.objs.size + 4], _, _, H1, rfl, I1.kept (t' := s1.toks) hk,
    turn_zip4 k1 k2 k3 k4 l1 l2 l3 l4 _ _ _ _ _ _ _ (zap4 _ _ _ _ _ lt1 lt2 lt3 lt4), ⟨hz, hTI, ⟨_, _, _, _, hTO⟩, h1, h2, h3, h4⟩, fun c hc => ?_, q⟩
  simp at hc
  rcases hc with rfl | rfl | rfl | rfl | rfl | rfl | rfl <;> exact f _ (by omega)
end
theorem walk_zip4 {k1 k2 k3 k4 : Bool} {K : PySem.W.Frag} {a b c d : Addr} {xs ys zs us : List V} {g : TG} {bd : TB} {N0 : St → Hp → Prop} {σ : St} {H : Hp} (Pv : Nat → St → Hp → Prop) (hxy : xs.length ≤ ys.length) (hxz : xs.length ≤ zs.length) (hxu : xs.length ≤ us.length) (h0 : Pv 0 σ H)
    (hl : ∀ i σ H, i ≤ xs.length → Pv i σ H → SqX K k1 H a xs ∧ SqX K k2 H b ys ∧ SqX K k3 H c zs ∧ SqX K k4 H d us)
    (hs : ∀ i x y z u T σ H, xs[i]? = some x → ys[i]? = some y → zs[i]? = some z → us[i]? = some u → H T = none → Pv i σ H → g (.ref T) σ (upd H T (.tup [x, y, z, u])) fun σ2 H2 => bd (Pv (i + 1)) σ2 H2) (hd : ∀ σ H, Pv xs.length σ H → N0 σ H) : tWalk (Itz4 k1 k2 k3 k4 K a b c d) g bd N0 σ H := by
  refine ⟨fun i m σ H => m = xs.length - i ∧ i ≤ xs.length ∧ Pv i σ H, ⟨xs.length, by simp, Nat.zero_le _, h0⟩, ?_⟩
  rintro i m σ H ⟨rfl, hle, p⟩
  obtain ⟨q1, q2, q3, q4⟩ := hl i σ H hle p
  by_cases hi : i < xs.length
  · refine .inr ⟨⟨xs, ys, zs, us, xs[i], ys[i]'(by omega), zs[i]'(by omega), us[i]'(by omega), q1, q2, q3, q4, by simp [hi], by simp [show i < ys.length by omega], by simp [show i < zs.length by omega], by simp [show i < us.length by omega]⟩, Pv (i + 1), fun σ' H' q => ⟨xs.length - (i + 1), by omega, rfl, by omega, q⟩, fun x H' hy => ?_⟩
    obtain ⟨T, x1, x2, x3, x4, nT, rfl, e1, e2, e3, e4, rfl⟩ := hy
    exact hs i x1 x2 x3 x4 T σ H (e1 xs q1) (e2 ys q2) (e3 zs q3) (e4 us q4) nT p
  · have : i = xs.length := by omega
    subst this
    exact .inl ⟨⟨xs, q1, rfl⟩, hd σ H p⟩
end L2
set_option linter.all false
set_option Elab.async false
namespace Brs
/-- a sum over a list's members with signs in turn, each with what is left of the list -/
def dl (g : Nat → Int) : (List Nat → Int) → List Nat → Int
  | _, [] => 0
  | f, x :: xs => g x * f xs - dl g (fun ys => f (x :: ys)) xs
theorem dl_congr (g : Nat → Int) : ∀ (c : List Nat) (f f' : List Nat → Int), (∀ ys, f ys = f' ys) → dl g f c = dl g f' c
  | [], _, _, _ => rfl
  | x :: xs, f, f', h => by
    show g x * f xs - dl g (fun ys => f (x :: ys)) xs = g x * f' xs - dl g (fun ys => f' (x :: ys)) xs
    rw [h xs, dl_congr g xs _ _ fun ys => h (x :: ys)]
theorem dl_zero (g : Nat → Int) : ∀ c : List Nat, dl g (fun _ => 0) c = 0
  | [] => rfl
  | x :: xs => by
    show g x * 0 - dl g (fun _ => 0) xs = 0
    rw [dl_zero g xs]
    omega
theorem dl_lin (g : Nat → Int) (a : Int) : ∀ (c : List Nat) (f f' : List Nat → Int), dl g (fun ys => a * f ys - f' ys) c = a * dl g f c - dl g f' c
  | [], _, _ => by show (0 : Int) = a * 0 - 0; omega
  | x :: xs, f, f' => by
    show g x * (a * f xs - f' xs) - dl g (fun ys => a * f (x :: ys) - f' (x :: ys)) xs = a * (g x * f xs - dl g (fun ys => f (x :: ys)) xs) - (g x * f' xs - dl g (fun ys => f' (x :: ys)) xs)
    rw [dl_lin g a xs]
    rw [Int.mul_sub, Int.mul_sub, Int.mul_left_comm]
    omega
theorem dl_anti (g h : Nat → Int) : ∀ (c : List Nat) (f : List Nat → Int), dl g (dl h f) c + dl h (dl g f) c = 0
  | [], _ => rfl
  | x :: xs, f => by
    have ih := dl_anti g h xs fun ys => f (x :: ys)
    have e1 : dl g (dl h f) (x :: xs) = g x * dl h f xs - (h x * dl g f xs - dl g (dl h fun ys => f (x :: ys)) xs) := by
      show g x * dl h f xs - dl g (fun ys => h x * f ys - dl h (fun zs => f (x :: zs)) ys) xs = _
      rw [dl_lin]
    have e2 : dl h (dl g f) (x :: xs) = h x * dl g f xs - (g x * dl h f xs - dl h (dl g fun ys => f (x :: ys)) xs) := by
      show h x * dl g f xs - dl h (fun ys => g x * f ys - dl g (fun zs => f (x :: zs)) ys) xs = _
      rw [dl_lin]
    rw [e1, e2]
    omega
theorem dl_self (g : Nat → Int) (c : List Nat) (f : List Nat → Int) : dl g (dl g f) c = 0 := by
  have := dl_anti g g c f
  omega
/-- the determinant of these rows (the last one first) at these columns (the last one first) -/
def mu : List (Nat → Int) → List Nat → Int
  | [] => fun _ => 1
  | g :: rs => dl g (mu rs)
/-- with one of its rows once more it is nought -/
theorem mu_again : ∀ (rs : List (Nat → Int)) (r : Nat → Int) (c : List Nat), r ∈ rs → dl r (mu rs) c = 0
  | h :: rs, r, c, hr => by
    show dl r (dl h (mu rs)) c = 0
    rcases List.mem_cons.mp hr with rfl | hr
    · exact dl_self r c _
    · have := dl_anti r h c (mu rs)
      have z : dl h (dl r (mu rs)) c = 0 := by
        rw [dl_congr h c _ (fun _ => 0) fun ys => mu_again rs r ys hr]
        exact dl_zero h c
      omega
def sm : Nat → (Nat → Int) → Int
  | 0, _ => 0
  | n + 1, f => sm n f + f n
theorem sm_congr : ∀ (n : Nat) (f g : Nat → Int), (∀ l, l < n → f l = g l) → sm n f = sm n g
  | 0, _, _, _ => rfl
  | n + 1, f, g, h => by
    show sm n f + f n = sm n g + g n
    rw [sm_congr n f g fun l hl => h l (by omega), h n (by omega)]
theorem sm_add (f g : Nat → Int) : ∀ n, sm n (fun l => f l + g l) = sm n f + sm n g
  | 0 => rfl
  | n + 1 => by
    show sm n (fun l => f l + g l) + (f n + g n) = (sm n f + f n) + (sm n g + g n)
    rw [sm_add f g n]
    omega
theorem sm_mul (a : Int) (f : Nat → Int) : ∀ n, sm n (fun l => a * f l) = a * sm n f
  | 0 => by show (0 : Int) = a * 0; omega
  | n + 1 => by
    show sm n (fun l => a * f l) + a * f n = a * (sm n f + f n)
    rw [sm_mul a f n, Int.mul_add]
theorem sm_sub (f g : Nat → Int) (n : Nat) : sm n (fun l => f l - g l) = sm n f - sm n g := by
  have h := sm_add f (fun l => (-1) * g l) n
  rw [sm_mul] at h
  rw [sm_congr n (fun l => f l - g l) (fun l => f l + (-1) * g l) fun l _ => by omega, h]
  omega
theorem sm_zero (f : Nat → Int) : ∀ n, (∀ l, l < n → f l = 0) → sm n f = 0
  | 0, _ => rfl
  | n + 1, h => by
    show sm n f + f n = 0
    rw [sm_zero f n fun l hl => h l (by omega), h n (by omega)]
    rfl
theorem sm_one (f : Nat → Int) : ∀ n k, k < n → (∀ l, l < n → l ≠ k → f l = 0) → sm n f = f k
  | 0, k, hk, _ => by omega
  | n + 1, k, hk, h => by
    show sm n f + f n = f k
    by_cases e : k = n
    · subst e
      rw [sm_zero f k fun l hl => h l (by omega) (by omega)]
      omega
    · rw [sm_one f n k (by omega) fun l hl ne => h l (by omega) ne, h n (by omega) (fun z => e z.symm)]
      omega
def tauF : (List Nat → Int) → List Nat → Nat → Int
  | _, [], _ => 0
  | f, x :: xs, l => (if l = x then f xs else 0) - tauF (fun ys => f (x :: ys)) xs l
theorem tauF_no : ∀ (c : List Nat) (f : List Nat → Int) (l : Nat), l ∉ c → tauF f c l = 0
  | [], _, _, _ => rfl
  | x :: xs, f, l, h => by
    show (if l = x then f xs else 0) - tauF (fun ys => f (x :: ys)) xs l = 0
    rw [if_neg (fun e => h (by rw [e]; exact List.mem_cons_self)), tauF_no xs _ l fun z => h (List.mem_cons_of_mem _ z)]
    rfl
def cls : Nat → List Nat
  | 0 => []
  | s + 1 => s :: cls s
theorem cls_lt : ∀ (s l : Nat), l ∈ cls s → l < s
  | s + 1, l, h => by
    rcases List.mem_cons.mp h with rfl | h
    · omega
    · have := cls_lt s l h
      omega
theorem dl_sm (g : Nat → Int) : ∀ (s : Nat) (f : List Nat → Int), dl g f (cls s) = sm s (fun l => g l * tauF f (cls s) l)
  | 0, _ => rfl
  | s + 1, f => by
    have no : s ∉ cls s := fun z => by have := cls_lt s s z; omega
    show g s * f (cls s) - dl g (fun ys => f (s :: ys)) (cls s) = sm s (fun l => g l * ((if l = s then f (cls s) else 0) - tauF (fun ys => f (s :: ys)) (cls s) l)) + g s * ((if s = s then f (cls s) else 0) - tauF (fun ys => f (s :: ys)) (cls s) s)
    rw [dl_sm g s, if_pos rfl, tauF_no (cls s) _ s no]
    rw [sm_congr s (fun l => g l * ((if l = s then f (cls s) else 0) - tauF (fun ys => f (s :: ys)) (cls s) l)) (fun l => (-1) * (g l * tauF (fun ys => f (s :: ys)) (cls s) l)) fun l hl => by
      rw [if_neg (by omega)]
      rw [Int.mul_sub, Int.mul_zero]
      omega]
    rw [sm_mul, Int.sub_zero]
    omega
section
variable (B : Nat → Nat → Int)
def rws : Nat → List (Nat → Int)
  | 0 => []
  | s + 1 => B s :: rws s
theorem rws_mem : ∀ (s r : Nat), r < s → B r ∈ rws B s
  | s + 1, r, h => by
    by_cases e : r = s
    · subst e
      exact List.mem_cons_self
    · exact List.mem_cons_of_mem _ (rws_mem s r (by omega))
/-- the determinant of the first s rows and columns -/
def D (s : Nat) : Int := mu (rws B s) (cls s)
/-- what stands in row l < s behind s steps -/
def tau (s l j : Nat) : Int := tauF (fun ys => mu (rws B s) (j :: ys)) (cls s) l
/-- what stands in row i >= s behind s steps -/
def F (s i j : Nat) : Int := B i j * D B s - sm s fun l => B i l * tau B s l j
theorem F_dl (s i j : Nat) : dl (B i) (mu (rws B s)) (j :: cls s) = F B s i j := by
  show B i j * mu (rws B s) (cls s) - dl (B i) (fun ys => mu (rws B s) (j :: ys)) (cls s) = _
  rw [dl_sm]
  rfl
theorem F_low {s r : Nat} (h : r < s) (j : Nat) : F B s r j = 0 := by
  rw [← F_dl]
  exact mu_again _ _ _ (rws_mem B s r h)
theorem F_piv (s : Nat) : F B s s s = D B (s + 1) := (F_dl B s s s).symm
theorem cramer {s r : Nat} (h : r < s) (j : Nat) : (sm s fun l => B r l * tau B s l j) = B r j * D B s := by
  have := F_low B h j
  unfold F at this
  omega
theorem D_zero : D B 0 = 1 := rfl
theorem F_zero (i j : Nat) : F B 0 i j = B i j := by
  show B i j * 1 - 0 = B i j
  omega
/-- behind s steps: each row l < s has D at l and nought at the other columns before s; what the rows kill they kill -/
structure Inv (s m : Nat) : Prop where
  dia : ∀ l l', l < s → l' < s → tau B s l l' = if l = l' then D B s else 0
  kill : ∀ x : Nat → Int, (∀ r, r < s → sm m (fun j => B r j * x j) = 0) → ∀ l, l < s → sm m (fun j => tau B s l j * x j) = 0
theorem Inv.zero (m : Nat) : Inv B 0 m := ⟨fun l l' h => by omega, fun x h l hl => by omega⟩
theorem F_before {s m : Nat} (I : Inv B s m) {i j : Nat} (hj : j < s) : F B s i j = 0 := by
  unfold F
  rw [sm_one (fun l => B i l * tau B s l j) s j hj fun l hl ne => by rw [I.dia l j hl hj, if_neg ne, Int.mul_zero], I.dia j j hj hj, if_pos rfl]
  omega
end
end Brs
set_option linter.all false
set_option Elab.async false
namespace Brs
theorem sm_cut (f : Nat → Int) (n : Nat) : ∀ m, n ≤ m → (∀ j, n ≤ j → j < m → f j = 0) → sm m f = sm n f
  | 0, h, _ => by
    have : n = 0 := by omega
    rw [this]
  | m + 1, h, z => by
    by_cases e : n = m + 1
    · rw [e]
    · show sm m f + f m = sm n f
      rw [sm_cut f n m (by omega) fun j h1 h2 => z j h1 (by omega), z m (by omega) (by omega)]
      omega
theorem sm_swap (f : Nat → Nat → Int) (s : Nat) : ∀ m, sm m (fun j => sm s fun l => f l j) = sm s fun l => sm m fun j => f l j
  | 0 => (sm_zero _ s fun _ _ => rfl).symm
  | m + 1 => by
    show sm m (fun j => sm s fun l => f l j) + (sm s fun l => f l m) = sm s fun l => sm m (fun j => f l j) + f l m
    rw [sm_swap f s m, ← sm_add]
section
variable (B : Nat → Nat → Int)
theorem F_kill {s m : Nat} (I : Inv B s m) (x : Nat → Int) (hx : ∀ r, r < s → sm m (fun j => B r j * x j) = 0) {i : Nat} (hi : sm m (fun j => B i j * x j) = 0) : sm m (fun j => F B s i j * x j) = 0 := by
  have e : ∀ j, j < m → F B s i j * x j = D B s * (B i j * x j) - sm s (fun l => B i l * (tau B s l j * x j)) := fun j _ => by
    have : (sm s fun l => B i l * tau B s l j) * x j = sm s fun l => B i l * (tau B s l j * x j) := by
      rw [Int.mul_comm, ← sm_mul]
      exact sm_congr s _ _ fun l _ => by rw [Int.mul_comm (x j), Int.mul_assoc]
    unfold F
    rw [Int.sub_mul, this, Int.mul_comm (B i j) (D B s), Int.mul_assoc]
  rw [sm_congr m _ _ e, sm_sub, sm_mul, hi, sm_swap]
  rw [sm_zero (fun l => sm m fun j => B i l * (tau B s l j * x j)) s fun l hl => by
    rw [sm_mul, I.kill x hx l hl, Int.mul_zero]]
  omega
theorem uniq {s m : Nat} (I : Inv B s m) (hm : s + 1 ≤ m) (h0 : D B s ≠ 0) (h1 : D B (s + 1) ≠ 0) (y : Nat → Int) (hy : ∀ r, r ≤ s → sm (s + 1) (fun l => B r l * y l) = 0) : ∀ l, l ≤ s → y l = 0 := by
  let x : Nat → Int := fun j => if j ≤ s then y j else 0
  have cut : ∀ g : Nat → Int, sm m (fun j => g j * x j) = sm (s + 1) (fun l => g l * y l) := fun g => by
    rw [sm_cut (fun j => g j * x j) (s + 1) m hm fun j h _ => by
      show g j * (if j ≤ s then y j else 0) = 0
      rw [if_neg (by omega), Int.mul_zero]]
    exact sm_congr _ _ _ fun l hl => by
      show g l * (if l ≤ s then y l else 0) = g l * y l
      rw [if_pos (by omega)]
  have kx : ∀ r, r ≤ s → sm m (fun j => B r j * x j) = 0 := fun r hr => by rw [cut]; exact hy r hr
  have ys : y s = 0 := by
    have k := F_kill B I x (fun r hr => kx r (by omega)) (kx s (Nat.le_refl _))
    rw [cut] at k
    rw [sm_one _ (s + 1) s (by omega) fun l hl ne => by rw [F_before B I (by omega), Int.zero_mul]] at k
    rw [F_piv] at k
    exact (Int.mul_eq_zero.mp k).resolve_left h1
  intro l hl
  by_cases e : l = s
  · rw [e]; exact ys
  · have k := I.kill x (fun r hr => kx r (by omega)) l (by omega)
    rw [cut] at k
    rw [sm_one _ (s + 1) l (by omega) fun l' hl' ne => by
      by_cases e' : l' = s
      · rw [e', ys, Int.mul_zero]
      · rw [I.dia l l' (by omega) (by omega), if_neg (fun z => ne z.symm), Int.zero_mul]] at k
    rw [I.dia l l (by omega) (by omega), if_pos rfl] at k
    exact (Int.mul_eq_zero.mp k).resolve_left h0
/-- the rows behind one more step -/
theorem step_rows {s m : Nat} (I : Inv B s m) (hm : s + 1 ≤ m) (h0 : D B s ≠ 0) (h1 : D B (s + 1) ≠ 0) (j : Nat) :
    (∀ l, l < s → D B s * tau B (s + 1) l j = D B (s + 1) * tau B s l j - tau B s l s * F B s s j) ∧ tau B (s + 1) s j = F B s s j := by
  let y : Nat → Int := fun l => if l < s then D B s * tau B (s + 1) l j - (D B (s + 1) * tau B s l j - tau B s l s * F B s s j) else D B s * tau B (s + 1) s j - D B s * F B s s j
  have hy : ∀ r, r ≤ s → sm (s + 1) (fun l => B r l * y l) = 0 := fun r hr => by
    have c1 : (sm s fun l => B r l * tau B (s + 1) l j) + B r s * tau B (s + 1) s j = B r j * D B (s + 1) := cramer B (s := s + 1) (by omega) j
    have c2 : (sm s fun l => B r l * tau B s l j) = B r j * D B s - F B s r j := by unfold F; omega
    have c3 : (sm s fun l => B r l * tau B s l s) = B r s * D B s - F B s r s := by unfold F; omega
    have e : sm s (fun l => B r l * y l) = D B s * (sm s fun l => B r l * tau B (s + 1) l j) - (D B (s + 1) * (sm s fun l => B r l * tau B s l j) - F B s s j * (sm s fun l => B r l * tau B s l s)) := by
      rw [← sm_mul, ← sm_mul, ← sm_mul, ← sm_sub, ← sm_sub]
      refine sm_congr _ _ _ fun l hl => ?_
      show B r l * (if l < s then D B s * tau B (s + 1) l j - (D B (s + 1) * tau B s l j - tau B s l s * F B s s j) else _) = _
      rw [if_pos hl]
      simp only [Int.mul_sub]
      rw [Int.mul_left_comm (B r l) (D B s), Int.mul_left_comm (B r l) (D B (s + 1)), Int.mul_comm (F B s s j), Int.mul_assoc (B r l)]
    show sm s (fun l => B r l * y l) + B r s * y s = 0
    have ys : y s = D B s * tau B (s + 1) s j - D B s * F B s s j := if_neg (by omega)
    rw [e, ys, c2, c3]
    have z : D B (s + 1) * F B s r j = F B s r s * F B s s j := by
      by_cases h : r = s
      · rw [h, F_piv]
      · rw [F_low B (by omega), F_low B (by omega)]
        simp
    have c1' : (sm s fun l => B r l * tau B (s + 1) l j) = B r j * D B (s + 1) - B r s * tau B (s + 1) s j := by omega
    rw [c1']
    generalize D B s = d at *
    generalize D B (s + 1) = d' at *
    generalize F B s s j = f at *
    generalize F B s r s = g at *
    generalize F B s r j = h at *
    generalize tau B (s + 1) s j = t at *
    generalize B r j = a at *
    generalize B r s = b at *
    clear c1 c2 c3 e ys c1'
    simp only [Int.mul_sub, Int.sub_mul, Int.mul_add, Int.add_mul]
    have e1 : d * (a * d') = d' * (a * d) := by rw [Int.mul_left_comm, Int.mul_comm d d', ← Int.mul_left_comm]
    have e2 : d * (b * t) = b * (d * t) := Int.mul_left_comm _ _ _
    have e3 : f * (b * d) = b * (d * f) := by rw [Int.mul_left_comm, Int.mul_comm f d]
    have e4 : f * g = g * f := Int.mul_comm _ _
    omega
  have u := uniq B I hm h0 h1 y hy
  refine ⟨fun l hl => ?_, ?_⟩
  · have := u l (by omega)
    have e : y l = D B s * tau B (s + 1) l j - (D B (s + 1) * tau B s l j - tau B s l s * F B s s j) := if_pos hl
    omega
  · have := u s (Nat.le_refl _)
    have e : y s = D B s * tau B (s + 1) s j - D B s * F B s s j := if_neg (by omega)
    have : D B s * (tau B (s + 1) s j - F B s s j) = 0 := by rw [Int.mul_sub]; omega
    have := (Int.mul_eq_zero.mp this).resolve_left h0
    omega
theorem step_high {s m : Nat} (I : Inv B s m) (hm : s + 1 ≤ m) (h0 : D B s ≠ 0) (h1 : D B (s + 1) ≠ 0) (i j : Nat) : D B s * F B (s + 1) i j = D B (s + 1) * F B s i j - F B s i s * F B s s j := by
  obtain ⟨hl, hs⟩ := step_rows B I hm h0 h1 j
  have e : D B s * (sm s fun l => B i l * tau B (s + 1) l j) = D B (s + 1) * (sm s fun l => B i l * tau B s l j) - F B s s j * (sm s fun l => B i l * tau B s l s) := by
    rw [← sm_mul, ← sm_mul, ← sm_mul, ← sm_sub]
    refine sm_congr _ _ _ fun l h => ?_
    rw [Int.mul_left_comm (D B s), hl l h, Int.mul_sub, Int.mul_left_comm (B i l), Int.mul_comm (F B s s j), Int.mul_assoc (B i l)]
  have f1 : F B (s + 1) i j = B i j * D B (s + 1) - ((sm s fun l => B i l * tau B (s + 1) l j) + B i s * tau B (s + 1) s j) := rfl
  have f2 : F B s i j = B i j * D B s - sm s fun l => B i l * tau B s l j := rfl
  have f3 : F B s i s = B i s * D B s - sm s fun l => B i l * tau B s l s := rfl
  rw [f1, f2, f3, hs]
  generalize D B s = d at *
  generalize D B (s + 1) = d' at *
  generalize F B s s j = f at *
  generalize (sm s fun l => B i l * tau B (s + 1) l j) = p at *
  generalize (sm s fun l => B i l * tau B s l j) = q at *
  generalize (sm s fun l => B i l * tau B s l s) = r at *
  generalize B i j = a at *
  generalize B i s = b at *
  clear f1 f2 f3 hs hl
  simp only [Int.mul_sub, Int.sub_mul, Int.mul_add, Int.add_mul]
  have e1 : d * (a * d') = d' * (a * d) := by rw [Int.mul_left_comm, Int.mul_comm d d', ← Int.mul_left_comm]
  have e2 : d * (b * f) = b * d * f := by rw [Int.mul_left_comm, Int.mul_assoc]
  have e3 : f * r = r * f := Int.mul_comm _ _
  omega
theorem Inv.step {s m : Nat} (I : Inv B s m) (hm : s + 1 ≤ m) (h0 : D B s ≠ 0) (h1 : D B (s + 1) ≠ 0) : Inv B (s + 1) m := by
  refine ⟨fun l l' hl hl' => ?_, fun x hx l hl => ?_⟩
  · obtain ⟨a, b⟩ := step_rows B I hm h0 h1 l'
    by_cases e : l = s
    · subst e
      rw [b]
      by_cases e' : l' = l
      · subst e'
        rw [F_piv, if_pos rfl]
      · rw [F_before B I (by omega), if_neg (fun z => e' z.symm)]
    · have k := a l (by omega)
      refine Int.eq_of_mul_eq_mul_left h0 ?_
      rw [k]
      by_cases e' : l' = s
      · subst e'
        rw [F_piv, if_neg e, Int.mul_comm]
        omega
      · rw [F_before B I (by omega), I.dia l l' (by omega) (by omega)]
        split
        · rw [Int.mul_zero, Int.mul_comm]; omega
        · omega
  · have kF := F_kill B I x (fun r hr => hx r (by omega)) (hx s (by omega))
    by_cases e : l = s
    · subst e
      rw [sm_congr m _ _ fun j _ => by rw [(step_rows B I hm h0 h1 j).2]]
      exact kF
    · have k := I.kill x (fun r hr => hx r (by omega)) l (by omega)
      have e2 : D B s * sm m (fun j => tau B (s + 1) l j * x j) = 0 := by
        rw [← sm_mul, sm_congr m _ (fun j => D B (s + 1) * (tau B s l j * x j) - tau B s l s * (F B s s j * x j)) fun j _ => by
          rw [← Int.mul_assoc, (step_rows B I hm h0 h1 j).1 l (by omega), Int.sub_mul, Int.mul_assoc, Int.mul_assoc], sm_sub, sm_mul, sm_mul, k, kF]
        simp
      exact (Int.mul_eq_zero.mp e2).resolve_left h0
end
end Brs
set_option linter.all false
set_option Elab.async false
namespace Brs
section
variable {B B' : Nat → Nat → Int}
theorem rws_congr : ∀ s, (∀ r, r < s → B r = B' r) → rws B s = rws B' s
  | 0, _ => rfl
  | s + 1, h => by
    show B s :: rws B s = B' s :: rws B' s
    rw [h s (by omega), rws_congr s fun r hr => h r (by omega)]
theorem D_congr {s : Nat} (h : ∀ r, r < s → B r = B' r) : D B s = D B' s := by
  unfold D
  rw [rws_congr s h]
theorem tau_congr {s : Nat} (h : ∀ r, r < s → B r = B' r) (l j : Nat) : tau B s l j = tau B' s l j := by
  unfold tau
  rw [rws_congr s h]
theorem F_congr {s i i' : Nat} (h : ∀ r, r < s → B r = B' r) (hi : B i = B' i') (j : Nat) : F B s i j = F B' s i' j := by
  unfold F
  rw [D_congr h, hi]
  congr 1
  exact sm_congr _ _ _ fun l _ => by rw [tau_congr h]
theorem Inv.congr {s m : Nat} (h : ∀ r, r < s → B r = B' r) (I : Inv B s m) : Inv B' s m := by
  refine ⟨fun l l' hl hl' => ?_, fun x hx l hl => ?_⟩
  · rw [← tau_congr h, ← D_congr h]
    exact I.dia l l' hl hl'
  · rw [sm_congr m _ (fun j => tau B s l j * x j) fun j _ => by rw [tau_congr h]]
    exact I.kill x (fun r hr => by rw [h r hr]; exact hx r hr) l hl
end
theorem dl_le {g : Nat → Int} {G b : Nat} : ∀ (c : List Nat) (f : List Nat → Int), (∀ x ∈ c, (g x).natAbs ≤ G) → (∀ ys, ys.length + 1 = c.length → (f ys).natAbs ≤ b) → (dl g f c).natAbs ≤ c.length * (G * b)
  | [], _, _, _ => Nat.zero_le _
  | x :: xs, f, hg, hf => by
    have h1 : (g x * f xs).natAbs ≤ G * b := by
      rw [Int.natAbs_mul]
      exact Nat.mul_le_mul (hg x List.mem_cons_self) (hf xs rfl)
    have h2 := dl_le xs (fun ys => f (x :: ys)) (fun y hy => hg y (List.mem_cons_of_mem _ hy)) fun ys hy => hf (x :: ys) (by rw [List.length_cons, List.length_cons, hy])
    show (g x * f xs - dl g (fun ys => f (x :: ys)) xs).natAbs ≤ (xs.length + 1) * (G * b)
    rw [Nat.succ_mul]
    omega
/-- how great a determinant of rows no greater than these may be -/
def bnd : List Nat → Nat
  | [] => 1
  | M :: Ms => (Ms.length + 1) * (M * bnd Ms)
theorem mu_le : ∀ (rs : List (Nat → Int)) (Ms : List Nat) (c : List Nat), rs.length = Ms.length → c.length = rs.length → (∀ (k : Nat) (r : Nat → Int) (M : Nat), rs[k]? = some r → Ms[k]? = some M → ∀ j, (r j).natAbs ≤ M) → (mu rs c).natAbs ≤ bnd Ms
  | [], [], c, _, _, _ => Nat.le_refl _
  | r :: rs, M :: Ms, c, e, hc, h => by
    have e' : rs.length = Ms.length := by simpa using e
    have := dl_le (g := r) (G := M) (b := bnd Ms) c (mu rs) (fun x _ => h 0 r M rfl rfl x) fun ys hy => mu_le rs Ms ys e' (by rw [List.length_cons] at hc; omega) fun k r' M' h1 h2 => h (k + 1) r' M' h1 h2
    show (dl r (mu rs) c).natAbs ≤ (Ms.length + 1) * (M * bnd Ms)
    rw [hc, List.length_cons, e'] at this
    exact this
  | [], _ :: _, _, e, _, _ => by simp at e
  | _ :: _, [], _, e, _, _ => by simp at e
theorem cls_len : ∀ s, (cls s).length = s
  | 0 => rfl
  | s + 1 => by rw [cls, List.length_cons, cls_len s]
theorem rws_len (B : Nat → Nat → Int) : ∀ s, (rws B s).length = s
  | 0 => rfl
  | s + 1 => by rw [rws, List.length_cons, rws_len B s]
theorem tauF_le {b : Nat} : ∀ (c : List Nat) (f : List Nat → Int) (l : Nat), c.Nodup → (∀ ys, ys.length + 1 = c.length → (f ys).natAbs ≤ b) → (tauF f c l).natAbs ≤ b
  | [], _, _, _, _ => Nat.zero_le _
  | x :: xs, f, l, nd, hf => by
    obtain ⟨n1, n2⟩ := List.nodup_cons.mp nd
    show ((if l = x then f xs else 0) - tauF (fun ys => f (x :: ys)) xs l).natAbs ≤ b
    by_cases e : l = x
    · rw [if_pos e, tauF_no xs _ l (by rw [e]; exact n1), Int.sub_zero]
      exact hf xs rfl
    · have := tauF_le xs (fun ys => f (x :: ys)) l n2 fun ys hy => hf (x :: ys) (by rw [List.length_cons, List.length_cons, hy])
      rw [if_neg e]
      omega
theorem cls_nd : ∀ s, (cls s).Nodup
  | 0 => List.nodup_nil
  | s + 1 => List.nodup_cons.mpr ⟨fun z => by have := cls_lt s s z; omega, cls_nd s⟩
/-- but nought, nothing is killed by all rows -/
def Lone (B : Nat → Nat → Int) (n : Nat) : Prop := ∀ x : Nat → Int, (∀ r, r < n → sm n (fun j => B r j * x j) = 0) → ∀ j, j < n → x j = 0
theorem lone_of {B : Nat → Nat → Int} {n : Nat} (I : Inv B n n) (h0 : D B n ≠ 0) : Lone B n := fun x hx l hl => by
  have k := I.kill x hx l hl
  rw [sm_one _ n l hl fun l' hl' ne => by rw [I.dia l l' hl hl', if_neg (fun z => ne z.symm), Int.zero_mul], I.dia l l hl hl, if_pos rfl] at k
  exact (Int.mul_eq_zero.mp k).resolve_left h0
theorem not_lone {B : Nat → Nat → Int} {s n : Nat} (hs : s < n) (h0 : D B s ≠ 0) (hF : ∀ k, s ≤ k → k < n → F B s k s = 0) : ¬ Lone B n := fun L => by
  let x : Nat → Int := fun j => if j < s then tau B s j s else if j = s then - D B s else 0
  have kx : ∀ r, r < n → sm n (fun j => B r j * x j) = 0 := fun r hr => by
    rw [sm_cut (fun j => B r j * x j) (s + 1) n (by omega) fun j h _ => by
      show B r j * (if j < s then tau B s j s else if j = s then - D B s else 0) = 0
      rw [if_neg (by omega), if_neg (by omega), Int.mul_zero]]
    show sm s (fun j => B r j * x j) + B r s * x s = 0
    have xs : x s = - D B s := by
      show (if s < s then tau B s s s else if s = s then - D B s else 0) = - D B s
      rw [if_neg (by omega), if_pos rfl]
    rw [sm_congr s (fun j => B r j * x j) (fun l => B r l * tau B s l s) fun l hl => by
      show B r l * (if l < s then tau B s l s else _) = _
      rw [if_pos hl], xs]
    have hf : F B s r s = 0 := by
      by_cases h : r < s
      · exact F_low B h s
      · exact hF r (by omega) hr
    unfold F at hf
    rw [Int.mul_neg]
    omega
  have := L x kx s hs
  have xs : x s = - D B s := by
    show (if s < s then tau B s s s else if s = s then - D B s else 0) = - D B s
    rw [if_neg (by omega), if_pos rfl]
  rw [xs] at this
  omega
theorem Lone.perm {B B' : Nat → Nat → Int} {n : Nat} (h : ∀ r, r < n → ∃ r', r' < n ∧ B' r = B r') (L : Lone B' n) : Lone B n := fun x hx => L x fun r hr => by
  obtain ⟨r', h1, h2⟩ := h r hr
  rw [h2]
  exact hx r' h1
end Brs
set_option linter.all false
set_option Elab.async false
namespace Brs
/-- where the row at i comes from, when the row at f is brought up to s -/
def mvI (s f i : Nat) : Nat := if i < s then i else if i = s then f else if i ≤ f then i - 1 else i
theorem mvI_lt {s f i n : Nat} (hf : f < n) (hi : i < n) : mvI s f i < n := by
  unfold mvI
  split
  · exact hi
  · split
    · exact hf
    · split <;> omega
theorem mvI_onto {s f i : Nat} (h : s ≤ f) {n : Nat} (hf : f < n) (hi : i < n) : ∃ k, k < n ∧ mvI s f k = i := by
  by_cases h1 : i < s
  · exact ⟨i, hi, by unfold mvI; rw [if_pos h1]⟩
  · by_cases h2 : i = f
    · exact ⟨s, by omega, by unfold mvI; rw [if_neg (by omega), if_pos rfl, h2]⟩
    · by_cases h3 : i < f
      · exact ⟨i + 1, by omega, by unfold mvI; rw [if_neg (by omega), if_neg (by omega), if_pos (by omega)]; rfl⟩
      · exact ⟨i, hi, by unfold mvI; rw [if_neg h1, if_neg (by omega), if_neg (by omega)]⟩
theorem mv_get {α : Type} {T : List α} {s f : Nat} {e : α} (he : T[f]? = some e) (h : s ≤ f) (i : Nat) : (T.take s ++ [e] ++ (T.drop s).take (f - s) ++ T.drop (f + 1))[i]? = T[mvI s f i]? := by
  have hf : f < T.length := (List.getElem?_eq_some_iff.mp he).1
  have l1 : (T.take s).length = s := by rw [List.length_take]; omega
  have l2 : (T.take s ++ [e]).length = s + 1 := by rw [List.length_append, l1]; rfl
  have l3 : ((T.drop s).take (f - s)).length = f - s := by rw [List.length_take, List.length_drop]; omega
  have l4 : (T.take s ++ [e] ++ (T.drop s).take (f - s)).length = f + 1 := by rw [List.length_append, l2, l3]; omega
  unfold mvI
  by_cases h1 : i < s
  · rw [if_pos h1, List.getElem?_append_left (by omega), List.getElem?_append_left (by omega), List.getElem?_append_left (by omega), List.getElem?_take_of_lt h1]
  · rw [if_neg h1]
    by_cases h2 : i = s
    · rw [if_pos h2, List.getElem?_append_left (by omega), List.getElem?_append_left (by omega), List.getElem?_append_right (by omega), l1, h2, Nat.sub_self, he]
      rfl
    · rw [if_neg h2]
      by_cases h3 : i ≤ f
      · rw [if_pos h3, List.getElem?_append_left (by omega), List.getElem?_append_right (by omega), l2, List.getElem?_take_of_lt (by omega), List.getElem?_drop]
        congr 1
        omega
      · rw [if_neg h3, List.getElem?_append_right (by omega), l4, List.getElem?_drop]
        congr 1
        omega
/-- behind s steps: the table T of the rows B (those of B0, in some order) -/
structure Stg (B0 B : Nat → Nat → Int) (n s : Nat) (T : List (List Int)) (d : Int) : Prop where
  I : Inv B s (n + 2)
  d : d = D B s
  d0 : D B s ≠ 0
  len : T.length = n
  row : ∀ (i : Nat) (r : List Int), T[i]? = some r → r.length = n + 2 ∧ ∀ j, j < n + 2 → r.getD j 0 = if i < s then tau B s i j else F B s i j
  sub : ∀ r, r < n → ∃ r', r' < n ∧ B r = B0 r'
  sup : ∀ r, r < n → ∃ r', r' < n ∧ B0 r = B r'
theorem Stg.start {T : List (List Int)} {n : Nat} (hT : T.length = n) (hr : ∀ r ∈ T, r.length = n + 2) : Stg (fun i j => (T.getD i []).getD j 0) (fun i j => (T.getD i []).getD j 0) n 0 T 1 := by
  refine ⟨Inv.zero _ _, rfl, by rw [D_zero]; decide, hT, fun i r e => ⟨hr r (List.mem_of_getElem? e), fun j _ => ?_⟩, fun r h => ⟨r, h, rfl⟩, fun r h => ⟨r, h, rfl⟩⟩
  rw [if_neg (by omega), F_zero]
  simp [List.getD, e]
theorem Stg.move {B0 B : Nat → Nat → Int} {n s f : Nat} {T T' : List (List Int)} {d : Int} (h : Stg B0 B n s T d) (hs : s ≤ f) (hf : f < n) (l : T'.length = n) (g : ∀ i, T'[i]? = T[mvI s f i]?) : Stg B0 (fun i => B (mvI s f i)) n s T' d := by
  have cg : ∀ r, r < s → B r = (fun i => B (mvI s f i)) r := fun r hr => by
    show B r = B (mvI s f r)
    unfold mvI
    rw [if_pos hr]
  refine ⟨h.I.congr cg, by rw [h.d, D_congr cg], by rw [← D_congr cg]; exact h.d0, l, fun i r e => ?_, fun r hr => h.sub _ (mvI_lt hf hr), fun r hr => ?_⟩
  · rw [g] at e
    obtain ⟨a, b⟩ := h.row _ r e
    refine ⟨a, fun j hj => ?_⟩
    rw [b j hj]
    by_cases c : i < s
    · have : mvI s f i = i := by unfold mvI; rw [if_pos c]
      rw [this, if_pos c, if_pos c, tau_congr cg]
    · have : ¬ mvI s f i < s := by
        unfold mvI
        rw [if_neg c]
        split
        · omega
        · split <;> omega
      rw [if_neg this, if_neg c]
      exact F_congr cg rfl j
  · obtain ⟨r', a, b⟩ := h.sup r hr
    obtain ⟨k, hk, e⟩ := mvI_onto hs hf a
    exact ⟨k, hk, by rw [b]; show _ = B (mvI s f k); rw [e]⟩
/-- the sweep -/
theorem Stg.sweep {B0 B : Nat → Nat → Int} {n s : Nat} {T U : List (List Int)} {d lead : Int} {top : List Int} (h : Stg B0 B n s T d) (hs : s < n) (ht : T[s]? = some top) (hl : top.getD s 0 = lead) (h1 : lead ≠ 0) (lU : U.length = n)
    (g : ∀ i r row, U[i]? = some r → T[i]? = some row → r = if i = s then row else (row.zip top).map fun x => (lead * x.1 - row.getD s 0 * x.2).fdiv d) : Stg B0 B n (s + 1) U lead := by
  obtain ⟨ltop, etop⟩ := h.row s top ht
  have eF : ∀ j, j < n + 2 → top.getD j 0 = F B s s j := fun j hj => by rw [etop j hj, if_neg (by omega)]
  have eD : lead = D B (s + 1) := by rw [← hl, eF s (by omega), F_piv]
  have d1 : D B (s + 1) ≠ 0 := by rw [← eD]; exact h1
  have I1 := h.I.step B (by omega) h.d0 d1
  refine ⟨I1, eD, d1, lU, fun i r e => ?_, h.sub, h.sup⟩
  have hi : i < T.length := by have := (List.getElem?_eq_some_iff.mp e).1; have := h.len; omega
  have eT : T[i]? = some T[i] := List.getElem?_eq_getElem hi
  obtain ⟨lr, er⟩ := h.row i _ eT
  have eg := g i r _ e eT
  generalize T[i] = row at *
  by_cases c : i = s
  · rw [if_pos c] at eg
    subst eg
    refine ⟨lr, fun j hj => ?_⟩
    subst c
    rw [er j hj, if_neg (by omega), if_pos (by omega), (step_rows B h.I (by omega) h.d0 d1 j).2]
  · rw [if_neg c] at eg
    have lz : (row.zip top).length = n + 2 := by rw [List.length_zip, lr, ltop]; omega
    refine ⟨by rw [eg, List.length_map, lz], fun j hj => ?_⟩
    have e1 : row[j]? = some row[j] := List.getElem?_eq_getElem (by omega)
    have e2 : top[j]? = some top[j] := List.getElem?_eq_getElem (by omega)
    have f1 : row[j] = row.getD j 0 := by simp [List.getD, e1]
    have f2 : top[j] = top.getD j 0 := by simp [List.getD, e2]
    have ez : r.getD j 0 = (lead * row.getD j 0 - row.getD s 0 * top.getD j 0).fdiv d := by
      rw [eg, List.getD, List.getElem?_map, (List.getElem?_zip_eq_some (z := (row[j], top[j]))).mpr ⟨e1, e2⟩, ← f1, ← f2]
      rfl
    have dn : d ≠ 0 := by rw [h.d]; exact h.d0
    rw [ez, er j hj, er s (by omega), eF j hj, eD]
    by_cases ci : i < s
    · rw [if_pos ci, if_pos ci, if_pos (by omega), ← (step_rows B h.I (by omega) h.d0 d1 j).1 i ci, ← h.d, Int.mul_fdiv_cancel_left _ dn]
    · rw [if_neg ci, if_neg ci, if_neg (by omega), ← step_high B h.I (by omega) h.d0 d1 i j, ← h.d, Int.mul_fdiv_cancel_left _ dn]
theorem bnd_le {N : Nat} : ∀ k, k ≤ 31 → bnd (List.replicate k (2 ^ N)) ≤ 2 ^ ((N + 5) * k)
  | 0, _ => Nat.le_refl _
  | k + 1, h => by
    have ih := bnd_le (N := N) k (by omega)
    show ((List.replicate k (2 ^ N)).length + 1) * (2 ^ N * bnd (List.replicate k (2 ^ N))) ≤ _
    rw [List.length_replicate, Nat.mul_succ, Nat.add_comm ((N + 5) * k), Nat.pow_add, show N + 5 = 5 + N by omega, Nat.pow_add, Nat.mul_assoc]
    rw [show N + 5 = 5 + N by omega] at ih
    exact Nat.mul_le_mul (by show k + 1 ≤ 32; omega) (Nat.mul_le_mul (Nat.le_refl _) ih)
theorem mem_rws {B : Nat → Nat → Int} : ∀ {s : Nat} {r : Nat → Int}, r ∈ rws B s → ∃ k, k < s ∧ r = B k
  | s + 1, r, h => by
    rcases List.mem_cons.mp h with h | h
    · exact ⟨s, by omega, h⟩
    · obtain ⟨k, a, b⟩ := mem_rws h
      exact ⟨k, by omega, b⟩
theorem mu_bits {rs : List (Nat → Int)} {c : List Nat} {N : Nat} (hc : c.length = rs.length) (hl : rs.length ≤ 31) (h : ∀ r ∈ rs, ∀ j, (r j).natAbs ≤ 2 ^ N) : (mu rs c).natAbs ≤ 2 ^ ((N + 5) * rs.length) :=
  Nat.le_trans (mu_le rs (List.replicate rs.length (2 ^ N)) c (by rw [List.length_replicate]) hc fun k r M e1 e2 j => by
    obtain rfl : M = 2 ^ N := by
      rw [List.getElem?_replicate] at e2
      split at e2 <;> cases e2
      rfl
    exact h r (List.mem_of_getElem? e1) j) (bnd_le _ hl)
theorem Stg.bits {B0 B : Nat → Nat → Int} {n s N : Nat} {T : List (List Int)} {d : Int} (h : Stg B0 B n s T d) (hs : s ≤ n) (hn : n ≤ 16) (hB : ∀ i j, (B0 i j).natAbs ≤ 2 ^ N) : (∀ r ∈ T, ∀ v ∈ r, v.natAbs < 2 ^ ((N + 5) * 17 + 1)) ∧ d.natAbs < 2 ^ ((N + 5) * 17 + 1) := by
  have hr : ∀ k, k < n → ∀ j, (B k j).natAbs ≤ 2 ^ N := fun k hk j => by
    obtain ⟨r', _, e⟩ := h.sub k hk
    rw [e]
    exact hB r' j
  have hw : ∀ r ∈ rws B s, ∀ j, (r j).natAbs ≤ 2 ^ N := fun r hm j => by
    obtain ⟨k, hk, rfl⟩ := mem_rws hm
    exact hr k (by omega) j
  have up : ∀ k x, k ≤ 17 → x ≤ 2 ^ ((N + 5) * k) → x < 2 ^ ((N + 5) * 17 + 1) := fun k x hk hx =>
    Nat.lt_of_le_of_lt hx (Nat.pow_lt_pow_right (by decide) (by have := Nat.mul_le_mul (Nat.le_refl (N + 5)) hk; omega))
  have ls := rws_len B s
  refine ⟨fun r hm v hv => ?_, ?_⟩
  · obtain ⟨i, hi, e⟩ := List.getElem_of_mem hm
    have e : T[i]? = some r := e ▸ List.getElem?_eq_getElem hi
    obtain ⟨lr, er⟩ := h.row i r e
    obtain ⟨j, hj, e2⟩ := List.getElem_of_mem hv
    have e3 : r.getD j 0 = v := by simp [List.getD, List.getElem?_eq_getElem hj, e2]
    rw [← e3, er j (by omega)]
    split
    · refine up s _ (by omega) ?_
      have := tauF_le (b := 2 ^ ((N + 5) * s)) (cls s) (fun ys => mu (rws B s) (j :: ys)) i (cls_nd s) fun ys hy => by
        have q := mu_bits (rs := rws B s) (c := j :: ys) (N := N) (by rw [List.length_cons, hy, cls_len, ls]) (by omega) hw
        rwa [ls] at q
      exact this
    · refine up (s + 1) _ (by omega) ?_
      rw [← F_dl]
      have q := mu_bits (rs := B i :: rws B s) (c := j :: cls s) (N := N) (by rw [List.length_cons, List.length_cons, cls_len, ls]) (by rw [List.length_cons]; omega) fun r hm => by
        rcases List.mem_cons.mp hm with rfl | hm
        · exact hr i (by have := h.len; omega)
        · exact hw r hm
      rw [List.length_cons, ls] at q
      exact q
  · rw [h.d]
    refine up s _ (by omega) ?_
    have q := mu_bits (rs := rws B s) (c := cls s) (N := N) (by rw [cls_len, ls]) (by omega) hw
    rwa [ls] at q
theorem Stg.not {B0 B : Nat → Nat → Int} {n s : Nat} {T : List (List Int)} {d : Int} (h : Stg B0 B n s T d) (hs : s < n) (z : ∀ k r, s ≤ k → T[k]? = some r → r.getD s 0 = 0) : ¬ Lone B0 n := fun L => by
  refine not_lone hs h.d0 (fun k hk hn => ?_) (L.perm h.sup)
  have hl := h.len
  have e : T[k]? = some T[k] := List.getElem?_eq_getElem (by omega)
  rw [← z k _ hk e, (h.row k _ e).2 s (by omega), if_neg (by omega)]
theorem Inv.cut {B : Nat → Nat → Int} {s m m' : Nat} (I : Inv B s m) (h : m' ≤ m) : Inv B s m' := by
  refine ⟨I.dia, fun x hx l hl => ?_⟩
  have c : ∀ (f : Nat → Int), sm m (fun j => f j * (if j < m' then x j else 0)) = sm m' (fun j => f j * x j) := fun f => by
    rw [sm_cut _ m' m h fun j a _ => by rw [if_neg (by omega), Int.mul_zero]]
    exact sm_congr _ _ _ fun j hj => by rw [if_pos hj]
  have := I.kill (fun j => if j < m' then x j else 0) (fun r hr => by rw [c]; exact hx r hr) l hl
  rwa [c] at this
theorem Stg.lone {B0 B : Nat → Nat → Int} {n : Nat} {T : List (List Int)} {d : Int} (h : Stg B0 B n n T d) : Lone B0 n := (lone_of (h.I.cut (by omega)) h.d0).perm h.sub
theorem Stg.solves {B0 B : Nat → Nat → Int} {n : Nat} {T : List (List Int)} {d : Int} (h : Stg B0 B n n T d) (j : Nat) (hj : j < n + 2) (r : Nat) (hr : r < n) : (sm n fun l => B0 r l * (T.getD l []).getD j 0) = B0 r j * d := by
  obtain ⟨r', hr', e⟩ := h.sup r hr
  rw [e, h.d, ← cramer B hr' j]
  refine sm_congr _ _ _ fun l hl => ?_
  have hL := h.len
  have eT : T[l]? = some T[l] := List.getElem?_eq_getElem (by omega)
  have : (T.getD l []).getD j 0 = tau B n l j := by
    rw [show T.getD l [] = T[l] by simp [List.getD, eT], (h.row l _ eT).2 j hj, if_pos hl]
  rw [this]
end Brs
set_option linter.all false
set_option Elab.async false
namespace Brs
def LoneL (T : List (List Int)) (m : Nat) : Prop := ∀ x : Nat → Int, (∀ r ∈ T, sm m (fun j => r.getD j 0 * x j) = 0) → ∀ j, j < m → x j = 0
theorem LoneL.of {T : List (List Int)} {n : Nat} (h : T.length = n) : LoneL T n ↔ Lone (fun i j => (T.getD i []).getD j 0) n := by
  have e : ∀ i (hi : i < T.length), T.getD i [] = T[i] := fun i hi => by simp [List.getD, List.getElem?_eq_getElem hi]
  constructor
  · intro L x hx
    refine L x fun r hr => ?_
    obtain ⟨i, hi, rfl⟩ := List.getElem_of_mem hr
    have := hx i (by omega)
    dsimp only at this
    rwa [e i hi] at this
  · intro L x hx
    refine L x fun i hi => ?_
    show sm n (fun j => (T.getD i []).getD j 0 * x j) = 0
    rw [e i (by omega)]
    exact hx _ (List.getElem_mem _)
theorem Lone.scaled {B B' : Nat → Nat → Int} {n : Nat} (h : ∀ i, i < n → ∃ a b : Int, a ≠ 0 ∧ b ≠ 0 ∧ ∀ j, j < n → B i j * a = B' i j * b) (L : Lone B n) : Lone B' n := fun x hx => by
  refine L x fun r hr => ?_
  obtain ⟨a, b, a0, b0, e⟩ := h r hr
  have k : a * sm n (fun j => B r j * x j) = b * sm n (fun j => B' r j * x j) := by
    rw [← sm_mul, ← sm_mul]
    refine sm_congr _ _ _ fun j hj => ?_
    rw [← Int.mul_assoc, ← Int.mul_assoc, Int.mul_comm a, Int.mul_comm b, e j hj]
  rw [hx r hr, Int.mul_zero] at k
  exact (Int.mul_eq_zero.mp k).resolve_left a0
theorem sm_last (m : Nat) (f : Nat → Int) : sm (m + 1) f = sm m f + f m := rfl
/-- one row is taken as the lead, the others are cleared of their last ones -/
theorem LoneL.step {T U : List (List Int)} {m f : Nat} {lead : List Int} (hf : T[f]? = some lead) (hl : lead.getD m 0 ≠ 0)
    (hU : ∀ u ∈ U, ∃ r ∈ T.eraseIdx f, ∃ g : Int, g ≠ 0 ∧ ∀ j, j < m → g * u.getD j 0 = r.getD j 0 * lead.getD m 0 - lead.getD j 0 * r.getD m 0)
    (hT : ∀ r ∈ T.eraseIdx f, ∃ u ∈ U, ∃ g : Int, g ≠ 0 ∧ ∀ j, j < m → g * u.getD j 0 = r.getD j 0 * lead.getD m 0 - lead.getD j 0 * r.getD m 0) : LoneL U m ↔ LoneL T (m + 1) := by
  have key : ∀ (r u : List Int) (g : Int) (x : Nat → Int), (∀ j, j < m → g * u.getD j 0 = r.getD j 0 * lead.getD m 0 - lead.getD j 0 * r.getD m 0) → g * sm m (fun j => u.getD j 0 * x j) = lead.getD m 0 * sm m (fun j => r.getD j 0 * x j) - r.getD m 0 * sm m (fun j => lead.getD j 0 * x j) := fun r u g x h => by
    rw [← sm_mul, ← sm_mul, ← sm_mul, ← sm_sub]
    refine sm_congr _ _ _ fun j hj => ?_
    rw [← Int.mul_assoc, h j hj, Int.sub_mul]
    congr 1 <;> ac_rfl
  have er : ∀ r ∈ T, r = lead ∨ r ∈ T.eraseIdx f := fun r hr => by
    obtain ⟨i, hi, rfl⟩ := List.getElem_of_mem hr
    rcases Nat.lt_trichotomy i f with h | h | h
    · right
      refine List.mem_of_getElem? (i := i) ?_
      rw [List.getElem?_eraseIdx_of_lt h, List.getElem?_eq_getElem hi]
    · left
      subst h
      rw [List.getElem?_eq_getElem hi] at hf
      exact Option.some.inj hf
    · right
      refine List.mem_of_getElem? (i := i - 1) ?_
      rw [List.getElem?_eraseIdx_of_ge (by omega), show i - 1 + 1 = i by omega, List.getElem?_eq_getElem hi]
  constructor
  · intro L x hx
    have h0 := hx lead (List.mem_of_getElem? hf)
    rw [sm_last] at h0
    have hx' : ∀ j, j < m → x j = 0 := L x fun u hu => by
      obtain ⟨r, hr, g, g0, hg⟩ := hU u hu
      have h1 := hx r (List.mem_of_mem_eraseIdx hr)
      rw [sm_last] at h1
      have k := key r u g x hg
      have e1 : sm m (fun j => r.getD j 0 * x j) = - (r.getD m 0 * x m) := by omega
      have e2 : sm m (fun j => lead.getD j 0 * x j) = - (lead.getD m 0 * x m) := by omega
      rw [e1, e2] at k
      have : lead.getD m 0 * -(r.getD m 0 * x m) - r.getD m 0 * -(lead.getD m 0 * x m) = 0 := by
        rw [Int.mul_neg, Int.mul_neg, show lead.getD m 0 * (r.getD m 0 * x m) = r.getD m 0 * (lead.getD m 0 * x m) by ac_rfl]
        omega
      rw [this] at k
      exact (Int.mul_eq_zero.mp k).resolve_left g0
    intro j hj
    by_cases c : j < m
    · exact hx' j c
    · obtain rfl : j = m := by omega
      rw [sm_zero _ j fun l hl => by rw [hx' l hl, Int.mul_zero], Int.zero_add] at h0
      exact (Int.mul_eq_zero.mp h0).resolve_left hl
  · intro L x hx
    let S := sm m fun j => lead.getD j 0 * x j
    let y : Nat → Int := fun j => if j < m then lead.getD m 0 * x j else - S
    have hy : ∀ r : List Int, sm (m + 1) (fun j => r.getD j 0 * y j) = lead.getD m 0 * sm m (fun j => r.getD j 0 * x j) - r.getD m 0 * S := fun r => by
      rw [sm_last, ← sm_mul]
      have e1 : sm m (fun j => r.getD j 0 * y j) = sm m (fun l => lead.getD m 0 * (r.getD l 0 * x l)) := sm_congr _ _ _ fun j hj => by
        show r.getD j 0 * (if j < m then _ else _) = _
        rw [if_pos hj]
        ac_rfl
      have e2 : y m = - S := by
        show (if m < m then _ else _) = _
        rw [if_neg (Nat.lt_irrefl m)]
      rw [e1, e2, Int.mul_neg]
      rfl
    have hz := L y fun r hr => by
      rw [hy r]
      rcases er r hr with rfl | h
      · exact Int.sub_self _
      · obtain ⟨u, hu, g, g0, hg⟩ := hT r h
        have k := key r u g x hg
        rw [hx u hu, Int.mul_zero] at k
        exact k.symm
    intro j hj
    have := hz j (by omega)
    have e : y j = lead.getD m 0 * x j := if_pos hj
    rw [e] at this
    exact (Int.mul_eq_zero.mp this).resolve_left hl
/-- no row has its last one -/
theorem LoneL.not {T : List (List Int)} {m : Nat} (h : ∀ r ∈ T, r.getD m 0 = 0) : ¬ LoneL T (m + 1) := fun L => by
  have := L (fun j => if j = m then 1 else 0) (fun r hr => by
    rw [sm_last, sm_zero _ m fun l hl => by rw [if_neg (by omega), Int.mul_zero], h r hr, Int.zero_mul]
    rfl) m (by omega)
  rw [if_pos rfl] at this
  omega
end Brs
set_option Elab.async false
set_option linter.all false
set_option maxRecDepth 100000
set_option maxHeartbeats 4000000
namespace L2
open PySem PySem.Spec PyProof.Rows
theorem Room.u80 {k : Nat} {A : Around} (r : Room k A) : A.units + 80 < cLine := by have := r.un; omega
section
variable {X : Cx}
theorem get_reads {h : Heap} : ∀ {es : List PyData} {us : List Value} {as : List Addr}, ReadsAll h us es as → us.length = es.length ∧ ∀ (j : Nat) (u : Value), us[j]? = some u → ∃ e, es[j]? = some e ∧ ∃ as, Reads h u e as
  | [], us, as, r => by cases r; exact ⟨rfl, fun j u e => by simp at e⟩
  | e :: es, us, as, r => by
    cases r with
    | cons r1 r2 =>
      obtain ⟨l, g⟩ := get_reads r2
      refine ⟨by simp [l], fun j u hu => ?_⟩
      match j, hu with
      | 0, hu => cases hu; exact ⟨e, rfl, _, r1⟩
      | j + 1, hu => exact g j u hu
/-- where one that is told deep stands first -/
def FirstD (es : List PyData) (d : PyData) (j : Nat) : Prop := (∃ e, es[j]? = some e ∧ PyData.eqv e d = true) ∧ ∀ (m : Nat) (e : PyData), m < j → es[m]? = some e → PyData.eqv e d = false
end
end L2
set_option Elab.async false
set_option linter.all false
set_option maxRecDepth 100000
set_option maxHeartbeats 4000000
namespace L2
open PySem PySem.Spec PyProof.Rows
theorem remove_loopAt (l : Addr) (items : Array Value) (n : Nat) (x : Value) (e : Value → Bool) (j : Nat) (hj : j < items.size) (hit : e items[j] = true) (hs1 : items.size ≤ sizeLine) (k : Nat) :
    ∀ i : Nat, j - i = k → i ≤ j → (∀ m (hm : m < items.size), i ≤ m → m < j → e items[m] = false) → Meets (Builtin.«list.remove.loop» ⟨[.ref l, x, rawInt i], []⟩)
      (fun A R s => s.heap.get? l = some { cls := .type "list", dict := none, data := .seq items n, slots := #[] } ∧ (∀ y, y ∈ items → SeqAt.EqAt A.in1 s y x (e y)) ∧ R (.ok (.ret .none)) { s with heap := s.heap.update l (Obj.mapSeq fun xs => xs.eraseIdxIfInBounds j) }) := by
  induction k with
  | zero =>
    intro i hk hij hno prog w A R s h
    obtain ⟨hp, g, d, tk, os⟩ := s; obtain ⟨hl, he, h⟩ := h
    have hij' : i = j := by omega
    subst hij'
    wp_walk using wpAny_loadPart' hl
    have hi : items[((i : Nat) : Int).toNat]? = some items[i] := by simp [hj]
    rw [hi]
    refine wpAny_bind (he _ (Array.getElem_mem hj) prog w _ _ ?_)
    rw [hit]
    have hz' : (items.eraseIdxIfInBounds i).size ≤ sizeLine + 1 := Nat.le_trans (MeetsSeq.size_erased items _) (Nat.le_succ_of_le hs1)
    wp_walk using (wpAny_updateSeq hl rfl (hz := hs1) (_hz' := hz')), wpAny_loadPart' hl
    simpa using h
  | succ k ih =>
    intro i hk hij hno prog w A R s h
    obtain ⟨hp, g, d, tk, os⟩ := s; obtain ⟨hl, he, h⟩ := h
    have hlt : i < items.size := by omega
    wp_walk using wpAny_loadPart' hl
    have hi : items[((i : Nat) : Int).toNat]? = some items[i] := by simp [hlt]
    have hc : ((i : Int) + 1) = ((i + 1 : Nat) : Int) := by push_cast; rfl
    rw [hi]
    refine wpAny_bind (he _ (Array.getElem_mem hlt) prog w _ _ ?_)
    rw [hno i hlt (Nat.le_refl _) (by omega)]
    wp_walk
    rw [hc]
    exact ⟨plainId_quiet MeetsSeq.plain_remove_loop _, codeAny_builtin MeetsSeq.entry_remove_loop (by
      rw [Around.under_plainId MeetsSeq.plain_remove_loop _]
      exact ih (i + 1) (by omega) (by omega) (fun m hm h1 h2 => hno m hm (by omega) h2) prog w A R _ ⟨hl, he, h⟩)⟩
theorem list_removeAt (l : Addr) (items : Array Value) (n : Nat) (x : Value) (e : Value → Bool) (j : Nat) (hj : j < items.size)
    (hit : e items[j] = true) (hno : ∀ m (hm : m < items.size), m < j → e items[m] = false) (hs1 : items.size ≤ sizeLine) :
    Meets (Builtin.«list.remove» ⟨[.ref l, x], []⟩)
      (fun A R s => s.heap.get? l = some { cls := .type "list", dict := none, data := .seq items n, slots := #[] } ∧ (∀ y, y ∈ items → SeqAt.EqAt A.in1 s y x (e y)) ∧ R (.ok (.ret .none)) { s with heap := s.heap.update l (Obj.mapSeq fun xs => xs.eraseIdxIfInBounds j) }) := by
  intro prog w A R s h
  obtain ⟨hp, g, d, tk, os⟩ := s; obtain ⟨hl, he, h⟩ := h
  wp_walk using wpAny_loadPart' hl
  exact ⟨plainId_quiet MeetsSeq.plain_remove_loop _, codeAny_builtin MeetsSeq.entry_remove_loop (by
    rw [Around.under_plainId MeetsSeq.plain_remove_loop _]
    exact remove_loopAt l items n x e j hj hit hs1 _ 0 rfl (Nat.zero_le _) (fun m hm _ h2 => hno m hm h2) prog w A R _ ⟨hl, he, h⟩)⟩
section
variable {X : Cx}
inductive rRemoveD (K : PySem.W.Frag) (x : V) (vs : List V) (H : Hp) (Q : VK) : Prop
  | mk : ∀ (l : Addr) (xs : List V) (y : V) (d : PyData) (es : List PyData) (j : Nat), (x = .ref l) → (vs = [y]) → (H l = some (.lst xs)) → (Dt K H d y) → (DtAll K H es xs) → (SeqAt.shaped d = true) → ((∀ e ∈ es, SeqAt.shaped e = true)) → (FirstD es d j) → (Q .non (upd H l (.lst (xs.eraseIdx j)))) → rRemoveD K x vs H Q
theorem mt_removeD (hu : X.A.units + 80 < cLine) : MtM X "list.remove" (rRemoveD X.K) := by
  intro pins s σ H x vs v us Q I rx rv h
  obtain ⟨l, xs, y, d, es, j, rfl, rfl, hH, hd, hes, sd, ses, ⟨⟨ej, e1, e2⟩, hno⟩, q⟩ := h
  cases rx
  obtain ⟨u, rfl, ry⟩ := vals1 rv
  obtain ⟨z, its, m, r, hl, e⟩ := I.lstM hH
  obtain ⟨as, rd⟩ := Dt.reads I d y u ry hd
  obtain ⟨bs, ra⟩ := DtAll.reads I es xs its r hes
  obtain ⟨ll, gr⟩ := get_reads ra
  have hj : j < its.length := by rw [ll]; exact (List.getElem?_eq_some_iff.mp e1).1
  have val : ∀ (i : Nat) (hi : i < its.length) (ei : PyData), es[i]? = some ei → eqD s.heap d its[i] = PyData.eqv ei d := fun i hi ei h => by
    obtain ⟨e', he, cs, re⟩ := gr i its[i] (List.getElem?_eq_getElem hi)
    rw [h] at he
    cases he
    exact eqD_of (SeqAt.canLay_of_shaped (ses ei (List.mem_of_getElem? h))) re
  refine call_meets F.slot_list_remove ⟨_, e, rfl⟩ F.entry_list_remove (F.args_list_remove_2 _ _) (list_removeAt l its.toArray m u (eqD s.heap d) j (by rw [List.size_toArray]; exact hj) (by rw [List.getElem_toArray, val j hj ej e1]; exact e2) (fun i hi lt => ?_) (by rw [List.size_toArray]; omega)) ⟨e, fun w hw => ?_, ?_⟩
  · rw [List.size_toArray] at hi
    rw [List.getElem_toArray, val i hi _ (List.getElem?_eq_getElem (by omega))]
    exact hno i _ lt (List.getElem?_eq_getElem (by omega))
  · obtain ⟨i, hi, rfl⟩ := List.mem_iff_getElem.mp (List.mem_toArray.mp hw)
    obtain ⟨e', he, cs, re⟩ := gr i its[i] (List.getElem?_eq_getElem hi)
    have sh := ses e' (List.mem_of_getElem? he)
    rw [eqD_of (SeqAt.canLay_of_shaped sh) re]
    exact SeqAt.eqAt_reads e' d _ s its[i] u cs as re rd (SeqAt.canLay_of_shaped sh) (SeqAt.canLay_of_shaped sd) (SeqAt.room_of_shaped sh (by show X.A.units + 1 + 64 < cLine; omega))
  · refine ⟨.non, _, I.lset (its' := its.eraseIdx j) hH e ?_ (r.eraseIdx j) ?_, rfl, q⟩
    · show its.toArray.eraseIdxIfInBounds j = (its.eraseIdx j).toArray
      rw [List.eraseIdxIfInBounds_toArray]
    · have := len_erase xs j
      omega
end
end L2
--M3
set_option Elab.async false
set_option linter.all false
set_option maxRecDepth 100000
set_option maxHeartbeats 4000000
namespace Prf
open PySem L2 Own Tri Cyc Rnd
def top (i : Nat) : Stmt := PySem.Challenge.pw_restdraw_k31_solved.main.body.getD i (.Pass ⟨0, 0, 0, 0⟩)
abbrev s_greatest_divisor : Stmt := top 1
theorem sc_greatest_divisor : FnScope ["one", "other"] ["one", "other"] (defScope s_greatest_divisor) := sc_mk
abbrev s_fraction : Stmt := top 2
theorem sc_fraction : FnScope ["n", "d", "divisor"] ["n", "d"] (defScope s_fraction) := sc_mk
abbrev s_times : Stmt := top 3
theorem sc_times : FnScope ["one", "other"] ["one", "other"] (defScope s_times) := sc_mk
abbrev s_common_multiple : Stmt := top 5
theorem sc_common_multiple : FnScope ["some", "multiple", "n", "d"] ["some"] (defScope s_common_multiple) := sc_mk
abbrev s_whole_times : Stmt := top 6
theorem sc_whole_times : FnScope ["some", "by"] ["some", "by"] (defScope s_whole_times) := sc_mk
abbrev s_cleared : Stmt := top 7
theorem sc_cleared : FnScope ["rows", "sides", "factors", "xs", "ys", "wide", "high", "table"] ["rows", "sides"] (defScope s_cleared) := sc_mk
abbrev s_swept : Stmt := top 8
theorem sc_swept : FnScope ["table", "at", "divisor", "top", "lead"] ["table", "at", "divisor"] (defScope s_swept) := sc_mk
abbrev s_solved : Stmt := top 9
theorem sc_solved : FnScope ["rows", "sides", "many", "table", "wide", "high", "divisor", "at", "leading", "first"] ["rows", "sides"] (defScope s_solved) := sc_mk
abbrev s_law_pot : Stmt := top 11
theorem sc_law_pot : FnScope ["_law_script", "_law_k", "_law_cell"] ["_law_script", "_law_k"] (defScope s_law_pot) := sc_mk
abbrev s_law_digit : Stmt := top 12
theorem sc_law_digit : FnScope ["_law_pot_here", "_law_many", "_law_digit_here"] ["_law_pot_here", "_law_many"] (defScope s_law_digit) := sc_mk
abbrev s_law_common : Stmt := top 13
theorem sc_law_common : FnScope ["_law_one", "_law_other", "_law_a", "_law_b"] ["_law_one", "_law_other"] (defScope s_law_common) := sc_mk
abbrev s_law_is_fraction : Stmt := top 14
theorem sc_law_is_fraction : FnScope ["_law_one", "_law_number"] ["_law_one"] (defScope s_law_is_fraction) := sc_mk
abbrev s_law_is_drawing : Stmt := top 15
theorem sc_law_is_drawing : FnScope ["_law_found", "_law_many", "_law_point"] ["_law_found", "_law_many"] (defScope s_law_is_drawing) := sc_mk
abbrev s_law_cut : Stmt := top 17
theorem sc_law_cut : FnScope ["_law_n", "_law_d", "_law_by"] ["_law_n", "_law_d"] (defScope s_law_cut) := sc_mk
abbrev s_law_any_fraction : Stmt := top 18
theorem sc_law_any_fraction : FnScope ["_law_pot_here", "_law_most"] ["_law_pot_here", "_law_most"] (defScope s_law_any_fraction) := sc_mk
abbrev s_law_sum : Stmt := top 19
theorem sc_law_sum : FnScope ["_law_some", "_law_n", "_law_d", "_law_one", "_law_other"] ["_law_some"] (defScope s_law_sum) := sc_mk
abbrev s_law_made : Stmt := top 20
theorem sc_law_made : FnScope ["_law_pot_here", "_law_rows_here", "_law_times_each", "_law_found", "_law_k"] ["_law_pot_here", "_law_rows_here"] (defScope s_law_made) := sc_mk
abbrev s_law_rows : Stmt := top 21
theorem sc_law_rows : FnScope ["_law_pot_here", "_law_many", "_law_most", "_law_is_made", "_law_rows_here", "_law_k"] ["_law_pot_here"] (defScope s_law_rows) := sc_mk
abbrev s_law_is_lone : Stmt := top 22
theorem sc_law_is_lone : FnScope ["_law_rows_here", "_law_here", "_law_row", "_law_by", "_law_n", "_law_d", "_law_lead"] ["_law_rows_here"] (defScope s_law_is_lone) := sc_mk
abbrev s_law_shorter : Stmt := top 23
theorem sc_law_shorter : FnScope ["_law_row", "_law_lead", "_law_found", "_law_by", "_law_number"] ["_law_row", "_law_lead"] (defScope s_law_shorter) := sc_mk
abbrev s_law_comes : Stmt := top 24
theorem sc_law_comes : FnScope ["_law_row", "_law_points", "_law_side", "_law_axis", "_law_some"] ["_law_row", "_law_points", "_law_side", "_law_axis"] (defScope s_law_comes) := sc_mk
abbrev s_law : Stmt := top 25
theorem sc_law : FnScope ["_law_script", "_law_k", "_law_pot_here", "_law_rows_here", "_law_sides", "_law_kept", "_law_found", "_law_row", "_law_side"] ["_law_script"] (defScope s_law) := sc_mk
structure FxG (P : Program) (K : PySem.W.Frag) (mg : Str → Option Value) : Prop where
  X : ∃ h : Heap, K.In h ∧ h.Ns mainGlobals mg
  tr : P.given.tree = none
  d0 : DfAt K "greatest_divisor" s_greatest_divisor
  d1 : DfAt K "fraction" s_fraction
  d2 : DfAt K "times" s_times
  d3 : DfAt K "common_multiple" s_common_multiple
  d4 : DfAt K "whole_times" s_whole_times
  d5 : DfAt K "cleared" s_cleared
  d6 : DfAt K "swept" s_swept
  d7 : DfAt K "solved" s_solved
  d8 : DfAt K "_law_pot" s_law_pot
  d9 : DfAt K "_law_digit" s_law_digit
  d10 : DfAt K "_law_common" s_law_common
  d11 : DfAt K "_law_is_fraction" s_law_is_fraction
  d12 : DfAt K "_law_is_drawing" s_law_is_drawing
  d14 : DfAt K "_law_cut" s_law_cut
  d15 : DfAt K "_law_any_fraction" s_law_any_fraction
  d16 : DfAt K "_law_sum" s_law_sum
  d17 : DfAt K "_law_made" s_law_made
  d18 : DfAt K "_law_rows" s_law_rows
  d19 : DfAt K "_law_is_lone" s_law_is_lone
  d20 : DfAt K "_law_shorter" s_law_shorter
  d21 : DfAt K "_law_comes" s_law_comes
  d22 : DfAt K "law" s_law
  y0 : PySem.W.nsIn K mainGlobals "max" = some none
  y1 : PySem.W.nsIn K mainGlobals "abs" = some none
  y2 : PySem.W.nsIn K mainGlobals "divmod" = some none
  y3 : PySem.W.nsIn K mainGlobals "len" = some none
  y4 : PySem.W.nsIn K mainGlobals "isinstance" = some none
  y5 : PySem.W.nsIn K mainGlobals "tuple" = some none
  y6 : PySem.W.nsIn K mainGlobals "bool" = some none
  y7 : PySem.W.nsIn K mainGlobals "int" = some none
  y8 : PySem.W.nsIn K mainGlobals "zip" = some none
  y9 : PySem.W.nsIn K mainGlobals "enumerate" = some none
  y10 : PySem.W.nsIn K mainGlobals "range" = some none
  y11 : PySem.W.nsIn K mainGlobals "all" = some none
  y12 : PySem.W.nsIn K mainGlobals "min" = some none
  y13 : PySem.W.nsIn K mainGlobals "repr" = some none
theorem FxG.z {P : Program} {K : PySem.W.Frag} {mg : Str → Option Value} (B : FxG P K mg) {n : Str} (y : PySem.W.nsIn K mainGlobals n = some none) : mg n = none := by
  obtain ⟨h, x, g⟩ := B.X
  exact PySem.W.mg_none_of x g y
def Bad (c : Cn) : Prop := FxG c.P c.K c.mg ∧ ∃ f fd, Fun c.K "law" "law" s_law f fd ∧ ¬ FnOk c.P c.w c.K c.mg c.base CX0 46 f fd ["_law_script"] (spLaw c.K)
noncomputable def c0 : Cn := Classical.epsilon Bad
noncomputable def P : Program := c0.P
noncomputable def w : World := c0.w
noncomputable def K : PySem.W.Frag := c0.K
noncomputable def mg : Str → Option Value := c0.mg
noncomputable def base : Heap := c0.base
abbrev Fx := FxG P K mg
abbrev Hs := Own.Has P w K mg base
theorem same_new {H : Hp} {p : Addr} (h : H p = none) (o : HO) : Same H (upd H p o) := fun b u q => by rw [upd_ne (ne_of_none q h)]; exact q
def SameBut (a : Addr) (H H' : Hp) : Prop := ∀ b o, b ≠ a → H b = some o → H' b = some o
theorem abs_eq (i : Int) : (if i < 0 then -i else i) = (i.natAbs : Int) := by split <;> omega
inductive spPot (K : PySem.W.Frag) (vs : List V) (H : Hp) (Q : VK) (Y : XK) : Prop
  | mk : ∀ (a : Addr) (ns : List Int) (k : Int), (vs = [.ref a, .int k]) → (SqL K H a (ns.map V.int)) → (ns.length ≤ 63) → (0 ≤ k) → (k ≤ 63) → (∀ (p : Addr) (x y : Int) (H' : Hp), 0 ≤ x → Same H H' → H p = none → H' p = some (.lst [.int x, .int y]) → Q (.ref p) H') → spPot K vs H Q Y
def PotAt (H : Hp) (a : Addr) : Prop := ∃ x y : Int, H a = some (.lst [.int x, .int y]) ∧ 0 ≤ x
inductive spDigit (vs : List V) (H : Hp) (Q : VK) (Y : XK) : Prop
  | mk : ∀ (a : Addr) (m : Int), (vs = [.ref a, .int m]) → (PotAt H a) → (0 < m) → (m.natAbs < 2 ^ 9000) → (∀ (d : Int) (H' : Hp), 0 ≤ d → d < m → SameBut a H H' → PotAt H' a → Q (.int d) H') → spDigit vs H Q Y
def vn (n : Nat) : V := .int (n : Int)
def ci (n : Nat) : Int := n
section
theorem at0 {x y : V} : atI [x, y] 0 = some x := rfl
theorem at1 {x y : V} : atI [x, y] 1 = some y := rfl
theorem cut_ints (ns : List Int) (lo hi : Option Int) : ∃ ms : List Int, cutV (ns.map V.int) lo hi = ms.map V.int ∧ ms.length ≤ ns.length := by
  refine ⟨(ns.drop (HT.sIx (ns.map V.int).length 0 lo)).take (HT.sIx (ns.map V.int).length (ns.map V.int).length hi - HT.sIx (ns.map V.int).length 0 lo), ?_, ?_⟩
  · unfold cutV
    rw [List.map_take, List.map_drop]
  · rw [List.length_take, List.length_drop]
    omega
theorem first_int (ms : List Int) : ∃ c : Int, atI (ms.map V.int ++ [V.int 0]) 0 = some (V.int c) := by
  cases ms with
  | nil => exact ⟨0, rfl⟩
  | cons x r => exact ⟨x, atI_nat (j := 0) rfl⟩
theorem small {n : Nat} (h : n ≤ 1000) : n ≤ sizeLine := Nat.le_of_lt (small1000 h)
theorem ok_law_pot (B : Fx) : Hs "_law_pot" ["_law_script", "_law_k"] 1 (spPot K) := by
  refine hs_of B.X B.d8 sc_law_pot fun f cdv A outer s H vs Q E nN hr h => ?_
  obtain ⟨a, ns, k, rfl, hS, h63, k0, k1, q⟩ := h
  refine ⟨_, (pss_cons (pst 2 nN (pix ix_list (pe_op op_cat (pe_slice sl_list (pv 0) (po_some (pv 1)) (po_some (pe_op op_add (pv 1) pe_int))) (pe_lst (p1 pe_int))) pe_int))
      (pss_one (ps_ret (pe_lst (p2 (pe_callB (call_max2 rfl) rfl (B.z B.y0) PyProof.Rows.boot_max (p2 pe_int (pe_op op_sub (pv 2) (pe_op op_pow pe_int pe_int)))) (pe_op op_add (pe_op op_mod (pe_op op_add (pe_op op_add (pe_callB call_abs rfl (B.z B.y1) PyProof.Rows.boot_abs (p1 (pv 2))) (pe_op op_mul pe_int (pv 1))) pe_int) pe_int) pe_int)))))), ?_⟩
  try dsimp only [cxOf]
  obtain ⟨ms, em, lm⟩ := cut_ints ns (some k) (some (k + 1))
  obtain ⟨c, hc⟩ := first_int ms
  refine ⟨_, rfl, _, rfl, k, rfl, _, rfl, _, _, rfl, rfl, k + 1, rfl, a, _, rfl, hS, fun p1 h1 => ?_⟩
  refine ⟨(by show 1 ≤ sizeLine; decide), fun p2 h2 => ?_⟩
  have n12 : p1 ≠ p2 := ne_of_none upd_same h2
  refine ⟨p1, p2, _, _, rfl, rfl, (by rw [upd_ne n12]; exact upd_same), upd_same, (by rw [em, List.length_map, List.length_singleton]; exact small (by omega)), fun p3 h3 => ?_⟩
  refine ⟨p3, _, _, _, rfl, rfl, SqL.of upd_same, (by rw [em]; exact hc), ?_⟩
  have g1 : Same H (upd H p1 (.lst (cutV (ns.map V.int) (some k) (some (k + 1))))) := same_new h1 _
  have g2 := same_new h2 (.lst [V.int 0])
  have g3 := same_new h3 (.lst (cutV (ns.map V.int) (some k) (some (k + 1)) ++ [V.int 0]))
  have g := g1.trans (g2.trans g3)
  refine ⟨_, rfl, _, _, rfl, rfl, ⟨by decide, by decide, by decide⟩, _, _, rfl, rfl, _, _, rfl, _, rfl, c, rfl, _, rfl, _, _, rfl, rfl, .inl ⟨by decide, by decide⟩, _, _, rfl, rfl, _, _, rfl, rfl, _, _, rfl, rfl, (by show (0 : Int) < 2147483629; decide), _, _, rfl, rfl, (by show 2 ≤ sizeLine; decide), fun p4 h4 => ?_⟩
  refine q p4 _ _ _ ?_ (g.trans (same_new h4 _)) (g.free h4) upd_same
  split <;> omega
theorem SameBut.refl (a : Addr) (H : Hp) : SameBut a H H := fun _ _ _ h => h
theorem SameBut.trans {a : Addr} {H H1 H2 : Hp} (x : SameBut a H H1) (y : SameBut a H1 H2) : SameBut a H H2 := fun b o n h => y b o n (x b o n h)
theorem SameBut.of {a : Addr} {H H' : Hp} (h : Same H H') : SameBut a H H' := fun b o _ e => h b o e
theorem but_upd {a : Addr} {H : Hp} {o : HO} : SameBut a H (upd H a o) := fun b u n h => by rw [upd_ne n]; exact h
theorem ok_law_digit (B : Fx) : Hs "_law_digit" ["_law_pot_here", "_law_many"] 1 (spDigit) := by
  refine hs_of B.X B.d9 sc_law_digit fun f cdv A outer s H vs Q E nN hr h => ?_
  obtain ⟨a, m, rfl, ⟨x, y, ha, hx⟩, m0, m1, q⟩ := h
  refine ⟨_, (pss_cons (ps_if (pt_cmpR op_gt (pix ix_list (pv 0) pe_int) pe_int (nomark _)) (pss_cons (ps_asg (pe_callB call_divmodW rfl (B.z B.y2) PyProof.Rows.boot_divmod (p2 (pix ix_list (pv 0) pe_int) (pv 1))) (pg_tup (n := 2) rfl (pgs_cons (pg_sub (pv 0) pe_int set_list) (pgs_cons (pgn 2 nN) pgs_nil))))
      (pss_one (ps_ret (pv 2)))) pss_nil)
      (pss_cons (ps_asg (pe_op op_mod (pe_op op_add (pe_op op_mul (pix ix_list (pv 0) pe_int) pe_int) pe_int) pe_int) (pg_sub (pv 0) pe_int set_list))
      (pss_one (ps_ret (pe_op op_mod (pe_op op_fdiv (pe_op op_mod (pe_op op_mul (pix ix_list (pv 0) pe_int) (pix ix_list (pv 0) pe_int)) pe_int) pe_int) (pv 1)))))), ?_⟩
  try dsimp only [cxOf]
  refine ⟨_, rfl, a, _, _, _, rfl, rfl, SqL.of ha, at0, _, _, rfl, rfl, _, rfl, ?_⟩
  refine ite2 (fun c => ?_) (fun c => ?_)
  · refine ⟨_, rfl, a, _, _, _, rfl, rfl, SqL.of ha, at0, _, rfl, x, m, rfl, ⟨m0, m1⟩, fun p hp => ?_⟩
    have nap : a ≠ p := ne_of_none ha hp
    refine ⟨p, _, rfl, SqT.of upd_same, rfl, _, _, rfl, _, rfl, a, _, _, 0, rfl, rfl, (by rw [upd_ne nap]; exact ha), rfl, _, _, rfl, rfl, ?_⟩
    refine ⟨_, rfl, ?_⟩
    refine q _ _ (Int.emod_nonneg _ (by omega)) (Int.emod_lt_of_pos _ m0) ((SameBut.of (same_new hp _)).trans but_upd) ⟨_, _, upd_same, ?_⟩
    exact Int.ediv_nonneg hx (by omega)
  · refine ⟨_, rfl, a, _, _, _, rfl, rfl, SqL.of ha, at1, _, _, rfl, rfl, .inr ⟨by decide, by decide⟩, _, _, rfl, rfl, _, _, rfl, rfl, (by show (0 : Int) < 2147483647; decide), ?_⟩
    refine ⟨_, rfl, a, _, _, 1, rfl, rfl, ha, rfl, ?_⟩
    have b1 : 0 ≤ (y * 48271 + 39373) % 2147483647 := Int.emod_nonneg _ (by decide)
    have b2 : (y * 48271 + 39373) % 2147483647 < 2147483647 := Int.emod_lt_of_pos _ (by decide)
    refine ⟨_, rfl, a, _, _, _, rfl, rfl, SqL.of upd_same, at1, _, rfl, a, _, _, _, rfl, rfl, SqL.of upd_same, at1, _, _, rfl, rfl, .inl ⟨?_, ?_⟩, _, _, rfl, rfl, (by show (0 : Int) < 2147483629; decide), _, _, rfl, rfl, ⟨by decide, by decide⟩, _, rfl, _, _, rfl, rfl, m0, ?_⟩
    · show -(2 ^ 64) < (y * 48271 + 39373) % 2147483647
      omega
    · show (y * 48271 + 39373) % 2147483647 < 2 ^ 64
      omega
    · exact q _ _ (Int.emod_nonneg _ (by omega)) (Int.emod_lt_of_pos _ m0) but_upd ⟨_, _, upd_same, hx⟩
theorem keep {H H1 H2 : Hp} {p : Addr} (g : Same H H1) (n : H p = none) (b : SameBut p H1 H2) : Same H H2 := fun c o e => b c o (ne_of_none e n) (g c o e)
theorem PotAt.kept {H H' : Hp} {p : Addr} (h : PotAt H p) (g : Same H H') : PotAt H' p := by
  obtain ⟨x, y, e, z⟩ := h
  exact ⟨x, y, g _ _ e, z⟩
theorem lit9 {i : Int} (h : i.natAbs < 2 ^ 200) : i.natAbs < 2 ^ 9000 := Nat.lt_of_lt_of_le h (Nat.pow_le_pow_right (by decide) (by decide))
theorem PotAt.other {H : Hp} {a l : Addr} {o : HO} (h : PotAt H a) (n : a ≠ l) : PotAt (upd H l o) a := by
  obtain ⟨x, y, e, z⟩ := h
  exact ⟨x, y, by rw [upd_ne n]; exact e, z⟩
end
--SPLIT
open Mth
inductive spGcd (vs : List V) (H : Hp) (Q : VK) (Y : XK) : Prop
  | mk : ∀ (i j : Int), (vs = [.int i, .int j]) → (Q (.int (Int.gcd i j)) H) → spGcd vs H Q Y
inductive spCommon (vs : List V) (H : Hp) (Q : VK) (Y : XK) : Prop
  | mk : ∀ (a b : Nat), (vs = [.int a, .int b]) → (Q (.int (Nat.gcd a b : Nat)) H) → spCommon vs H Q Y
def Gets (n d : Int) (H : Hp) (Q : VK) : Prop := ∀ (n' d' : Int) (p : Addr) (H' : Hp), Fr n d n' d' → Same H H' → H' p = some (.tup [.int n', .int d']) → Q (.ref p) H'
inductive spFr (vs : List V) (H : Hp) (Q : VK) (Y : XK) : Prop
  | mk : ∀ (n d : Int), (vs = [.int n, .int d]) → (d ≠ 0) → (Gets n d H Q) → spFr vs H Q Y
inductive spCut (vs : List V) (H : Hp) (Q : VK) (Y : XK) : Prop
  | mk : ∀ (n d : Int), (vs = [.int n, .int d]) → (0 < d) → (Gets n d H Q) → spCut vs H Q Y
inductive spTimes (vs : List V) (H : Hp) (Q : VK) (Y : XK) : Prop
  | mk : ∀ (p q : Addr) (a b c e : Int), (vs = [.ref p, .ref q]) → (H p = some (.tup [.int a, .int b])) → (H q = some (.tup [.int c, .int e])) → (Own.CMulV a c) → (Own.CMulV b e) → (b * e ≠ 0) → (Gets (a * c) (b * e) H Q) → spTimes vs H Q Y
def FrAt (H : Hp) (p : Addr) (n d : Int) (M : Nat) : Prop := H p = some (.tup [.int n, .int d]) ∧ 0 < d ∧ Int.gcd n d = 1 ∧ n.natAbs ≤ M ∧ d.natAbs ≤ M
inductive spAny (vs : List V) (H : Hp) (Q : VK) (Y : XK) : Prop
  | mk : ∀ (a : Addr) (m : Int), (vs = [.ref a, .int m]) → (PotAt H a) → (3 ≤ m) → (m ≤ 10 ^ 30) → (∀ (p : Addr) (n d : Int) (H' : Hp), SameBut a H H' → PotAt H' a → FrAt H' p n d (max m 6).toNat → Q (.ref p) H') → spAny vs H Q Y
inductive spIsFr (vs : List V) (H : Hp) (Q : VK) (Y : XK) : Prop
  | mk : ∀ (p : Addr) (n d : Int), (vs = [.ref p]) → (H p = some (.tup [.int n, .int d])) → (0 < d) → (Int.gcd n d = 1) → (Q (.bl true) H) → spIsFr vs H Q Y
theorem ok_greatest_divisor (B : Fx) : Hs "greatest_divisor" ["one", "other"] 1 (spGcd) := by
  refine hs_of B.X B.d0 sc_greatest_divisor fun f cdv A outer s H vs Q E nN hr h => ?_
  obtain ⟨i, j, rfl, q⟩ := h
  refine ⟨_, (pss_cons (pst 0 nN (pe_callB call_abs rfl (B.z B.y1) PyProof.Rows.boot_abs (p1 (pv 0))))
      (pss_cons (pst 1 nN (pe_callB call_abs rfl (B.z B.y1) PyProof.Rows.boot_abs (p1 (pv 1))))
      (pss_cons (ps_while PassesOwn.never (pt_cmpR op_ne (pv 1) pe_int (nomark _)) (pss_one (ps_par (i := 0) (j := 1) rfl nN rfl rfl (by decide) rfl rfl (p2 (pv 1) (pe_op op_mod (pv 0) (pv 1))) rfl)))
      (pss_one (ps_ret (pv 0)))))), ?_⟩
  try dsimp only [cxOf]
  refine ⟨_, rfl, i, rfl, _, rfl, j, rfl, ?_⟩
  refine while_by (fun σ H1 => H1 = H ∧ ∃ a b : Nat, σ = [some (.int a), some (.int b)] ∧ Nat.gcd a b = Int.gcd i j) (fun σ _ => match σ with | [_, some (.int b)] => b.toNat | _ => 0) ⟨rfl, i.natAbs, j.natAbs, ?_, rfl⟩ ?_ ?_
  · show [some (V.int (if i < 0 then -i else i)), some (V.int (if j < 0 then -j else j))] = _
    rw [abs_eq, abs_eq]
  · rintro σ H1 ⟨rfl, a, b, rfl, e⟩
    refine ⟨_, rfl, rfl, _, rfl, ?_⟩
    refine ite2 (fun c => ?_) (fun c => ?_)
    · have hb : b ≠ 0 := fun z => by subst z; simp at c
      refine ⟨_, rfl, _, rfl, _, rfl, _, _, rfl, rfl, (by omega), _, _, rfl, ⟨rfl, b, a % b, ?_, ?_⟩, ?_⟩
      · rw [Int.natCast_emod] <;> rfl
      · rw [gcd_turn]; exact e
      · show ((a : Int) % (b : Int)).toNat < ((b : Nat) : Int).toNat
        rw [← Int.natCast_emod, Int.toNat_natCast, Int.toNat_natCast]
        exact Nat.mod_lt _ (by omega)
    · have hb : b = 0 := by
        simp at c
        omega
      subst hb
      refine ⟨_, rfl, ?_⟩
      rw [Nat.gcd_zero_right] at e
      rw [← e] at q
      exact q
  · rintro σ H1 Q1 Q2 m ⟨v, e1, s1, k, e2, q1⟩
    exact ⟨v, e1, s1, k, e2, m _ _ q1⟩
theorem ok_fraction (B : Fx) : Hs "fraction" ["n", "d"] 40 (spFr) := by
  refine hs_of B.X B.d1 sc_fraction fun f cdv A outer s H vs Q E nN hr h => ?_
  obtain ⟨n, d, rfl, d0, q⟩ := h
  refine ⟨_, (pss_cons (pst 2 nN (pf (ok_greatest_divisor B) hr (p2 (pv 0) (pv 1))))
      (pss_cons (ps_if (pt_cmpR op_lt (pv 1) pe_int (nomark _)) (pss_one (pst 2 nN (pe_un un_neg (pv 2)))) pss_nil)
      (pss_one (ps_ret (pe_tup (p2 (pe_op (Own.op_fdivV (deep32 hr (by decide)) (ht := B.tr)) (pv 0) (pv 2)) (pe_op (Own.op_fdivV (deep32 hr (by decide)) (ht := B.tr)) (pv 1) (pv 2)))))))), ?_⟩
  try dsimp only [cxOf]
  have gl := gcd_le (n := n) d0
  have gp := gcd_pos (n := n) d0
  refine ⟨_, rfl, _, rfl, n, d, rfl, ?_⟩
  refine ⟨_, rfl, _, _, rfl, rfl, _, rfl, ?_⟩
  refine ite2 (fun c => ?_) (fun c => ?_)
  · have c' : d < 0 := of_decide_eq_true c
    refine ⟨_, rfl, _, rfl, ?_⟩
    have hd : Own.CDivV n (-(Int.gcd n d : Int)) := (by omega : -(Int.gcd n d : Int) ≠ 0)
    refine ⟨_, rfl, _, rfl, _, _, rfl, rfl, hd, _, rfl, _, rfl, _, _, rfl, rfl, hd, (by show 2 ≤ sizeLine; decide), fun p hp => ?_⟩
    exact q _ _ p _ (fr_of d0 (.inr rfl) (fdiv_pos_of d0 (.inr ⟨c', rfl⟩))) (same_new hp _) upd_same
  · have c' : ¬ d < 0 := of_decide_eq_false (Bool.eq_false_iff.mpr c)
    have hd : Own.CDivV n (Int.gcd n d : Int) := (by omega : (Int.gcd n d : Int) ≠ 0)
    refine ⟨_, rfl, _, rfl, _, _, rfl, rfl, hd, _, rfl, _, rfl, _, _, rfl, rfl, hd, (by show 2 ≤ sizeLine; decide), fun p hp => ?_⟩
    exact q _ _ p _ (fr_of d0 (.inl rfl) (fdiv_pos_of d0 (.inl ⟨by omega, rfl⟩))) (same_new hp _) upd_same
theorem ok_times (B : Fx) : Hs "times" ["one", "other"] 41 (spTimes) := by
  refine hs_of B.X B.d2 sc_times fun f cdv A outer s H vs Q E nN hr h => ?_
  obtain ⟨p, q, a, b, c, e, rfl, hp, hq, m1, m2, z, g⟩ := h
  refine ⟨_, (pss_one (ps_ret (pf (ok_fraction B) hr (p2 (pe_op Own.op_mulV (pix ix_tup (pv 0) pe_int) (pix ix_tup (pv 1) pe_int)) (pe_op Own.op_mulV (pix ix_tup (pv 0) pe_int) (pix ix_tup (pv 1) pe_int)))))), ?_⟩
  try dsimp only [cxOf]
  refine ⟨_, rfl, p, _, _, _, rfl, rfl, SqT.of hp, rfl, _, rfl, q, _, _, _, rfl, rfl, SqT.of hq, rfl, _, _, rfl, rfl, m1, ?_⟩
  refine ⟨_, rfl, p, _, _, _, rfl, rfl, SqT.of hp, rfl, _, rfl, q, _, _, _, rfl, rfl, SqT.of hq, rfl, _, _, rfl, rfl, m2, ?_⟩
  exact ⟨_, _, rfl, z, g⟩
theorem ok_law_common (B : Fx) : Hs "_law_common" ["_law_one", "_law_other"] 1 (spCommon) := by
  refine hs_of B.X B.d10 sc_law_common fun f cdv A outer s H vs Q E nN hr h => ?_
  obtain ⟨a0, b0, rfl, q⟩ := h
  refine ⟨_, (pss_cons (ps_par (i := 2) (j := 3) rfl nN rfl rfl (by decide) rfl rfl (p2 (pv 0) (pv 1)) rfl)
      (pss_cons (ps_while PassesOwn.never (pt_cmpR op_gt (pv 3) pe_int (nomark _)) (pss_one (ps_par (i := 2) (j := 3) rfl nN rfl rfl (by decide) rfl rfl (p2 (pv 3) (pe_op op_mod (pv 2) (pv 3))) rfl)))
      (pss_one (ps_ret (pv 2))))), ?_⟩
  try dsimp only [cxOf]
  refine ⟨_, rfl, _, rfl, _, _, rfl, ?_⟩
  refine while_by (fun σ H1 => H1 = H ∧ ∃ a b : Nat, σ = [some (.int a0), some (.int b0), some (.int a), some (.int b)] ∧ Nat.gcd a b = Nat.gcd a0 b0) (fun σ _ => match σ with | [_, _, _, some (.int b)] => b.toNat | _ => 0) ⟨rfl, a0, b0, rfl, rfl⟩ ?_ ?_
  · rintro σ H1 ⟨rfl, a, b, rfl, e⟩
    refine ⟨_, rfl, _, _, rfl, rfl, _, rfl, ?_⟩
    refine ite2 (fun c => ?_) (fun c => ?_)
    · have hb : (0 : Int) < b := of_decide_eq_true c
      refine ⟨_, rfl, _, rfl, _, rfl, _, _, rfl, rfl, (by omega), _, _, rfl, ⟨rfl, b, a % b, ?_, ?_⟩, ?_⟩
      · rw [Int.natCast_emod] <;> rfl
      · rw [gcd_turn]; exact e
      · show ((a : Int) % (b : Int)).toNat < ((b : Nat) : Int).toNat
        rw [← Int.natCast_emod, Int.toNat_natCast, Int.toNat_natCast]
        exact Nat.mod_lt _ (by omega)
    · have hb : ¬ (0 : Int) < b := of_decide_eq_false (Bool.eq_false_iff.mpr c)
      have hb : b = 0 := by omega
      subst hb
      refine ⟨_, rfl, ?_⟩
      rw [Nat.gcd_zero_right] at e
      rw [← e] at q
      exact q
  · rintro σ H1 Q1 Q2 m ⟨v, e1, i1, j1, e3, e4, k, e2, q1⟩
    exact ⟨v, e1, i1, j1, e3, e4, k, e2, m _ _ q1⟩
theorem ok_law_cut (B : Fx) : Hs "_law_cut" ["_law_n", "_law_d"] 40 (spCut) := by
  refine hs_of B.X B.d14 sc_law_cut fun f cdv A outer s H vs Q E nN hr h => ?_
  obtain ⟨n, d, rfl, d0, q⟩ := h
  refine ⟨_, (pss_cons (pst 2 nN (pf (ok_law_common B) hr (p2 (pe_callB call_abs rfl (B.z B.y1) PyProof.Rows.boot_abs (p1 (pv 0))) (pv 1))))
      (pss_one (ps_ret (pe_tup (p2 (pe_op (Own.op_fdivV (deep32 hr (by decide)) (ht := B.tr)) (pv 0) (pv 2)) (pe_op (Own.op_fdivV (deep32 hr (by decide)) (ht := B.tr)) (pv 1) (pv 2))))))), ?_⟩
  try dsimp only [cxOf]
  have gl := gcd_le (n := n) (d := d) (by omega)
  have gp := gcd_pos (n := n) (d := d) (by omega)
  have hd : Own.CDivV n (Int.gcd n d : Int) := (by omega : (Int.gcd n d : Int) ≠ 0)
  refine ⟨_, rfl, n, rfl, _, rfl, n.natAbs, d.natAbs, ?_, ?_⟩
  · show [V.int (if n < 0 then -n else n), V.int d] = _
    rw [abs_eq, Int.natAbs_of_nonneg (by omega : 0 ≤ d)]
  refine ⟨_, rfl, _, rfl, _, _, rfl, rfl, hd, _, rfl, _, rfl, _, _, rfl, rfl, hd, (by show 2 ≤ sizeLine; decide), fun p hp => ?_⟩
  exact q _ _ p _ (fr_of (by omega) (.inl rfl) (fdiv_pos_of (by omega) (.inl ⟨by omega, rfl⟩))) (same_new hp _) upd_same
theorem ok_law_any_fraction (B : Fx) : Hs "_law_any_fraction" ["_law_pot_here", "_law_most"] 41 (spAny) := by
  refine hs_of B.X B.d15 sc_law_any_fraction fun f cdv A outer s H vs Q E nN hr h => ?_
  obtain ⟨a, m, rfl, ha, m0, m1, q⟩ := h
  refine ⟨_, (pss_cons (ps_if (pt_cmpR op_eq (pf (ok_law_digit B) hr (p2 (pv 0) pe_int)) pe_int (nomark _)) (pss_one (ps_ret (pe_tup (p2 pe_int pe_int)))) pss_nil)
      (pss_one (ps_ret (pf (ok_law_cut B) hr (p2 (pe_op op_sub (pf (ok_law_digit B) hr (p2 (pv 0) (pe_op op_add (pe_op op_mul pe_int (pv 1)) pe_int))) (pv 1)) (pe_op op_add pe_int (pf (ok_law_digit B) hr (p2 (pv 0) (pix ix_list (pe_lst (pa_cons pe_int (pa_cons pe_int (pa_cons (pv 1) pa_nil)))) (pf (ok_law_digit B) hr (p2 (pv 0) pe_int))))))))))), ?_⟩
  try dsimp only [cxOf]
  refine ⟨_, rfl, a, 4, rfl, ha, by decide, lit9 (by decide), fun c H1 c0 c1 s1 p1 => ?_⟩
  refine ⟨rfl, _, rfl, ?_⟩
  refine ite2 (fun e => ?_) (fun e => ?_)
  · refine ⟨(by show 2 ≤ sizeLine; decide), fun p hp => ?_⟩
    exact q p 0 1 _ (s1.trans (SameBut.of (same_new hp _))) (p1.kept (same_new hp _)) ⟨upd_same, by decide, by decide, by omega, by omega⟩
  have b9 : (2 * m + 1).natAbs < 2 ^ 9000 := lit9 (by omega)
  refine ⟨_, rfl, _, rfl, _, _, rfl, rfl, .inl ⟨by decide, by decide⟩, _, _, rfl, rfl, a, _, rfl, p1, by omega, b9, fun d H2 d0 d1 s2 p2 => ?_⟩
  refine ⟨_, rfl, _, _, rfl, rfl, ?_⟩
  refine ⟨_, rfl, _, rfl, (by show 3 ≤ sizeLine; decide), fun p3 h3 => ?_⟩
  refine ⟨_, rfl, a, 3, rfl, p2.kept (same_new h3 _), by decide, lit9 (by decide), fun k H3 k0 k1 s3 p4 => ?_⟩
  have n3 : p3 ≠ a := fun z => by subst z; obtain ⟨x, y, ex, _⟩ := p2; rw [h3] at ex; cases ex
  obtain ⟨x, hx, x0, x1⟩ : ∃ x : Int, atI [V.int 1, V.int 6, V.int m] k = some (V.int x) ∧ 0 < x ∧ x ≤ max m 6 := by
    rcases (by omega : k = 0 ∨ k = 1 ∨ k = 2) with rfl | rfl | rfl
    · exact ⟨1, rfl, by omega, by omega⟩
    · exact ⟨6, rfl, by omega, by omega⟩
    · exact ⟨m, rfl, by omega, by omega⟩
  refine ⟨p3, _, _, _, rfl, rfl, SqL.of (s3 _ _ n3 upd_same), hx, ?_⟩
  refine ⟨a, x, rfl, p4, x0, lit9 (by omega), fun y H4 y0 y1 s4 p5 => ?_⟩
  refine ⟨_, _, rfl, rfl, ?_⟩
  refine ⟨d - m, 1 + y, rfl, by omega, fun n' d' p' H5 F g5 e5 => ?_⟩
  have s5 : SameBut a H2 H5 := (SameBut.of (same_new h3 _)).trans (s3.trans (s4.trans (SameBut.of g5)))
  have l1 := F.ln
  have l2 := F.ld
  exact q p' n' d' H5 (s1.trans (s2.trans s5)) (p5.kept g5) ⟨e5, F.pos, F.co, by omega, by omega⟩
theorem ok_law_is_fraction (B : Fx) : Hs "_law_is_fraction" ["_law_one"] 2 (spIsFr) := by
  refine hs_of B.X B.d11 sc_law_is_fraction fun f cdv A outer s H vs Q E nN hr h => ?_
  obtain ⟨p, n, d, rfl, hp, d0, co, q⟩ := h
  refine ⟨_, (pss_cons (ps_if (PW.pt (pw_or (pt_not (pt_val (pe_callB Own.call_isi rfl (B.z B.y4) PyProof.Rows.boot_isinstance (p2 (pv 0) (pe_bltn (v := .ty "tuple") rfl (B.z B.y5) PyProof.Rows.boot_tuple rfl))))) (pw_or1 (pt_cmpR op_ne (pe_callB call_len_seq rfl (B.z B.y3) PySem.boot_len (p1 (pv 0))) pe_int (nomark _))))) (pss_one (ps_ret pe_bl)) pss_nil)
      (pss_cons (pfor (pi_tup (pv 0)) (pgn 1 nN) (pss_one (ps_if (PW.pt (pw_or (pt_not (pt_val (pe_callB Own.call_isi rfl (B.z B.y4) PyProof.Rows.boot_isinstance (p2 (pv 1) (pe_bltn (v := .ty "int") rfl (B.z B.y7) PyProof.Rows.boot_int rfl))))) (pw_or1 (pt_val (pe_callB Own.call_isi rfl (B.z B.y4) PyProof.Rows.boot_isinstance (p2 (pv 1) (pe_bltn (v := .ty "bool") rfl (B.z B.y6) PyProof.Rows.boot_bool rfl))))))) (pss_one (ps_ret pe_bl)) pss_nil)))
      (pss_one (ps_ret (pe_and (pe_cmpR op_gt (pix ix_tup (pv 0) pe_int) pe_int (nomark _)) (pe_one (pe_cmpR op_eq (pf (ok_law_common B) hr (p2 (pe_callB call_abs rfl (B.z B.y1) PyProof.Rows.boot_abs (p1 (pix ix_tup (pv 0) pe_int))) (pix ix_tup (pv 0) pe_int))) pe_int (nomark _)))))))), ?_⟩
  try dsimp only [cxOf]
  refine ⟨_, rfl, _, _, _, _, rfl, .tup hp, rfl, _, rfl, iteF ?_⟩
  refine ⟨_, rfl, p, _, rfl, .inr (SqT.of hp), rfl, _, rfl, iteF ?_⟩
  refine ⟨_, rfl, p, rfl, ⟨_, SqT.of hp⟩, ?_⟩
  refine for_tup (xs := [V.int n, V.int d]) (fun i σ H1 => H1 = H ∧ ∃ x : Option V, σ = [some (.ref p), x]) ⟨rfl, none, rfl⟩ ?_ ?_ ?_
  · rintro i σ H1 hi ⟨rfl, x, rfl⟩
    exact SqT.of hp
  · rintro i v σ H1 hv ⟨rfl, x, rfl⟩
    obtain ⟨u, rfl⟩ : ∃ u : Int, v = .int u := by
      match i, hv with
      | 0, hv => exact ⟨n, (Option.some.inj hv).symm⟩
      | 1, hv => exact ⟨d, (Option.some.inj hv).symm⟩
      | i + 2, hv => simp at hv
    refine ⟨_, rfl, _, _, _, _, rfl, .int u, rfl, _, rfl, iteF ?_⟩
    refine ⟨_, rfl, _, _, _, false, rfl, .int u, rfl, _, rfl, iteF ?_⟩
    exact ⟨rfl, _, rfl⟩
  · rintro σ H1 ⟨rfl, x, rfl⟩
    refine ⟨_, rfl, p, _, _, _, rfl, rfl, SqT.of hp, at1, _, _, rfl, rfl, ?_⟩
    rw [decide_eq_true d0]
    refine ⟨_, rfl, iteT ?_⟩
    refine ⟨_, rfl, p, _, _, _, rfl, rfl, SqT.of hp, at0, n, rfl, _, rfl, p, _, _, _, rfl, rfl, SqT.of hp, at1, n.natAbs, d.natAbs, ?_, ?_⟩
    · show [V.int (if n < 0 then -n else n), V.int d] = _
      rw [abs_eq, Int.natAbs_of_nonneg (by omega : 0 ≤ d)]
    refine ⟨rfl, ?_⟩
    show Q (V.bl (decide (V.int (Int.gcd n d : Int) = V.int 1))) H1
    rw [co]
    exact q
def lcmF (fs : List (Int × Nat)) : Nat := fs.foldl (fun m f => Nat.lcm m f.2) 1
/-- each of these things stands at its address -/
def AllAt {α : Type} (R : Hp → Addr → α → Prop) (H : Hp) (ps : List Addr) (xs : List α) : Prop := ps.length = xs.length ∧ ∀ (i : Nat) (p : Addr) (x : α), ps[i]? = some p → xs[i]? = some x → R H p x
theorem AllAt.nil {α : Type} {R : Hp → Addr → α → Prop} {H : Hp} : AllAt R H [] [] := ⟨rfl, fun i p x h => by simp at h⟩
theorem AllAt.get {α : Type} {R : Hp → Addr → α → Prop} {H : Hp} {ps : List Addr} {xs : List α} {i : Nat} {p : Addr} (h : AllAt R H ps xs) (e : ps[i]? = some p) : ∃ x, xs[i]? = some x ∧ R H p x := by
  have hi : i < xs.length := h.1 ▸ (List.getElem?_eq_some_iff.mp e).1
  exact ⟨xs[i], List.getElem?_eq_getElem hi, h.2 i p _ e (List.getElem?_eq_getElem hi)⟩
theorem AllAt.at {α : Type} {R : Hp → Addr → α → Prop} {H : Hp} {ps : List Addr} {xs : List α} {i : Nat} {x : α} (h : AllAt R H ps xs) (e : xs[i]? = some x) : ∃ p, ps[i]? = some p ∧ R H p x := by
  have hi : i < ps.length := h.1 ▸ (List.getElem?_eq_some_iff.mp e).1
  exact ⟨ps[i], List.getElem?_eq_getElem hi, h.2 i _ x (List.getElem?_eq_getElem hi) e⟩
theorem AllAt.imp {α : Type} {R R' : Hp → Addr → α → Prop} {H H' : Hp} {ps : List Addr} {xs : List α} (h : AllAt R H ps xs) (g : ∀ p x, R H p x → R' H' p x) : AllAt R' H' ps xs := ⟨h.1, fun i p x e1 e2 => g p x (h.2 i p x e1 e2)⟩
theorem AllAt.snoc {α : Type} {R : Hp → Addr → α → Prop} {H : Hp} {ps : List Addr} {xs : List α} {p : Addr} {x : α} (h : AllAt R H ps xs) (e : R H p x) : AllAt R H (ps ++ [p]) (xs ++ [x]) := by
  refine ⟨by rw [List.length_append, List.length_append, h.1]; rfl, fun i q y e1 e2 => ?_⟩
  rcases Nat.lt_or_ge i ps.length with l | l
  · rw [List.getElem?_append_left l] at e1
    rw [List.getElem?_append_left (h.1 ▸ l)] at e2
    exact h.2 i q y e1 e2
  · rw [List.getElem?_append_right l] at e1
    rw [List.getElem?_append_right (h.1 ▸ l), ← h.1] at e2
    match i - ps.length, e1, e2 with
    | 0, e1, e2 =>
      cases e1
      cases e2
      exact e
    | k + 1, e1, _ => simp at e1
/-- a fraction n / d, d > 0 -/
def FrR (H : Hp) (p : Addr) (f : Int × Nat) : Prop := H p = some (.tup [.int f.1, .int (f.2 : Nat)]) ∧ 0 < f.2
theorem FrR.kept {H H' : Hp} {p : Addr} {f : Int × Nat} (g : Same H H') (h : FrR H p f) : FrR H' p f := ⟨g _ _ h.1, h.2⟩
theorem lcm_turn (m d : Nat) (hd : 0 < d) : (m : Int).fdiv (Int.gcd m d : Int) * d = (Nat.lcm m d : Nat) := by
  have g : 0 < Nat.gcd m d := Nat.gcd_pos_of_pos_right m hd
  show (m : Int).fdiv ((Nat.gcd m d : Nat) : Int) * d = _
  rw [Int.fdiv_eq_ediv_of_nonneg _ (by omega), ← Int.natCast_ediv, ← Int.natCast_mul]
  congr 1
  unfold Nat.lcm
  rw [Nat.div_mul_right_comm (Nat.gcd_dvd_left m d)]
theorem lcmF_take {fs : List (Int × Nat)} {i : Nat} {f : Int × Nat} (h : fs[i]? = some f) : lcmF (fs.take (i + 1)) = Nat.lcm (lcmF (fs.take i)) f.2 := by
  unfold lcmF
  rw [List.take_succ, h, List.foldl_append]
  rfl
theorem lcmF_le {M : Nat} (fs : List (Int × Nat)) (h : ∀ f ∈ fs, f.2 < 2 ^ M) : lcmF fs ≤ 2 ^ (M * fs.length) := by
  suffices ∀ (fs : List (Int × Nat)) (m : Nat), (∀ f ∈ fs, f.2 < 2 ^ M) → fs.foldl (fun m f => Nat.lcm m f.2) m ≤ m * 2 ^ (M * fs.length) by
    have := this fs 1 h
    rwa [Nat.one_mul] at this
  intro fs
  induction fs with
  | nil => exact fun m _ => by rw [List.length_nil, Nat.mul_zero, Nat.pow_zero, Nat.mul_one]; exact Nat.le_refl _
  | cons f fs ih =>
    intro m h
    refine Nat.le_trans (ih _ fun g hg => h g (List.mem_cons_of_mem _ hg)) ?_
    have h1 : Nat.lcm m f.2 ≤ m * 2 ^ M := Nat.le_trans (Nat.div_le_self _ _) (Nat.mul_le_mul (Nat.le_refl _) (Nat.le_of_lt (h f List.mem_cons_self)))
    rw [List.length_cons, Nat.mul_succ, Nat.add_comm, Nat.pow_add, ← Nat.mul_assoc]
    exact Nat.mul_le_mul h1 (Nat.le_refl _)
theorem fdiv_le {a g : Nat} : ((a : Int).fdiv (g : Int)).natAbs ≤ a := by
  rw [Int.fdiv_eq_ediv_of_nonneg _ (by omega), ← Int.natCast_ediv, Int.natAbs_natCast]
  exact Nat.div_le_self _ _
inductive spMulti (K : PySem.W.Frag) (vs : List V) (H : Hp) (Q : VK) (Y : XK) : Prop
  | mk : ∀ (k : Bool) (a : Addr) (rs : List Addr) (fs : List (Int × Nat)) (M : Nat), (vs = [.ref a]) → (SqX K k H a (rs.map V.ref)) → (AllAt FrR H rs fs) → (M ≤ 60000000 ∧ (∀ f ∈ fs, f.2 < 2 ^ M) ∧ M * fs.length ≤ 60000000) → (Q (.int (lcmF fs : Nat)) H) → spMulti K vs H Q Y
theorem ok_common_multiple (B : Fx) : Hs "common_multiple" ["some"] 40 (spMulti K) := by
  refine hs_of B.X B.d3 sc_common_multiple fun f cdv A outer s H vs Q E nN hr h => ?_
  obtain ⟨k, a, rs, fs, M, rfl, ha, hr2, hM, q⟩ := h
  refine ⟨_, (pss_cons (pst 1 nN pe_int)
      (pss_cons (pfor (pi_k k (pv 0)) (pg_tup (n := 2) rfl (pgs_cons (pgn 2 nN) (pgs_cons (pgn 3 nN) pgs_nil))) (pss_one (pst 1 nN (pe_op Own.op_mulV (pe_op (Own.op_fdivV (deep32 hr (by decide)) (ht := B.tr)) (pv 1) (pf (ok_greatest_divisor B) hr (p2 (pv 1) (pv 3)))) (pv 3)))))
      (pss_one (ps_ret (pv 1))))), ?_⟩
  try dsimp only [cxOf]
  refine ⟨_, rfl, a, rfl, ⟨_, ha⟩, ?_⟩
  refine for_k (xs := rs.map V.ref) (fun i σ H1 => H1 = H ∧ ∃ x y : Option V, σ = [some (.ref a), some (.int (lcmF (fs.take i) : Nat)), x, y]) ⟨rfl, none, none, rfl⟩ ?_ ?_ ?_
  · rintro i σ H1 hi ⟨rfl, x, y, rfl⟩
    exact ha
  · rintro i v σ H1 hv ⟨rfl, x, y, rfl⟩
    rw [List.getElem?_map] at hv
    obtain ⟨p, hp, rfl⟩ := Option.map_eq_some_iff.mp hv
    obtain ⟨f, hf, hpf, hd⟩ := hr2.get hp
    refine ⟨p, _, rfl, SqT.of hpf, rfl, _, _, rfl, _, _, rfl, rfl, ?_⟩
    have g : 0 < Nat.gcd (lcmF (fs.take i)) f.2 := Nat.gcd_pos_of_pos_right _ hd
    have hz : Own.CDivV (lcmF (fs.take i) : Nat) (Int.gcd (lcmF (fs.take i) : Nat) (f.2 : Nat) : Int) := (show ((Nat.gcd (lcmF (fs.take i)) f.2 : Nat) : Int) ≠ 0 by omega)
    refine ⟨_, rfl, _, rfl, _, rfl, _, _, rfl, _, _, rfl, rfl, hz, _, rfl, _, _, rfl, rfl, ?_, rfl, some (.int f.1), some (.int (f.2 : Nat)), ?_⟩
    · have hi : i < fs.length := (List.getElem?_eq_some_iff.mp hf).1
      have l1 := lcmF_le (fs.take i) fun g hg => hM.2.1 g (List.mem_of_mem_take hg)
      rw [List.length_take, Nat.min_eq_left (by omega)] at l1
      have l2 : M * (i + 1) ≤ M * fs.length := Nat.mul_le_mul (Nat.le_refl _) hi
      have l3 : (((lcmF (fs.take i) : Nat) : Int).fdiv ((Nat.gcd (lcmF (fs.take i)) f.2 : Nat) : Int)).natAbs ≤ _ := fdiv_le
      refine ⟨M * i + 1, M, ?_, hM.2.1 f (List.mem_of_getElem? hf), ?_⟩
      · exact Nat.lt_of_le_of_lt l3 (Nat.lt_of_le_of_lt l1 (Nat.pow_lt_pow_right (by decide) (by omega)))
      · have := hM.2.2
        rw [Nat.mul_succ] at l2
        omega
    · rw [lcmF_take hf, ← lcm_turn _ _ hd]
      rfl
  · rintro σ H1 ⟨rfl, x, y, rfl⟩
    rw [List.length_map, hr2.1, List.take_length]
    exact ⟨_, rfl, q⟩
--SPLIT
/-- a list of numbers -/
def IntsR (H : Hp) (p : Addr) (r : List Int) : Prop := H p = some (.lst (r.map V.int))
def wtF (b : Nat) (fs : List (Int × Nat)) : List Int := fs.map fun f => f.1 * ((b / f.2 : Nat) : Int)
inductive spWhole (vs : List V) (H : Hp) (Q : VK) (Y : XK) : Prop
  | mk : ∀ (a : Addr) (rs : List Addr) (fs : List (Int × Nat)) (b M N : Nat), (vs = [.ref a, .int b]) → (H a = some (.tup (rs.map V.ref))) → (AllAt FrR H rs fs) → (fs.length ≤ 900) → (∀ f ∈ fs, f.1.natAbs < 2 ^ M) → (b < 2 ^ N) → (M + N ≤ 134217728) → (∀ (p : Addr) (H' : Hp), Same H H' → H p = none → IntsR H' p (wtF b fs) → Q (.ref p) H') → spWhole vs H Q Y
theorem same_at {H H1 : Hp} {D : Addr} {o : HO} (n : H D = none) (g : Same H H1) : Same H (upd H1 D o) := fun b u e => by
  rw [upd_ne (ne_of_none e n)]
  exact g b u e
theorem take_more {α : Type} {xs : List α} {i : Nat} {x : α} (h : xs[i]? = some x) : xs.take (i + 1) = xs.take i ++ [x] := by
  rw [List.take_succ, h]
  rfl
theorem ok_whole_times (B : Fx) : Hs "whole_times" ["some", "by"] 40 (spWhole) := by
  refine hs_of B.X B.d4 sc_whole_times fun f cdv A outer s H vs Q E nN hr h => ?_
  obtain ⟨a, rs, fs, b, M, N, rfl, ha, hf, hl, hM, hN, hMN, q⟩ := h
  refine ⟨_, (pss_one (ps_ret (pe_lc1x (Nc := ["n", "d", "by"]) (js := [none, none, some 1]) rfl rfl (pi_tup (pv 0)) (CS.of rfl rfl) rfl (fun C s₂ H₂ fp pins => (show PG _ _ (gTup K 2 _) from pg_tup rfl (pgs_cons (pgc 0) (pgs_cons (pgc 1) pgs_nil)))) (fun C s₂ H₂ fp pins D L => (pt_tail0 (pb_app (pe_op Own.op_mulV (pv 0) (pe_op (Own.op_fdivV (deep32 hr (by decide)) (ht := B.tr)) (pv 2) (pv 1))))))))), ?_⟩
  try dsimp only [cxOf]
  refine ⟨_, rfl, a, rfl, ⟨_, SqT.of ha⟩, fun D nD => ?_⟩
  refine walk_tup (xs := rs.map V.ref) (fun j σ H3 => ∃ x y : Option V, σ = [x, y, some (.int b)] ∧ Same H H3 ∧ IntsR H3 D (wtF b (fs.take j))) ⟨none, none, rfl, same_new nD _, upd_same⟩ ?_ ?_ ?_
  · rintro j σ H3 _ ⟨x, y, rfl, g3, _⟩
    exact SqT.of (g3 _ _ ha)
  · rintro j v σ H3 hv ⟨x, y, rfl, g3, hD⟩
    rw [List.getElem?_map] at hv
    obtain ⟨p, hp, rfl⟩ := Option.map_eq_some_iff.mp hv
    obtain ⟨f, hf1, hf2⟩ := hf.get hp
    have hd := hf2.2
    have hz : Own.CDivV (b : Nat) (f.2 : Nat) := (show ((f.2 : Nat) : Int) ≠ 0 by omega)
    have hj : j < fs.length := (List.getElem?_eq_some_iff.mp hf1).1
    have e : ((b : Nat) : Int).fdiv ((f.2 : Nat) : Int) = ((b / f.2 : Nat) : Int) := by
      rw [Int.fdiv_eq_ediv_of_nonneg _ (by omega), ← Int.natCast_ediv]
    refine ⟨p, _, rfl, SqT.of (g3 _ _ hf2.1), rfl, _, _, rfl, _, _, rfl, rfl, _, rfl, _, rfl, _, rfl, _, _, rfl, rfl, hz, _, _, rfl, rfl, ⟨M, N, hM f (List.mem_of_getElem? hf1), ?_, hMN⟩, ?_⟩
    · rw [e, Int.natAbs_natCast]
      exact Nat.lt_of_le_of_lt (Nat.div_le_self _ _) hN
    · refine ⟨_, hD, (by rw [List.length_map, wtF, List.length_map, List.length_take]; exact small1000 (by omega)), ⟨_, _, rfl, same_at nD g3, ?_⟩⟩
      rw [e]
      unfold IntsR
      rw [upd_same, take_more hf1]
      simp [wtF]
  · rintro σ H3 ⟨x, y, rfl, g3, hD⟩
    rw [List.length_map, hf.1, List.take_length] at hD
    exact q D H3 g3 nD hD
/-- the sum of these, not yet cut -/
def sumF (fs : List (Int × Nat)) : Int × Nat := fs.foldl (fun s f => (s.1 * (f.2 : Nat) + f.1 * (s.2 : Nat), s.2 * f.2)) (0, 1)
theorem sumF_snoc (fs : List (Int × Nat)) (f : Int × Nat) : sumF (fs ++ [f]) = ((sumF fs).1 * (f.2 : Nat) + f.1 * ((sumF fs).2 : Nat), (sumF fs).2 * f.2) := by
  unfold sumF
  rw [List.foldl_append]
  rfl
theorem sumF_le {M : Nat} {fs : List (Int × Nat)} (hM : ∀ f ∈ fs, f.1.natAbs < 2 ^ M ∧ f.2 < 2 ^ M) (h0 : ∀ f ∈ fs, 0 < f.2) : ∀ i, i ≤ fs.length → (sumF (fs.take i)).1.natAbs < 2 ^ ((M + 1) * i + 1) ∧ (sumF (fs.take i)).2 < 2 ^ ((M + 1) * i + 1) ∧ 0 < (sumF (fs.take i)).2
  | 0, _ => ⟨by show 0 < _; exact Nat.pow_pos (by decide), by show 1 < _; exact Nat.one_lt_two_pow (by omega), by show 0 < 1; decide⟩
  | i + 1, hi => by
    obtain ⟨a, b, c⟩ := sumF_le hM h0 i (by omega)
    have e : fs[i]? = some fs[i] := List.getElem?_eq_getElem (by omega)
    have hm := List.mem_of_getElem? e
    rw [take_more e, sumF_snoc]
    generalize fs[i] = f at *
    generalize sumF (fs.take i) = s at *
    obtain ⟨m1, m2⟩ := hM f hm
    have p0 : 0 < f.2 := h0 f hm
    have x1 : s.1.natAbs * f.2 < 2 ^ ((M + 1) * i + 1) * 2 ^ M := Nat.mul_lt_mul'' a m2
    have x2 : f.1.natAbs * s.2 < 2 ^ M * 2 ^ ((M + 1) * i + 1) := Nat.mul_lt_mul'' m1 b
    have x3 : s.2 * f.2 < 2 ^ ((M + 1) * i + 1) * 2 ^ M := Nat.mul_lt_mul'' b m2
    have e2 : 2 ^ ((M + 1) * (i + 1) + 1) = 2 * (2 ^ ((M + 1) * i + 1) * 2 ^ M) := by
      rw [show (M + 1) * (i + 1) + 1 = ((M + 1) * i + 1) + M + 1 by rw [Nat.mul_succ]; omega, Nat.pow_succ, Nat.pow_add, Nat.mul_comm]
    rw [Nat.mul_comm (2 ^ M)] at x2
    refine ⟨?_, by show s.2 * f.2 < _; omega, Nat.mul_pos c p0⟩
    show (s.1 * (f.2 : Nat) + f.1 * (s.2 : Nat)).natAbs < _
    have y1 : (s.1 * (f.2 : Int)).natAbs = s.1.natAbs * f.2 := by rw [Int.natAbs_mul, Int.natAbs_natCast]
    have y2 : (f.1 * (s.2 : Int)).natAbs = f.1.natAbs * s.2 := by rw [Int.natAbs_mul, Int.natAbs_natCast]
    omega
inductive spSum (vs : List V) (H : Hp) (Q : VK) (Y : XK) : Prop
  | mk : ∀ (a : Addr) (rs : List Addr) (fs : List (Int × Nat)) (M : Nat), (vs = [.ref a]) → (H a = some (.lst (rs.map V.ref))) → (AllAt FrR H rs fs) → (∀ f ∈ fs, f.1.natAbs < 2 ^ M ∧ f.2 < 2 ^ M) → ((M + 1) * (fs.length + 1) ≤ 60000000) → (Gets (sumF fs).1 ((sumF fs).2 : Nat) H Q) → spSum vs H Q Y
theorem ok_law_sum (B : Fx) : Hs "_law_sum" ["_law_some"] 41 (spSum) := by
  refine hs_of B.X B.d16 sc_law_sum fun f cdv A outer s H vs Q E nN hr h => ?_
  obtain ⟨a, rs, fs, M, rfl, ha, hf, hM, hL, q⟩ := h
  refine ⟨_, (pss_cons (ps_asg (pe_tup (p2 pe_int pe_int)) (pg_tup (n := 2) rfl (pgs_cons (pgn 1 nN) (pgs_cons (pgn 2 nN) pgs_nil))))
      (pss_cons (pfor (pi_list (pv 0)) (pg_tup (n := 2) rfl (pgs_cons (pgn 3 nN) (pgs_cons (pgn 4 nN) pgs_nil))) (pss_one (ps_par (i := 1) (j := 2) rfl nN rfl rfl (by decide) rfl rfl (p2 (pe_op op_add (pe_op Own.op_mulV (pv 1) (pv 4)) (pe_op Own.op_mulV (pv 3) (pv 2))) (pe_op Own.op_mulV (pv 2) (pv 4))) rfl)))
      (pss_one (ps_ret (pf (ok_law_cut B) hr (p2 (pv 1) (pv 2))))))), ?_⟩
  try dsimp only [cxOf]
  have h0 : ∀ f ∈ fs, 0 < f.2 := fun f hm => by
    obtain ⟨i, hi, e⟩ := List.getElem_of_mem hm
    obtain ⟨p, _, e2⟩ := hf.at (e ▸ List.getElem?_eq_getElem hi)
    exact e2.2
  have le := sumF_le hM h0
  refine ⟨(by show 2 ≤ sizeLine; decide), fun p0 h0' => ?_⟩
  refine ⟨p0, _, rfl, SqT.of upd_same, rfl, _, _, rfl, _, _, rfl, rfl, ?_⟩
  have g0 := same_new h0' (.tup [V.int 0, V.int 1])
  generalize upd H p0 (.tup [V.int 0, V.int 1]) = H0 at *
  refine ⟨_, rfl, a, rfl, ⟨_, SqL.of (g0 _ _ ha)⟩, ?_⟩
  refine for_list (xs := rs.map V.ref) (fun i σ H1 => H1 = H0 ∧ ∃ x y : Option V, σ = [some (.ref a), some (.int (sumF (fs.take i)).1), some (.int ((sumF (fs.take i)).2 : Nat)), x, y]) ⟨rfl, none, none, rfl⟩ ?_ ?_ ?_
  · rintro i σ H1 hi ⟨rfl, x, y, rfl⟩
    exact SqL.of (g0 _ _ ha)
  · rintro i v σ H1 hv ⟨rfl, x, y, rfl⟩
    rw [List.getElem?_map] at hv
    obtain ⟨p, hp, rfl⟩ := Option.map_eq_some_iff.mp hv
    obtain ⟨f, hf1, hf2⟩ := hf.get hp
    have hi : i < fs.length := (List.getElem?_eq_some_iff.mp hf1).1
    obtain ⟨a1, a2, _⟩ := le i (by omega)
    obtain ⟨m1, m2⟩ := hM f (List.mem_of_getElem? hf1)
    have l2 : (M + 1) * (i + 2) ≤ (M + 1) * (fs.length + 1) := Nat.mul_le_mul (Nat.le_refl _) (by omega)
    have lM : (M + 1) * i + 1 + M ≤ 134217728 := by
      rw [Nat.mul_succ, Nat.mul_succ] at l2
      omega
    rw [take_more hf1, sumF_snoc]
    refine ⟨p, _, rfl, SqT.of (g0 _ _ hf2.1), rfl, _, _, rfl, _, _, rfl, rfl, ?_⟩
    refine ⟨_, rfl, _, rfl, _, _, rfl, rfl, ⟨_, _, a1, m2, lM⟩, ?_⟩
    refine ⟨_, rfl, _, rfl, _, _, rfl, rfl, ⟨M, _, m1, a2, by omega⟩, ?_⟩
    refine ⟨_, _, rfl, rfl, _, rfl, _, rfl, _, _, rfl, rfl, ⟨_, _, a2, m2, lM⟩, ?_⟩
    refine ⟨_, _, rfl, rfl, some (.int f.1), some (.int (f.2 : Nat)), ?_⟩
    show _ = [_, _, some (V.int (((sumF (fs.take i)).2 * f.2 : Nat) : Int)), _, _]
    rw [Int.natCast_mul]
    rfl
  · rintro σ H1 ⟨rfl, x, y, rfl⟩
    rw [List.length_map, hf.1, List.take_length]
    exact ⟨_, rfl, _, rfl, _, _, rfl, Int.natCast_pos.mpr (le fs.length (Nat.le_refl _) |> fun z => by rw [List.take_length] at z; exact z.2.2), fun n' d' p' H' F g e => q n' d' p' H' F (g0.trans g) e⟩
--SPLIT
open Mth
theorem lcmF_foldl_dvd : ∀ (fs : List (Int × Nat)) (m : Nat), m ∣ fs.foldl (fun m f => Nat.lcm m f.2) m ∧ ∀ f ∈ fs, f.2 ∣ fs.foldl (fun m f => Nat.lcm m f.2) m
  | [], m => ⟨Nat.dvd_refl _, fun f h => nomatch h⟩
  | g :: fs, m => by
    obtain ⟨a, b⟩ := lcmF_foldl_dvd fs (Nat.lcm m g.2)
    refine ⟨Nat.dvd_trans (Nat.dvd_lcm_left _ _) a, fun f h => ?_⟩
    rcases List.mem_cons.mp h with rfl | h
    · exact Nat.dvd_trans (Nat.dvd_lcm_right _ _) a
    · exact b f h
theorem lcmF_dvd {fs : List (Int × Nat)} {f : Int × Nat} (h : f ∈ fs) : f.2 ∣ lcmF fs := (lcmF_foldl_dvd fs 1).2 f h
theorem lcmF_pos {fs : List (Int × Nat)} (h : ∀ f ∈ fs, 0 < f.2) : 0 < lcmF fs := by
  suffices ∀ (fs : List (Int × Nat)) (m : Nat), 0 < m → (∀ f ∈ fs, 0 < f.2) → 0 < fs.foldl (fun m f => Nat.lcm m f.2) m from this fs 1 (by decide) h
  intro fs
  induction fs with
  | nil => exact fun m h _ => h
  | cons f fs ih => exact fun m hm h => ih _ (Nat.lcm_pos hm (h f List.mem_cons_self)) fun g hg => h g (List.mem_cons_of_mem _ hg)
theorem AllAt.pos {H : Hp} {ps : List Addr} {fs : List (Int × Nat)} (h : AllAt FrR H ps fs) : ∀ f ∈ fs, 0 < f.2 := fun f hm => by
  obtain ⟨i, hi, e⟩ := List.getElem_of_mem hm
  obtain ⟨p, _, e2⟩ := h.at (e ▸ List.getElem?_eq_getElem hi)
  exact e2.2
/-- two fractions -/
abbrev Two := (Int × Nat) × (Int × Nat)
/-- a row of a table without fractions: what it tells of the row with them -/
structure ClrRow (row : List (Int × Nat)) (s : Two) (r : List Int) (wide high by_ : Nat) : Prop where
  pos : 0 < by_
  len : r.length = row.length + 2
  bits : ∀ v ∈ r, v.natAbs < 2 ^ 2000
  fr : ∀ (j : Nat) (f : Int × Nat), row[j]? = some f → ∃ v, r[j]? = some v ∧ v * (f.2 : Nat) = f.1 * (by_ : Nat)
  x : ∃ v, r[row.length]? = some v ∧ v * (s.1.2 : Nat) = s.1.1 * (by_ : Nat) * (wide : Nat)
  y : ∃ v, r[row.length + 1]? = some v ∧ v * (s.2.2 : Nat) = s.2.1 * (by_ : Nat) * (high : Nat)
theorem wt_mul {b : Nat} {f : Int × Nat} (h : f.2 ∣ b) : f.1 * ((b / f.2 : Nat) : Int) * (f.2 : Nat) = f.1 * (b : Nat) := by
  rw [Int.mul_assoc, ← Int.natCast_mul, Nat.div_mul_cancel h]
/-- a side's number, cleared -/
theorem side_mul {n b : Int} {d : Nat} {X : Int × Nat} {w : Nat} (F : Fr (n * b) ((d : Nat) * 1) X.1 (X.2 : Nat)) (h : X.2 ∣ w) : X.1 * ((w / X.2 : Nat) : Int) * (d : Nat) = n * b * (w : Nat) := by
  obtain ⟨k, rfl⟩ := h
  have e := F.eq
  have p := F.pos
  rw [Nat.mul_div_cancel_left _ (by omega), Int.mul_right_comm, Int.natCast_mul, ← Int.mul_assoc, ← e, Int.mul_one]
theorem wt_bits {b M N : Nat} {fs : List (Int × Nat)} (h : ∀ f ∈ fs, f.1.natAbs < 2 ^ M) (hb : b < 2 ^ N) (hMN : M + N ≤ 2000) : ∀ v ∈ wtF b fs, v.natAbs < 2 ^ 2000 := fun v hv => by
  obtain ⟨f, hf, rfl⟩ := List.mem_map.mp hv
  rw [Int.natAbs_mul, Int.natAbs_natCast]
  refine Nat.lt_of_lt_of_le (Nat.mul_lt_mul'' (h f hf) (Nat.lt_of_le_of_lt (Nat.div_le_self _ _) hb)) ?_
  rw [← Nat.pow_add]
  exact Nat.pow_le_pow_right (by decide) hMN
theorem clr_row {row : List (Int × Nat)} {s : Two} {X Y : Int × Nat} {wide high M : Nat} (h0 : ∀ f ∈ row, 0 < f.2) (hM : ∀ f ∈ row, f.1.natAbs < 2 ^ M) (hb : lcmF row < 2 ^ 1601) (hM2 : M ≤ 200)
    (FX : Fr (s.1.1 * (lcmF row : Nat)) ((s.1.2 : Nat) * 1) X.1 (X.2 : Nat)) (FY : Fr (s.2.1 * (lcmF row : Nat)) ((s.2.2 : Nat) * 1) Y.1 (Y.2 : Nat)) (bX : X.1.natAbs < 2 ^ 1605) (bY : Y.1.natAbs < 2 ^ 1605)
    (dX : X.2 ∣ wide) (dY : Y.2 ∣ high) (hw : wide < 2 ^ 70) (hh : high < 2 ^ 70) : ClrRow row s (wtF (lcmF row) row ++ wtF wide [X] ++ wtF high [Y]) wide high (lcmF row) := by
  have l : (wtF (lcmF row) row).length = row.length := List.length_map _
  refine ⟨lcmF_pos h0, ?_, ?_, ?_, ⟨_, ?_, side_mul FX dX⟩, ⟨_, ?_, side_mul FY dY⟩⟩
  · rw [List.length_append, List.length_append, l]
    rfl
  · intro v hv
    rcases List.mem_append.mp hv with hv | hv
    · rcases List.mem_append.mp hv with hv | hv
      · exact wt_bits hM hb (by omega) v hv
      · exact wt_bits (M := 1605) (fun f hf => by cases List.mem_singleton.mp hf; exact bX) hw (by decide) v hv
    · exact wt_bits (M := 1605) (fun f hf => by cases List.mem_singleton.mp hf; exact bY) hh (by decide) v hv
  · intro j f hf
    have hj : j < row.length := (List.getElem?_eq_some_iff.mp hf).1
    refine ⟨_, ?_, wt_mul (lcmF_dvd (List.mem_of_getElem? hf))⟩
    rw [List.append_assoc, List.getElem?_append_left (by rw [l]; exact hj), wtF, List.getElem?_map, hf]
    rfl
  · rw [List.append_assoc, List.getElem?_append_right (by rw [l]; exact Nat.le_refl _), l, Nat.sub_self]
    rfl
  · rw [List.append_assoc, List.getElem?_append_right (by rw [l]; omega), l, Nat.add_sub_cancel_left]
    rfl
def RowR (H : Hp) (p : Addr) (row : List (Int × Nat)) : Prop := ∃ qs : List Addr, H p = some (.tup (qs.map V.ref)) ∧ AllAt FrR H qs row
def SideR (H : Hp) (p : Addr) (s : Two) : Prop := ∃ q1 q2 : Addr, H p = some (.tup [.ref q1, .ref q2]) ∧ FrR H q1 s.1 ∧ FrR H q2 s.2
theorem RowR.pos {H : Hp} {p : Addr} {row : List (Int × Nat)} : RowR H p row → ∀ f ∈ row, 0 < f.2 := fun ⟨_, _, h⟩ => h.pos
theorem RowR.kept {H H' : Hp} {p : Addr} {row : List (Int × Nat)} (g : Same H H') : RowR H p row → RowR H' p row := fun ⟨qs, a, b⟩ => ⟨qs, g _ _ a, b.imp fun _ _ => FrR.kept g⟩
theorem SideR.kept {H H' : Hp} {p : Addr} {s : Two} (g : Same H H') : SideR H p s → SideR H' p s := fun ⟨q1, q2, a, b, c⟩ => ⟨q1, q2, g _ _ a, b.kept g, c.kept g⟩
theorem IntsR.kept {H H' : Hp} {p : Addr} {r : List Int} (g : Same H H') : IntsR H p r → IntsR H' p r := fun h => g _ _ h
theorem FrR.but {H H' : Hp} {D p : Addr} {f : Int × Nat} (g : SameBut D H H') (n : ∀ xs, H D ≠ some (.tup xs)) (h : FrR H p f) : FrR H' p f := ⟨g _ _ (fun z => n _ (z ▸ h.1)) h.1, h.2⟩
theorem fr_at {H : Hp} {p : Addr} {n d : Int} (h : H p = some (.tup [.int n, .int d])) (d0 : 0 < d) : FrR H p (n, d.toNat) := by
  refine ⟨?_, by show 0 < d.toNat; omega⟩
  show _ = some (HO.tup [.int n, .int (d.toNat : Int)])
  rw [Int.toNat_of_nonneg (by omega)]
  exact h
/-- the sides' numbers, each times its row's factor -/
def Xsd (sel : Two → Int × Nat) (rows : List (List (Int × Nat))) (sides : List Two) (Xs : List (Int × Nat)) : Prop := ∀ (i : Nat) (X : Int × Nat), Xs[i]? = some X → ∃ row s, rows[i]? = some row ∧ sides[i]? = some s ∧ Fr ((sel s).1 * (lcmF row : Nat)) (((sel s).2 : Nat) * 1) X.1 (X.2 : Nat)
theorem Xsd.snoc {sel : Two → Int × Nat} {rows : List (List (Int × Nat))} {sides : List Two} {Xs : List (Int × Nat)} {X : Int × Nat} {row : List (Int × Nat)} {s : Two} (h : Xsd sel rows sides Xs) (e1 : rows[Xs.length]? = some row) (e2 : sides[Xs.length]? = some s) (F : Fr ((sel s).1 * (lcmF row : Nat)) (((sel s).2 : Nat) * 1) X.1 (X.2 : Nat)) : Xsd sel rows sides (Xs ++ [X]) := fun i Z hZ => by
  rcases Nat.lt_or_ge i Xs.length with l | l
  · rw [List.getElem?_append_left l] at hZ
    exact h i Z hZ
  · rw [List.getElem?_append_right l] at hZ
    match hi : i - Xs.length, hZ with
    | 0, hZ =>
      cases hZ
      obtain rfl : i = Xs.length := by omega
      exact ⟨row, s, e1, e2, F⟩
    | k + 1, hZ => simp at hZ
theorem Xsd.bits {sel : Two → Int × Nat} {rows : List (List (Int × Nat))} {sides : List Two} {Xs : List (Int × Nat)} (h : Xsd sel rows sides Xs) (hs : ∀ s ∈ sides, (sel s).1.natAbs < 2 ^ 4 ∧ (sel s).2 < 2 ^ 4) (hl : ∀ row ∈ rows, lcmF row < 2 ^ 1601) : ∀ X ∈ Xs, X.1.natAbs < 2 ^ 1605 ∧ X.2 < 2 ^ 4 := fun X hX => by
  obtain ⟨i, hi, e⟩ := List.getElem_of_mem hX
  obtain ⟨row, s, e1, e2, F⟩ := h i X (e ▸ List.getElem?_eq_getElem hi)
  obtain ⟨a, b⟩ := hs s (List.mem_of_getElem? e2)
  have ln := F.ln
  have ld := F.ld
  rw [Int.natAbs_mul, Int.natAbs_natCast] at ln
  refine ⟨Nat.lt_of_le_of_lt ln ?_, by omega⟩
  have := Nat.mul_lt_mul'' a (hl row (List.mem_of_getElem? e1))
  rwa [← Nat.pow_add] at this
/-- how great a matter may be -/
structure Fits (rows : List (List (Int × Nat))) (sides : List Two) (M : Nat) : Prop where
  n16 : rows.length ≤ 16
  sq : ∀ row ∈ rows, row.length = rows.length
  sl : sides.length = rows.length
  m : M ≤ 200
  nm : M * rows.length ≤ 1600
  fr : ∀ row ∈ rows, ∀ f ∈ row, f.1.natAbs < 2 ^ M ∧ f.2 < 2 ^ M
  si : ∀ s ∈ sides, s.1.1.natAbs < 2 ^ 4 ∧ s.1.2 < 2 ^ 4 ∧ s.2.1.natAbs < 2 ^ 4 ∧ s.2.2 < 2 ^ 4
structure Clrd (rows : List (List (Int × Nat))) (sides : List Two) (T : List (List Int)) (wide high : Nat) : Prop where
  len : T.length = rows.length
  w0 : 0 < wide
  w1 : wide < 2 ^ 70
  h0 : 0 < high
  h1 : high < 2 ^ 70
  row : ∀ (i : Nat) (row : List (Int × Nat)) (s : Two) (r : List Int), rows[i]? = some row → sides[i]? = some s → T[i]? = some r → ∃ b, ClrRow row s r wide high b
inductive spCleared (vs : List V) (H : Hp) (Q : VK) (Y : XK) : Prop
  | mk : ∀ (a b : Addr) (rs ss : List Addr) (rows : List (List (Int × Nat))) (sides : List Two) (M : Nat), (vs = [.ref a, .ref b]) → (H a = some (.tup (rs.map V.ref))) → (H b = some (.tup (ss.map V.ref))) → (AllAt RowR H rs rows) → (AllAt SideR H ss sides) → (Fits rows sides M) →
      (∀ (p t : Addr) (ts : List Addr) (T : List (List Int)) (wide high : Nat) (H' : Hp), Same H H' → H' p = some (.tup [.ref t, .int (wide : Nat), .int (high : Nat)]) → H' t = some (.lst (ts.map V.ref)) → AllAt IntsR H' ts T → Clrd rows sides T wide high → Q (.ref p) H') → spCleared vs H Q Y
theorem ok_cleared (B : Fx) : Hs "cleared" ["rows", "sides"] 42 (spCleared) := by
  refine hs_of B.X B.d5 sc_cleared fun f cdv A outer s H vs Q E nN hr h => ?_
  obtain ⟨a, b, rs, ss, rows, sides, M, rfl, ha, hb, hR, hS, W, q⟩ := h
  refine ⟨_, (pss_cons (ps_lc1x (i := 2) (Nc := ["row"]) (js := [none]) rfl rfl nN rfl (Or.inl rfl) (pi_tup (pv 0)) (CS.of rfl rfl) rfl (fun C s₂ H₂ fp pins => (pgc 0)) (fun C s₂ H₂ fp pins D L => (pt_tail0 (pb_app (pf (ok_common_multiple B) hr (p1 (pv 0)))))))
      (pss_cons (ps_lc1x (i := 3) (Nc := ["by", "x", "y"]) (js := [none, none, none]) rfl rfl nN rfl (Or.inl rfl) (pi_zip true false rfl (B.z B.y8) (p2 (pv 2) (pv 1))) (CS.of rfl rfl) rfl (fun C s₂ H₂ fp pins => (show PG _ _ (gTup K 2 _) from pg_tup rfl (pgs_cons (pgc 0) (pgs_cons (show PG _ _ (gTup K 2 _) from pg_tup rfl (pgs_cons (pgc 1) (pgs_cons (pgc 2) pgs_nil))) pgs_nil)))) (fun C s₂ H₂ fp pins D L => (pt_tail0 (pb_app (pf (ok_times B) hr (p2 (pv 1) (pe_tup (p2 (pv 0) pe_int))))))))
      (pss_cons (ps_lc1x (i := 4) (Nc := ["by", "x", "y"]) (js := [none, none, none]) rfl rfl nN rfl (Or.inl rfl) (pi_zip true false rfl (B.z B.y8) (p2 (pv 2) (pv 1))) (CS.of rfl rfl) rfl (fun C s₂ H₂ fp pins => (show PG _ _ (gTup K 2 _) from pg_tup rfl (pgs_cons (pgc 0) (pgs_cons (show PG _ _ (gTup K 2 _) from pg_tup rfl (pgs_cons (pgc 1) (pgs_cons (pgc 2) pgs_nil))) pgs_nil)))) (fun C s₂ H₂ fp pins D L => (pt_tail0 (pb_app (pf (ok_times B) hr (p2 (pv 2) (pe_tup (p2 (pv 0) pe_int))))))))
      (pss_cons (pst 5 nN (pf (ok_common_multiple B) hr (p1 (pv 3))))
      (pss_cons (pst 6 nN (pf (ok_common_multiple B) hr (p1 (pv 4))))
      (pss_cons (ps_lc1x (i := 7) (Nc := ["row", "by", "x", "y", "high", "wide"]) (js := [none, none, none, none, some 6, some 5]) rfl rfl nN rfl (Or.inl rfl) (pi_zip4 false true true true rfl (B.z B.y8) (pa_cons (pv 0) (pa_cons (pv 2) (pa_cons (pv 3) (pa_cons (pv 4) pa_nil))))) (CS.of rfl rfl) rfl (fun C s₂ H₂ fp pins => (show PG _ _ (gTup K 4 _) from pg_tup rfl (pgs_cons (pg_name (i := 0) (show List.Nodup (α := Str) ["row", "by", "x", "y", "high", "wide"] by decide +kernel) rfl (Or.inl rfl)) (pgs_cons (pg_name (i := 1) (show List.Nodup (α := Str) ["row", "by", "x", "y", "high", "wide"] by decide +kernel) rfl (Or.inl rfl)) (pgs_cons (pg_name (i := 2) (show List.Nodup (α := Str) ["row", "by", "x", "y", "high", "wide"] by decide +kernel) rfl (Or.inl rfl)) (pgs_cons (pg_name (i := 3) (show List.Nodup (α := Str) ["row", "by", "x", "y", "high", "wide"] by decide +kernel) rfl (Or.inl rfl)) pgs_nil)))))) (fun C s₂ H₂ fp pins D L => (pt_tail0 (pb_app (pe_op op_cat (pe_op op_cat (pf (ok_whole_times B) hr (p2 (pv 0) (pv 1))) (pf (ok_whole_times B) hr (p2 (pe_tup (p1 (pv 2))) (pv 5)))) (pf (ok_whole_times B) hr (p2 (pe_tup (p1 (pv 3))) (pv 4))))))))
      (pss_one (ps_ret (pe_tup (pa_cons (pv 7) (pa_cons (pv 5) (pa_cons (pv 6) pa_nil)))))))))))), ?_⟩
  try dsimp only [cxOf]
  have lf : ∀ row ∈ rows, lcmF row < 2 ^ 1601 := fun row hrow => by
    refine Nat.lt_of_le_of_lt (lcmF_le row fun f hf => (W.fr row hrow f hf).2) (Nat.pow_lt_pow_right (by decide) ?_)
    rw [W.sq row hrow]
    have := W.nm
    omega
  refine ⟨_, rfl, a, rfl, ⟨_, SqT.of ha⟩, fun D1 nD1 => ?_⟩
  refine walk_tup (xs := rs.map V.ref) (fun j σ H3 => ∃ x : Option V, σ = [x] ∧ Same H H3 ∧ IntsR H3 D1 ((rows.take j).map fun r => (lcmF r : Int))) ⟨none, rfl, same_new nD1 _, upd_same⟩ ?_ ?_ ?_
  · rintro j σ H3 _ ⟨x, rfl, g3, _⟩
    exact SqT.of (g3 _ _ ha)
  · rintro j v σ H3 hv ⟨x, rfl, g3, hD⟩
    rw [List.getElem?_map] at hv
    obtain ⟨p, hp, rfl⟩ := Option.map_eq_some_iff.mp hv
    obtain ⟨row, e1, e2⟩ := hR.get hp
    obtain ⟨qs, hq, hqs⟩ := e2.kept g3
    have hm := List.mem_of_getElem? e1
    have hj := (List.getElem?_eq_some_iff.mp e1).1
    refine ⟨_, rfl, false, p, qs, row, M, rfl, SqT.of hq, hqs, ⟨by have := W.m; omega, fun f hf => (W.fr row hm f hf).2, ?_⟩, _, hD, ?_, _, rfl, same_at nD1 g3, ?_⟩
    · rw [W.sq row hm]
      have := W.nm
      omega
    · rw [List.length_map, List.length_map, List.length_take]
      have := W.n16
      exact small1000 (by omega)
    · unfold IntsR
      rw [upd_same, take_more e1]
      simp
  rintro σ H3 ⟨x, rfl, g3, hD1⟩
  rw [List.length_map, hR.1, List.take_length] at hD1
  have ha := g3 _ _ ha
  have hb := g3 _ _ hb
  have hR := hR.imp fun _ _ => RowR.kept g3
  have hS := hS.imp fun _ _ => SideR.kept g3
  refine ⟨_, rfl, _, rfl, D1, b, rfl, ⟨_, SqL.of hD1⟩, ⟨_, SqT.of hb⟩, fun D2 nD2 => ?_⟩
  refine walk_zip (k1 := true) (k2 := false) (xs := (rows.map fun r => (lcmF r : Int)).map V.int) (ys := ss.map V.ref) (fun j σ H4 => ∃ (x0 x1 x2 : Option V) (qs : List Addr) (Xs : List (Int × Nat)), σ = [x0, x1, x2] ∧ Same H3 H4 ∧ H4 D2 = some (.lst (qs.map V.ref)) ∧ AllAt FrR H4 qs Xs ∧ Xs.length = j ∧ Xsd (·.1) rows sides Xs) (by rw [List.length_map, List.length_map, List.length_map, hS.1, W.sl]) ⟨none, none, none, [], [], rfl, same_new nD2 _, upd_same, AllAt.nil, rfl, fun i X h => by simp at h⟩ ?_ ?_ ?_
  · rintro j σ H4 _ ⟨x0, x1, x2, qs, Xs, rfl, g4, _⟩
    exact ⟨SqL.of (g4 _ _ hD1), SqT.of (g4 _ _ hb)⟩
  · rintro j v w T σ H4 hv hw nT ⟨x0, x1, x2, qs, Xs, rfl, g4, hD4, hqs, lX, ok⟩
    rw [List.getElem?_map] at hv hw
    obtain ⟨b0, hb0, rfl⟩ := Option.map_eq_some_iff.mp hv
    rw [List.getElem?_map] at hb0
    obtain ⟨row, er, rfl⟩ := Option.map_eq_some_iff.mp hb0
    obtain ⟨sp, hsp, rfl⟩ := Option.map_eq_some_iff.mp hw
    obtain ⟨sd, es, hsd⟩ := hS.get hsp
    have gT := same_new nT (.tup [.int (lcmF row : Int), .ref sp])
    obtain ⟨q1, q2, hs0, hs1, hs2⟩ := hsd.kept (g4.trans gT)
    have hm := List.mem_of_getElem? er
    have hj := (List.getElem?_eq_some_iff.mp er).1
    obtain ⟨u1, u2, u3, u4⟩ := W.si sd (List.mem_of_getElem? es)
    have dT : D2 ≠ T := ne_of_none hD4 nT
    refine ⟨T, _, rfl, SqT.of upd_same, rfl, _, _, rfl, _, _, rfl, sp, _, rfl, SqT.of hs0, rfl, _, _, rfl, _, _, rfl, rfl, rfl, _, rfl, _, rfl, (by show 2 ≤ sizeLine; decide), fun p2 h2 => ?_⟩
    have g2 := same_new h2 (.tup [.int (lcmF row : Int), .int 1])
    refine ⟨q1, p2, _, _, _, _, rfl, g2 _ _ hs1.1, upd_same, ⟨4, 1601, u1, lf row hm, by decide⟩, ⟨4, 1, u2, by decide, by decide⟩, ?_, fun n' d' p' H5 F g5 e5 => ?_⟩
    · have := hs1.2
      show ((sd.1.2 : Nat) : Int) * 1 ≠ 0
      omega
    have gg := gT.trans (g2.trans g5)
    have hD5 := gg _ _ hD4
    refine ⟨_, hD5, ?_, _, _, _, qs ++ [p'], Xs ++ [(n', d'.toNat)], rfl, same_at nD2 (g4.trans gg), ?_, ?_, ?_, ?_⟩
    · rw [List.length_map, hqs.1, lX]
      have := W.n16
      exact small1000 (by omega)
    · rw [upd_same, List.map_append]
      rfl
    · exact ((hqs.imp fun _ _ => FrR.kept gg).snoc (fr_at e5 F.pos)).imp fun _ _ => FrR.but but_upd fun xs z => by rw [hD5] at z; cases z
    · rw [List.length_append, lX]
      rfl
    · refine ok.snoc (by rw [lX]; exact er) (by rw [lX]; exact es) ?_
      show Fr _ _ n' (d'.toNat : Int)
      rw [Int.toNat_of_nonneg (by have := F.pos; omega)]
      exact F
  rintro σ H6 ⟨x0, x1, x2, qs2, Xs2, rfl, g6, hD2, hqs2, lX2, ok2⟩
  rw [List.length_map, List.length_map] at lX2
  have hD1 := g6 _ _ hD1
  have hb := g6 _ _ hb
  have hS := hS.imp fun _ _ => SideR.kept g6
  refine ⟨_, rfl, _, rfl, D1, b, rfl, ⟨_, SqL.of hD1⟩, ⟨_, SqT.of hb⟩, fun D3 nD3 => ?_⟩
  refine walk_zip (k1 := true) (k2 := false) (xs := (rows.map fun r => (lcmF r : Int)).map V.int) (ys := ss.map V.ref) (fun j σ H4 => ∃ (x0 x1 x2 : Option V) (qs : List Addr) (Xs : List (Int × Nat)), σ = [x0, x1, x2] ∧ Same H6 H4 ∧ H4 D3 = some (.lst (qs.map V.ref)) ∧ AllAt FrR H4 qs Xs ∧ Xs.length = j ∧ Xsd (·.2) rows sides Xs) (by rw [List.length_map, List.length_map, List.length_map, hS.1, W.sl]) ⟨none, none, none, [], [], rfl, same_new nD3 _, upd_same, AllAt.nil, rfl, fun i X h => by simp at h⟩ ?_ ?_ ?_
  · rintro j σ H4 _ ⟨x0, x1, x2, qs, Xs, rfl, g4, _⟩
    exact ⟨SqL.of (g4 _ _ hD1), SqT.of (g4 _ _ hb)⟩
  · rintro j v w T σ H4 hv hw nT ⟨x0, x1, x2, qs, Xs, rfl, g4, hD4, hqs, lX, ok⟩
    rw [List.getElem?_map] at hv hw
    obtain ⟨b0, hb0, rfl⟩ := Option.map_eq_some_iff.mp hv
    rw [List.getElem?_map] at hb0
    obtain ⟨row, er, rfl⟩ := Option.map_eq_some_iff.mp hb0
    obtain ⟨sp, hsp, rfl⟩ := Option.map_eq_some_iff.mp hw
    obtain ⟨sd, es, hsd⟩ := hS.get hsp
    have gT := same_new nT (.tup [.int (lcmF row : Int), .ref sp])
    obtain ⟨q1, q2, hs0, hs1, hs2⟩ := hsd.kept (g4.trans gT)
    have hm := List.mem_of_getElem? er
    have hj := (List.getElem?_eq_some_iff.mp er).1
    obtain ⟨u1, u2, u3, u4⟩ := W.si sd (List.mem_of_getElem? es)
    have dT : D3 ≠ T := ne_of_none hD4 nT
    refine ⟨T, _, rfl, SqT.of upd_same, rfl, _, _, rfl, _, _, rfl, sp, _, rfl, SqT.of hs0, rfl, _, _, rfl, _, _, rfl, rfl, rfl, _, rfl, _, rfl, (by show 2 ≤ sizeLine; decide), fun p2 h2 => ?_⟩
    have g2 := same_new h2 (.tup [.int (lcmF row : Int), .int 1])
    refine ⟨q2, p2, _, _, _, _, rfl, g2 _ _ hs2.1, upd_same, ⟨4, 1601, u3, lf row hm, by decide⟩, ⟨4, 1, u4, by decide, by decide⟩, ?_, fun n' d' p' H5 F g5 e5 => ?_⟩
    · have := hs2.2
      show ((sd.2.2 : Nat) : Int) * 1 ≠ 0
      omega
    have gg := gT.trans (g2.trans g5)
    have hD5 := gg _ _ hD4
    refine ⟨_, hD5, ?_, _, _, _, qs ++ [p'], Xs ++ [(n', d'.toNat)], rfl, same_at nD3 (g4.trans gg), ?_, ?_, ?_, ?_⟩
    · rw [List.length_map, hqs.1, lX]
      have := W.n16
      exact small1000 (by omega)
    · rw [upd_same, List.map_append]
      rfl
    · exact ((hqs.imp fun _ _ => FrR.kept gg).snoc (fr_at e5 F.pos)).imp fun _ _ => FrR.but but_upd fun xs z => by rw [hD5] at z; cases z
    · rw [List.length_append, lX]
      rfl
    · refine ok.snoc (by rw [lX]; exact er) (by rw [lX]; exact es) ?_
      show Fr _ _ n' (d'.toNat : Int)
      rw [Int.toNat_of_nonneg (by have := F.pos; omega)]
      exact F
  rintro σ H7 ⟨x0, x1, x2, qs3, Xs3, rfl, g7, hD3, hqs3, lX3, ok3⟩
  rw [List.length_map, List.length_map] at lX3
  have bx2 := ok2.bits (fun s hs => ⟨(W.si s hs).1, (W.si s hs).2.1⟩) lf
  have bx3 := ok3.bits (fun s hs => (W.si s hs).2.2) lf
  have hqs2 := hqs2.imp fun _ _ => FrR.kept g7
  have hD2 := g7 _ _ hD2
  have hD1 := g7 _ _ hD1
  have g67 := g6.trans g7
  have ha := g67 _ _ ha
  have hR := hR.imp fun _ _ => RowR.kept g67
  have n16 := W.n16
  have lw : ∀ Xs : List (Int × Nat), Xs.length = rows.length → (∀ X ∈ Xs, X.1.natAbs < 2 ^ 1605 ∧ X.2 < 2 ^ 4) → lcmF Xs < 2 ^ 70 := fun Xs l b => Nat.lt_of_le_of_lt (lcmF_le Xs fun f hf => (b f hf).2) (Nat.pow_lt_pow_right (by decide) (by omega))
  have w2 := lw Xs2 lX2 bx2
  have w3 := lw Xs3 (by rw [lX3]) bx3
  refine ⟨_, rfl, true, D2, qs2, Xs2, 4, rfl, SqL.of hD2, hqs2, ⟨by decide, fun f hf => (bx2 f hf).2, by omega⟩, ?_⟩
  refine ⟨_, rfl, true, D3, qs3, Xs3, 4, rfl, SqL.of hD3, hqs3, ⟨by decide, fun f hf => (bx3 f hf).2, by omega⟩, ?_⟩
  refine ⟨_, rfl, _, rfl, _, rfl, _, rfl, a, D1, D2, D3, rfl, ⟨_, SqT.of ha⟩, ⟨_, SqL.of hD1⟩, ⟨_, SqL.of hD2⟩, ⟨_, SqL.of hD3⟩, fun D4 nD4 => ?_⟩
  have lD1 : ((rows.map fun r => (lcmF r : Int)).map V.int).length = rows.length := by rw [List.length_map, List.length_map]
  have ldv2 : ∀ f ∈ Xs2, f.2 ∣ lcmF Xs2 := fun f hf => lcmF_dvd hf
  have ldv3 : ∀ f ∈ Xs3, f.2 ∣ lcmF Xs3 := fun f hf => lcmF_dvd hf
  have wp2 := lcmF_pos hqs2.pos
  have wp3 := lcmF_pos hqs3.pos
  generalize lcmF Xs2 = wide at *
  generalize lcmF Xs3 = high at *
  refine walk_zip4 (k1 := false) (k2 := true) (k3 := true) (k4 := true) (xs := rs.map V.ref) (ys := (rows.map fun r => (lcmF r : Int)).map V.int) (zs := qs2.map V.ref) (us := qs3.map V.ref) (fun j σ H4 => ∃ (x0 x1 x2 x3 : Option V) (ts : List Addr) (Tb : List (List Int)), σ = [x0, x1, x2, x3, some (.int (high : Nat)), some (.int (wide : Nat))] ∧ Same H7 H4 ∧ H4 D4 = some (.lst (ts.map V.ref)) ∧ AllAt (fun H p r => p ≠ D4 ∧ IntsR H p r) H4 ts Tb ∧ Tb.length = j ∧ ∀ (i : Nat) (row : List (Int × Nat)) (s : Two) (r : List Int), rows[i]? = some row → sides[i]? = some s → Tb[i]? = some r → ClrRow row s r wide high (lcmF row)) (by rw [List.length_map, lD1, hR.1]; exact Nat.le_refl _) (by rw [List.length_map, List.length_map, hR.1, hqs2.1, lX2]; exact Nat.le_refl _) (by rw [List.length_map, List.length_map, hR.1, hqs3.1, lX3]; exact Nat.le_refl _) ⟨none, none, none, none, [], [], rfl, same_new nD4 _, upd_same, AllAt.nil, rfl, fun i row s r _ _ h => by simp at h⟩ ?_ ?_ ?_
  · rintro j σ H4 _ ⟨x0, x1, x2, x3, ts, Tb, rfl, g4, _⟩
    exact ⟨SqT.of (g4 _ _ ha), SqL.of (g4 _ _ hD1), SqL.of (g4 _ _ hD2), SqL.of (g4 _ _ hD3)⟩
  · rintro j vr vb vx vy T σ H4 hvr hvb hvx hvy nT ⟨x0, x1, x2, x3, ts, Tb, rfl, g4, hD4, hts, lT, ok⟩
    rw [List.getElem?_map] at hvr hvb hvx hvy
    obtain ⟨rp, hrp, rfl⟩ := Option.map_eq_some_iff.mp hvr
    obtain ⟨b0, hb0, rfl⟩ := Option.map_eq_some_iff.mp hvb
    obtain ⟨xp, hxp, rfl⟩ := Option.map_eq_some_iff.mp hvx
    obtain ⟨yp, hyp, rfl⟩ := Option.map_eq_some_iff.mp hvy
    rw [List.getElem?_map] at hb0
    obtain ⟨row, er, rfl⟩ := Option.map_eq_some_iff.mp hb0
    obtain ⟨row', er', hrow⟩ := hR.get hrp
    cases er.symm.trans er'
    obtain ⟨X, eX, hX⟩ := hqs2.get hxp
    obtain ⟨Y, eY, hY⟩ := hqs3.get hyp
    have hm := List.mem_of_getElem? er
    have gT := same_new nT (.tup [.ref rp, .int (lcmF row : Int), .ref xp, .ref yp])
    have g4T := g4.trans gT
    obtain ⟨ps, hp0, hps⟩ := hrow.kept g4T
    have hX := hX.kept g4T
    have hY := hY.kept g4T
    have hD4T := gT _ _ hD4
    have htsT := hts.imp (R' := fun H p r => p ≠ D4 ∧ IntsR H p r) (H' := _) fun p r z => ⟨z.1, z.2.kept gT⟩
    refine ⟨T, _, rfl, SqT.of upd_same, rfl, _, _, rfl, _, _, rfl, _, _, rfl, _, _, rfl, rfl, ?_⟩
    have lrow := W.sq row hm
    have wm := W.m
    refine ⟨_, rfl, _, rfl, rp, ps, row, lcmF row, M, 1601, rfl, hp0, hps, by omega, fun f hf => (W.fr row hm f hf).1, lf row hm, by omega, fun l1 H8 g8 n8 i8 => ?_⟩
    refine ⟨_, rfl, (by show 1 ≤ sizeLine; decide), fun p3 h3 => ?_⟩
    have g9 := same_new h3 (.tup [.ref xp])
    refine ⟨_, rfl, p3, [xp], [X], wide, 1605, 70, rfl, upd_same, AllAt.nil.snoc ((hX.kept g8).kept g9), by show 1 ≤ 900; decide, fun f hf => by cases List.mem_singleton.mp hf; exact (bx2 X (List.mem_of_getElem? eX)).1, w2, by decide, fun l2 H10 g10 n10 i10 => ?_⟩
    have g810 := g9.trans g10
    have lw1 : ((wtF (lcmF row) row).map V.int).length = rows.length := by rw [List.length_map, wtF, List.length_map, lrow]
    refine ⟨l1, l2, _, _, rfl, rfl, g810 _ _ i8, i10, (by rw [lw1]; exact small (by show rows.length + 1 ≤ _; omega)), fun p4 h4 => ?_⟩
    have g11 := same_new h4 (.lst ((wtF (lcmF row) row).map V.int ++ (wtF wide [X]).map V.int))
    refine ⟨_, rfl, (by show 1 ≤ sizeLine; decide), fun p5 h5 => ?_⟩
    have g12 := same_new h5 (.tup [.ref yp])
    have g1 := g8.trans (g810.trans (g11.trans g12))
    refine ⟨_, rfl, p5, [yp], [Y], high, 1605, 70, rfl, upd_same, AllAt.nil.snoc (hY.kept g1), by show 1 ≤ 900; decide, fun f hf => by cases List.mem_singleton.mp hf; exact (bx3 Y (List.mem_of_getElem? eY)).1, w3, by decide, fun l3 H13 g13 n13 i13 => ?_⟩
    refine ⟨p4, l3, _, _, rfl, rfl, g13 _ _ (g12 _ _ upd_same), i13, (by rw [List.length_append, lw1]; exact small (by show rows.length + 1 + 1 ≤ _; omega)), fun p6 h6 => ?_⟩
    have g14 := same_new h6 (.lst ((wtF (lcmF row) row).map V.int ++ (wtF wide [X]).map V.int ++ (wtF high [Y]).map V.int))
    have gg := g1.trans (g13.trans g14)
    have hD5 := gg _ _ hD4T
    have n6 : p6 ≠ D4 := fun z => by subst z; rw [(g1.trans g13) _ _ hD4T] at h6; cases h6
    have er3 : rows.length = ts.length → True := fun _ => trivial
    refine ⟨_, hD5, ?_, _, _, _, _, ts ++ [p6], Tb ++ [wtF (lcmF row) row ++ wtF wide [X] ++ wtF high [Y]], rfl, same_at nD4 (g4T.trans gg), ?_, ?_, ?_, ?_⟩
    · have := (List.getElem?_eq_some_iff.mp er).1
      rw [List.length_map, hts.1, lT]
      exact small1000 (by omega)
    · rw [upd_same, List.map_append]
      rfl
    · have hi6 : IntsR (upd H13 p6 (.lst ((wtF (lcmF row) row).map V.int ++ (wtF wide [X]).map V.int ++ (wtF high [Y]).map V.int))) p6 (wtF (lcmF row) row ++ wtF wide [X] ++ wtF high [Y]) := by
        unfold IntsR
        rw [upd_same, List.map_append, List.map_append]
      exact ((htsT.imp (R' := fun H p r => p ≠ D4 ∧ IntsR H p r) fun p r z => ⟨z.1, z.2.kept gg⟩).snoc ⟨n6, hi6⟩).imp fun p r z => ⟨z.1, by unfold IntsR; rw [upd_ne z.1]; exact z.2⟩
    · rw [List.length_append, lT]
      rfl
    · intro i row1 s1 r1 q1 q2 q3
      rcases Nat.lt_or_ge i Tb.length with l | l
      · rw [List.getElem?_append_left l] at q3
        exact ok i row1 s1 r1 q1 q2 q3
      · rw [List.getElem?_append_right l] at q3
        match hi : i - Tb.length, q3 with
        | 0, q3 =>
          cases q3
          obtain rfl : i = j := by omega
          cases er.symm.trans q1
          obtain ⟨rx, sx, z1, z2, FX⟩ := ok2 _ _ eX
          obtain ⟨ry, sy, z3, z4, FY⟩ := ok3 _ _ eY
          cases er.symm.trans z1
          cases er.symm.trans z3
          cases q2.symm.trans z2
          cases q2.symm.trans z4
          exact clr_row hrow.pos (fun f hf => (W.fr row hm f hf).1) (lf row hm) wm FX FY (bx2 X (List.mem_of_getElem? eX)).1 (bx3 Y (List.mem_of_getElem? eY)).1 (ldv2 X (List.mem_of_getElem? eX)) (ldv3 Y (List.mem_of_getElem? eY)) w2 w3
        | k + 1, q3 => simp at q3
  · rintro σ H4 ⟨x0, x1, x2, x3, ts, Tb, rfl, g4, hD4, hts, lT, ok⟩
    refine ⟨_, rfl, _, rfl, _, rfl, (by show 3 ≤ sizeLine; decide), fun p hp => ?_⟩
    have g5 := same_new hp (.tup [.ref D4, .int (wide : Nat), .int (high : Nat)])
    refine q p D4 ts Tb wide high _ ((g3.trans g67).trans (g4.trans g5)) upd_same (g5 _ _ hD4) (hts.imp fun p r z => z.2.kept g5) ⟨?_, wp2, w2, wp3, w3, fun i row s r e1 e2 e3 => ⟨_, ok i row s r e1 e2 e3⟩⟩
    rw [lT, List.length_map, hR.1]
--SPLIT
open Mth
/-- a row swept by the top one -/
def swR (T : List (List Int)) (s : Nat) (d : Int) (i : Nat) (row : List Int) : List Int := if i = s then row else (row.zip (T.getD s [])).map fun x => ((T.getD s []).getD s 0 * x.1 - row.getD s 0 * x.2).fdiv d
def SwI (H : Hp) (D tp : Addr) (T : List (List Int)) (s : Nat) (d lead : Int) (j : Nat) (σ : St) (H2 : Hp) : Prop := ∃ (x0 x1 : Option V) (us : List Addr) (U : List (List Int)), σ = [x0, x1, some (.int s), some (.int d), some (.ref tp), some (.int lead)] ∧ Same H H2 ∧ H2 D = some (.lst (us.map V.ref)) ∧ AllAt (fun H p r => p ≠ D ∧ IntsR H p r) H2 us U ∧ U.length = j ∧ ∀ (i : Nat) (r row : List Int), U[i]? = some r → T[i]? = some row → r = swR T s d i row
theorem SwI.fin {H H2 H5 : Hp} {D tp p : Addr} {T : List (List Int)} {s : Nat} {d lead : Int} {us : List Addr} {U : List (List Int)} {row : List Int} {x0 x1 : Option V} (nD : H D = none) (g2 : Same H H2) (hD : H2 D = some (.lst (us.map V.ref))) (hU : AllAt (fun H p r => p ≠ D ∧ IntsR H p r) H2 us U) (ok : ∀ (i : Nat) (r row : List Int), U[i]? = some r → T[i]? = some row → r = swR T s d i row) (l : U.length ≤ 16) (er : T[U.length]? = some row)
    (g5 : Same H2 H5) (np : p ≠ D) (hp : IntsR H5 p (swR T s d U.length row)) : ∃ xs, H5 D = some (.lst xs) ∧ xs.length < sizeLine ∧ SwI H D tp T s d lead (U.length + 1) [x0, x1, some (.int s), some (.int d), some (.ref tp), some (.int lead)] (upd H5 D (.lst (xs ++ [.ref p]))) := by
  refine ⟨_, g5 _ _ hD, by rw [List.length_map, hU.1]; exact small1000 (by omega), x0, x1, us ++ [p], U ++ [swR T s d U.length row], rfl, same_at nD (g2.trans g5), by rw [upd_same, List.map_append]; rfl, ?_, by rw [List.length_append]; rfl, fun i r row' e1 e2 => ?_⟩
  · exact ((hU.imp (R' := fun H p r => p ≠ D ∧ IntsR H p r) fun p r z => ⟨z.1, z.2.kept g5⟩).snoc ⟨np, hp⟩).imp fun p r z => ⟨z.1, by unfold IntsR; rw [upd_ne z.1]; exact z.2⟩
  · rcases Nat.lt_or_ge i U.length with l | l
    · rw [List.getElem?_append_left l] at e1
      exact ok i r row' e1 e2
    · rw [List.getElem?_append_right l] at e1
      match hi : i - U.length, e1 with
      | 0, e1 =>
        cases e1
        obtain rfl : i = U.length := by omega
        cases er.symm.trans e2
        rfl
      | k + 1, e1 => simp at e1
inductive spSwept (vs : List V) (H : Hp) (Q : VK) (Y : XK) : Prop
  | mk : ∀ (t : Addr) (ts : List Addr) (T : List (List Int)) (s B : Nat) (d : Int), (vs = [.ref t, .int s, .int d]) → (H t = some (.lst (ts.map V.ref))) → (AllAt IntsR H ts T) → (T.length ≤ 16) → (s < T.length) → (∀ r ∈ T, r.length = T.length + 2 ∧ ∀ v ∈ r, v.natAbs < 2 ^ B) → (B ≤ 67108864) → (d ≠ 0) →
      (∀ (p : Addr) (us : List Addr) (U : List (List Int)) (H' : Hp), Same H H' → H' p = some (.lst (us.map V.ref)) → AllAt IntsR H' us U → U.length = T.length → (∀ (i : Nat) (r row : List Int), U[i]? = some r → T[i]? = some row → r = swR T s d i row) → Q (.ref p) H') → spSwept vs H Q Y
theorem ok_swept (B : Fx) : Hs "swept" ["table", "at", "divisor"] 40 (spSwept) := by
  refine hs_of B.X B.d6 sc_swept fun f cdv A outer s0 H vs Q E nN hr h => ?_
  obtain ⟨t, ts, T, s, b, d, rfl, ht, hT, l16, hs, hv, hb, d0, q⟩ := h
  refine ⟨_, (pss_cons (pst 3 nN (pix ix_list (pv 0) (pv 1)))
      (pss_cons (pst 4 nN (pix ix_list (pv 3) (pv 1)))
      (pss_one (ps_ret (pe_lc1y (Nc := ["k", "row", "at", "divisor", "top", "lead"]) (js := [none, none, some 1, some 2, some 3, some 4]) rfl rfl (pi_enum true rfl (B.z B.y9) (p1 (pv 0))) (CS2.of rfl rfl) rfl (fun C s₂ H₂ fp pins => (show PG _ _ (gTup K 2 _) from pg_tup rfl (pgs_cons (pg_name (i := 0) (show List.Nodup (α := Str) ["k", "row", "at", "divisor", "top", "lead"] by decide +kernel) rfl (Or.inl rfl)) (pgs_cons (pg_name (i := 1) (show List.Nodup (α := Str) ["k", "row", "at", "divisor", "top", "lead"] by decide +kernel) rfl (Or.inr rfl)) pgs_nil)))) (fun C s₂ H₂ fp pins D L => (pt_tail0 (pb_app (pe_ifExp (pt_cmpR op_eq (pv 0) (pv 2) (nomark _)) (pv 1) (pe_lc1x (Nc := ["n", "m", "divisor", "lead", "row", "at"]) (js := [none, none, some 3, some 5, some 1, some 2]) rfl rfl (show PI _ _ _ (iZip true true K _) from (pi_zip true true rfl (B.z B.y8) (p2 (pv 1) (pv 4)))) (CS.of rfl rfl) rfl (fun C s₂ H₂ fp pins => (show PG _ _ (gTup K 2 _) from pg_tup rfl (pgs_cons (pg_name (i := 0) (show List.Nodup (α := Str) ["n", "m", "divisor", "lead", "row", "at"] by decide +kernel) rfl (Or.inl rfl)) (pgs_cons (pg_name (i := 1) (show List.Nodup (α := Str) ["n", "m", "divisor", "lead", "row", "at"] by decide +kernel) rfl (Or.inl rfl)) pgs_nil)))) (fun C s₂ H₂ fp pins D L => (pt_tail0 (pb_app (pe_op (Own.op_fdivV (deep32 hr (by decide)) (ht := B.tr)) (pe_op op_sub (pe_op Own.op_mulV (pv 3) (pv 0)) (pe_op Own.op_mulV (pix (show IxR _ (rIxL K) from ix_list) (pv 4) (pv 5)) (pv 1))) (pv 2))))))))))))))), ?_⟩
  try dsimp only [cxOf]
  have es : T[s]? = some T[s] := List.getElem?_eq_getElem hs
  obtain ⟨tp, etp, htp⟩ := hT.at es
  obtain ⟨ltop, btop⟩ := hv _ (List.mem_of_getElem? es)
  have gtop : T.getD s [] = T[s] := by simp [List.getD, es]
  have ls : s < T[s].length := by omega
  have elead : (T[s])[s]? = some (T[s])[s] := List.getElem?_eq_getElem ls
  have glead : (T[s]).getD s 0 = (T[s])[s] := by simp [List.getD, elead]
  have blead := btop _ (List.mem_of_getElem? elead)
  have hsw : ∀ i row, swR T s d i row = if i = s then row else (row.zip T[s]).map fun x => ((T[s])[s] * x.1 - row.getD s 0 * x.2).fdiv d := fun i row => by
    unfold swR
    rw [gtop, glead]
  generalize (T[s])[s] = lead at *
  generalize T[s] = top at *
  refine ⟨_, rfl, _, rfl, t, _, _, _, rfl, rfl, SqL.of ht, atI_nat (j := s) (by rw [List.getElem?_map, etp]; rfl), ?_⟩
  refine ⟨_, rfl, _, rfl, tp, _, _, _, rfl, rfl, SqL.of htp, atI_nat (j := s) (by rw [List.getElem?_map, elead]; rfl), ?_⟩
  refine ⟨_, rfl, t, rfl, ⟨_, SqL.of ht⟩, fun D nD => ?_⟩
  refine walk_enum (k := true) (xs := ts.map V.ref) (SwI H D tp T s d lead) ⟨none, none, [], [], rfl, same_new nD _, upd_same, AllAt.nil, rfl, fun i r row h => by simp at h⟩ ?_ ?_ ?_
  · rintro j σ H2 _ ⟨x0, x1, us, U, rfl, g2, _⟩
    exact SqL.of (g2 _ _ ht)
  · rintro j v Z σ H2 hvj nZ ⟨x0, x1, us, U, rfl, g2, hD, hU, rfl, ok⟩
    rw [List.getElem?_map] at hvj
    obtain ⟨rp, hrp, rfl⟩ := Option.map_eq_some_iff.mp hvj
    obtain ⟨row, er, hrow⟩ := hT.get hrp
    have hj := (List.getElem?_eq_some_iff.mp er).1
    obtain ⟨lrow, brow⟩ := hv _ (List.mem_of_getElem? er)
    have gZ := same_new nZ (.tup [.int (U.length : Int), .ref rp])
    refine ⟨Z, _, rfl, SqT.of upd_same, rfl, _, _, rfl, _, _, rfl, rfl, ?_⟩
    refine ⟨_, rfl, _, rfl, rfl, _, rfl, ?_⟩
    refine ite2 (fun c => ?_) (fun c => ?_)
    · have c : U.length = s := by
        have c := of_decide_eq_true c
        injection c with c
        omega
      refine ⟨_, rfl, SwI.fin nD g2 hD hU ok (by omega) er gZ ?_ ?_⟩
      · rintro rfl
        rw [(hrow : H _ = _)] at nD
        cases nD
      · rw [hsw, if_pos c]
        exact gZ _ _ (g2 _ _ hrow)
    · have c : ¬ U.length = s := fun z => by
        subst z
        exact absurd c (by simp)
      have gg := g2.trans gZ
      have hrow2 := hrow.kept gg
      have htp2 := htp.kept gg
      have hs2 : s < row.length := by omega
      have erow : row[s]? = some row[s] := List.getElem?_eq_getElem hs2
      have grow : row.getD s 0 = row[s] := by simp [List.getD, erow]
      have brs := brow _ (List.mem_of_getElem? erow)
      have esw : swR T s d U.length row = (row.zip top).map fun x => (lead * x.1 - row[s] * x.2).fdiv d := by rw [hsw, if_neg c, grow]
      generalize row[s] = rl at *
      refine ⟨_, rfl, _, rfl, rp, tp, rfl, ⟨_, SqL.of hrow2⟩, ⟨_, SqL.of htp2⟩, fun D5 nD5 => ?_⟩
      refine walk_zip (k1 := true) (k2 := true) (xs := row.map V.int) (ys := top.map V.int) (fun i σ H4 => ∃ y0 y1 : Option V, σ = [y0, y1, some (.int d), some (.int lead), some (.ref rp), some (.int s)] ∧ Same (upd H2 Z (.tup [.int (U.length : Int), .ref rp])) H4 ∧ IntsR H4 D5 (((row.zip top).take i).map fun x => (lead * x.1 - rl * x.2).fdiv d)) (by rw [List.length_map, List.length_map, lrow, ltop]) ⟨none, none, rfl, same_new nD5 _, upd_same⟩ ?_ ?_ ?_
      · rintro i σ H4 _ ⟨y0, y1, rfl, g4, _⟩
        exact ⟨SqL.of (g4 _ _ hrow2), SqL.of (g4 _ _ htp2)⟩
      · rintro i vn vm Z2 σ H4 hvn hvm nZ2 ⟨y0, y1, rfl, g4, hD5⟩
        rw [List.getElem?_map] at hvn hvm
        obtain ⟨n, hn, rfl⟩ := Option.map_eq_some_iff.mp hvn
        obtain ⟨m, hm, rfl⟩ := Option.map_eq_some_iff.mp hvm
        have gZ2 := same_new nZ2 (.tup [.int n, .int m])
        have hz : (row.zip top)[i]? = some (n, m) := List.getElem?_zip_eq_some.mpr ⟨hn, hm⟩
        have hi := (List.getElem?_eq_some_iff.mp hn).1
        refine ⟨Z2, _, rfl, SqT.of upd_same, rfl, _, _, rfl, _, _, rfl, rfl, ?_⟩
        refine ⟨_, rfl, _, rfl, _, _, rfl, rfl, ⟨b, b, blead, brow n (List.mem_of_getElem? hn), by omega⟩, _, rfl, _, rfl, rp, _, _, _, rfl, rfl, SqL.of (gZ2 _ _ (g4 _ _ hrow2)), atI_nat (j := s) (by rw [List.getElem?_map, erow]; rfl), ?_⟩
        refine ⟨_, rfl, _, _, rfl, rfl, ⟨b, b, brs, btop m (List.mem_of_getElem? hm), by omega⟩, _, _, rfl, rfl, _, rfl, _, _, rfl, rfl, d0, ?_⟩
        refine ⟨_, gZ2 _ _ hD5, ?_, _, _, rfl, same_at nD5 (g4.trans gZ2), ?_⟩
        · rw [List.length_map, List.length_map, List.length_take]
          exact small1000 (by omega)
        · unfold IntsR
          rw [upd_same, take_more hz]
          simp
      · rintro σ H4 ⟨y0, y1, rfl, g4, hD5⟩
        rw [List.length_map, List.take_of_length_le (by rw [List.length_zip]; omega)] at hD5
        refine SwI.fin nD g2 hD hU ok (by omega) er (gZ.trans g4) ?_ (by rw [esw]; exact hD5)
        rintro rfl
        rw [gZ _ _ hD] at nD5
        cases nD5
  · rintro σ H2 ⟨x0, x1, us, U, rfl, g2, hD, hU, lU, ok⟩
    exact q D us U H2 g2 hD (hU.imp fun p r z => z.2) (by rw [lU, List.length_map, hT.1]) ok
--SPLIT
open Mth
theorem cut_from (xs : List V) {k : Nat} (h : k ≤ xs.length) : cutV xs (some (k : Int)) none = xs.drop k := by
  unfold cutV
  rw [HT.sIx_none, HT.sIx_nat, Nat.min_eq_left h, List.take_of_length_le]
  rw [List.length_drop]
  exact Nat.le_refl _
theorem cut_to (xs : List V) {k : Nat} (h : k ≤ xs.length) : cutV xs none (some (k : Int)) = xs.take k := by
  unfold cutV
  rw [HT.sIx_none, HT.sIx_nat, Nat.min_eq_left h, List.drop_zero, Nat.sub_zero]
theorem cut_mid (xs : List V) {b c : Nat} (h : b ≤ c) (h' : c ≤ xs.length) : cutV xs (some (b : Int)) (some (c : Int)) = (xs.drop b).take (c - b) := by
  unfold cutV
  rw [HT.sIx_nat, HT.sIx_nat, Nat.min_eq_left h', Nat.min_eq_left (by omega)]
theorem atI_neg {α : Type} {xs : List α} {k j : Nat} {v : α} (h : xs[j]? = some v) (hk : j + k = xs.length) (k0 : 0 < k) : atI xs (-(k : Int)) = some v := by
  have hj : j < xs.length := (List.getElem?_eq_some_iff.mp h).1
  have e : ixN xs.length (-(k : Int)) = some j := by
    unfold ixN
    rw [if_neg (by omega), if_pos (by omega)]
    congr 1
    omega
  unfold atI
  rw [e]
  exact h
/-- a table with the row at f brought up to s -/
def mvL {α : Type} (xs : List α) (s f : Nat) (e : α) : List α := xs.take s ++ [e] ++ (xs.drop s).take (f - s) ++ xs.drop (f + 1)
theorem mvL_get {α : Type} {xs : List α} {s f : Nat} {e : α} (he : xs[f]? = some e) (h : s ≤ f) (i : Nat) : (mvL xs s f e)[i]? = xs[Brs.mvI s f i]? := Brs.mv_get he h i
theorem mvL_len {α : Type} {xs : List α} {s f : Nat} {e : α} (hf : f < xs.length) (h : s ≤ f) : (mvL xs s f e).length = xs.length := by
  unfold mvL
  rw [List.length_append, List.length_append, List.length_append, List.length_take, List.length_take, List.length_drop, List.length_drop]
  show min _ _ + 1 + _ + _ = _
  omega
theorem getD_of {α : Type} {xs : List α} {i : Nat} {x d : α} (h : xs[i]? = some x) : xs.getD i d = x := by simp [List.getD, h]
/-- B is the table of the rows, each times a number of its own -/
def Clears (rows : List (List (Int × Nat))) (B : Nat → Nat → Int) : Prop := ∀ (i : Nat) (row : List (Int × Nat)), rows[i]? = some row → ∃ b : Int, b ≠ 0 ∧ ∀ (j : Nat) (f : Int × Nat), row[j]? = some f → B i j * (f.2 : Nat) = f.1 * b
/-- in each row the products of its numbers and the points' are together its side -/
def Solv (sel : Two → Int × Nat) (rows : List (List (Int × Nat))) (sides pts : List Two) : Prop := ∀ (i : Nat) (row : List (Int × Nat)) (s : Two), rows[i]? = some row → sides[i]? = some s →
  ∃ (L : Int) (g : Nat → Int), L ≠ 0 ∧ (∀ (j : Nat) (f : Int × Nat) (pt : Two), row[j]? = some f → pts[j]? = some pt → f.1 * (sel pt).1 * L = ((f.2 * (sel pt).2 : Nat) : Int) * g j) ∧ Brs.sm rows.length g * ((sel s).2 : Nat) = (sel s).1 * L
structure Solved (rows : List (List (Int × Nat))) (sides pts : List Two) : Prop where
  len : pts.length = rows.length
  red : ∀ pt ∈ pts, Int.gcd pt.1.1 pt.1.2 = 1 ∧ Int.gcd pt.2.1 pt.2.2 = 1
  bits : ∀ pt ∈ pts, pt.1.1.natAbs < 2 ^ 35000 ∧ pt.1.2 < 2 ^ 35000 ∧ pt.2.1.natAbs < 2 ^ 35000 ∧ pt.2.2 < 2 ^ 35000
  x : Solv (·.1) rows sides pts
  y : Solv (·.2) rows sides pts
theorem SideR.but_at {H : Hp} {D p : Addr} {xs ys : List V} {s : Two} (h : SideR H p s) (hD : H D = some (.lst xs)) (n : p ≠ D) : SideR (upd H D (.lst ys)) p s := by
  obtain ⟨q1, q2, a, b, c⟩ := h
  have nt : ∀ zs, H D ≠ some (.tup zs) := fun zs z => by rw [hD] at z; cases z
  exact ⟨q1, q2, by rw [upd_ne n]; exact a, b.but but_upd nt, c.but but_upd nt⟩
def tabF (T : List (List Int)) (i j : Nat) : Int := (T.getD i []).getD j 0
theorem Clrd.clears {rows : List (List (Int × Nat))} {sides : List Two} {T : List (List Int)} {wide high : Nat} (h : Clrd rows sides T wide high) (ls : sides.length = rows.length) : Clears rows (tabF T) := fun i row e => by
  have hi := (List.getElem?_eq_some_iff.mp e).1
  have hT : i < T.length := by have := h.len; omega
  obtain ⟨b, C⟩ := h.row i row _ _ e (List.getElem?_eq_getElem (by omega : i < sides.length)) (List.getElem?_eq_getElem hT)
  refine ⟨b, by have := C.pos; omega, fun j f e2 => ?_⟩
  obtain ⟨v, e3, e4⟩ := C.fr j f e2
  unfold tabF
  rw [getD_of (List.getElem?_eq_getElem hT), getD_of e3, e4]
theorem solv_of {sel : Two → Int × Nat} {rows : List (List (Int × Nat))} {sides pts : List Two} {T U : List (List Int)} {n c w : Nat} {d : Int} (hn : n = rows.length) (lU : U.length = n) (lp : pts.length = n) (w0 : 0 < w) (d0 : d ≠ 0)
    (hs : ∀ (i : Nat) (row : List (Int × Nat)) (s : Two), rows[i]? = some row → sides[i]? = some s → ∃ b : Int, b ≠ 0 ∧ (∀ (j : Nat) (f : Int × Nat), row[j]? = some f → tabF T i j * (f.2 : Nat) = f.1 * b) ∧ tabF T i c * ((sel s).2 : Nat) = (sel s).1 * b * (w : Nat))
    (cr : ∀ r, r < n → (Brs.sm n fun l => tabF T r l * (U.getD l []).getD c 0) = tabF T r c * d)
    (hp : ∀ (l : Nat) (pt : Two) (r : List Int), pts[l]? = some pt → U[l]? = some r → Fr (r.getD c 0) (d * (w : Nat)) (sel pt).1 ((sel pt).2 : Nat)) : Solv sel rows sides pts := fun i row s e1 e2 => by
  obtain ⟨b, b0, hb1, hb2⟩ := hs i row s e1 e2
  have hi := (List.getElem?_eq_some_iff.mp e1).1
  refine ⟨b * (d * (w : Nat)), fun j => tabF T i j * (U.getD j []).getD c 0, Int.mul_ne_zero b0 (Int.mul_ne_zero d0 (by omega)), fun j f pt e3 e4 => ?_, ?_⟩
  · have hj : j < U.length := by have := (List.getElem?_eq_some_iff.mp e4).1; omega
    have e5 : U[j]? = some U[j] := List.getElem?_eq_getElem hj
    have F := (hp j pt _ e4 e5).eq
    show _ = _ * (tabF T i j * (U.getD j []).getD c 0)
    rw [getD_of e5, Int.natCast_mul]
    calc f.1 * (sel pt).1 * (b * (d * (w : Nat))) = (f.1 * b) * ((sel pt).1 * (d * (w : Nat))) := by ac_rfl
      _ = (tabF T i j * (f.2 : Nat)) * ((U[j]).getD c 0 * ((sel pt).2 : Nat)) := by rw [hb1 j f e3, F]
      _ = _ := by ac_rfl
  · rw [← hn, cr i (by omega)]
    calc tabF T i c * d * ((sel s).2 : Nat) = tabF T i c * ((sel s).2 : Nat) * d := by ac_rfl
      _ = (sel s).1 * b * (w : Nat) * d := by rw [hb2]
      _ = _ := by ac_rfl
inductive spSolved (vs : List V) (H : Hp) (Q : VK) (Y : XK) : Prop
  | mk : ∀ (a b : Addr) (rs ss : List Addr) (rows : List (List (Int × Nat))) (sides : List Two) (M : Nat), (vs = [.ref a, .ref b]) → (H a = some (.tup (rs.map V.ref))) → (H b = some (.tup (ss.map V.ref))) → (AllAt RowR H rs rows) → (AllAt SideR H ss sides) → (Fits rows sides M) →
      (∀ H', Same H H' → (∃ B, Clears rows B ∧ ¬ Brs.Lone B rows.length) → Q .non H') →
      (∀ (p : Addr) (ps : List Addr) (pts : List Two) (H' : Hp), Same H H' → H' p = some (.tup (ps.map V.ref)) → AllAt SideR H' ps pts → (∃ B, Clears rows B ∧ Brs.Lone B rows.length) → Solved rows sides pts → Q (.ref p) H') → spSolved vs H Q Y
theorem ok_solved (B : Fx) : Hs "solved" ["rows", "sides"] 43 (spSolved) := by
  refine hs_of B.X B.d7 sc_solved fun f cdv A outer s0 H vs Q E nN hr h => ?_
  obtain ⟨a, b, rs, ss, rows, sides, M, rfl, ha, hb, hR, hS, W, qn, qp⟩ := h
  refine ⟨_, (pss_cons (pst 2 nN (pe_callB call_len_seq rfl (B.z B.y3) PySem.boot_len (p1 (pv 0))))
      (pss_cons (ps_asg (pf (ok_cleared B) hr (p2 (pv 0) (pv 1))) (pg_tup (n := 3) rfl (pgs_cons (pgn 3 nN) (pgs_cons (pgn 4 nN) (pgs_cons (pgn 5 nN) pgs_nil)))))
      (pss_cons (pst 6 nN pe_int)
      (pss_cons (pfor (pi_range1 rfl (B.z B.y10) (p1 (pv 2))) (pgn 7 nN) (pss_cons (ps_lc1x (i := 8) (Nc := ["k", "at", "table"]) (js := [none, some 7, some 3]) rfl rfl nN rfl (Or.inl rfl) (pi_range2 rfl (B.z B.y10) (p2 (pv 7) (pv 2))) (CS.of rfl rfl) rfl (fun C s₂ H₂ fp pins => (pgc 0)) (fun C s₂ H₂ fp pins D L => (pt_tail1 (pt_cmpR op_ne (pix (show IxR _ (rIxL K) from ix_list) (pix (show IxR _ (rIxL K) from ix_list) (pv 2) (pv 0)) (pv 1)) pe_int (nomark _)) (pb_app (pv 0)))))
      (pss_cons (ps_if (pt_not (pt_truth (pv 8) (fun _ => rfl))) (pss_one (ps_ret pe_non)) pss_nil)
      (pss_cons (pst 9 nN (pix ix_list (pv 8) pe_int))
      (pss_cons (pst 3 nN (pe_op op_cat (pe_op op_cat (pe_op op_cat (pe_slice sl_list (pv 3) po_none (po_some (pv 7))) (pe_lst (p1 (pix ix_list (pv 3) (pv 9))))) (pe_slice sl_list (pv 3) (po_some (pv 7)) (po_some (pv 9)))) (pe_slice sl_list (pv 3) (po_some (pe_op op_add (pv 9) pe_int)) po_none)))
      (pss_cons (pst 3 nN (pf (ok_swept B) hr (pa_cons (pv 3) (pa_cons (pv 7) (pa_cons (pv 6) pa_nil)))))
      (pss_one (pst 6 nN (pix ix_list (pix ix_list (pv 3) (pv 7)) (pv 7))))))))))
      (pss_one (ps_ret (pe_callTy call_tuple_of rfl (B.z B.y5) PyProof.Rows.boot_tuple (p1 (pe_lc1x (Nc := ["row", "divisor", "wide", "high"]) (js := [none, some 6, some 4, some 5]) rfl rfl (pi_list (pv 3)) (CS.of rfl rfl) rfl (fun C s₂ H₂ fp pins => (pg_name (i := 0) (show List.Nodup (α := Str) ["row", "divisor", "wide", "high"] by decide +kernel) rfl (Or.inl rfl))) (fun C s₂ H₂ fp pins D L => (pt_tail0 (pb_app (pe_tup (p2 (pf (ok_fraction B) hr (p2 (pix (show IxR _ (rIxL K) from ix_list) (pv 0) (pe_un un_neg pe_int)) (pe_op Own.op_mulV (pv 1) (pv 2)))) (pf (ok_fraction B) hr (p2 (pix (show IxR _ (rIxL K) from ix_list) (pv 0) (pe_un un_neg pe_int)) (pe_op Own.op_mulV (pv 1) (pv 3)))))))))))))))))), ?_⟩
  try dsimp only [cxOf]
  have n16 := W.n16
  have lrs : rs.length = rows.length := hR.1
  refine ⟨_, rfl, a, _, rfl, .inr (SqT.of ha), ?_⟩
  refine ⟨_, rfl, _, rfl, a, b, rs, ss, rows, sides, M, rfl, ha, hb, hR, hS, W, fun p0 t ts T wide high H1 g1 hp0 ht hT C => ?_⟩
  refine ⟨p0, _, rfl, SqT.of hp0, rfl, _, _, rfl, _, _, rfl, _, _, rfl, rfl, ?_⟩
  rw [List.length_map, lrs]
  have hrow : ∀ r ∈ T, r.length = rows.length + 2 ∧ ∀ v ∈ r, v.natAbs < 2 ^ 2000 := fun r hm => by
    obtain ⟨i, hi, e⟩ := List.getElem_of_mem hm
    have lT := C.len
    have e1 : rows[i]? = some rows[i] := List.getElem?_eq_getElem (by omega)
    obtain ⟨_, R⟩ := C.row i _ _ r e1 (List.getElem?_eq_getElem (by rw [W.sl]; omega)) (e ▸ List.getElem?_eq_getElem hi)
    exact ⟨by rw [R.len, W.sq _ (List.mem_of_getElem? e1)], R.bits⟩
  have hB : ∀ i j, (tabF T i j).natAbs ≤ 2 ^ 2000 := fun i j => by
    unfold tabF
    rcases e : T[i]? with _ | r
    · rw [show T.getD i [] = [] by rw [List.getD, e]; rfl]
      exact Nat.zero_le _
    · rw [getD_of e]
      rcases e2 : r[j]? with _ | v
      · rw [show r.getD j 0 = 0 by rw [List.getD, e2]; rfl]
        exact Nat.zero_le _
      · rw [getD_of e2]
        exact Nat.le_of_lt ((hrow r (List.mem_of_getElem? e)).2 v (List.mem_of_getElem? e2))
  have stg0 : Brs.Stg (tabF T) (tabF T) rows.length 0 T 1 := Brs.Stg.start C.len fun r hm => (hrow r hm).1
  refine ⟨_, rfl, _, rfl, (by omega), (by omega), ?_⟩
  refine for_range (lo := 0) (n := rows.length) (fun k σ H2 => ∃ (t2 : Addr) (ts2 : List Addr) (T2 : List (List Int)) (d : Int) (B2 : Nat → Nat → Int) (x7 x8 x9 : Option V), σ = [some (.ref a), some (.ref b), some (.int rows.length), some (.ref t2), some (.int wide), some (.int high), some (.int d), x7, x8, x9] ∧ Same H1 H2 ∧ H2 t2 = some (.lst (ts2.map V.ref)) ∧ AllAt IntsR H2 ts2 T2 ∧ Brs.Stg (tabF T) B2 rows.length k T2 d) ⟨t, ts, T, 1, _, none, none, none, rfl, Same.refl _, ht, hT, stg0⟩ ?_ ?_
  · rintro s σ H2 hs ⟨t2, ts2, T2, d, B2, x7, x8, x9, rfl, g2, ht2, hT2, S⟩
    rw [Int.zero_add]
    have lT := S.len
    have lts : ts2.length = T2.length := hT2.1
    refine ⟨_, rfl, _, rfl, _, _, rfl, ⟨by omega, by omega, by omega, by omega⟩, fun D nD => ?_⟩
    rw [show ((rows.length : Int) - (s : Int)).toNat = rows.length - s by omega]
    refine walk_range (lo := s) (n := rows.length - s) (fun i σ H3 => ∃ (x0 : Option V) (ls : List Nat), σ = [x0, some (.int s), some (.ref t2)] ∧ Same H2 H3 ∧ H3 D = some (.lst (ls.map fun k : Nat => V.int (k : Int))) ∧ ls.length ≤ i ∧ (∀ k ∈ ls, s ≤ k ∧ k < rows.length ∧ tabF T2 k s ≠ 0) ∧ (∀ k, s ≤ k → k < s + i → tabF T2 k s ≠ 0 → k ∈ ls)) ⟨none, [], rfl, same_new nD _, upd_same, Nat.le_refl _, (fun k h => by cases h), (fun k h1 h2 => by omega)⟩ ?_ ?_
    · rintro i σ H3 hi ⟨x0, ls, rfl, g3, hD, ll, o1, o2⟩
      rw [← Int.natCast_add]
      have eT : T2[s + i]? = some T2[s + i] := List.getElem?_eq_getElem (by omega)
      obtain ⟨rp, erp, hrp⟩ := hT2.at eT
      obtain ⟨lr, _⟩ := S.row _ _ eT
      have es : (T2[s + i])[s]? = some (T2[s + i])[s] := List.getElem?_eq_getElem (by omega)
      have ef : tabF T2 (s + i) s = (T2[s + i])[s] := by unfold tabF; rw [getD_of eT, getD_of es]
      refine ⟨_, rfl, _, rfl, t2, _, _, _, rfl, rfl, SqL.of (g3 _ _ ht2), atI_nat (j := s + i) (by rw [List.getElem?_map, erp]; rfl), ?_⟩
      refine ⟨_, rfl, rp, _, _, _, rfl, rfl, SqL.of (hrp.kept g3), atI_nat (j := s) (by rw [List.getElem?_map, es]; rfl), ?_⟩
      refine ⟨rfl, _, rfl, ?_⟩
      refine ite2 (fun c => ?_) (fun c => ?_)
      · have c : (T2[s + i])[s] ≠ 0 := fun z => by rw [z] at c; exact absurd c (by decide)
        refine ⟨_, rfl, _, hD, ?_, _, ls ++ [s + i], rfl, same_at nD g3, ?_, ?_, fun k hk => ?_, fun k h1 h2 h3 => ?_⟩
        · rw [List.length_map]
          exact small1000 (by omega)
        · rw [upd_same, List.map_append]
          rfl
        · rw [List.length_append]
          show ls.length + 1 ≤ _
          omega
        · rcases List.mem_append.mp hk with hk | hk
          · exact o1 k hk
          · cases List.mem_singleton.mp hk
            exact ⟨by omega, by omega, by rw [ef]; exact c⟩
        · rcases Nat.lt_or_ge k (s + i) with l | l
          · exact List.mem_append_left _ (o2 k h1 l h3)
          · obtain rfl : k = s + i := by omega
            exact List.mem_append_right _ (List.mem_singleton.mpr rfl)
      · have c : (T2[s + i])[s] = 0 := by
          by_cases z : (T2[s + i])[s] = 0
          · exact z
          · exfalso
            apply c
            rw [show decide (V.int (T2[s + i])[s] = V.int 0) = false from decide_eq_false fun e => z (by injection e)]
            rfl
        refine ⟨_, ls, rfl, g3, hD, by omega, o1, fun k h1 h2 h3 => ?_⟩
        rcases Nat.lt_or_ge k (s + i) with l | l
        · exact o2 k h1 l h3
        · obtain rfl : k = s + i := by omega
          exact absurd (ef.trans c) h3
    · rintro σ H3 ⟨x0, ls, rfl, g3, hD, ll, o1, o2⟩
      refine ⟨_, rfl, _, .inl ⟨_, SqL.of hD, rfl⟩, ?_⟩
      refine ite2 (fun c => ?_) (fun c => ?_)
      · have hls : ls = [] := by
          match ls, c with
          | [], _ => rfl
        subst hls
        refine qn _ (g1.trans (g2.trans g3)) ⟨tabF T, C.clears W.sl, S.not hs fun k r hk e => ?_⟩
        have := (List.getElem?_eq_some_iff.mp e).1
        by_cases z : r.getD s 0 = 0
        · exact z
        · exact absurd (o2 k hk (by omega) (by unfold tabF; rw [getD_of e]; exact z)) (by simp)
      obtain ⟨f, ls, rfl⟩ : ∃ f l, ls = f :: l := by
        match ls, c with
        | [], c => exact absurd rfl c
        | f :: l, _ => exact ⟨f, l, rfl⟩
      obtain ⟨hf1, hf2, hf3⟩ := o1 f List.mem_cons_self
      refine ⟨_, rfl, D, _, _, _, rfl, rfl, SqL.of hD, (atI_nat (j := 0) rfl), ?_⟩
      have ht3 := g3 _ _ ht2
      have hT3 := hT2.imp fun _ _ => IntsR.kept g3
      have hn := S.len
      have lt2 : (ts2.map V.ref).length = rows.length := by rw [List.length_map, lts, lT]
      obtain ⟨fp, efp, hfp⟩ := hT2.at (List.getElem?_eq_getElem (by omega : f < T2.length))
      refine ⟨_, rfl, _, rfl, _, rfl, t2, _, rfl, SqL.of ht3, fun p1 n1 => ?_⟩
      rw [cut_to _ (by omega)]
      have g4 := same_new n1 (.lst ((ts2.map V.ref).take s))
      refine ⟨_, rfl, _, rfl, t2, _, _, _, rfl, rfl, SqL.of (g4 _ _ ht3), atI_nat (j := f) (by rw [List.getElem?_map, efp]; rfl), (by show 1 ≤ sizeLine; decide), fun p2 n2 => ?_⟩
      have g5 := same_new n2 (.lst [.ref fp])
      refine ⟨p1, p2, _, _, rfl, rfl, g5 _ _ upd_same, upd_same, ?_, fun p3 n3 => ?_⟩
      · exact small (by rw [List.length_take]; show min _ _ + 1 ≤ _; omega)
      have g6 := same_new n3 (.lst ((ts2.map V.ref).take s ++ [.ref fp]))
      have g46 := g4.trans (g5.trans g6)
      refine ⟨_, rfl, _, rfl, _, rfl, _, rfl, _, rfl, t2, _, rfl, SqL.of (g46 _ _ ht3), fun p4 n4 => ?_⟩
      rw [cut_mid _ hf1 (by omega)]
      have g7 := same_new n4 (.lst (((ts2.map V.ref).drop s).take (f - s)))
      refine ⟨p3, p4, _, _, rfl, rfl, g7 _ _ upd_same, upd_same, ?_, fun p5 n5 => ?_⟩
      · exact small (by rw [List.length_append, List.length_take, List.length_take, List.length_drop]; show min _ _ + 1 + _ ≤ _; omega)
      have g8 := same_new n5 (.lst ((ts2.map V.ref).take s ++ [.ref fp] ++ ((ts2.map V.ref).drop s).take (f - s)))
      have g48 := g46.trans (g7.trans g8)
      refine ⟨_, rfl, _, rfl, _, _, rfl, rfl, _, rfl, t2, _, rfl, SqL.of (g48 _ _ ht3), fun p6 n6 => ?_⟩
      rw [show ((f : Int) + 1) = ((f + 1 : Nat) : Int) from rfl, cut_from _ (by omega)]
      have g9 := same_new n6 (.lst ((ts2.map V.ref).drop (f + 1)))
      refine ⟨p5, p6, _, _, rfl, rfl, g9 _ _ upd_same, upd_same, ?_, fun p7 n7 => ?_⟩
      · exact small (by rw [List.length_append, List.length_append, List.length_take, List.length_take, List.length_drop, List.length_drop]; show min _ _ + 1 + _ + _ ≤ _; omega)
      have g10 := same_new n7 (.lst ((ts2.map V.ref).take s ++ [.ref fp] ++ ((ts2.map V.ref).drop s).take (f - s) ++ (ts2.map V.ref).drop (f + 1)))
      have g310 := g48.trans (g9.trans g10)
      have eT : T2[f]? = some T2[f] := List.getElem?_eq_getElem (by omega)
      have em : (ts2.map V.ref).take s ++ [.ref fp] ++ ((ts2.map V.ref).drop s).take (f - s) ++ (ts2.map V.ref).drop (f + 1) = (mvL ts2 s f fp).map V.ref := by
        unfold mvL
        rw [List.map_append, List.map_append, List.map_append, List.map_take, List.map_take, List.map_drop, List.map_drop]
        rfl
      rw [em] at g310 ⊢
      have hT7 : ∀ H', Same H3 H' → AllAt IntsR H' (mvL ts2 s f fp) (mvL T2 s f T2[f]) := by
        refine fun H' g => ⟨by rw [mvL_len (by omega) hf1, mvL_len (by omega) hf1, lts], fun i p r e1 e2 => ?_⟩
        rw [mvL_get efp hf1] at e1
        rw [mvL_get eT hf1] at e2
        exact (hT3.2 _ p r e1 e2).kept g
      have S3 := S.move hf1 hf2 (by rw [mvL_len (by omega) hf1, lT]) (mvL_get eT hf1)
      have etop : (mvL T2 s f T2[f])[s]? = some T2[f] := by
        rw [mvL_get eT hf1, Brs.mvI, if_neg (by omega), if_pos rfl]
        exact eT
      have elead : (T2[f]).getD s 0 ≠ 0 := by
        have := hf3
        unfold tabF at this
        rwa [getD_of eT] at this
      generalize mvL T2 s f T2[f] = T3 at *
      generalize T2[f] = top at *
      have lT3 := S3.len
      obtain ⟨ltop, _⟩ := S3.row _ _ etop
      obtain ⟨bT3, bd⟩ := S3.bits (N := 2000) (by omega) n16 hB
      refine ⟨_, rfl, _, rfl, _, rfl, p7, mvL ts2 s f fp, T3, s, 34086, d, rfl, upd_same, hT7 _ g310, by omega, by omega, fun r hr => ⟨?_, bT3 r hr⟩, by decide, by rw [S3.d]; exact S3.d0, fun p8 us U H8 g8' e8 hU lU okU => ?_⟩
      · obtain ⟨i, hi, e⟩ := List.getElem_of_mem hr
        rw [(S3.row i r (e ▸ List.getElem?_eq_getElem hi)).1, lT3]
      have S4 := S3.sweep hs etop rfl elead (by rw [lU, lT3]) fun i r row e1 e2 => by
        have := okU i r row e1 e2
        unfold swR at this
        rwa [getD_of etop] at this
      have eU : U[s]? = some top := by
        have e : U[s]? = some U[s] := List.getElem?_eq_getElem (by omega)
        have := okU s _ _ e etop
        unfold swR at this
        rw [if_pos rfl] at this
        rw [e, this]
      obtain ⟨up, eup, hup⟩ := hU.at eU
      have ev : top[s]? = some (top.getD s 0) := by rw [List.getElem?_eq_getElem (by omega : s < top.length), getD_of (List.getElem?_eq_getElem (by omega))]
      refine ⟨_, rfl, _, rfl, p8, _, _, _, rfl, rfl, SqL.of e8, atI_nat (j := s) (by rw [List.getElem?_map, eup]; rfl), ?_⟩
      refine ⟨_, rfl, up, _, _, _, rfl, rfl, SqL.of hup, atI_nat (j := s) (by rw [List.getElem?_map, ev]; rfl), ?_⟩
      exact ⟨p8, us, U, _, _, _, _, _, rfl, g2.trans (g3.trans (g310.trans g8')), e8, hU, S4⟩
  · rintro σ H2 ⟨t2, ts2, T2, d, B2, x7, x8, x9, rfl, g2, ht2, hT2, S⟩
    refine ⟨_, rfl, t2, rfl, ⟨_, SqL.of ht2⟩, fun D nD => ?_⟩
    refine walk_list (xs := ts2.map V.ref) (fun j σ H3 => ∃ (x : Option V) (ps : List Addr) (pts : List Two), σ = [x, some (.int d), some (.int wide), some (.int high)] ∧ Same H2 H3 ∧ H3 D = some (.lst (ps.map V.ref)) ∧ AllAt (fun H p s => p ≠ D ∧ SideR H p s) H3 ps pts ∧ pts.length = j ∧ ∀ (l : Nat) (pt : Two) (r : List Int), pts[l]? = some pt → T2[l]? = some r → Fr (r.getD rows.length 0) (d * (wide : Nat)) pt.1.1 (pt.1.2 : Nat) ∧ Fr (r.getD (rows.length + 1) 0) (d * (high : Nat)) pt.2.1 (pt.2.2 : Nat)) ⟨none, [], [], rfl, same_new nD _, upd_same, AllAt.nil, rfl, fun l pt r h => by simp at h⟩ ?_ ?_ ?_
    · rintro j σ H3 _ ⟨x, ps, pts, rfl, g3, _⟩
      exact SqL.of (g3 _ _ ht2)
    · rintro j v σ H3 hv ⟨x, ps, pts, rfl, g3, hD, hps, lp, ok⟩
      rw [List.getElem?_map] at hv
      obtain ⟨rp, hrp, rfl⟩ := Option.map_eq_some_iff.mp hv
      obtain ⟨r, er, hr0⟩ := hT2.get hrp
      obtain ⟨lr, _⟩ := S.row _ _ er
      have hr1 := hr0.kept g3
      have hk := (List.getElem?_eq_some_iff.mp er).1
      have hd0 : d ≠ 0 := by rw [S.d]; exact S.d0
      obtain ⟨bT, bd⟩ := S.bits (N := 2000) (Nat.le_refl _) n16 hB
      have e0 : r[rows.length]? = some (r.getD rows.length 0) := by rw [List.getElem?_eq_getElem (by omega : rows.length < r.length), getD_of (List.getElem?_eq_getElem (by omega))]
      have e1 : r[rows.length + 1]? = some (r.getD (rows.length + 1) 0) := by rw [List.getElem?_eq_getElem (by omega : rows.length + 1 < r.length), getD_of (List.getElem?_eq_getElem (by omega))]
      have w0 := C.w0
      have h0 := C.h0
      have lm : (r.map V.int).length = rows.length + 2 := by rw [List.length_map, lr]
      refine ⟨_, rfl, _, rfl, rp, _, _, _, rfl, rfl, SqL.of hr1, (atI_neg (k := 2) (j := rows.length) (by rw [List.getElem?_map, e0]; rfl) (by omega) (by decide)), ?_⟩
      refine ⟨_, rfl, _, rfl, _, _, rfl, rfl, ⟨34086, 70, bd, C.w1, by decide⟩, _, _, rfl, Int.mul_ne_zero hd0 (by omega), fun n1 d1 q1 H4 F1 g4 e4 => ?_⟩
      refine ⟨_, rfl, _, rfl, rp, _, _, _, rfl, rfl, SqL.of (g4 _ _ hr1), (atI_neg (k := 1) (j := rows.length + 1) (by rw [List.getElem?_map, e1]; rfl) (by omega) (by decide)), ?_⟩
      refine ⟨_, rfl, _, rfl, _, _, rfl, rfl, ⟨34086, 70, bd, C.h1, by decide⟩, _, _, rfl, Int.mul_ne_zero hd0 (by omega), fun n2 d2 q2 H5 F2 g5 e5 => ?_⟩
      refine ⟨(by show 2 ≤ sizeLine; decide), fun p6 n6 => ?_⟩
      have g6 := same_new n6 (.tup [.ref q1, .ref q2])
      have gg := g4.trans (g5.trans g6)
      have hD6 := gg _ _ hD
      have np : p6 ≠ D := fun z => by
        subst z
        rw [(g4.trans g5) _ _ hD] at n6
        cases n6
      have hps6 := hps.imp (R' := fun H p s => p ≠ D ∧ SideR H p s) fun p s z => ⟨z.1, z.2.kept gg⟩
      refine ⟨_, hD6, ?_, _, ps ++ [p6], pts ++ [((n1, d1.toNat), (n2, d2.toNat))], rfl, same_at nD (g3.trans gg), ?_, ?_, ?_, ?_⟩
      · rw [List.length_map, hps.1, lp]
        have := S.len
        exact small1000 (by omega)
      · rw [upd_same, List.map_append]
        rfl
      · refine (hps6.snoc ⟨np, q1, q2, upd_same, ?_, ?_⟩).imp fun p s z => ⟨z.1, z.2.but_at hD6 z.1⟩
        · exact (fr_at e4 F1.pos).kept (g5.trans g6)
        · exact (fr_at e5 F2.pos).kept g6
      · rw [List.length_append, lp]
        rfl
      · intro l pt r' z1 z2
        rcases Nat.lt_or_ge l pts.length with hl | hl
        · rw [List.getElem?_append_left hl] at z1
          exact ok l pt r' z1 z2
        · rw [List.getElem?_append_right hl] at z1
          match hi : l - pts.length, z1 with
          | 0, z1 =>
            cases z1
            obtain rfl : l = j := by omega
            cases er.symm.trans z2
            have c1 : ((d1.toNat : Nat) : Int) = d1 := Int.toNat_of_nonneg (by have := F1.pos; omega)
            have c2 : ((d2.toNat : Nat) : Int) = d2 := Int.toNat_of_nonneg (by have := F2.pos; omega)
            show Fr _ _ n1 ((d1.toNat : Nat) : Int) ∧ Fr _ _ n2 ((d2.toNat : Nat) : Int)
            rw [c1, c2]
            exact ⟨F1, F2⟩
          | k + 1, z1 => simp at z1
    · rintro σ H3 ⟨x, ps, pts, rfl, g3, hD, hps, lp, ok⟩
      have lT := S.len
      have lp : pts.length = rows.length := by rw [lp, List.length_map, hT2.1, lT]
      obtain ⟨bT, bd⟩ := S.bits (N := 2000) (Nat.le_refl _) n16 hB
      have hd0 : d ≠ 0 := by rw [S.d]; exact S.d0
      refine ⟨D, _, rfl, .inl ⟨SqL.of hD, fun l nl => ?_⟩⟩
      have gl := same_new nl (.tup (ps.map V.ref))
      refine qp l ps pts _ (g1.trans (g2.trans (g3.trans gl))) upd_same (hps.imp fun p s z => z.2.kept gl) ⟨tabF T, C.clears W.sl, S.lone⟩ ?_
      have at_ : ∀ pt ∈ pts, ∃ (k : Nat) (r : List Int), pts[k]? = some pt ∧ T2[k]? = some r := fun pt hm => by
        obtain ⟨k, hk, e⟩ := List.getElem_of_mem hm
        exact ⟨k, _, e ▸ List.getElem?_eq_getElem hk, List.getElem?_eq_getElem (by omega)⟩
      have big : ∀ (r : List Int) (c : Nat), r ∈ T2 → (r.getD c 0).natAbs < 2 ^ 34086 := fun r c hr => by
        rcases e : r[c]? with _ | v
        · rw [show r.getD c 0 = 0 by rw [List.getD, e]; rfl]
          exact Nat.pow_pos (by decide)
        · rw [getD_of e]
          exact bT r hr v (List.mem_of_getElem? e)
      have lt1 : (2 : Nat) ^ 34086 ≤ 2 ^ 35000 := Nat.pow_le_pow_right (by decide) (by decide)
      have lt2 : ∀ w : Nat, w < 2 ^ 70 → (d * (w : Nat)).natAbs < 2 ^ 35000 := fun w hw => by
        rw [Int.natAbs_mul, Int.natAbs_natCast]
        refine Nat.lt_of_lt_of_le (Nat.mul_lt_mul'' bd hw) ?_
        rw [← Nat.pow_add]
        exact Nat.pow_le_pow_right (by decide) (by decide)
      refine ⟨lp, fun pt hm => ?_, fun pt hm => ?_, ?_, ?_⟩
      · obtain ⟨k, r, e1, e2⟩ := at_ pt hm
        obtain ⟨F1, F2⟩ := ok k pt r e1 e2
        exact ⟨F1.co, F2.co⟩
      · obtain ⟨k, r, e1, e2⟩ := at_ pt hm
        obtain ⟨F1, F2⟩ := ok k pt r e1 e2
        have b1 := big r rows.length (List.mem_of_getElem? e2)
        have b2 := big r (rows.length + 1) (List.mem_of_getElem? e2)
        have w1 := lt2 wide C.w1
        have w2 := lt2 high C.h1
        have z1 := F1.ln
        have z2 := F1.ld
        have z3 := F2.ln
        have z4 := F2.ld
        rw [Int.natAbs_natCast] at z2 z4
        exact ⟨Nat.lt_of_le_of_lt z1 (Nat.lt_of_lt_of_le b1 lt1), Nat.lt_of_le_of_lt z2 w1, Nat.lt_of_le_of_lt z3 (Nat.lt_of_lt_of_le b2 lt1), Nat.lt_of_le_of_lt z4 w2⟩
      · refine solv_of (T := T) (U := T2) (c := rows.length) (w := wide) (d := d) rfl lT lp C.w0 hd0 (fun i row s e1 e2 => ?_) (fun r hr => S.solves _ (by omega) r hr) fun l pt r e1 e2 => (ok l pt r e1 e2).1
        obtain ⟨r, eT⟩ : ∃ r, T[i]? = some r := ⟨_, List.getElem?_eq_getElem (by have := (List.getElem?_eq_some_iff.mp e1).1; have := C.len; omega)⟩
        obtain ⟨b, R⟩ := C.row i row s r e1 e2 eT
        have sq := W.sq row (List.mem_of_getElem? e1)
        refine ⟨b, by have := R.pos; omega, fun j f e3 => ?_, ?_⟩
        · obtain ⟨v, z1, z2⟩ := R.fr j f e3
          unfold tabF
          rw [getD_of eT, getD_of z1, z2]
        · obtain ⟨v, z1, z2⟩ := R.x
          unfold tabF
          rw [sq] at z1
          rw [getD_of eT, getD_of z1, z2]
      · refine solv_of (T := T) (U := T2) (c := rows.length + 1) (w := high) (d := d) rfl lT lp C.h0 hd0 (fun i row s e1 e2 => ?_) (fun r hr => S.solves _ (by omega) r hr) fun l pt r e1 e2 => (ok l pt r e1 e2).2
        obtain ⟨r, eT⟩ : ∃ r, T[i]? = some r := ⟨_, List.getElem?_eq_getElem (by have := (List.getElem?_eq_some_iff.mp e1).1; have := C.len; omega)⟩
        obtain ⟨b, R⟩ := C.row i row s r e1 e2 eT
        have sq := W.sq row (List.mem_of_getElem? e1)
        refine ⟨b, by have := R.pos; omega, fun j f e3 => ?_, ?_⟩
        · obtain ⟨v, z1, z2⟩ := R.fr j f e3
          unfold tabF
          rw [getD_of eT, getD_of z1, z2]
        · obtain ⟨v, z1, z2⟩ := R.y
          unfold tabF
          rw [sq] at z1
          rw [getD_of eT, getD_of z1, z2]
--SPLIT
open Mth
inductive spDrawing (vs : List V) (H : Hp) (Q : VK) (Y : XK) : Prop
  | mk : ∀ (p : Addr) (ps : List Addr) (pts : List Two) (n : Nat), (vs = [.ref p, .int n]) → (H p = some (.tup (ps.map V.ref))) → (AllAt SideR H ps pts) → (pts.length = n) → (∀ pt ∈ pts, Int.gcd pt.1.1 pt.1.2 = 1 ∧ Int.gcd pt.2.1 pt.2.2 = 1) → (∀ H', Same H H' → Q (.bl true) H') → spDrawing vs H Q Y
theorem ok_law_is_drawing (B : Fx) : Hs "_law_is_drawing" ["_law_found", "_law_many"] 20 (spDrawing) := by
  refine hs_of B.X B.d12 sc_law_is_drawing fun f cdv A outer s H vs Q E nN hr h => ?_
  obtain ⟨p, ps, pts, n, rfl, hp, hS, ln, red, q⟩ := h
  refine ⟨_, (pss_cons (ps_if (PW.pt (pw_or (pt_not (pt_val (pe_callB Own.call_isi rfl (B.z B.y4) PyProof.Rows.boot_isinstance (p2 (pv 0) (pe_bltn (v := .ty "tuple") rfl (B.z B.y5) PyProof.Rows.boot_tuple rfl))))) (pw_or1 (pt_cmpR op_ne (pe_callB call_len_seq rfl (B.z B.y3) PySem.boot_len (p1 (pv 0))) (pv 1) (nomark _))))) (pss_one (ps_ret pe_bl)) pss_nil)
      (pss_cons (pfor (pi_tup (pv 0)) (pgn 2 nN) (pss_one (ps_if (PW.pt (pw_or (pt_not (pt_val (pe_callB Own.call_isi rfl (B.z B.y4) PyProof.Rows.boot_isinstance (p2 (pv 2) (pe_bltn (v := .ty "tuple") rfl (B.z B.y5) PyProof.Rows.boot_tuple rfl))))) (pw_or (pt_cmpR op_ne (pe_callB call_len_seq rfl (B.z B.y3) PySem.boot_len (p1 (pv 2))) pe_int (nomark _)) (pw_or1 (pt_not (pt_val (pe_callB (call_allL rfl) rfl (B.z B.y11) PyProof.Rows.boot_all (p1 (pe_lc1x (Nc := ["_law_one"]) (js := [none]) rfl rfl (pi_tup (pv 2)) (CS.of rfl rfl) rfl (fun C s₂ H₂ fp pins => (pgc 0)) (fun C s₂ H₂ fp pins D L => (pt_tail0 (pb_app (pf (ok_law_is_fraction B) hr (p1 (pv 0))))))))))))))) (pss_one (ps_ret pe_bl)) pss_nil)))
      (pss_one (ps_ret pe_bl)))), ?_⟩
  try dsimp only [cxOf]
  refine ⟨_, rfl, _, _, _, _, rfl, .tup hp, rfl, _, rfl, iteF ?_⟩
  refine ⟨_, rfl, p, _, rfl, .inr (SqT.of hp), _, rfl, rfl, ?_⟩
  rw [show (!decide (V.int ((ps.map V.ref).length : Nat) = V.int (n : Nat))) = false by rw [List.length_map, hS.1, ln, decide_eq_true rfl]; rfl]
  refine ⟨_, rfl, iteF ?_⟩
  refine ⟨_, rfl, p, rfl, ⟨_, SqT.of hp⟩, ?_⟩
  refine for_tup (xs := ps.map V.ref) (fun i σ H1 => Same H H1 ∧ ∃ x : Option V, σ = [some (.ref p), some (.int n), x]) ⟨Same.refl _, none, rfl⟩ ?_ ?_ ?_
  · rintro i σ H1 hi ⟨g1, x, rfl⟩
    exact SqT.of (g1 _ _ hp)
  · rintro i v σ H1 hv ⟨g1, x, rfl⟩
    rw [List.getElem?_map] at hv
    obtain ⟨sp, hsp, rfl⟩ := Option.map_eq_some_iff.mp hv
    obtain ⟨pt, ept, hpt⟩ := hS.get hsp
    obtain ⟨q1, q2, h0, h1, h2⟩ := hpt.kept g1
    obtain ⟨r1, r2⟩ := red pt (List.mem_of_getElem? ept)
    refine ⟨_, rfl, _, _, _, _, rfl, .tup h0, rfl, _, rfl, iteF ?_⟩
    refine ⟨_, rfl, sp, _, rfl, .inr (SqT.of h0), rfl, _, rfl, iteF ?_⟩
    refine ⟨_, rfl, sp, rfl, ⟨_, SqT.of h0⟩, fun D nD => ?_⟩
    refine walk_tup (xs := [V.ref q1, V.ref q2]) (fun j σ H2 => ∃ x : Option V, σ = [x] ∧ Same H1 H2 ∧ H2 D = some (.lst ((List.replicate j true).map V.bl))) ⟨none, rfl, same_new nD _, upd_same⟩ ?_ ?_ ?_
    · rintro j σ H2 _ ⟨x, rfl, g2, _⟩
      exact SqT.of (g2 _ _ h0)
    · rintro j v σ H2 hv ⟨x, rfl, g2, hD⟩
      have key : ∃ (q : Addr) (f : Int × Nat), v = .ref q ∧ FrR H1 q f ∧ Int.gcd f.1 f.2 = 1 := by
        match j, hv with
        | 0, hv => exact ⟨q1, _, (Option.some.inj hv).symm, h1, r1⟩
        | 1, hv => exact ⟨q2, _, (Option.some.inj hv).symm, h2, r2⟩
        | j + 2, hv => simp at hv
      have hj : j < 2 := (List.getElem?_eq_some_iff.mp hv).1
      obtain ⟨q0, f, rfl, hf, cf⟩ := key
      have hf := hf.kept g2
      have pf := hf.2
      refine ⟨_, rfl, q0, f.1, (f.2 : Nat), rfl, hf.1, by omega, cf, _, hD, ?_, _, rfl, same_at nD g2, ?_⟩
      · rw [List.length_map, List.length_replicate]
        exact small1000 (by omega)
      · rw [upd_same, List.replicate_succ', List.map_append]
        rfl
    · rintro σ H2 ⟨x, rfl, g2, hD⟩
      refine ⟨D, [true, true], rfl, SqL.of hD, ?_⟩
      refine ⟨_, rfl, iteF ?_⟩
      exact ⟨g1.trans g2, _, rfl⟩
  · rintro σ H1 ⟨g1, x, rfl⟩
    exact q H1 g1
--SPLIT
open Mth
/-- the greatest number that divides all -/
def gcdL (xs : List Int) : Nat := xs.foldl (fun b x => Nat.gcd b x.natAbs) 0
theorem gcdL_fold : ∀ (xs : List Int) (b : Nat), xs.foldl (fun b x => Nat.gcd b x.natAbs) b ∣ b ∧ ∀ x ∈ xs, ((xs.foldl (fun b x => Nat.gcd b x.natAbs) b : Nat) : Int) ∣ x
  | [], b => ⟨Nat.dvd_refl _, fun x h => nomatch h⟩
  | y :: xs, b => by
    obtain ⟨h1, h2⟩ := gcdL_fold xs (Nat.gcd b y.natAbs)
    refine ⟨Nat.dvd_trans h1 (Nat.gcd_dvd_left _ _), fun x h => ?_⟩
    rcases List.mem_cons.mp h with rfl | h
    · exact Int.ofNat_dvd_left.mpr (Nat.dvd_trans h1 (Nat.gcd_dvd_right _ _))
    · exact h2 x h
theorem gcdL_dvd {xs : List Int} {x : Int} (h : x ∈ xs) : (gcdL xs : Int) ∣ x := (gcdL_fold xs 0).2 x h
/-- what a row is divided by -/
def gcdM (xs : List Int) : Int := if (gcdL xs : Int) > 1 then (gcdL xs : Int) else 1
theorem gcdM_pos (xs : List Int) : 0 < gcdM xs := by unfold gcdM; split <;> omega
theorem gcdM_mul {xs : List Int} {x : Int} (h : x ∈ xs) : gcdM xs * x.fdiv (gcdM xs) = x := by
  unfold gcdM
  split
  · exact Int.mul_fdiv_cancel' (gcdL_dvd h)
  · rw [Int.fdiv_one, Int.one_mul]
/-- a row cleared of its last one by a lead -/
def shX (row lead : List Int) : List Int := (row.zip lead).map fun x => x.1 * lead.getD (lead.length - 1) 0 - x.2 * row.getD (row.length - 1) 0
def shR (row lead : List Int) : List Int := (shX row lead).dropLast.map fun x => x.fdiv (gcdM (shX row lead).dropLast)
theorem shX_len {row lead : List Int} {m : Nat} (h1 : row.length = m + 1) (h2 : lead.length = m + 1) : (shX row lead).length = m + 1 := by
  unfold shX
  rw [List.length_map, List.length_zip, h1, h2, Nat.min_self]
theorem shR_len {row lead : List Int} {m : Nat} (h1 : row.length = m + 1) (h2 : lead.length = m + 1) : (shR row lead).length = m := by
  unfold shR
  rw [List.length_map, List.length_dropLast, shX_len h1 h2]
  rfl
theorem shX_bits {row lead : List Int} {B : Nat} (h1 : ∀ v ∈ row, v.natAbs < 2 ^ B) (h2 : ∀ v ∈ lead, v.natAbs < 2 ^ B) (g1 : row ≠ []) (g2 : lead ≠ []) : ∀ v ∈ shX row lead, v.natAbs < 2 ^ (2 * B + 1) := fun v hv => by
  obtain ⟨⟨a, b⟩, hm, rfl⟩ := List.mem_map.mp hv
  obtain ⟨ha, hb⟩ := List.of_mem_zip hm
  have e1 : lead.getD (lead.length - 1) 0 ∈ lead := by
    have : lead.length - 1 < lead.length := by have := List.length_pos_iff.mpr g2; omega
    rw [show lead.getD (lead.length - 1) 0 = lead[lead.length - 1] by simp [List.getD, List.getElem?_eq_getElem this]]
    exact List.getElem_mem _
  have e2 : row.getD (row.length - 1) 0 ∈ row := by
    have : row.length - 1 < row.length := by have := List.length_pos_iff.mpr g1; omega
    rw [show row.getD (row.length - 1) 0 = row[row.length - 1] by simp [List.getD, List.getElem?_eq_getElem this]]
    exact List.getElem_mem _
  have p1 := Nat.mul_lt_mul'' (h1 a ha) (h2 _ e1)
  have p2 := Nat.mul_lt_mul'' (h2 b hb) (h1 _ e2)
  rw [← Nat.pow_add] at p1 p2
  rw [show 2 * B + 1 = B + B + 1 by omega, Nat.pow_succ]
  show (a * lead.getD (lead.length - 1) 0 - b * row.getD (row.length - 1) 0).natAbs < _
  have q1 := Int.natAbs_mul a (lead.getD (lead.length - 1) 0)
  have q2 := Int.natAbs_mul b (row.getD (row.length - 1) 0)
  omega
theorem mem_init {α : Type} {xs : List α} {x : α} (h : x ∈ xs.dropLast) : x ∈ xs := by
  rw [List.dropLast_eq_take] at h
  exact List.mem_of_mem_take h
theorem shR_bits {row lead : List Int} {B : Nat} (h1 : ∀ v ∈ row, v.natAbs < 2 ^ B) (h2 : ∀ v ∈ lead, v.natAbs < 2 ^ B) (g1 : row ≠ []) (g2 : lead ≠ []) : ∀ v ∈ shR row lead, v.natAbs < 2 ^ (2 * B + 1) := fun v hv => by
  obtain ⟨x, hm, rfl⟩ := List.mem_map.mp hv
  have := shX_bits h1 h2 g1 g2 x (mem_init hm)
  refine Nat.lt_of_le_of_lt ?_ this
  have e := gcdM_mul hm
  exact natAbs_mul_le (a := x) (c := gcdM (shX row lead).dropLast) (by rw [Int.mul_comm]; exact e.symm) (by have := gcdM_pos (shX row lead).dropLast; omega)
theorem shR_at {row lead : List Int} {m : Nat} (h1 : row.length = m + 1) (h2 : lead.length = m + 1) (j : Nat) (hj : j < m) : gcdM (shX row lead).dropLast * (shR row lead).getD j 0 = row.getD j 0 * lead.getD m 0 - lead.getD j 0 * row.getD m 0 := by
  have e1 : row[j]? = some (row.getD j 0) := by rw [List.getElem?_eq_getElem (by omega : j < row.length), getD_of (List.getElem?_eq_getElem (by omega))]
  have e2 : lead[j]? = some (lead.getD j 0) := by rw [List.getElem?_eq_getElem (by omega : j < lead.length), getD_of (List.getElem?_eq_getElem (by omega))]
  have ez : (shX row lead)[j]? = some (row.getD j 0 * lead.getD m 0 - lead.getD j 0 * row.getD m 0) := by
    unfold shX
    rw [List.getElem?_map, (List.getElem?_zip_eq_some (z := (row.getD j 0, lead.getD j 0))).mpr ⟨e1, e2⟩, h1, h2]
    rfl
  have ed : (shX row lead).dropLast[j]? = some (row.getD j 0 * lead.getD m 0 - lead.getD j 0 * row.getD m 0) := by
    rw [List.getElem?_dropLast, shX_len h1 h2, if_pos (by omega), ez]
  have es : (shR row lead)[j]? = some ((row.getD j 0 * lead.getD m 0 - lead.getD j 0 * row.getD m 0).fdiv (gcdM (shX row lead).dropLast)) := by
    unfold shR
    rw [List.getElem?_map, ed]
    rfl
  rw [getD_of es]
  exact gcdM_mul (List.mem_of_getElem? ed)
theorem cut_init (xs : List V) : cutV xs none (some (-1)) = xs.dropLast := by
  unfold cutV
  rw [show HT.sIx xs.length 0 none = 0 from rfl, List.drop_zero, List.dropLast_eq_take, Nat.sub_zero]
  congr 1
  unfold HT.sIx
  simp
  omega
inductive spShorter (vs : List V) (H : Hp) (Q : VK) (Y : XK) : Prop
  | mk : ∀ (rp lp : Addr) (row lead : List Int) (m B : Nat), (vs = [.ref rp, .ref lp]) → (IntsR H rp row) → (IntsR H lp lead) → (row.length = m + 1) → (lead.length = m + 1) → (m ≤ 16) → (∀ v ∈ row, v.natAbs < 2 ^ B) → (∀ v ∈ lead, v.natAbs < 2 ^ B) → (B ≤ 67108864) →
      (∀ (p : Addr) (H' : Hp), Same H H' → H p = none → IntsR H' p (shR row lead) → Q (.ref p) H') → spShorter vs H Q Y
theorem ok_law_shorter (B : Fx) : Hs "_law_shorter" ["_law_row", "_law_lead"] 40 (spShorter) := by
  refine hs_of B.X B.d20 sc_law_shorter fun f cdv A outer s0 H vs Q E nN hr h => ?_
  obtain ⟨rp, lp, row, lead, m, b, rfl, hrow, hlead, l1, l2, m16, b1, b2, hb, q⟩ := h
  refine ⟨_, (pss_cons (pst 2 nN (pe_slice sl_list (pe_lc1x (Nc := ["_law_one", "_law_other", "_law_lead", "_law_row"]) (js := [none, none, some 1, some 0]) rfl rfl (pi_zip true true rfl (B.z B.y8) (p2 (pv 0) (pv 1))) (CS.of rfl rfl) rfl (fun C s₂ H₂ fp pins => (show PG _ _ (gTup K 2 _) from pg_tup rfl (pgs_cons (pg_name (i := 0) (show List.Nodup (α := Str) ["_law_one", "_law_other", "_law_lead", "_law_row"] by decide +kernel) rfl (Or.inl rfl)) (pgs_cons (pg_name (i := 1) (show List.Nodup (α := Str) ["_law_one", "_law_other", "_law_lead", "_law_row"] by decide +kernel) rfl (Or.inl rfl)) pgs_nil)))) (fun C s₂ H₂ fp pins D L => (pt_tail0 (pb_app (pe_op op_sub (pe_op Own.op_mulV (pv 0) (pix (show IxR _ (rIxL K) from ix_list) (pv 2) (pe_un un_neg pe_int))) (pe_op Own.op_mulV (pv 1) (pix (show IxR _ (rIxL K) from ix_list) (pv 3) (pe_un un_neg pe_int)))))))) po_none (po_some (pe_un un_neg pe_int))))
      (pss_cons (pst 3 nN pe_int)
      (pss_cons (pfor (pi_list (pv 2)) (pgn 4 nN) (pss_one (pst 3 nN (pf (ok_law_common B) hr (p2 (pv 3) (pe_callB call_abs rfl (B.z B.y1) PyProof.Rows.boot_abs (p1 (pv 4))))))))
      (pss_one (ps_ret (pe_lc1x (Nc := ["_law_number", "_law_by"]) (js := [none, some 3]) rfl rfl (pi_list (pv 2)) (CS.of rfl rfl) rfl (fun C s₂ H₂ fp pins => (pgc 0)) (fun C s₂ H₂ fp pins D L => (pt_tail0 (pb_app (pe_op (Own.op_fdivV (deep32 hr (by decide)) (ht := B.tr)) (pv 0) (pe_callB (call_max2 rfl) rfl (B.z B.y0) PyProof.Rows.boot_max (p2 pe_int (pv 1))))))))))))), ?_⟩
  try dsimp only [cxOf]
  refine ⟨_, rfl, _, rfl, rp, lp, rfl, ⟨_, SqL.of hrow⟩, ⟨_, SqL.of hlead⟩, fun D nD => ?_⟩
  have e1 : row[m]? = some (row.getD m 0) := by rw [List.getElem?_eq_getElem (by omega : m < row.length), getD_of (List.getElem?_eq_getElem (by omega))]
  have e2 : lead[m]? = some (lead.getD m 0) := by rw [List.getElem?_eq_getElem (by omega : m < lead.length), getD_of (List.getElem?_eq_getElem (by omega))]
  have c1 := b1 _ (List.mem_of_getElem? e1)
  have c2 := b2 _ (List.mem_of_getElem? e2)
  have sx : shX row lead = (row.zip lead).map fun x => x.1 * lead.getD m 0 - x.2 * row.getD m 0 := by
    unfold shX
    rw [l1, l2]
    rfl
  refine walk_zip (k1 := true) (k2 := true) (xs := row.map V.int) (ys := lead.map V.int) (fun i σ H2 => ∃ y0 y1 : Option V, σ = [y0, y1, some (.ref lp), some (.ref rp)] ∧ Same H H2 ∧ IntsR H2 D (((row.zip lead).take i).map fun x => x.1 * lead.getD m 0 - x.2 * row.getD m 0)) (by rw [List.length_map, List.length_map, l1, l2]) ⟨none, none, rfl, same_new nD _, upd_same⟩ ?_ ?_ ?_
  · rintro i σ H2 _ ⟨y0, y1, rfl, g2, _⟩
    exact ⟨SqL.of (g2 _ _ hrow), SqL.of (g2 _ _ hlead)⟩
  · rintro i vn vm Z σ H2 hvn hvm nZ ⟨y0, y1, rfl, g2, hD⟩
    rw [List.getElem?_map] at hvn hvm
    obtain ⟨x, hx, rfl⟩ := Option.map_eq_some_iff.mp hvn
    obtain ⟨y, hy, rfl⟩ := Option.map_eq_some_iff.mp hvm
    have gZ := same_new nZ (.tup [.int x, .int y])
    have hz : (row.zip lead)[i]? = some (x, y) := List.getElem?_zip_eq_some.mpr ⟨hx, hy⟩
    have hi := (List.getElem?_eq_some_iff.mp hx).1
    refine ⟨Z, _, rfl, SqT.of upd_same, rfl, _, _, rfl, _, _, rfl, rfl, ?_⟩
    refine ⟨_, rfl, _, rfl, _, rfl, lp, _, _, _, rfl, rfl, SqL.of (gZ _ _ (g2 _ _ hlead)), (atI_neg (k := 1) (j := m) (by rw [List.getElem?_map, e2]; rfl) (by rw [List.length_map, l2]) (by decide)), _, _, rfl, rfl, ⟨b, b, b1 x (List.mem_of_getElem? hx), c2, by omega⟩, ?_⟩
    refine ⟨_, rfl, _, rfl, _, rfl, rp, _, _, _, rfl, rfl, SqL.of (gZ _ _ (g2 _ _ hrow)), (atI_neg (k := 1) (j := m) (by rw [List.getElem?_map, e1]; rfl) (by rw [List.length_map, l1]) (by decide)), _, _, rfl, rfl, ⟨b, b, b2 y (List.mem_of_getElem? hy), c1, by omega⟩, _, _, rfl, rfl, ?_⟩
    refine ⟨_, gZ _ _ hD, ?_, _, _, rfl, same_at nD (g2.trans gZ), ?_⟩
    · rw [List.length_map, List.length_map, List.length_take]
      exact small1000 (by omega)
    · unfold IntsR
      rw [upd_same, take_more hz]
      simp
  rintro σ H2 ⟨y0, y1, rfl, g2, hD⟩
  rw [List.length_map, List.take_of_length_le (by rw [List.length_zip]; omega), ← sx] at hD
  refine ⟨_, rfl, _, rfl, D, _, rfl, SqL.of hD, fun p1 n1 => ?_⟩
  rw [cut_init]
  have ez : ((shX row lead).map V.int).dropLast = ((shX row lead).dropLast).map V.int := List.map_dropLast.symm
  rw [ez]
  have lx := shX_len l1 l2
  have le : (shX row lead).dropLast.length = m := by rw [List.length_dropLast, lx]; rfl
  have h1 : IntsR (upd H2 p1 (.lst ((shX row lead).dropLast.map V.int))) p1 (shX row lead).dropLast := upd_same
  have g3 := g2.trans (same_new n1 (.lst ((shX row lead).dropLast.map V.int)))
  have hn : H p1 = none := by
    cases e : H p1 with
    | none => rfl
    | some o => rw [g2 _ _ e] at n1; cases n1
  generalize upd H2 p1 (.lst ((shX row lead).dropLast.map V.int)) = H3 at *
  refine ⟨_, rfl, p1, rfl, ⟨_, SqL.of h1⟩, ?_⟩
  refine for_list (xs := (shX row lead).dropLast.map V.int) (fun i σ H4 => ∃ x4 : Option V, H4 = H3 ∧ σ = [some (.ref rp), some (.ref lp), some (.ref p1), some (.int (gcdL ((shX row lead).dropLast.take i) : Nat)), x4]) ⟨none, rfl, rfl⟩ ?_ ?_ ?_
  · rintro i σ H4 _ ⟨x4, rfl, rfl⟩
    exact SqL.of h1
  · rintro i v σ H4 hv ⟨x4, rfl, rfl⟩
    rw [List.getElem?_map] at hv
    obtain ⟨x, hx, rfl⟩ := Option.map_eq_some_iff.mp hv
    refine ⟨_, rfl, _, rfl, x, rfl, ?_⟩
    refine ⟨gcdL ((shX row lead).dropLast.take i), x.natAbs, ?_, some (.int x), rfl, ?_⟩
    · show [V.int _, V.int (if x < 0 then -x else x)] = _
      rw [abs_eq]
    · have e : gcdL ((shX row lead).dropLast.take (i + 1)) = Nat.gcd (gcdL ((shX row lead).dropLast.take i)) x.natAbs := by
        unfold gcdL
        rw [take_more hx, List.foldl_append]
        rfl
      rw [e]
      rfl
  rintro σ H4 ⟨x4, rfl, rfl⟩
  rw [List.length_map, List.take_length]
  refine ⟨_, rfl, p1, rfl, ⟨_, SqL.of h1⟩, fun D2 nD2 => ?_⟩
  have gM := gcdM_pos (shX row lead).dropLast
  refine walk_list (xs := (shX row lead).dropLast.map V.int) (fun i σ H5 => ∃ x0 : Option V, σ = [x0, some (.int (gcdL (shX row lead).dropLast : Nat))] ∧ Same H4 H5 ∧ IntsR H5 D2 (((shX row lead).dropLast.take i).map fun x => x.fdiv (gcdM (shX row lead).dropLast))) ⟨none, rfl, same_new nD2 _, upd_same⟩ ?_ ?_ ?_
  · rintro i σ H5 _ ⟨x0, rfl, g4, _⟩
    exact SqL.of (g4 _ _ h1)
  · rintro i v σ H5 hv ⟨x0, rfl, g4, hD2⟩
    rw [List.getElem?_map] at hv
    obtain ⟨x, hx, rfl⟩ := Option.map_eq_some_iff.mp hv
    have hi := (List.getElem?_eq_some_iff.mp hx).1
    refine ⟨_, rfl, _, rfl, _, _, rfl, _, _, rfl, rfl, ?_, ?_⟩
    · show gcdM (shX row lead).dropLast ≠ 0
      omega
    refine ⟨_, hD2, ?_, _, rfl, same_at nD2 g4, ?_⟩
    · rw [List.length_map, List.length_map, List.length_take]
      exact small1000 (by omega)
    · unfold IntsR
      rw [upd_same, take_more hx, List.map_append, List.map_append]
      rfl
  · rintro σ H5 ⟨x0, rfl, g4, hD2⟩
    rw [List.length_map, List.take_length] at hD2
    refine q D2 H5 (g3.trans g4) ?_ hD2
    cases e : H D2 with
    | none => rfl
    | some o => rw [g3 _ _ e] at nD2; cases nD2
--SPLIT
open Mth
def intsD (ns : List Int) : PyData := .list (ns.map PyData.int)
theorem intsD_ok (ns : List Int) : SeqAt.shaped (intsD ns) = true := by
  have : PyData.canLayAll0 (ns.map PyData.int) = true ∧ PyData.depthAll (ns.map PyData.int) ≤ 1 := by
    induction ns with
    | nil => exact ⟨rfl, by decide⟩
    | cons t T ih =>
      simp only [List.map_cons, PyData.canLayAll0, PyData.depthAll, PyData.canLay0, PyData.depth, ih.1]
      have := ih.2
      refine ⟨rfl, ?_⟩
      omega
  obtain ⟨h1, h2⟩ := this
  unfold intsD SeqAt.shaped
  simp only [PyData.canLay0, PyData.depth, h1]
  first | (simp; omega) | (rw [Bool.and_eq_true]; exact ⟨rfl, decide_eq_true (by omega)⟩) | simp_all
theorem dt_intsL {H : Hp} {s : Addr} {ns : List Int} (h : H s = some (.lst (ns.map V.int))) : Dt K H (intsD ns) (.ref s) := by
  have go : ∀ ns : List Int, DtAll K H (ns.map PyData.int) (ns.map V.int) := fun ns => by
    induction ns with
    | nil => unfold DtAll; rfl
    | cons n r ih =>
      rw [List.map_cons, List.map_cons]
      unfold DtAll
      exact ⟨_, _, rfl, by unfold Dt; rfl, ih⟩
  unfold intsD Dt
  exact ⟨s, _, rfl, SqL.of h, go ns⟩
theorem intsD_eqv (T U : List Int) : PyData.eqv (intsD T) (intsD U) = decide (T = U) := by
  have go : ∀ (T U : List Int), PyData.eqvAll (T.map PyData.int) (U.map PyData.int) = decide (T = U) := fun T => by
    induction T with
    | nil => intro U; cases U <;> simp [PyData.eqvAll]
    | cons t T ih =>
      intro U
      cases U with
      | nil => simp [PyData.eqvAll]
      | cons u U =>
        rw [List.map_cons, List.map_cons, PyData.eqvAll, ih U, Bool.eq_iff_iff, Bool.and_eq_true, decide_eq_true_iff, decide_eq_true_iff]
        simp [PyData.eqv]
  unfold intsD
  rw [PyData.eqv]
  exact go T U
def tabD (T : List (List Int)) : PyData := .list (T.map intsD)
theorem intsD_lay (r : List Int) : (intsD r).canLay0 = true ∧ (intsD r).depth ≤ 2 := by
  have h := intsD_ok r
  refine ⟨SeqAt.canLay_of_shaped h, ?_⟩
  have : PyData.depthAll (r.map PyData.int) ≤ 1 := by
    induction r with
    | nil => decide
    | cons t T ih =>
      simp only [List.map_cons, PyData.depthAll, PyData.depth]
      have := ih (intsD_ok T)
      omega
  unfold intsD
  simp only [PyData.depth]
  omega
theorem tabD_ok (T : List (List Int)) : SeqAt.shaped (tabD T) = true := by
  have : PyData.canLayAll0 (T.map intsD) = true ∧ PyData.depthAll (T.map intsD) ≤ 2 := by
    induction T with
    | nil => exact ⟨rfl, by decide⟩
    | cons t T ih =>
      obtain ⟨a, b⟩ := intsD_lay t
      simp only [List.map_cons, PyData.canLayAll0, PyData.depthAll, ih.1, a]
      have := ih.2
      refine ⟨rfl, ?_⟩
      omega
  obtain ⟨h1, h2⟩ := this
  unfold tabD SeqAt.shaped
  simp only [PyData.canLay0, PyData.depth, h1]
  first | (simp; omega) | (rw [Bool.and_eq_true]; exact ⟨rfl, decide_eq_true (by omega)⟩) | simp_all
theorem tabD_nil (T : List (List Int)) : PyData.eqv (tabD T) (.list []) = T.isEmpty := by
  cases T with
  | nil => simp [tabD, PyData.eqv, PyData.eqvAll]
  | cons x r => simp [tabD, PyData.eqv, PyData.eqvAll]
theorem nilD_ok : SeqAt.shaped (.list []) = true := tabD_ok []
theorem dt_nil {H : Hp} {p : Addr} (h : H p = some (.lst [])) : Dt K H (.list []) (.ref p) := by
  unfold Dt
  exact ⟨p, _, rfl, SqL.of h, by unfold DtAll; rfl⟩
theorem dt_rows {H : Hp} : ∀ {hs : List Addr} {T : List (List Int)}, AllAt IntsR H hs T → DtAll K H (T.map intsD) (hs.map V.ref)
  | [], [], _ => by unfold DtAll; rfl
  | [], _ :: _, h => by have := h.1; simp at this
  | _ :: _, [], h => by have := h.1; simp at this
  | p :: hs, r :: T, h => by
    rw [List.map_cons, List.map_cons]
    unfold DtAll
    exact ⟨_, _, rfl, dt_intsL (h.2 0 p r rfl rfl), dt_rows ⟨by have := h.1; simpa using this, fun i q x e1 e2 => h.2 (i + 1) q x e1 e2⟩⟩
theorem dt_tab {H : Hp} {p : Addr} {hs : List Addr} {T : List (List Int)} (h : H p = some (.lst (hs.map V.ref))) (a : AllAt IntsR H hs T) : Dt K H (tabD T) (.ref p) := by
  unfold tabD Dt
  exact ⟨p, _, rfl, SqL.of h, dt_rows a⟩
theorem cut_one (xs : List V) : cutV xs none (some 1) = xs.take 1 := by
  cases xs with
  | nil => exact cut_to [] (k := 0) (Nat.zero_le _) ▸ rfl
  | cons x r => exact cut_to (x :: r) (k := 1) (by simp)
/-- the product of all second numbers -/
def prodF (fs : List (Int × Nat)) : Nat := fs.foldl (fun b f => b * f.2) 1
theorem prodF_snoc (fs : List (Int × Nat)) (f : Int × Nat) : prodF (fs ++ [f]) = prodF fs * f.2 := by
  unfold prodF
  rw [List.foldl_append]
  rfl
theorem prodF_fold : ∀ (fs : List (Int × Nat)) (b : Nat), b ∣ fs.foldl (fun b f => b * f.2) b ∧ ∀ f ∈ fs, f.2 ∣ fs.foldl (fun b f => b * f.2) b
  | [], b => ⟨Nat.dvd_refl _, fun f h => nomatch h⟩
  | g :: fs, b => by
    obtain ⟨a, c⟩ := prodF_fold fs (b * g.2)
    refine ⟨Nat.dvd_trans (Nat.dvd_mul_right _ _) a, fun f h => ?_⟩
    rcases List.mem_cons.mp h with rfl | h
    · exact Nat.dvd_trans (Nat.dvd_mul_left _ _) a
    · exact c f h
theorem prodF_dvd {fs : List (Int × Nat)} {f : Int × Nat} (h : f ∈ fs) : f.2 ∣ prodF fs := (prodF_fold fs 1).2 f h
theorem prodF_pos {fs : List (Int × Nat)} (h : ∀ f ∈ fs, 0 < f.2) : 0 < prodF fs := by
  suffices ∀ (fs : List (Int × Nat)) (m : Nat), 0 < m → (∀ f ∈ fs, 0 < f.2) → 0 < fs.foldl (fun b f => b * f.2) m from this fs 1 (by decide) h
  intro fs
  induction fs with
  | nil => exact fun m h _ => h
  | cons f fs ih => exact fun m hm h => ih _ (Nat.mul_pos hm (h f List.mem_cons_self)) fun g hg => h g (List.mem_cons_of_mem _ hg)
theorem prodF_le {M : Nat} {fs : List (Int × Nat)} (h : ∀ f ∈ fs, f.2 < 2 ^ M) : ∀ i, i ≤ fs.length → prodF (fs.take i) < 2 ^ (M * i + 1)
  | 0, _ => by show 1 < _; exact Nat.one_lt_two_pow (by omega)
  | i + 1, hi => by
    have ih := prodF_le h i (by omega)
    have e : fs[i]? = some fs[i] := List.getElem?_eq_getElem (by omega)
    rw [take_more e, prodF_snoc]
    have := Nat.mul_lt_mul'' ih (h _ (List.mem_of_getElem? e))
    rw [← Nat.pow_add] at this
    rwa [show M * (i + 1) + 1 = M * i + 1 + M by rw [Nat.mul_succ]; omega]
def nvT (rows : List (List (Int × Nat))) : List (List Int) := rows.map fun row => wtF (prodF row) row
theorem nvT_clears {rows : List (List (Int × Nat))} (h : ∀ row ∈ rows, ∀ f ∈ row, 0 < f.2) : Clears rows (tabF (nvT rows)) := fun i row e => by
  have h0 := h row (List.mem_of_getElem? e)
  have hp := prodF_pos h0
  refine ⟨(prodF row : Nat), by omega, fun j f e2 => ?_⟩
  have e3 : (nvT rows)[i]? = some (wtF (prodF row) row) := by unfold nvT; rw [List.getElem?_map, e]; rfl
  have e4 : (wtF (prodF row) row)[j]? = some (f.1 * ((prodF row / f.2 : Nat) : Int)) := by unfold wtF; rw [List.getElem?_map, e2]; rfl
  unfold tabF
  rw [getD_of e3, getD_of e4]
  exact wt_mul (prodF_dvd (List.mem_of_getElem? e2))
/-- whichever numbers the rows are multiplied by -/
theorem Clears.lone {rows : List (List (Int × Nat))} {B B' : Nat → Nat → Int} (sq : ∀ row ∈ rows, row.length = rows.length) (h0 : ∀ row ∈ rows, ∀ f ∈ row, 0 < f.2) (h : Clears rows B) (h' : Clears rows B') (L : Brs.Lone B rows.length) : Brs.Lone B' rows.length := by
  refine L.scaled fun i hi => ?_
  have e : rows[i]? = some rows[i] := List.getElem?_eq_getElem hi
  have hm := List.mem_of_getElem? e
  obtain ⟨b, b0, hb⟩ := h i _ e
  obtain ⟨c, c0, hc⟩ := h' i _ e
  refine ⟨c, b, c0, b0, fun j hj => ?_⟩
  have hj' : j < (rows[i]).length := by rw [sq _ hm]; exact hj
  have e2 : (rows[i])[j]? = some (rows[i])[j] := List.getElem?_eq_getElem hj'
  have k1 := hb j _ e2
  have k2 := hc j _ e2
  have p := h0 _ hm _ (List.mem_of_getElem? e2)
  generalize (rows[i])[j] = f at *
  refine Int.eq_of_mul_eq_mul_right (a := (f.2 : Int)) (by omega) ?_
  calc B i j * c * (f.2 : Int) = B i j * (f.2 : Int) * c := by ac_rfl
    _ = f.1 * c * b := by rw [k1]; ac_rfl
    _ = B' i j * b * (f.2 : Int) := by rw [← k2]; ac_rfl
theorem wt_bit {b M N : Nat} {fs : List (Int × Nat)} (h : ∀ f ∈ fs, f.1.natAbs < 2 ^ M) (hb : b < 2 ^ N) : ∀ v ∈ wtF b fs, v.natAbs < 2 ^ (M + N) := fun v hv => by
  obtain ⟨f, hf, rfl⟩ := List.mem_map.mp hv
  rw [Int.natAbs_mul, Int.natAbs_natCast, Nat.pow_add]
  exact Nat.mul_lt_mul'' (h f hf) (Nat.lt_of_le_of_lt (Nat.div_le_self _ _) hb)
theorem nvT_snoc {rows : List (List (Int × Nat))} {j : Nat} {row : List (Int × Nat)} (e : rows[j]? = some row) : nvT (rows.take (j + 1)) = nvT (rows.take j) ++ [wtF (prodF row) row] := by
  unfold nvT
  rw [take_more e, List.map_append]
  rfl
inductive spIsLone (vs : List V) (H : Hp) (Q : VK) (Y : XK) : Prop
  | mk : ∀ (a : Addr) (rs : List Addr) (rows : List (List (Int × Nat))) (sides : List Two) (M : Nat), (vs = [.ref a]) → (H a = some (.tup (rs.map V.ref))) → (AllAt RowR H rs rows) → (Fits rows sides M) →
      (∀ (k : Bool) (H' : Hp), Same H H' → (∃ B, Clears rows B ∧ (k = true ↔ Brs.Lone B rows.length)) → Q (.bl k) H') → spIsLone vs H Q Y
/-- bits after so many steps -/
def bbF (k : Nat) : Nat := 2 ^ k * 1802 - 1
theorem bbF_succ (k : Nat) : 2 * bbF k + 1 = bbF (k + 1) := by
  unfold bbF
  have := Nat.pow_pos (n := k) (show 0 < 2 by decide)
  rw [Nat.pow_succ]
  omega
theorem bbF_le {k : Nat} (h : k ≤ 15) : bbF k ≤ 67108864 := by
  unfold bbF
  have := Nat.pow_le_pow_right (n := 2) (by decide) h
  have e : (2 : Nat) ^ 15 = 32768 := by decide
  omega
/-- what is left to clear -/
structure Lft (rows : List (List (Int × Nat))) (T : List (List Int)) : Prop where
  le : T.length ≤ rows.length
  row : ∀ r ∈ T, r.length = T.length ∧ ∀ v ∈ r, v.natAbs < 2 ^ bbF (rows.length - T.length)
  lone : Brs.LoneL T T.length ↔ Brs.Lone (tabF (nvT rows)) rows.length
/-- the rows that have a last one, so far -/
def LdI (hs : List Addr) (T : List (List Int)) (i : Nat) (xs : List V) : Prop := xs.length ≤ i ∧ ((xs = [] ∧ ∀ (k : Nat) (r : List Int), k < i → T[k]? = some r → r.getD (T.length - 1) 0 = 0) ∨ ∃ (f : Nat) (p : Addr) (r : List Int) (ys : List V), xs = .ref p :: ys ∧ f < i ∧ hs[f]? = some p ∧ T[f]? = some r ∧ r.getD (T.length - 1) 0 ≠ 0 ∧ ∀ (k : Nat) (r' : List Int), k < f → T[k]? = some r' → r'.getD (T.length - 1) 0 = 0)
theorem LdI.skip {hs : List Addr} {T : List (List Int)} {i : Nat} {xs : List V} {r : List Int} (h : LdI hs T i xs) (e : T[i]? = some r) (z : r.getD (T.length - 1) 0 = 0) : LdI hs T (i + 1) xs := by
  obtain ⟨l, h⟩ := h
  refine ⟨by omega, ?_⟩
  rcases h with ⟨h1, h2⟩ | ⟨f, p, r, ys, h1, h2, h3⟩
  · refine .inl ⟨h1, fun k r' hk e' => ?_⟩
    rcases Nat.lt_or_ge k i with c | c
    · exact h2 k r' c e'
    · obtain rfl : k = i := by omega
      cases e.symm.trans e'
      exact z
  · exact .inr ⟨f, p, r, ys, h1, by omega, h3⟩
theorem LdI.take {hs : List Addr} {T : List (List Int)} {i : Nat} {xs : List V} {r : List Int} {p : Addr} (h : LdI hs T i xs) (ep : hs[i]? = some p) (e : T[i]? = some r) (z : r.getD (T.length - 1) 0 ≠ 0) : LdI hs T (i + 1) (xs ++ [.ref p]) := by
  obtain ⟨l, h⟩ := h
  refine ⟨by rw [List.length_append]; show xs.length + 1 ≤ _; omega, ?_⟩
  rcases h with ⟨h1, h2⟩ | ⟨f, p, r, ys, h1, h2, h3⟩
  · exact .inr ⟨i, p, r, [], by rw [h1]; rfl, by omega, ep, e, z, h2⟩
  · exact .inr ⟨f, p, r, ys ++ [.ref _], by rw [h1]; rfl, by omega, h3⟩
theorem AllAt.erase {α : Type} {R : Hp → Addr → α → Prop} {H : Hp} {ps : List Addr} {xs : List α} (h : AllAt R H ps xs) (f : Nat) : AllAt R H (ps.eraseIdx f) (xs.eraseIdx f) := by
  refine ⟨by rw [List.length_eraseIdx, List.length_eraseIdx, h.1], fun i p x e1 e2 => ?_⟩
  rw [List.getElem?_eraseIdx] at e1 e2
  split at e1
  · next c => rw [if_pos c] at e2; exact h.2 _ p x e1 e2
  · next c => rw [if_neg c] at e2; exact h.2 _ p x e1 e2
theorem ok_law_is_lone (B : Fx) : Hs "_law_is_lone" ["_law_rows_here"] 41 (spIsLone) := by
  refine hs_of B.X B.d19 sc_law_is_lone fun f cdv A outer s0 H vs Q E nN hr h => ?_
  obtain ⟨a, rs, rows, sides, M, rfl, ha, hR, W, q⟩ := h
  refine ⟨_, (pss_cons (pst 1 nN (pe_lst pa_nil))
      (pss_cons (pfor (pi_tup (pv 0)) (pgn 2 nN) (pss_cons (pst 3 nN pe_int)
      (pss_cons (pfor (pi_tup (pv 2)) (pg_tup (n := 2) rfl (pgs_cons (pgn 4 nN) (pgs_cons (pgn 5 nN) pgs_nil))) (pss_one (pst 3 nN (pe_op Own.op_mulV (pv 3) (pv 5)))))
      (pss_one (ps_expr (m_list PySem.F.slot_list_append PySem.F.type_list_append mt_append (pv 1) (p1 (pe_lc1x (Nc := ["_law_n", "_law_d", "_law_by"]) (js := [none, none, some 3]) rfl rfl (pi_tup (pv 2)) (CS.of rfl rfl) rfl (fun C s₂ H₂ fp pins => (show PG _ _ (gTup K 2 _) from pg_tup rfl (pgs_cons (pgc 0) (pgs_cons (pgc 1) pgs_nil)))) (fun C s₂ H₂ fp pins D L => (pt_tail0 (pb_app (pe_op Own.op_mulV (pv 0) (pe_op (Own.op_fdivV (deep32 hr (by decide)) (ht := B.tr)) (pv 2) (pv 1))))))))))))))
      (pss_cons (ps_while PassesOwn.never (pt_cmpR (op_neD hr.units) (pv 1) (pe_lst pa_nil) (nomark _)) (pss_cons (pst 6 nN (pe_slice sl_list (pe_lc1x (Nc := ["_law_row"]) (js := [none]) rfl rfl (pi_list (pv 1)) (CS.of rfl rfl) rfl (fun C s₂ H₂ fp pins => (pgc 0)) (fun C s₂ H₂ fp pins D L => (pt_tail1 (pt_cmpR op_ne (pix (show IxR _ (rIxL K) from ix_list) (pv 0) (pe_un un_neg pe_int)) pe_int (nomark _)) (pb_app (pv 0))))) po_none (po_some pe_int)))
      (pss_cons (ps_if (pt_cmpR (op_eqD hr.units) (pv 6) (pe_lst pa_nil) (nomark _)) (pss_one (ps_ret pe_bl)) pss_nil)
      (pss_cons (ps_expr (pe_bm PySem.F.plainAttrs_list PySem.F.slot_list_remove PySem.F.type_list_remove (mt_removeD hr.u80) (pv 1) (p1 (pix ix_list (pv 6) pe_int))))
      (pss_one (ps_lc1x (i := 1) (Nc := ["_law_row", "_law_lead"]) (js := [none, some 6]) rfl rfl nN rfl (Or.inl rfl) (pi_list (pv 1)) (CS.of rfl rfl) rfl (fun C s₂ H₂ fp pins => (pgc 0)) (fun C s₂ H₂ fp pins D L => (pt_tail0 (pb_app (pf (ok_law_shorter B) hr (p2 (pv 0) (pix (show IxR _ (rIxL K) from ix_list) (pv 1) pe_int))))))))))))
      (pss_one (ps_ret pe_bl))))), ?_⟩
  try dsimp only [cxOf]
  have n16 := W.n16
  refine ⟨by show 0 ≤ sizeLine; decide, fun hp nh => ?_⟩
  have ga := same_new nh (.lst [])
  refine ⟨_, rfl, a, rfl, ⟨_, SqT.of (ga _ _ ha)⟩, ?_⟩
  refine for_tup (xs := rs.map V.ref) (fun j σ H1 => ∃ (x2 x3 x4 x5 x6 : Option V) (hs : List Addr), σ = [some (.ref a), some (.ref hp), x2, x3, x4, x5, x6] ∧ Same H H1 ∧ H1 hp = some (.lst (hs.map V.ref)) ∧ AllAt (fun H p r => p ≠ hp ∧ IntsR H p r) H1 hs (nvT (rows.take j))) ⟨none, none, none, none, none, [], rfl, ga, upd_same, AllAt.nil⟩ ?_ ?_ ?_
  · rintro j σ H1 _ ⟨x2, x3, x4, x5, x6, hs, rfl, g1, _⟩
    exact SqT.of (g1 _ _ ha)
  · rintro j v σ H1 hv ⟨x2, x3, x4, x5, x6, hs, rfl, g1, hhp, hT⟩
    rw [List.getElem?_map] at hv
    obtain ⟨rp, hrp, rfl⟩ := Option.map_eq_some_iff.mp hv
    obtain ⟨row, er, hrow⟩ := hR.get hrp
    obtain ⟨qs, hq, hqs⟩ := hrow.kept g1
    have hm := List.mem_of_getElem? er
    have lrow := W.sq row hm
    have hj := (List.getElem?_eq_some_iff.mp er).1
    have wm := W.m
    have wnm := W.nm
    have hM := W.fr row hm
    have pl : ∀ i, i ≤ row.length → prodF (row.take i) < 2 ^ 1601 := fun i hi => by
      refine Nat.lt_of_lt_of_le (prodF_le (fun f hf => (hM f hf).2) i hi) (Nat.pow_le_pow_right (by decide) ?_)
      have := Nat.mul_le_mul (Nat.le_refl M) (show i ≤ rows.length by omega)
      omega
    refine ⟨_, rfl, rp, rfl, ⟨_, SqT.of hq⟩, ?_⟩
    refine for_tup (xs := qs.map V.ref) (fun i σ H2 => ∃ y4 y5 : Option V, H2 = H1 ∧ σ = [some (.ref a), some (.ref hp), some (.ref rp), some (.int (prodF (row.take i) : Nat)), y4, y5, x6]) ⟨x4, x5, rfl, rfl⟩ ?_ ?_ ?_
    · rintro i σ H2 _ ⟨y4, y5, rfl, rfl⟩
      exact SqT.of hq
    · rintro i v σ H2 hv ⟨y4, y5, rfl, rfl⟩
      rw [List.getElem?_map] at hv
      obtain ⟨fp, hfp, rfl⟩ := Option.map_eq_some_iff.mp hv
      obtain ⟨f, ef, hf⟩ := hqs.get hfp
      have hi := (List.getElem?_eq_some_iff.mp ef).1
      have bf := (hM f (List.mem_of_getElem? ef)).2
      refine ⟨fp, _, rfl, SqT.of hf.1, rfl, _, _, rfl, _, _, rfl, rfl, ?_⟩
      refine ⟨_, rfl, _, rfl, _, _, rfl, rfl, ⟨1601, M, pl i (by omega), bf, by omega⟩, some (.int f.1), some (.int (f.2 : Nat)), rfl, ?_⟩
      rw [take_more ef, prodF_snoc, Int.natCast_mul]
      rfl
    rintro σ H2 ⟨y4, y5, rfl, rfl⟩
    rw [List.length_map, hqs.1, List.take_length]
    have pr := pl row.length (Nat.le_refl _)
    rw [List.take_length] at pr
    refine ⟨_, rfl, .inl ⟨rfl, _, SqL.of hhp⟩, _, rfl, rp, rfl, ⟨_, SqT.of hq⟩, fun D nD => ?_⟩
    refine walk_tup (xs := qs.map V.ref) (fun i σ H3 => ∃ x y : Option V, σ = [x, y, some (.int (prodF row : Nat))] ∧ Same H2 H3 ∧ IntsR H3 D (wtF (prodF row) (row.take i))) ⟨none, none, rfl, same_new nD _, upd_same⟩ ?_ ?_ ?_
    · rintro i σ H3 _ ⟨x, y, rfl, g3, _⟩
      exact SqT.of (g3 _ _ hq)
    · rintro i v σ H3 hv ⟨x, y, rfl, g3, hD⟩
      rw [List.getElem?_map] at hv
      obtain ⟨p, hp, rfl⟩ := Option.map_eq_some_iff.mp hv
      obtain ⟨f, hf1, hf2⟩ := hqs.get hp
      have hd := hf2.2
      have hz : Own.CDivV (prodF row : Nat) (f.2 : Nat) := (show ((f.2 : Nat) : Int) ≠ 0 by omega)
      have hj : i < row.length := (List.getElem?_eq_some_iff.mp hf1).1
      have e : ((prodF row : Nat) : Int).fdiv ((f.2 : Nat) : Int) = ((prodF row / f.2 : Nat) : Int) := by
        rw [Int.fdiv_eq_ediv_of_nonneg _ (by omega), ← Int.natCast_ediv]
      refine ⟨p, _, rfl, SqT.of (g3 _ _ hf2.1), rfl, _, _, rfl, _, _, rfl, rfl, _, rfl, _, rfl, _, rfl, _, _, rfl, rfl, hz, _, _, rfl, rfl, ⟨M, 1601, (hM f (List.mem_of_getElem? hf1)).1, ?_, by omega⟩, ?_⟩
      · rw [e, Int.natAbs_natCast]
        exact Nat.lt_of_le_of_lt (Nat.div_le_self _ _) pr
      · refine ⟨_, hD, (by rw [List.length_map, wtF, List.length_map, List.length_take]; exact small1000 (by omega)), ⟨_, _, rfl, same_at nD g3, ?_⟩⟩
        rw [e]
        unfold IntsR
        rw [upd_same, take_more hf1]
        simp [wtF]
    rintro σ H3 ⟨x, y, rfl, g3, hD⟩
    rw [List.length_map, hqs.1, List.take_length] at hD
    have hhp3 := g3 _ _ hhp
    have nDh : D ≠ hp := fun z => by subst z; rw [hhp] at nD; cases nD
    refine ⟨hp, _, _, rfl, rfl, hhp3, ?_, ?_⟩
    · rw [List.length_map, hT.1]
      unfold nvT
      rw [List.length_map, List.length_take]
      exact small1000 (by omega)
    refine ⟨_, _, _, _, _, hs ++ [D], rfl, same_at nh (g1.trans g3), ?_, ?_⟩
    · rw [upd_same, List.map_append]
      rfl
    · rw [nvT_snoc er]
      exact ((hT.imp (R' := fun H p r => p ≠ hp ∧ IntsR H p r) (H' := H3) fun p r z => ⟨z.1, z.2.kept g3⟩).snoc ⟨nDh, hD⟩).imp fun p r z => ⟨z.1, by unfold IntsR; rw [upd_ne z.1]; exact z.2⟩
  rintro σ H1 ⟨x2, x3, x4, x5, x6, hs, rfl, g1, hhp, hT⟩
  rw [List.length_map, hR.1, List.take_length] at hT
  have pos : ∀ row ∈ rows, ∀ f ∈ row, 0 < f.2 := fun row hm => by
    obtain ⟨i, hi, e⟩ := List.getElem_of_mem hm
    obtain ⟨p, _, hr⟩ := hR.at (e ▸ List.getElem?_eq_getElem hi)
    exact hr.pos
  have lN : (nvT rows).length = rows.length := List.length_map _
  have L0 : Lft rows (nvT rows) := by
    refine ⟨by rw [lN]; exact Nat.le_refl _, fun r hr => ?_, ?_⟩
    · obtain ⟨row, hm, rfl⟩ := List.mem_map.mp hr
      have sq := W.sq row hm
      have hM := W.fr row hm
      refine ⟨by rw [wtF, List.length_map, lN, sq], fun v hv => ?_⟩
      have wm := W.m
      have wnm := W.nm
      have p1 := prodF_le (fun f hf => (hM f hf).2) row.length (Nat.le_refl _)
      rw [List.take_length, sq] at p1
      refine Nat.lt_of_lt_of_le (wt_bit (fun f hf => (hM f hf).1) p1 v hv) (Nat.pow_le_pow_right (by decide) ?_)
      unfold bbF
      rw [lN, Nat.sub_self]
      omega
    · rw [lN]
      exact Brs.LoneL.of lN
  have fin : ∀ (k : Bool) (H' : Hp), Same H H' → (k = true ↔ Brs.Lone (tabF (nvT rows)) rows.length) → Q (.bl k) H' := fun k H' g e => q k H' g ⟨_, nvT_clears pos, e⟩
  clear q

  have h0 : H hp = none := nh
  refine while_by (fun σ H2 => ∃ (x2 x3 x4 x5 x6 : Option V) (hp : Addr) (hs : List Addr) (T : List (List Int)), σ = [some (.ref a), some (.ref hp), x2, x3, x4, x5, x6] ∧ Same H H2 ∧ H hp = none ∧ H2 hp = some (.lst (hs.map V.ref)) ∧ AllAt (fun H p r => p ≠ hp ∧ IntsR H p r) H2 hs T ∧ Lft rows T)
    (fun σ H2 => match σ with | [_, some (.ref p), _, _, _, _, _] => (match H2 p with | some (.lst xs) => xs.length | _ => 0) | _ => 0) ⟨x2, x3, x4, x5, x6, hp, hs, nvT rows, rfl, g1, h0, hhp, hT, L0⟩ ?_ ?_
  · clear hhp hT L0 g1 h0 ga nh
    rintro σ H2 ⟨x2, x3, x4, x5, x6, hp, hs, T, rfl, g2, nh, hhp, hT, L⟩
    have eh : (match H2 hp with | some (.lst xs) => xs.length | _ => 0) = T.length := by rw [hhp]; show (hs.map V.ref).length = _; rw [List.length_map, hT.1]
    have lT := L.le
    have lhs : (hs.map V.ref).length = T.length := by rw [List.length_map, hT.1]
    refine ⟨_, rfl, (by show 0 ≤ sizeLine; decide), fun p2 n2 => ?_⟩
    have g3 := same_new n2 (.lst [])
    have hhp3 := g3 _ _ hhp
    have hT3 := hT.imp (R' := fun H p r => p ≠ hp ∧ IntsR H p r) fun p r z => ⟨z.1, z.2.kept g3⟩
    have hT3' := hT3.imp (R' := IntsR) fun p r z => z.2
    refine ⟨tabD T, .list [], dt_tab hhp3 hT3', dt_nil upd_same, tabD_ok T, nilD_ok, ?_⟩
    rw [if_pos rfl, tabD_nil]
    refine ⟨_, rfl, ?_⟩
    have g23 := g2.trans g3
    generalize upd H2 p2 (.lst []) = H3 at *
    refine ite2 (fun c => ?_) (fun c => ?_)
    · have hpos : 0 < T.length := by
        cases T with
        | nil => cases c
        | cons => simp
      refine ⟨_, rfl, hp, rfl, ⟨_, SqL.of hhp3⟩, fun D nD => ?_⟩
      refine walk_list (xs := hs.map V.ref) (fun i σ H4 => ∃ (x : Option V) (xs : List V), σ = [x] ∧ Same H3 H4 ∧ H4 D = some (.lst xs) ∧ LdI hs T i xs) ⟨none, [], rfl, same_new nD _, upd_same, Nat.le_refl _, .inl ⟨rfl, fun k r hk => by omega⟩⟩ ?_ ?_ ?_
      · rintro i σ H4 _ ⟨x, xs, rfl, g4, _⟩
        exact SqL.of (g4 _ _ hhp3)
      · rintro i v σ H4 hv ⟨x, xs, rfl, g4, hD, ok⟩
        rw [List.getElem?_map] at hv
        obtain ⟨p, hp1, rfl⟩ := Option.map_eq_some_iff.mp hv
        obtain ⟨r, er, hr0⟩ := hT3'.get hp1
        have hi := (List.getElem?_eq_some_iff.mp er).1
        have lr := (L.row r (List.mem_of_getElem? er)).1
        have el : r[T.length - 1]? = some (r.getD (T.length - 1) 0) := by rw [List.getElem?_eq_getElem (by omega : T.length - 1 < r.length), getD_of (List.getElem?_eq_getElem (by omega))]
        refine ⟨_, rfl, _, rfl, p, _, _, _, rfl, rfl, SqL.of (hr0.kept g4), (atI_neg (k := 1) (j := T.length - 1) (by rw [List.getElem?_map, el]; rfl) (by rw [List.length_map, lr]; omega) (by decide)), rfl, _, rfl, ?_⟩
        refine ite2 (fun c => ?_) (fun c => ?_)
        · have c : r.getD (T.length - 1) 0 ≠ 0 := fun z => by rw [z] at c; exact absurd c (by decide)
          refine ⟨_, rfl, _, hD, ?_, _, _, rfl, same_at nD g4, upd_same, ok.take hp1 er c⟩
          have := ok.1
          exact small1000 (by omega)
        · have c : r.getD (T.length - 1) 0 = 0 := by
            by_cases z : r.getD (T.length - 1) 0 = 0
            · exact z
            · exfalso
              apply c
              rw [show decide (V.int (r.getD (T.length - 1) 0) = V.int 0) = false from decide_eq_false fun e => z (by injection e)]
              rfl
          exact ⟨_, xs, rfl, g4, hD, ok.skip er c⟩
      rintro σ H4 ⟨x, xs, rfl, g4, hD, ok⟩
      rw [lhs] at ok
      refine ⟨_, rfl, D, _, rfl, SqL.of hD, fun p5 n5 => ?_⟩
      rw [cut_one]
      have g5 := g4.trans (same_new n5 (.lst (xs.take 1)))
      have hp5 : upd H4 p5 (.lst (xs.take 1)) p5 = some (.lst (xs.take 1)) := upd_same
      generalize upd H4 p5 (.lst (xs.take 1)) = H5 at *
      have hhp5 := g5 _ _ hhp3
      have hT5 := hT3.imp (R' := fun H p r => p ≠ hp ∧ IntsR H p r) fun p r z => ⟨z.1, z.2.kept g5⟩
      have g25 := g23.trans g5
      refine ⟨_, rfl, (by show 0 ≤ sizeLine; decide), fun p6 n6 => ?_⟩
      have g6 := same_new n6 (.lst [])
      have hn6 : upd H5 p6 (.lst []) p6 = some (.lst []) := upd_same
      generalize upd H5 p6 (.lst []) = H6 at *
      have hp6 := g6 _ _ hp5
      have g26 := g25.trans g6
      have hhp6 := g6 _ _ hhp5
      have hT6 := hT5.imp (R' := fun H p r => p ≠ hp ∧ IntsR H p r) (H' := H6) fun p r z => ⟨z.1, z.2.kept g6⟩
      obtain ⟨_, ⟨rfl, o2⟩ | ⟨f, p, r, ys, rfl, hf, ep, er, z, o2⟩⟩ := ok
      · refine ⟨.list [], .list [], dt_nil hp6, dt_nil hn6, nilD_ok, nilD_ok, _, rfl, ?_⟩
        rw [show ((if false = true then !PyData.eqv (.list []) (.list []) else PyData.eqv (.list []) (.list [])) : Bool) = true from tabD_nil []]
        refine iteT ?_
        refine fin false H6 g26 ?_
        rw [← L.lone]
        refine ⟨(fun z => by cases z), fun l => ?_⟩
        obtain ⟨m, hm⟩ : ∃ m, T.length = m + 1 := ⟨T.length - 1, by omega⟩
        rw [hm] at l o2
        exact absurd l (Brs.LoneL.not fun r hr => by
          obtain ⟨k, hk, e⟩ := List.getElem_of_mem hr
          exact o2 k r (by omega) (e ▸ List.getElem?_eq_getElem hk))
      have hr6 := (hT6.2 f p r ep er).2
      have dl : Dt K H6 (.list [intsD r]) (.ref p5) := by
        unfold Dt
        refine ⟨p5, _, rfl, SqL.of hp6, ?_⟩
        unfold DtAll
        refine ⟨_, _, rfl, dt_intsL hr6, ?_⟩
        unfold DtAll
        rfl
      refine ⟨.list [intsD r], .list [], dl, dt_nil hn6, (tabD_ok [r]), nilD_ok, ?_⟩
      rw [show ((if false = true then !PyData.eqv (.list [intsD r]) (.list []) else PyData.eqv (.list [intsD r]) (.list [])) : Bool) = false from tabD_nil [r]]
      refine ⟨_, rfl, iteF ?_⟩
      have hpn : p5 ≠ hp := fun e => by subst e; rw [g4 _ _ hhp3] at n5; cases n5
      refine ⟨_, rfl, .inl ⟨rfl, _, SqL.of hhp6⟩, _, rfl, p5, _, _, _, rfl, rfl, SqL.of hp6, (atI_nat (j := 0) rfl), ?_⟩
      refine ⟨hp, hs.map V.ref, .ref p, intsD r, T.map intsD, f, rfl, rfl, hhp6, dt_intsL hr6, dt_rows (hT6.imp fun p r z => z.2), intsD_ok r, ?_, ⟨⟨intsD r, by rw [List.getElem?_map, er]; rfl, by rw [intsD_eqv]; exact decide_eq_true rfl⟩, ?_⟩, ?_⟩
      · intro e he
        obtain ⟨r', _, rfl⟩ := List.mem_map.mp he
        exact intsD_ok r'
      · intro k e hk he
        rw [List.getElem?_map] at he
        obtain ⟨r', er', rfl⟩ := Option.map_eq_some_iff.mp he
        rw [intsD_eqv]
        exact decide_eq_false fun e => z (by rw [← e]; exact o2 k r' hk er')
      have hf' : f < T.length := (List.getElem?_eq_some_iff.mp er).1
      have hTe := hT6.erase f
      have lTe : (T.eraseIdx f).length = T.length - 1 := by rw [List.length_eraseIdx, if_pos hf']
      have hsm : (hs.map V.ref).eraseIdx f = (hs.eraseIdx f).map V.ref := by simp [List.eraseIdx_eq_take_drop_succ, List.map_take, List.map_drop]
      rw [hsm]
      have g7 : Same H (upd H6 hp (.lst ((hs.eraseIdx f).map V.ref))) := same_at nh g26
      have hT7 : AllAt IntsR (upd H6 hp (.lst ((hs.eraseIdx f).map V.ref))) (hs.eraseIdx f) (T.eraseIdx f) := hTe.imp fun p r z => by unfold IntsR; rw [upd_ne z.1]; exact z.2
      have hhp7 : upd H6 hp (.lst ((hs.eraseIdx f).map V.ref)) hp = some (.lst ((hs.eraseIdx f).map V.ref)) := upd_same
      have hp7 : upd H6 hp (.lst ((hs.eraseIdx f).map V.ref)) p5 = some (.lst [.ref p]) := by rw [upd_ne hpn]; exact hp6
      have hr7 : IntsR (upd H6 hp (.lst ((hs.eraseIdx f).map V.ref))) p r := by
        unfold IntsR
        rw [upd_ne (hT6.2 f p r ep er).1]
        exact hr6
      generalize upd H6 hp (.lst ((hs.eraseIdx f).map V.ref)) = H7 at *
      have lr := (L.row r (List.mem_of_getElem? er)).1
      refine ⟨_, rfl, hp, rfl, ⟨_, SqL.of hhp7⟩, fun D8 nD8 => ?_⟩
      refine walk_list (xs := (hs.eraseIdx f).map V.ref) (fun i σ H8 => ∃ (x : Option V) (us : List Addr), σ = [x, some (.ref p5)] ∧ Same H7 H8 ∧ H8 D8 = some (.lst (us.map V.ref)) ∧ AllAt (fun H p r => p ≠ D8 ∧ IntsR H p r) H8 us (((T.eraseIdx f).take i).map fun r' => shR r' r)) ⟨none, [], rfl, same_new nD8 _, upd_same, AllAt.nil⟩ ?_ ?_ ?_
      · rintro i σ H8 _ ⟨x, us, rfl, g8, _⟩
        exact SqL.of (g8 _ _ hhp7)
      · rintro i v σ H8 hv ⟨x, us, rfl, g8, hD8, hU⟩
        rw [List.getElem?_map] at hv
        obtain ⟨p1, hp1, rfl⟩ := Option.map_eq_some_iff.mp hv
        obtain ⟨r1, er1, hr1⟩ := hT7.get hp1
        have hm1 := List.mem_of_mem_eraseIdx (List.mem_of_getElem? er1)
        have hi := (List.getElem?_eq_some_iff.mp er1).1
        obtain ⟨lr1, br1⟩ := L.row r1 hm1
        refine ⟨_, rfl, _, rfl, p5, _, _, _, rfl, rfl, SqL.of (g8 _ _ hp7), (atI_nat (j := 0) rfl), ?_⟩
        refine ⟨p1, p, r1, r, T.length - 1, _, rfl, hr1.kept g8, hr7.kept g8, by omega, by omega, by omega, br1, (L.row r (List.mem_of_getElem? er)).2, bbF_le (by omega), fun p9 H9 g9 n9 h9 => ?_⟩
        have hD9 := g9 _ _ hD8
        have np : p9 ≠ D8 := fun e => by subst e; rw [hD8] at n9; cases n9
        refine ⟨_, hD9, ?_, _, us ++ [p9], rfl, same_at nD8 (g8.trans g9), ?_, ?_⟩
        · rw [List.length_map, hU.1, List.length_map, List.length_take]
          exact small1000 (by omega)
        · rw [upd_same, List.map_append]
          rfl
        · rw [take_more er1, List.map_append]
          exact ((hU.imp (R' := fun H p r => p ≠ D8 ∧ IntsR H p r) (H' := H9) fun p r z => ⟨z.1, z.2.kept g9⟩).snoc ⟨np, h9⟩).imp fun p r z => ⟨z.1, by unfold IntsR; rw [upd_ne z.1]; exact z.2⟩
      rintro σ H8 ⟨x, us, rfl, g8, hD8, hU⟩
      rw [List.length_map, hTe.1, List.take_length] at hU
      have lU : ((T.eraseIdx f).map fun r' => shR r' r).length = T.length - 1 := by rw [List.length_map, lTe]
      have nD : H D8 = none := by
        cases e : H D8 with
        | none => rfl
        | some o => rw [g7 _ _ e] at nD8; cases nD8
      refine ⟨⟨_, _, _, _, _, D8, us, (T.eraseIdx f).map fun r' => shR r' r, rfl, g7.trans g8, nD, hD8, hU, ?_⟩, ?_⟩
      · refine ⟨by omega, fun u hu => ?_, ?_⟩
        · obtain ⟨r1, hm1, rfl⟩ := List.mem_map.mp hu
          obtain ⟨lr1, br1⟩ := L.row r1 (List.mem_of_mem_eraseIdx hm1)
          have ne1 : r1 ≠ [] := fun e => by rw [e] at lr1; simp at lr1; omega
          have ne2 : r ≠ [] := fun e => by rw [e] at lr; simp at lr; omega
          refine ⟨by rw [lU]; exact shR_len (by omega) (by omega), ?_⟩
          have := shR_bits br1 (L.row r (List.mem_of_getElem? er)).2 ne1 ne2
          rwa [bbF_succ, show rows.length - T.length + 1 = rows.length - ((T.eraseIdx f).map fun r' => shR r' r).length by omega] at this
        · rw [← L.lone, lU]
          have em : T.length = (T.length - 1) + 1 := by omega
          have key : ∀ r1 ∈ T.eraseIdx f, ∃ g : Int, g ≠ 0 ∧ ∀ j, j < T.length - 1 → g * (shR r1 r).getD j 0 = r1.getD j 0 * r.getD (T.length - 1) 0 - r.getD j 0 * r1.getD (T.length - 1) 0 := fun r1 hm1 => by
            have lr1 := (L.row r1 (List.mem_of_mem_eraseIdx hm1)).1
            exact ⟨_, by have := gcdM_pos (shX r1 r).dropLast; omega, fun j hj => shR_at (by omega) (by omega) j hj⟩
          have st := Brs.LoneL.step (T := T) (U := (T.eraseIdx f).map fun r' => shR r' r) (m := T.length - 1) er z (fun u hu => by
            obtain ⟨r1, hm1, rfl⟩ := List.mem_map.mp hu
            exact ⟨r1, hm1, key r1 hm1⟩) fun r1 hm1 => ⟨_, List.mem_map_of_mem hm1, key r1 hm1⟩
          rwa [← em] at st
      · show (match H8 D8 with | some (.lst xs) => xs.length | _ => 0) < (match H2 hp with | some (.lst xs) => xs.length | _ => 0)
        rw [eh, hD8]
        show (us.map V.ref).length < _
        rw [List.length_map, hU.1, lU]
        omega
    · have e : T = [] := by
        cases T with
        | nil => rfl
        | cons => exact absurd rfl c
      subst e
      refine fin true H3 g23 ⟨fun _ => ?_, fun _ => rfl⟩
      rw [← L.lone]
      exact fun x _ j hj => by simp at hj
  · rintro σ H1 Q1 Q2 m ⟨v, e1, hl, k⟩
    refine ⟨v, e1, hl, fun p n => ?_⟩
    obtain ⟨d, e, a, b, c, dd, w, e5, z⟩ := k p n
    exact ⟨d, e, a, b, c, dd, w, e5, m _ _ z⟩
--SPLIT
open Mth
theorem dvd_co' {d n c : Int} (h : d ∣ n * c) (g : Int.gcd n d = 1) : d ∣ c := by
  have h' : d.natAbs ∣ n.natAbs * c.natAbs := by rw [← Int.natAbs_mul]; exact Int.natAbs_dvd_natAbs.mpr h
  have : Nat.Coprime d.natAbs n.natAbs := by
    have : Nat.gcd n.natAbs d.natAbs = 1 := g
    rw [Nat.Coprime, Nat.gcd_comm]; exact this
  exact Int.natAbs_dvd_natAbs.mp (this.dvd_of_dvd_mul_left h')
theorem red_uniq {n d n' d' : Int} (e : n * d' = n' * d) (dp : 0 < d) (dp' : 0 < d') (h : Int.gcd n d = 1) (h' : Int.gcd n' d' = 1) : n = n' ∧ d = d' := by
  have k1 : d ∣ d' := by
    have : d ∣ n * d' := ⟨n', by rw [e, Int.mul_comm]⟩
    exact dvd_co' this h
  have k2 : d' ∣ d := by
    have : d' ∣ n' * d := ⟨n, by rw [← e, Int.mul_comm]⟩
    exact dvd_co' this h'
  have ed : d = d' := Int.dvd_antisymm (by omega) (by omega) k1 k2
  subst ed
  exact ⟨Int.eq_of_mul_eq_mul_right (by omega) e, rfl⟩
/-- the sum, scaled -/
theorem sumF_scale {fs : List (Int × Nat)} {L : Int} {g : Nat → Int} (h : ∀ (k : Nat) (f : Int × Nat), fs[k]? = some f → f.1 * L = (f.2 : Int) * g k) : ∀ i, i ≤ fs.length → (sumF (fs.take i)).1 * L = ((sumF (fs.take i)).2 : Int) * Brs.sm i g
  | 0, _ => by show 0 * L = ((1 : Nat) : Int) * 0; omega
  | i + 1, hi => by
    have ih := sumF_scale h i (by omega)
    have e : fs[i]? = some fs[i] := List.getElem?_eq_getElem (by omega)
    have k := h i _ e
    rw [take_more e, sumF_snoc, Brs.sm_last]
    generalize fs[i] = f at *
    generalize sumF (fs.take i) = s at *
    show (s.1 * (f.2 : Nat) + f.1 * (s.2 : Nat)) * L = ((s.2 * f.2 : Nat) : Int) * _
    rw [Int.add_mul, Int.mul_add, Int.natCast_mul]
    congr 1
    · calc s.1 * (f.2 : Int) * L = s.1 * L * (f.2 : Int) := by ac_rfl
        _ = _ := by rw [ih]; ac_rfl
    · calc f.1 * (s.2 : Int) * L = f.1 * L * (s.2 : Int) := by ac_rfl
        _ = _ := by rw [k]; ac_rfl
def prF (sel : Two → Int × Nat) (row : List (Int × Nat)) (pts : List Two) : List (Int × Nat) := (row.zip pts).map fun x => (x.1.1 * (sel x.2).1, x.1.2 * (sel x.2).2)
/-- a row's sum is its side -/
theorem sum_side {sel : Two → Int × Nat} {row : List (Int × Nat)} {pts : List Two} {s : Two} {L : Int} {g : Nat → Int} {n' d' : Int} (L0 : L ≠ 0) (len : pts.length = row.length)
    (hg : ∀ (j : Nat) (f : Int × Nat) (pt : Two), row[j]? = some f → pts[j]? = some pt → f.1 * (sel pt).1 * L = ((f.2 * (sel pt).2 : Nat) : Int) * g j) (hs : Brs.sm row.length g * ((sel s).2 : Nat) = (sel s).1 * L) (s0 : 0 < (sel s).2) (co : Int.gcd (sel s).1 (sel s).2 = 1)
    (D0 : (sumF (prF sel row pts)).2 ≠ 0) (F : Fr (sumF (prF sel row pts)).1 ((sumF (prF sel row pts)).2 : Nat) n' d') : n' = (sel s).1 ∧ d' = ((sel s).2 : Nat) := by
  have lf : (prF sel row pts).length = row.length := by
    unfold prF
    rw [List.length_map, List.length_zip, len, Nat.min_self]
  have sc := sumF_scale (fs := prF sel row pts) (L := L) (g := g) (fun k f e => by
    unfold prF at e
    rw [List.getElem?_map] at e
    obtain ⟨⟨a, b⟩, e1, rfl⟩ := Option.map_eq_some_iff.mp e
    obtain ⟨e2, e3⟩ := List.getElem?_zip_eq_some.mp e1
    exact hg k a b e2 e3) (prF sel row pts).length (Nat.le_refl _)
  rw [List.take_length, lf] at sc
  generalize sumF (prF sel row pts) = S at *
  have e := F.eq
  refine red_uniq ?_ F.pos (by omega) F.co co
  have k1 : S.1 * ((sel s).2 : Int) * L = (S.2 : Int) * (sel s).1 * L := by
    calc S.1 * ((sel s).2 : Int) * L = S.1 * L * ((sel s).2 : Int) := by ac_rfl
      _ = (S.2 : Int) * (Brs.sm row.length g * ((sel s).2 : Int)) := by rw [sc]; ac_rfl
      _ = _ := by rw [hs]; ac_rfl
  have k2 := Int.eq_of_mul_eq_mul_right L0 k1
  refine Int.eq_of_mul_eq_mul_right (a := (S.2 : Int)) (by omega) ?_
  calc n' * ((sel s).2 : Int) * (S.2 : Int) = n' * (S.2 : Int) * ((sel s).2 : Int) := by ac_rfl
    _ = S.1 * ((sel s).2 : Int) * d' := by rw [e]; ac_rfl
    _ = _ := by rw [k2]; ac_rfl
def twoP (a b : Int) : PyData := .tuple [.int a, .int b]
theorem dt_two {H : Hp} {z : Addr} {i j : Int} (e : H z = some (.tup [.int i, .int j])) : Dt K H (twoP i j) (.ref z) := by
  unfold twoP Dt
  refine ⟨z, _, rfl, SqT.of e, ?_⟩
  unfold DtAll
  refine ⟨_, _, rfl, (by unfold Dt; rfl), ?_⟩
  unfold DtAll
  refine ⟨_, _, rfl, (by unfold Dt; rfl), ?_⟩
  unfold DtAll
  rfl
theorem twoP_ok (i j : Int) : SeqAt.shaped (twoP i j) = true := by
  simp [twoP, SeqAt.shaped, PyData.canLay0, PyData.canLayAll0, PyData.depth, PyData.depthAll]
theorem twoP_same (a b : Int) : PyData.eqv (twoP a b) (twoP a b) = true := by
  simp [twoP, PyData.eqv, PyData.eqvAll]
def selA (ax : Bool) (t : Two) : Int × Nat := if ax then t.2 else t.1
inductive spComes (vs : List V) (H : Hp) (Q : VK) (Y : XK) : Prop
  | mk : ∀ (rp pp sp : Addr) (ax : Bool) (ps : List Addr) (row : List (Int × Nat)) (pts : List Two) (s : Two) (L : Int) (g : Nat → Int), (vs = [.ref rp, .ref pp, .ref sp, .int (if ax then 1 else 0)]) → (RowR H rp row) → (H pp = some (.tup (ps.map V.ref))) → (AllAt SideR H ps pts) → (SideR H sp s) → (row.length ≤ 16) → (pts.length = row.length) →
      (∀ f ∈ row, f.1.natAbs < 2 ^ 200 ∧ f.2 < 2 ^ 200) → (∀ pt ∈ pts, (selA ax pt).1.natAbs < 2 ^ 35000 ∧ (selA ax pt).2 < 2 ^ 35000) → (L ≠ 0) → (∀ (j : Nat) (f : Int × Nat) (pt : Two), row[j]? = some f → pts[j]? = some pt → f.1 * (selA ax pt).1 * L = ((f.2 * (selA ax pt).2 : Nat) : Int) * g j) → (Brs.sm row.length g * ((selA ax s).2 : Nat) = (selA ax s).1 * L) → (Int.gcd (selA ax s).1 (selA ax s).2 = 1) →
      (∀ H', Same H H' → Q (.bl true) H') → spComes vs H Q Y
theorem SideR.ix {H : Hp} {p : Addr} {s : Two} (h : SideR H p s) (ax : Bool) : ∃ (xs : List V) (q : Addr), H p = some (.tup xs) ∧ atI xs (if ax then 1 else 0) = some (.ref q) ∧ FrR H q (selA ax s) := by
  obtain ⟨q1, q2, a, b, c⟩ := h
  cases ax
  · exact ⟨_, q1, a, rfl, b⟩
  · exact ⟨_, q2, a, rfl, c⟩
theorem ok_law_comes (B : Fx) : Hs "_law_comes" ["_law_row", "_law_points", "_law_side", "_law_axis"] 43 (spComes) := by
  refine hs_of B.X B.d21 sc_law_comes fun f cdv A outer s0 H vs Q E nN hr h => ?_
  obtain ⟨rp, pp, sp, ax, ps, row, pts, s, L, g, rfl, hrow, hpp, hps, hsp, n16, len, bR, bP, L0, hg, hs, co, q⟩ := h
  refine ⟨_, (pss_cons (ps_lc1x (i := 4) (Nc := ["_law_one", "_law_point", "_law_axis"]) (js := [none, none, some 3]) rfl rfl nN rfl (Or.inl rfl) (pi_zip false false rfl (B.z B.y8) (p2 (pv 0) (pv 1))) (CS.of rfl rfl) rfl (fun C s₂ H₂ fp pins => (show PG _ _ (gTup K 2 _) from pg_tup rfl (pgs_cons (pgc 0) (pgs_cons (pgc 1) pgs_nil)))) (fun C s₂ H₂ fp pins D L => (pt_tail0 (pb_app (pe_tup (p2 (pe_op Own.op_mulV (pix (show IxR _ (rIxT K) from ix_tup) (pv 0) pe_int) (pix (show IxR _ (rIxT K) from ix_tup) (pix (show IxR _ (rIxT K) from ix_tup) (pv 1) (pv 2)) pe_int)) (pe_op Own.op_mulV (pix (show IxR _ (rIxT K) from ix_tup) (pv 0) pe_int) (pix (show IxR _ (rIxT K) from ix_tup) (pix (show IxR _ (rIxT K) from ix_tup) (pv 1) (pv 2)) pe_int))))))))
      (pss_one (ps_ret (pe_cmpR (op_eqD hr.units) (pf (ok_law_sum B) hr (p1 (pv 4))) (pix ix_tup (pv 2) (pv 3)) (nomark _))))), ?_⟩
  try dsimp only [cxOf]
  obtain ⟨qs, hq, hqs⟩ := hrow
  refine ⟨_, rfl, _, rfl, rp, pp, rfl, ⟨_, SqT.of hq⟩, ⟨_, SqT.of hpp⟩, fun D nD => ?_⟩
  refine walk_zip (k1 := false) (k2 := false) (xs := qs.map V.ref) (ys := ps.map V.ref) (fun j σ H4 => ∃ (x0 x1 : Option V) (us : List Addr), σ = [x0, x1, some (.int (if ax then 1 else 0))] ∧ Same H H4 ∧ H4 D = some (.lst (us.map V.ref)) ∧ AllAt FrR H4 us ((prF (selA ax) row pts).take j)) (by rw [List.length_map, List.length_map, hqs.1, hps.1, len]) ⟨none, none, [], rfl, same_new nD _, upd_same, AllAt.nil⟩ ?_ ?_ ?_
  · rintro j σ H4 _ ⟨x0, x1, us, rfl, g4, _⟩
    exact ⟨SqT.of (g4 _ _ hq), SqT.of (g4 _ _ hpp)⟩
  · rintro j v w T σ H4 hv hw nT ⟨x0, x1, us, rfl, g4, hD, hU⟩
    rw [List.getElem?_map] at hv hw
    obtain ⟨fp, hfp, rfl⟩ := Option.map_eq_some_iff.mp hv
    obtain ⟨tp, htp, rfl⟩ := Option.map_eq_some_iff.mp hw
    obtain ⟨f, ef, hf⟩ := hqs.get hfp
    obtain ⟨pt, ept, hpt⟩ := hps.get htp
    have gT := same_new nT (.tup [.ref fp, .ref tp])
    have hf := (hf.kept g4).kept gT
    obtain ⟨xs, q1, ht, ei, hq1⟩ := ((hpt.kept g4).kept gT).ix ax
    obtain ⟨b1, b2⟩ := bR f (List.mem_of_getElem? ef)
    obtain ⟨c1, c2⟩ := bP pt (List.mem_of_getElem? ept)
    have hi := (List.getElem?_eq_some_iff.mp ef).1
    have ez : (prF (selA ax) row pts)[j]? = some (f.1 * (selA ax pt).1, f.2 * (selA ax pt).2) := by
      unfold prF
      rw [List.getElem?_map, (List.getElem?_zip_eq_some (z := (f, pt))).mpr ⟨ef, ept⟩]
      rfl
    refine ⟨T, _, rfl, SqT.of upd_same, rfl, _, _, rfl, _, _, rfl, rfl, ?_⟩
    refine ⟨_, rfl, fp, _, _, _, rfl, rfl, SqT.of hf.1, at0, _, rfl, _, rfl, tp, _, _, _, rfl, rfl, SqT.of ht, ei, q1, _, _, _, rfl, rfl, SqT.of hq1.1, at0, _, _, rfl, rfl, ⟨200, 35000, b1, c1, by decide⟩, ?_⟩
    refine ⟨_, rfl, fp, _, _, _, rfl, rfl, SqT.of hf.1, at1, _, rfl, _, rfl, tp, _, _, _, rfl, rfl, SqT.of ht, ei, q1, _, _, _, rfl, rfl, SqT.of hq1.1, at1, _, _, rfl, rfl, ⟨200, 35000, by rw [Int.natAbs_natCast]; exact b2, by rw [Int.natAbs_natCast]; exact c2, by decide⟩, ?_⟩
    refine ⟨(by show 2 ≤ sizeLine; decide), fun p6 n6 => ?_⟩
    have g6 := same_new n6 (.tup [.int (f.1 * (selA ax pt).1), .int ((f.2 : Nat) * ((selA ax pt).2 : Nat))])
    have gg := gT.trans g6
    have hD6 := gg _ _ hD
    refine ⟨_, hD6, ?_, _, _, us ++ [p6], rfl, same_at nD (g4.trans gg), ?_, ?_⟩
    · rw [List.length_map, hU.1, List.length_take]
      exact small1000 (by omega)
    · rw [upd_same, List.map_append]
      rfl
    · rw [take_more ez]
      refine ((hU.imp fun _ _ => FrR.kept gg).snoc (show FrR _ p6 _ from ⟨?_, ?_⟩)).imp fun _ _ => FrR.but but_upd fun xs z => by rw [hD6] at z; cases z
      · rw [upd_same, Int.natCast_mul]
      · exact Nat.mul_pos hf.2 hq1.2
  rintro σ H4 ⟨x0, x1, us, rfl, g4, hD, hU⟩
  have lf : (prF (selA ax) row pts).length = row.length := by
    unfold prF
    rw [List.length_map, List.length_zip, len, Nat.min_self]
  rw [List.length_map, hqs.1, ← lf, List.take_length] at hU
  have bM : ∀ f ∈ prF (selA ax) row pts, f.1.natAbs < 2 ^ 35200 ∧ f.2 < 2 ^ 35200 := fun f hf => by
    obtain ⟨⟨a, b⟩, hm, rfl⟩ := List.mem_map.mp hf
    obtain ⟨ha, hb⟩ := List.of_mem_zip hm
    obtain ⟨b1, b2⟩ := bR a ha
    obtain ⟨c1, c2⟩ := bP b hb
    have p1 := Nat.mul_lt_mul'' b1 c1
    have p2 := Nat.mul_lt_mul'' b2 c2
    rw [← Nat.pow_add] at p1 p2
    refine ⟨?_, p2⟩
    show (a.1 * (selA ax b).1).natAbs < _
    rw [Int.natAbs_mul]
    exact p1
  have D0 : (sumF (prF (selA ax) row pts)).2 ≠ 0 := by
    have := (sumF_le bM hU.pos (prF (selA ax) row pts).length (Nat.le_refl _)).2.2
    rw [List.take_length] at this
    omega
  have bL : (35200 + 1) * ((prF (selA ax) row pts).length + 1) ≤ 60000000 := by rw [lf]; omega
  refine ⟨_, rfl, D, us, prF (selA ax) row pts, 35200, rfl, hD, hU, bM, bL, fun n' d' p' H5 F g5 e5 => ?_⟩
  obtain ⟨xs, q1, ht, ei, hq1⟩ := ((hsp.kept g4).kept g5).ix ax
  obtain ⟨rfl, rfl⟩ := sum_side L0 len hg hs hq1.2 co D0 F
  refine ⟨_, rfl, _, rfl, sp, _, _, _, rfl, rfl, SqT.of ht, ei, twoP _ _, twoP _ _, dt_two e5, dt_two hq1.1, twoP_ok _ _, twoP_ok _ _, ?_⟩
  rw [twoP_same]
  exact q H5 (g4.trans g5)
--SPLIT
open Mth
theorem walk_zipLe {k1 k2 : Bool} {K : PySem.W.Frag} {a b : Addr} {xs ys : List V} {g : TG} {bd : TB} {N0 : St → Hp → Prop} {σ : St} {H : Hp} (Pv : Nat → St → Hp → Prop) (hxy : xs.length ≤ ys.length) (h0 : Pv 0 σ H)
    (hl : ∀ i σ H, i ≤ xs.length → Pv i σ H → SqX K k1 H a xs ∧ SqX K k2 H b ys)
    (hs : ∀ i x y T σ H, xs[i]? = some x → ys[i]? = some y → H T = none → Pv i σ H → g (.ref T) σ (upd H T (.tup [x, y])) fun σ2 H2 => bd (Pv (i + 1)) σ2 H2) (hd : ∀ σ H, Pv xs.length σ H → N0 σ H) : tWalk (Itz k1 k2 K a b) g bd N0 σ H := by
  refine ⟨fun i m σ H => m = xs.length - i ∧ i ≤ xs.length ∧ Pv i σ H, ⟨xs.length, by simp, Nat.zero_le _, h0⟩, ?_⟩
  rintro i m σ H ⟨rfl, hle, p⟩
  obtain ⟨q1, q2⟩ := hl i σ H hle p
  by_cases hi : i < xs.length
  · refine .inr ⟨⟨xs, ys, xs[i], ys[i]'(by omega), q1, q2, by simp [hi], by simp [show i < ys.length by omega]⟩, Pv (i + 1), fun σ' H' q => ⟨xs.length - (i + 1), by omega, rfl, by omega, q⟩, fun x H' hy => ?_⟩
    obtain ⟨T, x1, x2, nT, rfl, e1, e2, rfl⟩ := hy
    exact hs i x1 x2 T σ H (e1 xs q1) (e2 ys q2) nT p
  · have : i = xs.length := by omega
    subst this
    exact .inl ⟨⟨xs, q1, rfl⟩, hd σ H p⟩
/-- a row told as a list -/
def LRowR (H : Hp) (p : Addr) (row : List (Int × Nat)) : Prop := ∃ qs : List Addr, H p = some (.lst (qs.map V.ref)) ∧ AllAt FrR H qs row
theorem LRowR.kept {H H' : Hp} {p : Addr} {row : List (Int × Nat)} (g : Same H H') : LRowR H p row → LRowR H' p row := fun ⟨qs, a, b⟩ => ⟨qs, g _ _ a, b.imp fun _ _ => FrR.kept g⟩
theorem LRowR.but {H H' : Hp} {D p : Addr} {xs : List V} {row : List (Int × Nat)} (g : SameBut D H H') (hD : H D = some (.lst xs)) (n : p ≠ D) (h : LRowR H p row) : LRowR H' p row := by
  obtain ⟨qs, a, b⟩ := h
  exact ⟨qs, g _ _ n a, b.imp fun _ _ => FrR.but g fun ys z => by rw [hD] at z; cases z⟩
theorem PotAt.lst {H : Hp} {a : Addr} (h : PotAt H a) : ∃ x y : Int, H a = some (.lst [.int x, .int y]) := by
  obtain ⟨x, y, e, _⟩ := h
  exact ⟨x, y, e⟩
theorem LRowR.pot {H : Hp} {a p : Addr} {row : List (Int × Nat)} (h : LRowR H p row) (hp : PotAt H a) : p ≠ a := fun z => by
  subst z
  obtain ⟨qs, e, _⟩ := h
  obtain ⟨x, y, e2⟩ := hp.lst
  rw [e] at e2
  match qs, e2 with
  | [], e2 => injection e2 with e2; injection e2 with e2; cases e2
  | q :: qs, e2 => injection e2 with e2; injection e2 with e2; injection e2 with e2; cases e2
theorem LRowR.potBut {H H' : Hp} {a p : Addr} {row : List (Int × Nat)} (g : SameBut a H H') (hp : PotAt H a) (h : LRowR H p row) : LRowR H' p row := by
  obtain ⟨x, y, e⟩ := hp.lst
  exact h.but g e (h.pot hp)
theorem FrR.potBut {H H' : Hp} {a p : Addr} {f : Int × Nat} (g : SameBut a H H') (hp : PotAt H a) (h : FrR H p f) : FrR H' p f := by
  obtain ⟨x, y, e⟩ := hp.lst
  exact h.but g fun ys z => by rw [e] at z; cases z
/-- the first rows, so many times each, together -/
def colF (ts : List Int) (rows : List (List (Int × Nat))) (k : Nat) : List (Int × Nat) := (ts.zip rows).map fun x => (x.1 * (x.2.getD k (0, 1)).1, (x.2.getD k (0, 1)).2)
theorem colF_len {ts : List Int} {rows : List (List (Int × Nat))} {k : Nat} (h : ts.length ≤ rows.length) : (colF ts rows k).length = ts.length := by
  unfold colF
  rw [List.length_map, List.length_zip]
  omega
theorem PotAt.ne {H : Hp} {a p : Addr} (h : PotAt H a) (n : H p = none) : p ≠ a := fun z => by
  subst z
  obtain ⟨x, y, e⟩ := h.lst
  rw [n] at e
  cases e
theorem AllAt.init {α : Type} {R : Hp → Addr → α → Prop} {H : Hp} {ps : List Addr} {xs : List α} (h : AllAt R H ps xs) : AllAt R H ps.dropLast xs.dropLast := by
  refine ⟨by rw [List.length_dropLast, List.length_dropLast, h.1], fun i p x e1 e2 => ?_⟩
  rw [List.getElem?_dropLast] at e1 e2
  split at e1
  · split at e2
    · exact h.2 i p x e1 e2
    · cases e2
  · cases e1
theorem SameBut.free {a p : Addr} {H H' : Hp} (s : SameBut a H H') (n : p ≠ a) (h : H' p = none) : H p = none := by
  cases e : H p with
  | none => rfl
  | some o => rw [s _ _ n e] at h; cases h
inductive spMade (vs : List V) (H : Hp) (Q : VK) (Y : XK) : Prop
  | mk : ∀ (a p : Addr) (rs : List Addr) (rows : List (List (Int × Nat))) (M : Nat), (vs = [.ref a, .ref p]) → (PotAt H a) → (p ≠ a) → (H p = some (.lst (rs.map V.ref))) → (AllAt LRowR H rs rows) → (2 ≤ rows.length) → (rows.length ≤ 16) → (M ≤ 100) → (∀ row ∈ rows, row.length = rows.length) → (∀ row ∈ rows, ∀ f ∈ row, f.1.natAbs < 2 ^ M ∧ f.2 < 2 ^ M) →
      (∀ (p' : Addr) (rs' : List Addr) (rows' : List (List (Int × Nat))) (H' : Hp), SameBut a H H' → PotAt H' a → p' ≠ a → H p' = none → H' p' = some (.lst (rs'.map V.ref)) → AllAt LRowR H' rs' rows' → rows'.length = rows.length → (∀ row ∈ rows', row.length = rows.length) → (∀ row ∈ rows', ∀ f ∈ row, f.1.natAbs < 2 ^ ((M + 3) * (rows.length - 1) + 1) ∧ f.2 < 2 ^ ((M + 3) * (rows.length - 1) + 1)) → Q (.ref p') H') → spMade vs H Q Y
theorem ok_law_made (B : Fx) : Hs "_law_made" ["_law_pot_here", "_law_rows_here"] 43 (spMade) := by
  refine hs_of B.X B.d17 sc_law_made fun f cdv A outer s0 H vs Q E nN hr h => ?_
  obtain ⟨a, p, rs, rows, M, rfl, ha, npa, hp, hR, n2, n16, m100, sq, hM, q⟩ := h
  refine ⟨_, (pss_cons (ps_lc1x (i := 2) (Nc := ["_law_row", "_law_pot_here"]) (js := [none, some 0]) rfl rfl nN rfl (Or.inl rfl) (pi_list (pe_slice sl_list (pv 1) po_none (po_some (pe_un un_neg pe_int)))) (CS.of rfl rfl) rfl (fun C s₂ H₂ fp pins => (pgc 0)) (fun C s₂ H₂ fp pins D L => (pt_tail0 (pb_app (pe_op op_sub (pf (ok_law_digit B) hr (p2 (pv 1) pe_int)) pe_int)))))
      (pss_cons (pst 3 nN (pe_lst pa_nil))
      (pss_cons (pfor (pi_range1 rfl (B.z B.y10) (p1 (pe_callB call_len_seq rfl (B.z B.y3) PySem.boot_len (p1 (pv 1))))) (pgn 4 nN) (pss_one (ps_expr (m_list PySem.F.slot_list_append PySem.F.type_list_append mt_append (pv 3) (p1 (pf (ok_law_sum B) hr (p1 (pe_lc1x (Nc := ["_law_many", "_law_row", "_law_k"]) (js := [none, none, some 4]) rfl rfl (pi_zip true true rfl (B.z B.y8) (p2 (pv 2) (pv 1))) (CS.of rfl rfl) rfl (fun C s₂ H₂ fp pins => (show PG _ _ (gTup K 2 _) from pg_tup rfl (pgs_cons (pgc 0) (pgs_cons (pgc 1) pgs_nil)))) (fun C s₂ H₂ fp pins D L => (pt_tail0 (pb_app (pe_tup (p2 (pe_op Own.op_mulV (pv 0) (pix (show IxR _ (rIxT K) from ix_tup) (pix (show IxR _ (rIxL K) from ix_list) (pv 1) (pv 2)) pe_int)) (pix (show IxR _ (rIxT K) from ix_tup) (pix (show IxR _ (rIxL K) from ix_list) (pv 1) (pv 2)) pe_int))))))))))))))
      (pss_one (ps_ret (pe_op op_cat (pe_slice sl_list (pv 1) po_none (po_some (pe_un un_neg pe_int))) (pe_lst (p1 (pv 3))))))))), ?_⟩
  try dsimp only [cxOf]
  have lrs := hR.1
  refine ⟨_, rfl, _, rfl, _, rfl, p, _, rfl, SqL.of hp, fun p1 n1 => ?_⟩
  rw [cut_init]
  have e1 : (rs.map V.ref).dropLast = rs.dropLast.map V.ref := List.map_dropLast.symm
  rw [e1]
  have g1 := same_new n1 (.lst (rs.dropLast.map V.ref))
  have h1 : upd H p1 (.lst (rs.dropLast.map V.ref)) p1 = some (.lst (rs.dropLast.map V.ref)) := upd_same
  have n1a := ha.ne n1
  generalize upd H p1 (.lst (rs.dropLast.map V.ref)) = H1 at *
  have ha1 := ha.kept g1
  refine ⟨p1, rfl, ⟨_, SqL.of h1⟩, fun D nD => ?_⟩
  have nDa := ha1.ne nD
  have ld : (rs.dropLast.map V.ref).length = rows.length - 1 := by rw [List.length_map, List.length_dropLast, lrs]
  refine walk_list (xs := rs.dropLast.map V.ref) (fun j σ H3 => ∃ (x0 : Option V) (ts : List Int), σ = [x0, some (.ref a)] ∧ SameBut a H1 H3 ∧ PotAt H3 a ∧ H3 D = some (.lst (ts.map V.int)) ∧ ts.length = j ∧ ∀ t ∈ ts, t.natAbs ≤ 3) ⟨none, [], rfl, SameBut.of (same_new nD _), ha1.kept (same_new nD _), upd_same, rfl, fun t h => by cases h⟩ ?_ ?_ ?_
  · rintro j σ H3 _ ⟨x0, ts, rfl, s3, _⟩
    exact SqL.of (s3 _ _ n1a h1)
  · rintro j v σ H3 hv ⟨x0, ts, rfl, s3, ha3, hD, lt, bt⟩
    have hj := (List.getElem?_eq_some_iff.mp hv).1
    refine ⟨_, rfl, a, 7, rfl, ha3, by decide, lit9 (by decide), fun d H4 d0 d1 s4 ha4 => ?_⟩
    refine ⟨_, _, rfl, rfl, _, s4 _ _ nDa hD, ?_, _, ts ++ [d - 3], rfl, ?_, ha4.other (Ne.symm nDa), ?_, ?_, ?_⟩
    · rw [List.length_map, lt]
      exact small1000 (by omega)
    · exact fun b o nb e => by
        have := s4 _ _ nb (s3 _ _ nb e)
        rw [upd_ne (fun z => by subst z; rw [nD] at e; cases e)]
        exact this
    · rw [upd_same, List.map_append]
      rfl
    · rw [List.length_append, lt]
      rfl
    · intro t ht
      rcases List.mem_append.mp ht with ht | ht
      · exact bt t ht
      · cases List.mem_singleton.mp ht
        omega
  rintro σ H3 ⟨x0, ts, rfl, s3, ha3, hD, lt, bt⟩
  rw [ld] at lt
  have hp3 := s3 _ _ npa (g1 _ _ hp)
  have hR3 := hR.imp fun p r z => (LRowR.kept g1 z).potBut s3 ha1
  have s03 : SameBut a H H3 := (SameBut.of g1).trans s3
  refine ⟨by show 0 ≤ sizeLine; decide, fun pf nf => ?_⟩
  have gf := same_new nf (.lst [])
  refine ⟨_, rfl, p, _, rfl, .inl (SqL.of (gf _ _ hp3)), ?_⟩
  rw [List.length_map, lrs]
  refine ⟨_, rfl, by omega, by omega, ?_⟩
  rw [Int.toNat_natCast]
  have lc : ∀ k, (colF ts rows k).length = rows.length - 1 := fun k => by rw [colF_len (by omega), lt]
  refine for_range (lo := 0) (n := rows.length) (fun k σ H6 => ∃ (x4 : Option V) (us : List Addr) (fs : List (Int × Nat)), σ = [some (.ref a), some (.ref p), some (.ref D), some (.ref pf), x4] ∧ Same H3 H6 ∧ H6 pf = some (.lst (us.map V.ref)) ∧ AllAt FrR H6 us fs ∧ fs.length = k ∧ ∀ f ∈ fs, f.1.natAbs < 2 ^ ((M + 3) * (rows.length - 1) + 1) ∧ f.2 < 2 ^ ((M + 3) * (rows.length - 1) + 1)) ⟨none, [], [], rfl, gf, upd_same, AllAt.nil, rfl, fun f h => by cases h⟩ ?_ ?_
  · rintro k σ H6 hk ⟨x4, us, fs, rfl, g6, hpf, hU, lf, bf⟩
    rw [Int.zero_add]
    have hp6 := g6 _ _ hp3
    have hD6 := g6 _ _ hD
    have hR6 := hR3.imp fun _ _ => LRowR.kept g6
    refine ⟨_, rfl, .inl ⟨rfl, _, SqL.of hpf⟩, _, rfl, _, rfl, D, p, rfl, ⟨_, SqL.of hD6⟩, ⟨_, SqL.of hp6⟩, fun D2 nD2 => ?_⟩
    refine walk_zipLe (k1 := true) (k2 := true) (xs := ts.map V.int) (ys := rs.map V.ref) (fun i σ H7 => ∃ (y0 y1 : Option V) (us2 : List Addr), σ = [y0, y1, some (.int k)] ∧ Same H6 H7 ∧ H7 D2 = some (.lst (us2.map V.ref)) ∧ AllAt FrR H7 us2 ((colF ts rows k).take i)) (by rw [List.length_map, List.length_map, lrs]; omega) ⟨none, none, [], rfl, same_new nD2 _, upd_same, AllAt.nil⟩ ?_ ?_ ?_
    · rintro i σ H7 _ ⟨y0, y1, us2, rfl, g7, _⟩
      exact ⟨SqL.of (g7 _ _ hD6), SqL.of (g7 _ _ hp6)⟩
    · rintro i v w Z σ H7 hv hw nZ ⟨y0, y1, us2, rfl, g7, hD2, hU2⟩
      rw [List.getElem?_map] at hv hw
      obtain ⟨t, et, rfl⟩ := Option.map_eq_some_iff.mp hv
      obtain ⟨rp, erp, rfl⟩ := Option.map_eq_some_iff.mp hw
      obtain ⟨row, er, hrow⟩ := hR6.get erp
      have gZ := same_new nZ (.tup [.int t, .ref rp])
      obtain ⟨qs, hq, hqs⟩ := (hrow.kept g7).kept gZ
      have lrow := sq row (List.mem_of_getElem? er)
      obtain ⟨f, ef⟩ : ∃ f, row[k]? = some f := ⟨_, List.getElem?_eq_getElem (by omega)⟩
      obtain ⟨fp, efp, hf⟩ := hqs.at ef
      have b3 := bt t (List.mem_of_getElem? et)
      have hi : i < ts.length := (List.getElem?_eq_some_iff.mp et).1
      have ec : (colF ts rows k)[i]? = some (t * f.1, f.2) := by
        unfold colF
        rw [List.getElem?_map, (List.getElem?_zip_eq_some (z := (t, row))).mpr ⟨et, er⟩]
        show some (t * (row.getD k (0, 1)).1, (row.getD k (0, 1)).2) = _
        rw [getD_of ef]
      obtain ⟨bn, bd⟩ := hM row (List.mem_of_getElem? er) f (List.mem_of_getElem? ef)
      refine ⟨Z, _, rfl, SqT.of upd_same, rfl, _, _, rfl, _, _, rfl, rfl, ?_⟩
      refine ⟨_, rfl, _, rfl, _, rfl, rp, _, _, _, rfl, rfl, SqL.of hq, atI_nat (j := k) (by rw [List.getElem?_map, efp]; rfl), fp, _, _, _, rfl, rfl, SqT.of hf.1, at0, _, _, rfl, rfl, ⟨2, M, by omega, bn, by omega⟩, ?_⟩
      refine ⟨_, rfl, _, rfl, rp, _, _, _, rfl, rfl, SqL.of hq, atI_nat (j := k) (by rw [List.getElem?_map, efp]; rfl), fp, _, _, _, rfl, rfl, SqT.of hf.1, at1, (by show 2 ≤ sizeLine; decide), fun p6 n6 => ?_⟩
      have g8 := same_new n6 (.tup [.int (t * f.1), .int (f.2 : Nat)])
      have gg := gZ.trans g8
      have hD8 := gg _ _ hD2
      refine ⟨_, hD8, ?_, _, _, us2 ++ [p6], rfl, same_at nD2 (g7.trans gg), ?_, ?_⟩
      · rw [List.length_map, hU2.1, List.length_take]
        exact small1000 (by omega)
      · rw [upd_same, List.map_append]
        rfl
      · rw [take_more ec]
        exact ((hU2.imp fun _ _ => FrR.kept gg).snoc (show FrR _ p6 (t * f.1, f.2) from ⟨upd_same, hf.2⟩)).imp fun _ _ => FrR.but but_upd fun xs z => by rw [hD8] at z; cases z
    rintro σ H7 ⟨y0, y1, us2, rfl, g7, hD2, hU2⟩
    have lts : (ts.map V.int).length = (colF ts rows k).length := by rw [List.length_map, lc, lt]
    rw [lts, List.take_length] at hU2
    have bM : ∀ f ∈ colF ts rows k, f.1.natAbs < 2 ^ (M + 2) ∧ f.2 < 2 ^ (M + 2) := fun f hf => by
      obtain ⟨⟨t, row⟩, hm, rfl⟩ := List.mem_map.mp hf
      obtain ⟨ht, hr⟩ := List.of_mem_zip hm
      have b3 := bt t ht
      have lrow := sq row hr
      obtain ⟨f, ef⟩ : ∃ f, row[k]? = some f := ⟨_, List.getElem?_eq_getElem (by omega)⟩
      obtain ⟨bn, bd⟩ := hM row hr f (List.mem_of_getElem? ef)
      show (t * (row.getD k (0, 1)).1).natAbs < _ ∧ (row.getD k (0, 1)).2 < _
      rw [getD_of ef, Int.natAbs_mul, Nat.pow_add]
      have := Nat.mul_le_mul b3 (Nat.le_refl f.1.natAbs)
      omega
    have sl := sumF_le bM hU2.pos (colF ts rows k).length (Nat.le_refl _)
    rw [List.take_length, lc] at sl
    have mn : (M + 2 + 1) * ((colF ts rows k).length + 1) ≤ 60000000 := by
      rw [lc]
      have := Nat.mul_le_mul (show M + 2 + 1 ≤ 103 by omega) (show rows.length - 1 + 1 ≤ 16 by omega)
      omega
    refine ⟨D2, us2, colF ts rows k, M + 2, rfl, hD2, hU2, bM, mn, fun n' d' p' H8 F g8 e8 => ?_⟩
    have hpf8 := (g7.trans g8) _ _ hpf
    have ll := F.ln
    have ld' := F.ld
    have fp := F.pos
    rw [Int.natAbs_natCast] at ld'
    refine ⟨pf, _, _, rfl, rfl, hpf8, ?_, ?_⟩
    · rw [List.length_map, hU.1, lf]
      exact small1000 (by omega)
    refine ⟨_, us ++ [p'], fs ++ [(n', d'.toNat)], rfl, same_at nf (g6.trans (g7.trans g8)), ?_, ?_, ?_, ?_⟩
    · rw [upd_same, List.map_append]
      rfl
    · exact ((hU.imp fun _ _ => FrR.kept (g7.trans g8)).snoc (fr_at e8 fp)).imp fun _ _ => FrR.but but_upd fun xs z => by rw [hpf8] at z; cases z
    · rw [List.length_append, lf]
      rfl
    · intro f hf
      rcases List.mem_append.mp hf with hf | hf
      · exact bf f hf
      · cases List.mem_singleton.mp hf
        rw [show (M + 3) = M + 2 + 1 from rfl]
        refine ⟨Nat.lt_of_le_of_lt ll sl.1, ?_⟩
        show d'.toNat < _
        have := sl.2.1
        omega
  · rintro σ H6 ⟨x4, us, fs, rfl, g6, hpf, hU, lf, bf⟩
    have hp6 := g6 _ _ hp3
    have hR6 := hR3.imp fun _ _ => LRowR.kept g6
    refine ⟨_, rfl, _, rfl, _, rfl, p, _, rfl, SqL.of hp6, fun p7 n7 => ?_⟩
    rw [cut_init, e1]
    have g7 := same_new n7 (.lst (rs.dropLast.map V.ref))
    refine ⟨_, rfl, (by show 1 ≤ sizeLine; decide), fun p8 n8 => ?_⟩
    have g8 := same_new n8 (.lst [.ref pf])
    refine ⟨p7, p8, _, _, rfl, rfl, g8 _ _ upd_same, upd_same, ?_, fun p9 n9 => ?_⟩
    · rw [ld]
      exact small (by show rows.length - 1 + 1 ≤ _; omega)
    have g9 := same_new n9 (.lst (rs.dropLast.map V.ref ++ [.ref pf]))
    have g69 := g7.trans (g8.trans g9)
    have g39 := g6.trans g69
    have ha9 := ha3.kept (g6.trans (g7.trans g8))
    have pw : ∀ x, x < 2 ^ M → x < 2 ^ ((M + 3) * (rows.length - 1) + 1) := fun x h => by
      refine Nat.lt_of_lt_of_le h (Nat.pow_le_pow_right (by decide) ?_)
      have := Nat.mul_le_mul (Nat.le_refl (M + 3)) (show 1 ≤ rows.length - 1 by omega)
      omega
    refine q p9 (rs.dropLast ++ [pf]) (rows.dropLast ++ [fs]) _ (s03.trans (SameBut.of g39)) (ha3.kept g39) (ha9.ne n9) ((s03.trans (SameBut.of (g6.trans (g7.trans g8)))).free (ha9.ne n9) n9) (by rw [upd_same, List.map_append]; rfl) ((hR6.imp fun _ _ => LRowR.kept g69).init.snoc ⟨us, g69 _ _ hpf, hU.imp fun _ _ => FrR.kept g69⟩) ?_ ?_ ?_
    · rw [List.length_append, List.length_dropLast]
      show rows.length - 1 + 1 = _
      omega
    · intro row hrow
      rcases List.mem_append.mp hrow with h | h
      · exact sq row (mem_init h)
      · cases List.mem_singleton.mp h
        exact lf
    · intro row hrow f hf
      rcases List.mem_append.mp hrow with h | h
      · obtain ⟨b1, b2⟩ := hM row (mem_init h) f hf
        exact ⟨pw _ b1, pw _ b2⟩
      · cases List.mem_singleton.mp h
        exact bf f hf
--SPLIT
open Mth
theorem ixN_nat {n j : Nat} (h : j < n) : ixN n (j : Int) = some j := by
  unfold ixN
  rw [if_pos (by omega), if_pos (by omega), Int.toNat_natCast]
theorem ixN_last {n : Nat} (h : 0 < n) : ixN n (-1) = some (n - 1) := by
  unfold ixN
  rw [if_neg (by decide), if_pos (by omega)]
  congr 1
  omega
theorem seq_two {t r : TS} {D : Ends} {σ : St} {H : Hp} (I : St → Hp → Prop) (k : ∀ σ H, I σ H → r D σ H) (h : (∀ σ H, I σ H → r D σ H) → tSeq t r D σ H) : tSeq t r D σ H := h k
theorem SameBut.at' {a D : Addr} {H H1 : Hp} {o : HO} (n : H D = none) (s : SameBut a H H1) : SameBut a H (upd H1 D o) := fun b u nb e => by
  rw [upd_ne (fun z => by subst z; rw [n] at e; cases e)]
  exact s b u nb e
theorem AllAt.set {α : Type} {R : Hp → Addr → α → Prop} {H : Hp} {ps : List Addr} {xs : List α} {p : Addr} {x : α} (h : AllAt R H ps xs) (r : R H p x) (j : Nat) : AllAt R H (ps.set j p) (xs.set j x) := by
  refine ⟨by rw [List.length_set, List.length_set, h.1], fun i q y e1 e2 => ?_⟩
  rw [List.getElem?_set] at e1 e2
  split at e1
  · next c =>
    rw [if_pos c] at e2
    split at e1
    · cases e1
      split at e2
      · cases e2
        exact r
      · cases e2
    · cases e1
  · next c =>
    rw [if_neg c] at e2
    exact h.2 i q y e1 e2
theorem ifs_two {c : TT} {t u r : TS} {D : Ends} {σ : St} {H : Hp} (I : St → Hp → Prop) (k : ∀ σ H, I σ H → r D σ H) (h : (∀ σ H, I σ H → r D σ H) → tSeq (tIfS c t u) r D σ H) : tSeq (tIfS c t u) r D σ H := h k
/-- a list of rows is none of the rows -/
theorem LRowR.ne {H : Hp} {p q : Addr} {rs : List Addr} {rows : List (List (Int × Nat))} {row : List (Int × Nat)} (hp : H p = some (.lst (rs.map V.ref))) (hR : AllAt LRowR H rs rows) (n1 : 1 ≤ rows.length) (h : LRowR H q row) : q ≠ p := fun z => by
  subst z
  obtain ⟨qs, e, hq⟩ := h
  rw [hp] at e
  injection e with e
  injection e with e
  have l1 := hR.1
  obtain ⟨r0, hr0⟩ : ∃ r0, rs[0]? = some r0 := ⟨_, List.getElem?_eq_getElem (by omega)⟩
  have e2 : (rs.map V.ref)[0]? = (qs.map V.ref)[0]? := by rw [e]
  rw [List.getElem?_map, hr0, List.getElem?_map] at e2
  cases eq : qs[0]? with
  | none => rw [eq] at e2; cases e2
  | some q0 =>
    rw [eq] at e2
    injection e2 with e2
    injection e2 with e2
    subst e2
    obtain ⟨_, _, a⟩ := hR.get hr0
    obtain ⟨_, _, b⟩ := hq.get eq
    obtain ⟨us, ea, _⟩ := a
    have eb := b.1
    rw [ea] at eb
    cases eb
theorem RowR.but_at {H : Hp} {D p : Addr} {xs ys : List V} {row : List (Int × Nat)} (h : RowR H p row) (hD : H D = some (.lst xs)) (n : p ≠ D) : RowR (upd H D (.lst ys)) p row := by
  obtain ⟨qs, a, b⟩ := h
  have nt : ∀ zs, H D ≠ some (.tup zs) := fun zs z => by rw [hD] at z; cases z
  exact ⟨qs, by rw [upd_ne n]; exact a, b.imp fun _ _ => FrR.but but_upd nt⟩
/-- a list of rows under way -/
def RwI (H : Hp) (D : Addr) (a : Addr) (n M j : Nat) (H6 : Hp) : Prop := ∃ (rs : List Addr) (rows : List (List (Int × Nat))), SameBut a H H6 ∧ PotAt H6 a ∧ H6 D = some (.lst (rs.map V.ref)) ∧ AllAt (fun H p r => p ≠ D ∧ LRowR H p r) H6 rs rows ∧ rows.length = j ∧ ∀ row ∈ rows, row.length = n ∧ ∀ f ∈ row, f.1.natAbs < 2 ^ M ∧ f.2 < 2 ^ M
/-- what the law's rows are like -/
structure Shp (rows : List (List (Int × Nat))) (M : Nat) : Prop where
  n1 : 1 ≤ rows.length
  n16 : rows.length ≤ 16
  sq : ∀ row ∈ rows, row.length = rows.length
  m : M ≤ 200
  nm : M * rows.length ≤ 1600
  fr : ∀ row ∈ rows, ∀ f ∈ row, f.1.natAbs < 2 ^ M ∧ f.2 < 2 ^ M
/-- how many, and how great -/
def Ok1 (n : Nat) (m : Int) : Prop := (1 ≤ n ∧ n ≤ 5 ∧ 3 ≤ m ∧ m ≤ 10 ^ 30) ∨ (6 ≤ n ∧ n ≤ 16 ∧ m = 4)
structure Ok2 (n : Nat) (m : Int) (b : Bool) (M : Nat) : Prop where
  n1 : 1 ≤ n
  n16 : n ≤ 16
  m3 : 3 ≤ m
  mm : m ≤ 10 ^ 30
  lt : (max m 6).toNat < 2 ^ M
  h : M ≤ 100
  nm : M * n ≤ 1600
  made : b = true → 2 ≤ n ∧ (M + 3) * (n - 1) + 1 ≤ 200 ∧ ((M + 3) * (n - 1) + 1) * n ≤ 1600
theorem Ok1.not {n : Nat} {m : Int} (h : Ok1 n m) : ∃ M, Ok2 n m false M := by
  rcases h with ⟨a, b, c, d⟩ | ⟨a, b, rfl⟩
  · refine ⟨100, a, by omega, c, d, ?_, by decide, by omega, fun z => by cases z⟩
    have : (2 : Nat) ^ 100 = 1267650600228229401496703205376 := by decide
    rw [this]
    omega
  · exact ⟨3, by omega, b, by decide, by decide, by decide, by decide, by omega, fun z => by cases z⟩
theorem Ok1.yes {n : Nat} {m : Int} (h : Ok1 n m) (n2 : 2 ≤ n) : ∃ M, Ok2 n (if (10 : Int) ^ 12 < m then 10 ^ 12 else m) true M := by
  rcases h with ⟨a, b, c, d⟩ | ⟨a, b, rfl⟩
  · have e : (2 : Nat) ^ 40 = 1099511627776 := by decide
    refine ⟨40, a, by omega, ?_, ?_, ?_, by decide, by omega, fun _ => ⟨n2, ?_, ?_⟩⟩
    · split <;> omega
    · split <;> omega
    · rw [e]
      split <;> omega
    · have : n = 2 ∨ n = 3 ∨ n = 4 ∨ n = 5 := by omega
      rcases this with rfl | rfl | rfl | rfl <;> decide
    · have : n = 2 ∨ n = 3 ∨ n = 4 ∨ n = 5 := by omega
      rcases this with rfl | rfl | rfl | rfl <;> decide
  · rw [if_neg (by decide)]
    refine ⟨3, by omega, b, by decide, by decide, by decide, by decide, by omega, fun _ => ⟨n2, ?_, ?_⟩⟩
    · have := Nat.mul_le_mul (Nat.le_refl 6) (show n - 1 ≤ 15 by omega)
      omega
    · have := Nat.mul_le_mul (show (3 + 3) * (n - 1) + 1 ≤ 91 by omega) b
      omega
inductive spRows (vs : List V) (H : Hp) (Q : VK) (Y : XK) : Prop
  | mk : ∀ (a : Addr), (vs = [.ref a]) → (PotAt H a) →
      (∀ (p : Addr) (rs : List Addr) (rows : List (List (Int × Nat))) (M : Nat) (H' : Hp), SameBut a H H' → PotAt H' a → H' p = some (.tup (rs.map V.ref)) → AllAt RowR H' rs rows → Shp rows M → Q (.ref p) H') → spRows vs H Q Y
theorem ok_law_rows (B : Fx) : Hs "_law_rows" ["_law_pot_here"] 44 (spRows) := by
  refine hs_of B.X B.d18 sc_law_rows fun f cdv A outer s0 H vs Q E nN hr h => ?_
  obtain ⟨a, rfl, ha, q⟩ := h
  refine ⟨_, (pss_cons (pst 1 nN (pe_op op_add pe_int (pf (ok_law_digit B) hr (p2 (pv 0) pe_int))))
      (pss_cons (pst 2 nN (pix ix_list (pe_lst (pa_cons pe_int (pa_cons pe_int (pa_cons (pe_op op_pow pe_int pe_int) pa_nil)))) (pf (ok_law_digit B) hr (p2 (pv 0) pe_int))))
      (pss_cons (ps_if (pt_cmpR op_eq (pf (ok_law_digit B) hr (p2 (pv 0) pe_int)) pe_int (nomark _)) (pss_one (ps_asg (pe_tup (p2 (pe_op op_add pe_int (pf (ok_law_digit B) hr (p2 (pv 0) pe_int))) pe_int)) (pg_tup (n := 2) rfl (pgs_cons (pgn 1 nN) (pgs_cons (pgn 2 nN) pgs_nil))))) pss_nil)
      (pss_cons (pst 3 nN (pe_and (pe_cmpR op_gt (pv 1) pe_int (nomark _)) (pe_one (pe_cmpR op_eq (pf (ok_law_digit B) hr (p2 (pv 0) pe_int)) pe_int (nomark _)))))
      (pss_cons (ps_if (pt_val (pv 3)) (pss_one (pst 2 nN (pe_callB (call_min2 rfl) rfl (B.z B.y12) PyProof.Rows.boot_min (p2 (pv 2) (pe_op op_pow pe_int pe_int))))) pss_nil)
      (pss_cons (ps_lc1x (i := 4) (Nc := ["_law_k", "_law_pot_here", "_law_most", "_law_many"]) (js := [none, some 0, some 2, some 1]) rfl rfl nN rfl (Or.inl rfl) (pi_range1 rfl (B.z B.y10) (p1 (pv 1))) (CS.of rfl rfl) rfl (fun C s₂ H₂ fp pins => (pg_name (i := 0) (show List.Nodup (α := Str) ["_law_k", "_law_pot_here", "_law_most", "_law_many"] by decide +kernel) rfl (Or.inl rfl))) (fun C s₂ H₂ fp pins D L => (pt_tail0 (pb_app (pe_lc1x (Nc := ["_law_j", "_law_pot_here", "_law_most"]) (js := [none, some 1, some 2]) rfl rfl (pi_range1 rfl (B.z B.y10) (p1 (pv 3))) (CS.of rfl rfl) rfl (fun C s₂ H₂ fp pins => (pgc 0)) (fun C s₂ H₂ fp pins D L => (pt_tail0 (pb_app (pf (ok_law_any_fraction B) hr (p2 (pv 1) (pv 2)))))))))))
      (pss_cons (ps_if (pt_val (pv 3)) (pss_cons (pst 4 nN (pf (ok_law_made B) hr (p2 (pv 0) (pv 4))))
      (pss_cons (pst 5 nN (pf (ok_law_digit B) hr (p2 (pv 0) (pv 1))))
      (pss_one (ps_asg (pe_tup (p2 (pix ix_list (pv 4) (pe_un un_neg pe_int)) (pix ix_list (pv 4) (pv 5)))) (pg_tup (n := 2) rfl (pgs_cons (pg_sub (pv 4) (pv 5) set_list) (pgs_cons (pg_sub (pv 4) (pe_un un_neg pe_int) set_list) pgs_nil))))))) pss_nil)
      (pss_one (ps_ret (pe_callTy call_tuple_of rfl (B.z B.y5) PyProof.Rows.boot_tuple (p1 (pe_lc1x (Nc := ["_law_row"]) (js := [none]) rfl rfl (pi_list (pv 4)) (CS.of rfl rfl) rfl (fun C s₂ H₂ fp pins => (pgc 0)) (fun C s₂ H₂ fp pins D L => (pt_tail0 (pb_app (pe_callTy (show CallR _ _ (call_tuple_ofY K) from call_tuple_of) rfl (B.z B.y5) PyProof.Rows.boot_tuple (p1 (pv 0)))))))))))))))))), ?_⟩
  try dsimp only [cxOf]
  refine ⟨_, rfl, a, 5, rfl, ha, by decide, lit9 (by decide), fun d1 H1 c0 c1 s1 p1 => ?_⟩
  refine ⟨_, _, rfl, rfl, ?_⟩
  obtain ⟨n1, e1⟩ : ∃ n1 : Nat, 1 + d1 = (n1 : Int) := ⟨(1 + d1).toNat, by omega⟩
  rw [e1]
  refine ⟨_, _, rfl, rfl, ⟨by decide, by decide, by decide⟩, (by show 3 ≤ sizeLine; decide), fun p3 h3 => ?_⟩
  have n3 := p1.ne h3
  have g3 := same_new h3 (.lst [V.int 3, V.int 12, V.int (10 ^ (30 : Int).toNat)])
  refine ⟨_, rfl, a, 3, rfl, p1.kept g3, by decide, lit9 (by decide), fun d2 H2 c2 c3 s2 p2 => ?_⟩
  obtain ⟨m1, hm1, m3, mm⟩ : ∃ x : Int, atI [V.int 3, V.int 12, V.int (10 ^ (30 : Int).toNat)] d2 = some (V.int x) ∧ 3 ≤ x ∧ x ≤ 10 ^ 30 := by
    rcases (by omega : d2 = 0 ∨ d2 = 1 ∨ d2 = 2) with rfl | rfl | rfl
    · exact ⟨3, rfl, by omega, by omega⟩
    · exact ⟨12, rfl, by omega, by omega⟩
    · exact ⟨10 ^ 30, rfl, by decide, Int.le_refl _⟩
  refine ⟨p3, _, _, _, rfl, rfl, SqL.of (s2 _ _ n3 upd_same), hm1, ?_⟩
  have s02 : SameBut a H H2 := s1.trans ((SameBut.of g3).trans s2)
  clear s1 p1 s2 g3 hm1 h3 n3
  dsimp only
  refine ifs_two (I := fun σ H' => ∃ (n : Nat) (m : Int), σ = [some (.ref a), some (.int n), some (.int m), none, none, none] ∧ Ok1 n m ∧ SameBut a H H' ∧ PotAt H' a) ?_ (fun j => ?_)
  rotate_left
  · refine ⟨_, rfl, a, 8, rfl, p2, by decide, lit9 (by decide), fun d3 H3 c4 c5 s3 p3 => ?_⟩
    refine ⟨rfl, _, rfl, ?_⟩
    have s03 := s02.trans s3
    refine ite2 (fun c => ?_) (fun c => ?_)
    · refine ⟨_, rfl, a, 11, rfl, p3, by decide, lit9 (by decide), fun d4 H4 c6 c7 s4 p4 => ?_⟩
      refine ⟨_, _, rfl, rfl, (by show 2 ≤ sizeLine; decide), fun t nt => ?_⟩
      refine ⟨t, _, rfl, SqT.of upd_same, rfl, _, _, rfl, _, _, rfl, rfl, ?_⟩
      have gt := same_new nt (.tup [V.int (6 + d4), V.int 4])
      obtain ⟨n2, e2⟩ : ∃ n2 : Nat, 6 + d4 = (n2 : Int) := ⟨(6 + d4).toNat, by omega⟩
      rw [e2] at gt ⊢
      exact j _ _ ⟨n2, 4, rfl, .inr ⟨by omega, by omega, rfl⟩, s03.trans (s4.trans (SameBut.of gt)), p4.kept gt⟩
    · exact j _ _ ⟨n1, m1, rfl, .inl ⟨by omega, by omega, m3, mm⟩, s03, p3⟩
  clear s02 p2 mm m3
  rintro σ H3 ⟨n, m, rfl, ok, s3, p3⟩
  refine seq_two (I := fun σ H' => ∃ b : Bool, σ = [some (.ref a), some (.int n), some (.int m), some (.bl b), none, none] ∧ (b = true → 2 ≤ n) ∧ SameBut a H H' ∧ PotAt H' a) ?_ (fun j => ?_)
  rotate_left
  · refine ⟨_, rfl, _, _, rfl, rfl, _, rfl, ?_⟩
    refine ite2 (fun c => ?_) (fun c => ?_)
    · have c := of_decide_eq_true c
      refine ⟨_, rfl, a, 3, rfl, p3, by decide, lit9 (by decide), fun d4 H4 c6 c7 s4 p4 => ?_⟩
      refine ⟨rfl, ?_⟩
      exact j _ _ ⟨_, rfl, fun _ => by omega, s3.trans s4, p4⟩
    · exact j _ _ ⟨false, rfl, (fun z => by cases z), s3, p3⟩
  clear s3 p3
  rintro σ H3 ⟨b, rfl, hb, s3, p3⟩
  refine ifs_two (I := fun σ H' => ∃ (m : Int) (M : Nat), σ = [some (.ref a), some (.int n), some (.int m), some (.bl b), none, none] ∧ Ok2 n m b M ∧ SameBut a H H' ∧ PotAt H' a) ?_ (fun j => ?_)
  rotate_left
  · refine ⟨_, rfl, _, rfl, ?_⟩
    refine ite2 (fun c => ?_) (fun c => ?_)
    · subst c
      obtain ⟨M, h⟩ := ok.yes (hb rfl)
      refine ⟨_, rfl, _, _, rfl, rfl, ⟨by decide, by decide, by decide⟩, _, _, rfl, ?_⟩
      exact j _ _ ⟨_, M, rfl, h, s3, p3⟩
    · have c : b = false := by
        cases b with
        | false => rfl
        | true => exact absurd rfl c
      subst c
      obtain ⟨M, h⟩ := ok.not
      exact j _ _ ⟨m, M, rfl, h, s3, p3⟩
  clear s3 p3 ok hb
  rintro σ H3 ⟨m, M, rfl, ok, s3, p3⟩
  have n1 := ok.n1
  have n16 := ok.n16
  refine ⟨_, rfl, _, rfl, by omega, by omega, fun D nD => ?_⟩
  rw [Int.toNat_natCast]
  have nDa := p3.ne nD
  refine walk_range (lo := 0) (n := n) (fun j σ H6 => ∃ x0 : Option V, σ = [x0, some (.ref a), some (.int m), some (.int n)] ∧ RwI H3 D a n M j H6) ⟨none, rfl, [], [], SameBut.of (same_new nD _), p3.kept (same_new nD _), upd_same, AllAt.nil, rfl, fun row h => by cases h⟩ ?_ ?_
  · rintro j σ H6 hj ⟨x0, rfl, rs, rows, s6, p6, hD, hR, lr, hb⟩
    refine ⟨_, rfl, _, rfl, by omega, by omega, fun D2 nD2 => ?_⟩
    rw [Int.toNat_natCast]
    have nD2a := p6.ne nD2
    refine walk_range (lo := 0) (n := n) (fun i σ H7 => ∃ (x0 : Option V) (qs : List Addr) (fs : List (Int × Nat)), σ = [x0, some (.ref a), some (.int m)] ∧ SameBut a H6 H7 ∧ PotAt H7 a ∧ H7 D2 = some (.lst (qs.map V.ref)) ∧ AllAt FrR H7 qs fs ∧ fs.length = i ∧ ∀ f ∈ fs, f.1.natAbs < 2 ^ M ∧ f.2 < 2 ^ M) ⟨none, [], [], rfl, SameBut.of (same_new nD2 _), p6.kept (same_new nD2 _), upd_same, AllAt.nil, rfl, fun f h => by cases h⟩ ?_ ?_
    · rintro i σ H7 hi ⟨y0, qs, fs, rfl, s7, p7, hD2, hqs, lf, hf⟩
      refine ⟨_, rfl, _, rfl, a, m, rfl, p7, ok.m3, ok.mm, fun fp fn fd H8 s8 p8 hfr => ?_⟩
      obtain ⟨h1, h2, h3, h4, h5⟩ := hfr
      have lt := ok.lt
      have hD8 := s8 _ _ nD2a hD2
      refine ⟨_, hD8, ?_, _, qs ++ [fp], fs ++ [(fn, fd.toNat)], rfl, SameBut.at' nD2 (s7.trans s8), p8.other (Ne.symm nD2a), ?_, ?_, ?_, ?_⟩
      · rw [List.length_map, hqs.1, lf]
        exact small1000 (by omega)
      · rw [upd_same, List.map_append]
        rfl
      · exact ((hqs.imp fun _ _ z => FrR.potBut s8 p7 z).snoc (fr_at h1 h2)).imp fun _ _ => FrR.but but_upd fun xs z => by rw [hD8] at z; cases z
      · rw [List.length_append, lf]
        rfl
      · intro f h
        rcases List.mem_append.mp h with h | h
        · exact hf f h
        · cases List.mem_singleton.mp h
          refine ⟨by show fn.natAbs < _; omega, ?_⟩
          show fd.toNat < _
          omega
    · rintro σ H7 ⟨y0, qs, fs, rfl, s7, p7, hD2, hqs, lf, hf⟩
      have hD7 := s7 _ _ nDa hD
      have nDD : D2 ≠ D := fun z => by subst z; rw [hD] at nD2; cases nD2
      refine ⟨_, hD7, ?_, _, rfl, rs ++ [D2], rows ++ [fs], SameBut.at' nD (s6.trans s7), p7.other (Ne.symm nDa), ?_, ?_, ?_, ?_⟩
      · rw [List.length_map, hR.1, lr]
        exact small1000 (by omega)
      · rw [upd_same, List.map_append]
        rfl
      · exact ((hR.imp (R' := fun H p r => p ≠ D ∧ LRowR H p r) fun p r z => ⟨z.1, z.2.potBut s7 p6⟩).snoc ⟨nDD, qs, hD2, hqs⟩).imp fun p r z => ⟨z.1, z.2.but but_upd hD7 z.1⟩
      · rw [List.length_append, lr]
        rfl
      · intro row h
        rcases List.mem_append.mp h with h | h
        · exact hb row h
        · cases List.mem_singleton.mp h
          exact ⟨lf, hf⟩
  rintro σ H6 ⟨x0, rfl, rs, rows, s6, p6, hD, hR, lr, hb⟩
  have hR := hR.imp (R' := LRowR) fun p r z => z.2
  have s6 := s3.trans s6
  clear nD
  clear s3 p3
  dsimp only [gName]
  refine ifs_two (I := fun σ H' => ∃ (p : Addr) (rs : List Addr) (rows : List (List (Int × Nat))) (M : Nat) (x5 : Option V), σ = [some (.ref a), some (.int n), some (.int m), some (.bl b), some (.ref p), x5] ∧ SameBut a H H' ∧ PotAt H' a ∧ p ≠ a ∧ H' p = some (.lst (rs.map V.ref)) ∧ AllAt LRowR H' rs rows ∧ Shp rows M) ?_ (fun j => ?_)
  rotate_left
  · refine ⟨_, rfl, _, rfl, ?_⟩
    refine ite2 (fun c => ?_) (fun c => ?_)
    · subst c
      obtain ⟨n2, b2, b3⟩ := ok.made rfl
      refine ⟨_, rfl, _, rfl, a, D, rs, rows, M, rfl, p6, nDa, hD, hR, by omega, by omega, ok.h, fun row h => by rw [(hb row h).1, lr], fun row h => (hb row h).2, fun p' rs' rows' H7 s7 p7 np' nn' hp' hR' lr' sq' fr' => ?_⟩
      refine ⟨_, rfl, _, rfl, a, n, rfl, p7, by omega, lit9 (by omega), fun k H8 k0 k1 s8 p8 => ?_⟩
      obtain ⟨k, rfl⟩ : ∃ k' : Nat, k = (k' : Int) := ⟨k.toNat, by omega⟩
      have hp8 := s8 _ _ np' hp'
      have hR8 := hR'.imp fun _ _ z => LRowR.potBut s8 p7 z
      have lr8 : rs'.length = n := by rw [hR'.1, lr', lr]
      obtain ⟨q1, eq1⟩ : ∃ q1, rs'[n - 1]? = some q1 := ⟨_, List.getElem?_eq_getElem (by omega)⟩
      obtain ⟨q2, eq2⟩ : ∃ q2, rs'[k]? = some q2 := ⟨_, List.getElem?_eq_getElem (by omega)⟩
      obtain ⟨r1, er1, hr1⟩ := hR8.get eq1
      obtain ⟨r2, er2, hr2⟩ := hR8.get eq2
      refine ⟨_, rfl, _, rfl, p', _, _, _, rfl, rfl, SqL.of hp8, (atI_neg (k := 1) (j := n - 1) (by rw [List.getElem?_map, eq1]; rfl) (by rw [List.length_map, lr8]; omega) (by decide)), ?_⟩
      refine ⟨_, rfl, _, rfl, p', _, _, _, rfl, rfl, SqL.of hp8, atI_nat (j := k) (by rw [List.getElem?_map, eq2]; rfl), (by show 2 ≤ sizeLine; decide), fun t nt => ?_⟩
      have gt := same_new nt (.tup [.ref q1, .ref q2])
      have hpt := gt _ _ hp8
      have lrm : (rs'.map V.ref).length = n := by rw [List.length_map, lr8]
      refine ⟨t, _, rfl, SqT.of upd_same, rfl, _, _, rfl, _, rfl, _, rfl, p', _, _, k, rfl, rfl, hpt, ixN_nat (by omega), ?_⟩
      refine ⟨_, _, rfl, _, rfl, _, rfl, p', _, _, n - 1, rfl, rfl, upd_same, ?_, ?_⟩
      · rw [List.length_set, lrm]
        exact ixN_last (by omega)
      have nH : H p' = none := s6.free np' nn'
      have hRt := hR8.imp fun _ _ => LRowR.kept gt
      have hr1t := hr1.kept gt
      have hr2t := hr2.kept gt
      have nr1 : ∀ q row, LRowR (upd H8 t (.tup [.ref q1, .ref q2])) q row → q ≠ p' := fun q row h => LRowR.ne hpt hRt (by omega) h
      have hR9 := (hRt.set hr1t k).set hr2t (n - 1)
      have em : ((rs'.map V.ref).set k (.ref q1)).set (n - 1) (.ref q2) = ((rs'.set k q1).set (n - 1) q2).map V.ref := by rw [List.map_set, List.map_set]
      rw [em]
      have lr9 : ((rows'.set k r1).set (n - 1) r2).length = n := by rw [List.length_set, List.length_set, lr', lr]
      have mem9 : ∀ row ∈ (rows'.set k r1).set (n - 1) r2, row ∈ rows' := fun row h => by
        rcases List.mem_or_eq_of_mem_set h with h | rfl
        · rcases List.mem_or_eq_of_mem_set h with h | rfl
          · exact h
          · exact List.mem_of_getElem? er1
        · exact List.mem_of_getElem? er2
      rw [lr] at sq' fr'
      refine ⟨rfl, ?_⟩
      refine j _ _ ⟨p', (rs'.set k q1).set (n - 1) q2, (rows'.set k r1).set (n - 1) r2, _, _, rfl, ?_, ?_, np', upd_same, ?_, by omega, by omega, ?_, b2, by rw [lr9]; exact b3, fun row h => fr' row (mem9 row h)⟩
      · exact SameBut.at' nH (SameBut.at' nH (s6.trans (s7.trans (s8.trans (SameBut.of gt)))))
      · exact ((p8.kept gt).other (Ne.symm np')).other (Ne.symm np')
      · refine hR9.imp fun q row z => ?_
        have nq := nr1 q row z
        exact (z.but but_upd hpt nq).but but_upd upd_same nq
      · intro row h
        rw [lr9]
        exact sq' row (mem9 row h)
    · refine j _ _ ⟨D, rs, rows, M, none, rfl, s6, p6, nDa, hD, hR, by omega, by omega, fun row h => by rw [(hb row h).1, lr], by have := ok.h; omega, by rw [lr]; exact ok.nm, fun row h => (hb row h).2⟩
  clear s6 p6 hD hR hb
  rintro σ H7 ⟨p, rs, rows, M, x5, rfl, s7, p7, npa, hp, hR, W⟩
  have w16 := W.n16
  refine ⟨_, rfl, p, rfl, ⟨_, SqL.of hp⟩, fun D nD => ?_⟩
  refine walk_list (xs := rs.map V.ref) (fun j σ H8 => ∃ (x : Option V) (us : List Addr), σ = [x] ∧ Same H7 H8 ∧ H8 D = some (.lst (us.map V.ref)) ∧ AllAt (fun H p r => p ≠ D ∧ RowR H p r) H8 us (rows.take j)) ⟨none, [], rfl, same_new nD _, upd_same, AllAt.nil⟩ ?_ ?_ ?_
  · rintro j σ H8 _ ⟨x, us, rfl, g8, _⟩
    exact SqL.of (g8 _ _ hp)
  · rintro j v σ H8 hv ⟨x, us, rfl, g8, hD, hU⟩
    rw [List.getElem?_map] at hv
    obtain ⟨lp, hlp, rfl⟩ := Option.map_eq_some_iff.mp hv
    obtain ⟨row, er, hrow⟩ := hR.get hlp
    obtain ⟨qs, hq, hqs⟩ := hrow.kept g8
    have hj := (List.getElem?_eq_some_iff.mp er).1
    refine ⟨_, rfl, lp, _, rfl, .inl ⟨SqL.of hq, fun l nl => ?_⟩⟩
    have gl := same_new nl (.tup (qs.map V.ref))
    have hD9 := gl _ _ hD
    have nlD : l ≠ D := fun z => by subst z; rw [hD] at nl; cases nl
    refine ⟨_, hD9, ?_, _, us ++ [l], rfl, same_at nD (g8.trans gl), ?_, ?_⟩
    · rw [List.length_map, hU.1, List.length_take]
      exact small1000 (by omega)
    · rw [upd_same, List.map_append]
      rfl
    · rw [take_more er]
      exact ((hU.imp (R' := fun H p r => p ≠ D ∧ RowR H p r) fun p r z => ⟨z.1, z.2.kept gl⟩).snoc ⟨nlD, qs, upd_same, hqs.imp fun _ _ => FrR.kept gl⟩).imp fun p r z => ⟨z.1, z.2.but_at hD9 z.1⟩
  · rintro σ H8 ⟨x, us, rfl, g8, hD, hU⟩
    rw [List.length_map, hR.1, List.take_length] at hU
    refine ⟨D, _, rfl, .inl ⟨SqL.of hD, fun l nl => ?_⟩⟩
    have gl := same_new nl (.tup (us.map V.ref))
    exact q l us rows M _ (s7.trans (SameBut.of (g8.trans gl))) (p7.kept (g8.trans gl)) upd_same (hU.imp fun p r z => z.2.kept gl) W
--SPLIT
open Mth
theorem RowR.potBut {H H' : Hp} {a p : Addr} {row : List (Int × Nat)} (g : SameBut a H H') (hp : PotAt H a) (h : RowR H p row) : RowR H' p row := by
  obtain ⟨qs, e, f⟩ := h
  obtain ⟨x, y, e2⟩ := hp.lst
  exact ⟨qs, g _ _ (fun z => by subst z; rw [e] at e2; cases e2) e, f.imp fun _ _ z => FrR.potBut g hp z⟩
theorem SideR.potBut {H H' : Hp} {a p : Addr} {s : Two} (g : SameBut a H H') (hp : PotAt H a) (h : SideR H p s) : SideR H' p s := by
  obtain ⟨q1, q2, e, f1, f2⟩ := h
  obtain ⟨x, y, e2⟩ := hp.lst
  exact ⟨q1, q2, g _ _ (fun z => by subst z; rw [e] at e2; cases e2) e, f1.potBut g hp, f2.potBut g hp⟩
structure Shw (d : PyData) (k B : Nat) : Prop where
  sh : d.showable = true
  nd : d.hasDict = false
  dp : d.depth ≤ k
  ln : d.shown.length ≤ B
theorem Shw.int {i : Int} (h : i.natAbs < 2 ^ 200) : Shw (.int i) 0 201 := by
  have lg : i.natAbs.log2 < 200 := by
    by_cases z : i.natAbs = 0
    · rw [z]; decide
    · exact (Nat.log2_lt z).mpr h
  refine ⟨?_, rfl, Nat.le_refl _, ?_⟩
  · simp [PyData.showable]
    omega
  · simp only [PyData.shown]
    have := PySem.int_text_length_le (k := 200) (by decide) lg
    rw [PySem.ofString_length]
    exact this
theorem Shw.all {k B : Nat} : ∀ {ds : List PyData}, (∀ d ∈ ds, Shw d k B) → PyData.showableAll ds = true ∧ PyData.hasDictAll ds = false ∧ PyData.depthAll ds ≤ k ∧ ((PyData.shownAll ds).map (·.length)).sum ≤ B * ds.length ∧ (PyData.shownAll ds).length = ds.length
  | [], _ => ⟨rfl, rfl, Nat.zero_le _, by simp [PyData.shownAll], rfl⟩
  | d :: ds, h => by
    obtain ⟨i1, i2, i3, i4, i5⟩ := Shw.all fun e he => h e (List.mem_cons_of_mem _ he)
    obtain ⟨h1, h2, h3, h4⟩ := h d List.mem_cons_self
    refine ⟨?_, ?_, ?_, ?_, ?_⟩
    · rw [PyData.showableAll, h1, i1]; rfl
    · rw [PyData.hasDictAll, h2, i2]; rfl
    · rw [PyData.depthAll]; omega
    · rw [PyData.shownAll, List.map_cons, List.sum_cons, List.length_cons, Nat.mul_succ]; omega
    · rw [PyData.shownAll, List.length_cons, i5]; rfl
theorem Shw.tuple {k B n : Nat} {ds : List PyData} (h : ∀ d ∈ ds, Shw d k B) (l : ds.length ≤ n) : Shw (.tuple ds) (k + 1) ((B + 2) * n + 3) := by
  obtain ⟨i1, i2, i3, i4, i5⟩ := Shw.all h
  refine ⟨by rw [PyData.showable]; exact i1, by rw [PyData.hasDict]; exact i2, by rw [PyData.depth]; omega, ?_⟩
  refine Nat.le_trans (tup_shown i4 i5) ?_
  have := Nat.mul_le_mul (Nat.le_refl (B + 2)) l
  rw [Nat.add_mul] at this
  omega
theorem dt_all {α : Type} {R : Hp → Addr → α → Prop} {H : Hp} {f : α → PyData} (hf : ∀ p x, R H p x → Dt K H (f x) (.ref p)) : ∀ {ps : List Addr} {xs : List α}, AllAt R H ps xs → DtAll K H (xs.map f) (ps.map V.ref)
  | [], [], _ => by unfold DtAll; rfl
  | [], _ :: _, h => by have := h.1; simp at this
  | _ :: _, [], h => by have := h.1; simp at this
  | p :: ps, x :: xs, h => by
    rw [List.map_cons, List.map_cons]
    unfold DtAll
    exact ⟨_, _, rfl, hf p x (h.2 0 p x rfl rfl), dt_all hf ⟨by have := h.1; simpa using this, fun i q y e1 e2 => h.2 (i + 1) q y e1 e2⟩⟩
def frD (f : Int × Nat) : PyData := twoP f.1 (f.2 : Nat)
def rowD (row : List (Int × Nat)) : PyData := .tuple (row.map frD)
def rowsD (rows : List (List (Int × Nat))) : PyData := .tuple (rows.map rowD)
def sideD (s : Two) : PyData := .tuple [frD s.1, frD s.2]
def sidesD (ss : List Two) : PyData := .tuple (ss.map sideD)
theorem dt_fr {H : Hp} {p : Addr} {f : Int × Nat} (h : FrR H p f) : Dt K H (frD f) (.ref p) := dt_two h.1
theorem dt_row {H : Hp} {p : Addr} {row : List (Int × Nat)} (h : RowR H p row) : Dt K H (rowD row) (.ref p) := by
  obtain ⟨qs, a, b⟩ := h
  unfold rowD Dt
  exact ⟨p, _, rfl, SqT.of a, dt_all (fun _ _ => dt_fr) b⟩
theorem dt_side {H : Hp} {p : Addr} {s : Two} (h : SideR H p s) : Dt K H (sideD s) (.ref p) := by
  obtain ⟨q1, q2, a, b, c⟩ := h
  unfold sideD Dt
  refine ⟨p, _, rfl, SqT.of a, ?_⟩
  unfold DtAll
  refine ⟨_, _, rfl, dt_fr b, ?_⟩
  unfold DtAll
  refine ⟨_, _, rfl, dt_fr c, ?_⟩
  unfold DtAll
  rfl
theorem dt_both {H : Hp} {t a b : Addr} {rs ss : List Addr} {rows : List (List (Int × Nat))} {sides : List Two} (ht : H t = some (.tup [.ref a, .ref b])) (ha : H a = some (.tup (rs.map V.ref))) (hb : H b = some (.tup (ss.map V.ref))) (hR : AllAt RowR H rs rows) (hS : AllAt SideR H ss sides) : Dt K H (.tuple [rowsD rows, sidesD sides]) (.ref t) := by
  have h1 : Dt K H (rowsD rows) (.ref a) := by
    unfold rowsD Dt
    exact ⟨a, _, rfl, SqT.of ha, dt_all (fun _ _ => dt_row) hR⟩
  have h2 : Dt K H (sidesD sides) (.ref b) := by
    unfold sidesD Dt
    exact ⟨b, _, rfl, SqT.of hb, dt_all (fun _ _ => dt_side) hS⟩
  unfold Dt
  refine ⟨t, _, rfl, SqT.of ht, ?_⟩
  unfold DtAll
  refine ⟨_, _, rfl, h1, ?_⟩
  unfold DtAll
  refine ⟨_, _, rfl, h2, ?_⟩
  unfold DtAll
  rfl
theorem shw_fr {f : Int × Nat} (h1 : f.1.natAbs < 2 ^ 200) (h2 : f.2 < 2 ^ 200) : Shw (frD f) 1 409 := by
  have := Shw.tuple (k := 0) (B := 201) (n := 2) (ds := [.int f.1, .int (f.2 : Nat)]) (fun d hd => by
    rcases List.mem_cons.mp hd with rfl | hd
    · exact Shw.int h1
    · cases List.mem_singleton.mp hd
      exact Shw.int (by rw [Int.natAbs_natCast]; exact h2)) (Nat.le_refl _)
  exact this
theorem shw_both {rows : List (List (Int × Nat))} {sides : List Two} {M : Nat} (W : Fits rows sides M) : Shw (.tuple [rowsD rows, sidesD sides]) 4 300000 := by
  have pw : ∀ x, x < 2 ^ M → x < 2 ^ 200 := fun x h => Nat.lt_of_lt_of_le h (Nat.pow_le_pow_right (by decide) W.m)
  have p4 : ∀ x, x < 2 ^ 4 → x < 2 ^ 200 := fun x h => Nat.lt_of_lt_of_le h (Nat.pow_le_pow_right (by decide) (by decide))
  have n16 := W.n16
  have h1 : Shw (rowsD rows) 3 105299 := Shw.tuple (k := 2) (B := 6579) (n := 16) (fun d hd => by
    obtain ⟨row, hm, rfl⟩ := List.mem_map.mp hd
    have sq := W.sq row hm
    exact Shw.tuple (k := 1) (B := 409) (n := 16) (fun e he => by
      obtain ⟨f, hf, rfl⟩ := List.mem_map.mp he
      obtain ⟨a, b⟩ := W.fr row hm f hf
      exact shw_fr (pw _ a) (pw _ b)) (by rw [List.length_map]; omega)) (by rw [List.length_map]; omega)
  have h2 : Shw (sidesD sides) 3 13235 := Shw.tuple (k := 2) (B := 825) (n := 16) (fun d hd => by
    obtain ⟨s, hm, rfl⟩ := List.mem_map.mp hd
    obtain ⟨a, b, c, d⟩ := W.si s hm
    exact Shw.tuple (k := 1) (B := 409) (n := 2) (fun e he => by
      rcases List.mem_cons.mp he with rfl | he
      · exact shw_fr (p4 _ a) (p4 _ b)
      · cases List.mem_singleton.mp he
        exact shw_fr (p4 _ c) (p4 _ d)) (Nat.le_refl _)) (by rw [List.length_map, W.sl]; omega)
  have := Shw.tuple (k := 3) (B := 105299) (n := 2) (ds := [rowsD rows, sidesD sides]) (fun d hd => by
    rcases List.mem_cons.mp hd with rfl | hd
    · exact h1
    · cases List.mem_singleton.mp hd
      exact ⟨h2.sh, h2.nd, h2.dp, Nat.le_trans h2.ln (by decide)⟩) (Nat.le_refl _)
  exact ⟨this.sh, this.nd, this.dp, Nat.le_trans this.ln (by decide)⟩
/-- what each side is like -/
structure SdOk (s : Two) : Prop where
  a : s.1.1.natAbs < 2 ^ 4
  b : s.1.2 < 2 ^ 4
  c : s.2.1.natAbs < 2 ^ 4
  d : s.2.2 < 2 ^ 4
  x : Int.gcd s.1.1 s.1.2 = 1
  y : Int.gcd s.2.1 s.2.2 = 1
theorem keepL {H H1 H2 : Hp} {p : Addr} (g : Same H H1) (n : H p = none) (b : SameBut p H1 H2) : Same H H2 := fun c o e => b c o (ne_of_none e n) (g c o e)
theorem ok_law (B : Fx) {f : Addr} {fd : FuncData} (F : Fun K "law" "law" s_law f fd) : FnOk P w K mg base CX0 46 f fd ["_law_script"] (spLaw K) := by
  refine F.ok sc_law (fun vs H Q E h => ?_) (fun cdv A outer s H vs Q E hr h => ?_)
  · obtain ⟨a, ns, rfl, _⟩ := h
    rfl
  obtain ⟨a, ns, rfl, hS, h63, q⟩ := h
  refine ⟨_, (pss_cons (pfor (pi_range1 rfl (B.z B.y10) (p1 (pe_callB (call_max2 rfl) rfl (B.z B.y0) PyProof.Rows.boot_max (p2 pe_int (pe_callB (call_min2 rfl) rfl (B.z B.y12) PyProof.Rows.boot_min (p2 (pe_callB call_len_seq rfl (B.z B.y3) PySem.boot_len (p1 (pv 0))) pe_int)))))) (pgn 1 sc_law.nd) (pss_cons (pst 2 sc_law.nd (pf (ok_law_pot B) hr (p2 (pv 0) (pv 1))))
      (pss_cons (pst 3 sc_law.nd (pf (ok_law_rows B) hr (p1 (pv 2))))
      (pss_cons (pst 4 sc_law.nd (pe_callTy call_tuple_of rfl (B.z B.y5) PyProof.Rows.boot_tuple (p1 (pe_lc1x (Nc := ["_law_row", "_law_pot_here"]) (js := [none, some 2]) rfl rfl (pi_tup (pv 3)) (CS.of rfl rfl) rfl (fun C s₂ H₂ fp pins => (pgc 0)) (fun C s₂ H₂ fp pins D L => (pt_tail0 (pb_app (pe_tup (p2 (pf (ok_law_any_fraction B) hr (p2 (pv 1) pe_int)) (pf (ok_law_any_fraction B) hr (p2 (pv 1) pe_int)))))))))))
      (pss_cons (pst 5 sc_law.nd (pe_callB (call_reprD hr.gd hr.units) rfl (B.z B.y13) PyProof.Rows.boot_repr (p1 (pe_tup (p2 (pv 3) (pv 4))))))
      (pss_cons (pst 6 sc_law.nd (pf (ok_solved B) hr (p2 (pv 3) (pv 4))))
      (pss_cons (ps_if (PW.pt (pw_or (pt_cmpR op_ne (pe_callB (call_reprD hr.gd hr.units) rfl (B.z B.y13) PyProof.Rows.boot_repr (p1 (pe_tup (p2 (pv 3) (pv 4))))) (pv 5) (nomark _)) (pw_or1 (pt_cmpR op_ne (pe_cmpR op_notN (pv 6) pe_non (nomark _)) (pf (ok_law_is_lone B) hr (p1 (pv 3))) (nomark _))))) (pss_one (ps_ret pe_bl)) pss_nil)
      (pss_one (ps_if (pt_cmpR op_notN (pv 6) pe_non (nomark _)) (pss_cons (ps_if (pt_not (pt_val (pf (ok_law_is_drawing B) hr (p2 (pv 6) (pe_callB call_len_seq rfl (B.z B.y3) PySem.boot_len (p1 (pv 3))))))) (pss_one (ps_ret pe_bl)) pss_nil)
      (pss_one (pfor (pi_zip false false rfl (B.z B.y8) (p2 (pv 3) (pv 4))) (pg_tup (n := 2) rfl (pgs_cons (pgn 7 sc_law.nd) (pgs_cons (pgn 8 sc_law.nd) pgs_nil))) (pss_one (ps_if (PW.pt (pw_or (pt_not (pt_val (pf (ok_law_comes B) hr (pa_cons (pv 7) (pa_cons (pv 6) (pa_cons (pv 8) (pa_cons pe_int pa_nil))))))) (pw_or1 (pt_not (pt_val (pf (ok_law_comes B) hr (pa_cons (pv 7) (pa_cons (pv 6) (pa_cons (pv 8) (pa_cons pe_int pa_nil)))))))))) (pss_one (ps_ret pe_bl)) pss_nil))))) pss_nil)))))))))
      (pss_one (ps_ret pe_bl))), ?_⟩
  try dsimp only [cxOf]
  have hl : (ns.map V.int).length = ns.length := List.length_map _
  refine ⟨_, rfl, a, _, rfl, .inl hS, _, 4, rfl, 1, _, rfl, ?_⟩
  rw [hl]
  generalize hj : (if (if 4 < (ns.length : Int) then 4 else (ns.length : Int)) > 1 then (if 4 < (ns.length : Int) then 4 else (ns.length : Int)) else 1) = j
  have j0 : 0 ≤ j := by rw [← hj]; split <;> omega
  have j1 : j ≤ 63 := by
    rw [← hj]
    split
    · split <;> omega
    · omega
  refine ⟨j, rfl, by omega, by omega, for_range (lo := 0) (n := j.toNat) (fun i σ H2 => ∃ (x1 x2 x3 x4 x5 x6 x7 x8 : Option V), σ = [some (.ref a), x1, x2, x3, x4, x5, x6, x7, x8] ∧ Same H H2)
    ⟨none, none, none, none, none, none, none, none, rfl, Same.refl H⟩ ?_ ?_⟩
  rotate_left
  · rintro σ H2 ⟨x1, x2, x3, x4, x5, x6, x7, x8, rfl, g⟩
    exact q _
  rintro i σ H2 hi ⟨x1, x2, x3, x4, x5, x6, x7, x8, rfl, g⟩
  refine ⟨_, rfl, _, rfl, a, ns, _, rfl, g.seq hS, h63, (by omega), (by omega), fun p x y H3 hx g3 hn hp => ?_⟩
  have pA : PotAt H3 p := ⟨x, y, hp, hx⟩
  have hnp : H p = none := g.free hn
  have gA : Same H H3 := g.trans g3
  clear hx hp hn g3 g
  refine ⟨_, rfl, p, rfl, pA, fun pr rs rows M H4 s4 p4 hr hR W0 => ?_⟩
  have g4 := keepL gA hnp s4
  clear gA s4 pA
  have npr : pr ≠ p := fun z => by
    subst z
    obtain ⟨x, y, e⟩ := p4.lst
    rw [hr] at e
    cases e
  have n16 := W0.n16
  refine ⟨_, rfl, pr, rfl, ⟨_, SqT.of hr⟩, fun D nD => ?_⟩
  have nDp := p4.ne nD
  refine walk_tup (xs := rs.map V.ref) (fun j σ H5 => ∃ (x0 : Option V) (us : List Addr) (ss : List Two), σ = [x0, some (.ref p)] ∧ SameBut p H4 H5 ∧ PotAt H5 p ∧ H5 D = some (.lst (us.map V.ref)) ∧ AllAt (fun H p r => p ≠ D ∧ SideR H p r) H5 us ss ∧ ss.length = j ∧ ∀ s ∈ ss, SdOk s) ⟨none, [], [], rfl, SameBut.of (same_new nD _), p4.kept (same_new nD _), upd_same, AllAt.nil, rfl, fun s h => by cases h⟩ ?_ ?_ ?_
  · rintro j σ H5 _ ⟨x0, us, ss, rfl, s5, _⟩
    exact SqT.of (s5 _ _ npr hr)
  · rintro j v σ H5 hv ⟨x0, us, ss, rfl, s5, p5, hD, hS, ls, ok⟩
    have hj : j < rs.length := by
      have := (List.getElem?_eq_some_iff.mp hv).1
      rwa [List.length_map] at this
    have lrs := hR.1
    refine ⟨_, rfl, p, 9, rfl, p5, by decide, by decide, fun q1 n1 d1 H6 s6 p6 f1 => ?_⟩
    refine ⟨_, rfl, p, 9, rfl, p6, by decide, by decide, fun q2 n2 d2 H7 s7 p7 f2 => ?_⟩
    refine ⟨(by show 2 ≤ sizeLine; decide), fun t nt => ?_⟩
    have gt := same_new nt (.tup [.ref q1, .ref q2])
    obtain ⟨a1, a2, a3, a4, a5⟩ := f1
    obtain ⟨b1, b2, b3, b4, b5⟩ := f2
    have m9 : (max (9 : Int) 6).toNat = 9 := by decide
    rw [m9] at a4 a5 b4 b5
    have hD7 := s7 _ _ nDp (s6 _ _ nDp hD)
    have hDt := gt _ _ hD7
    have ntD : t ≠ D := fun z => by subst z; rw [hD7] at nt; cases nt
    have hSt := hS.imp (R' := fun H p r => p ≠ D ∧ SideR H p r) fun p' r z => ⟨z.1, (SideR.potBut s7 p6 (SideR.potBut s6 p5 z.2)).kept gt⟩
    have fr1 := (FrR.potBut s7 p6 (fr_at a1 a2)).kept gt
    have fr2 := (fr_at b1 b2).kept gt
    have e1 : ((d1.toNat : Nat) : Int) = d1 := Int.toNat_of_nonneg (by omega)
    have e2 : ((d2.toNat : Nat) : Int) = d2 := Int.toNat_of_nonneg (by omega)
    refine ⟨_, hDt, ?_, _, us ++ [t], ss ++ [((n1, d1.toNat), (n2, d2.toNat))], rfl, SameBut.at' nD (s5.trans (s6.trans (s7.trans (SameBut.of gt)))), (p7.kept gt).other (Ne.symm nDp), ?_, ?_, ?_, ?_⟩
    · rw [List.length_map, hS.1, ls]
      exact small1000 (by omega)
    · rw [upd_same, List.map_append]
      rfl
    · exact (hSt.snoc ⟨ntD, q1, q2, upd_same, fr1, fr2⟩).imp fun p r z => ⟨z.1, z.2.but_at hDt z.1⟩
    · rw [List.length_append, ls]
      rfl
    · intro s h
      rcases List.mem_append.mp h with h | h
      · exact ok s h
      · cases List.mem_singleton.mp h
        refine ⟨?_, ?_, ?_, ?_, ?_, ?_⟩
        · show n1.natAbs < _; omega
        · show d1.toNat < _; omega
        · show n2.natAbs < _; omega
        · show d2.toNat < _; omega
        · show Int.gcd n1 ((d1.toNat : Nat) : Int) = 1; rw [e1]; exact a3
        · show Int.gcd n2 ((d2.toNat : Nat) : Int) = 1; rw [e2]; exact b3
  rintro σ H5 ⟨x0, us, ss, rfl, s5, p5, hD, hS, ls, ok⟩
  rw [List.length_map, hR.1] at ls
  refine ⟨D, _, rfl, .inl ⟨SqL.of hD, fun ps nps => ?_⟩⟩
  have g6 := same_new nps (.tup (us.map V.ref))
  have hps : upd H5 ps (.tup (us.map V.ref)) ps = some (.tup (us.map V.ref)) := upd_same
  have hr6 := g6 _ _ (s5 _ _ npr hr)
  have hR6 := hR.imp fun p' r z => (RowR.potBut s5 p4 z).kept g6
  have hS6 := hS.imp fun p' r z => z.2.kept g6
  have gH := (keepL g4 hnp s5).trans g6
  generalize upd H5 ps (.tup (us.map V.ref)) = H6 at *
  clear s5 p5 hD hS g6 nps nD p4 hr hR g4
  have W : Fits rows ss M := ⟨W0.n16, W0.sq, ls, W0.m, W0.nm, W0.fr, fun s h => ⟨(ok s h).a, (ok s h).b, (ok s h).c, (ok s h).d⟩⟩
  have sw := shw_both W
  have pos : ∀ row ∈ rows, ∀ f ∈ row, 0 < f.2 := fun row hm => by
    obtain ⟨i, hi, e⟩ := List.getElem_of_mem hm
    obtain ⟨p, _, hr⟩ := hR6.at (e ▸ List.getElem?_eq_getElem hi)
    exact hr.pos
  have rep : ∀ (H' : Hp) (t : Addr), Same H6 H' → H' t = none → Dt K (upd H' t (.tup [.ref pr, .ref ps])) (.tuple [rowsD rows, sidesD ss]) (.ref t) := fun H' t g n => by
    have g' := g.trans (same_new n (.tup [.ref pr, .ref ps]))
    exact dt_both upd_same (g' _ _ hr6) (g' _ _ hps) (hR6.imp fun _ _ => RowR.kept g') (hS6.imp fun _ _ => SideR.kept g')
  refine ⟨_, rfl, _, rfl, (by show 2 ≤ sizeLine; decide), fun t1 nt1 => ?_⟩
  refine ⟨t1, _, rfl, rep _ _ (Same.refl _) nt1, sw.sh, sw.nd, Nat.le_trans sw.dp (by decide), Nat.le_trans sw.ln (by decide), ?_⟩
  have g7 := same_new nt1 (.tup [.ref pr, .ref ps])
  generalize upd H6 t1 (.tup [.ref pr, .ref ps]) = H7 at *
  refine ⟨_, rfl, _, rfl, pr, ps, rs, us, rows, ss, M, rfl, g7 _ _ hr6, g7 _ _ hps, hR6.imp fun _ _ => RowR.kept g7, hS6.imp fun _ _ => SideR.kept g7, W, ?_, ?_⟩
  · rintro H8 g8 ⟨B, cB, lB⟩
    have g78 := g7.trans g8
    refine ⟨_, rfl, _, rfl, (by show 2 ≤ sizeLine; decide), fun t2 nt2 => ?_⟩
    refine ⟨t2, _, rfl, rep _ _ g78 nt2, sw.sh, sw.nd, Nat.le_trans sw.dp (by decide), Nat.le_trans sw.ln (by decide), ?_⟩
    have g9 := g78.trans (same_new nt2 (.tup [.ref pr, .ref ps]))
    refine ⟨_, rfl, rfl, _, rfl, ?_⟩
    rw [decide_eq_true rfl]
    refine iteF ?_
    refine ⟨_, rfl, rfl, _, rfl, pr, rs, rows, ss, M, rfl, g9 _ _ hr6, hR6.imp fun _ _ => RowR.kept g9, W, fun k H10 g10 ⟨B', cB', e'⟩ => ?_⟩
    have hk : k = false := by
      cases k with
      | false => rfl
      | true => exact absurd (Clears.lone W.sq pos cB' cB (e'.mp rfl)) lB
    subst hk
    refine ⟨rfl, _, rfl, ?_⟩
    rw [decide_eq_true (show V.non = V.non from rfl), decide_eq_true (show V.bl (!true) = V.bl false from rfl)]
    refine iteF ?_
    refine ⟨_, rfl, rfl, _, rfl, ?_⟩
    rw [decide_eq_true (show V.non = V.non from rfl)]
    refine iteF ?_
    exact ⟨_, _, _, _, _, _, _, _, rfl, gH.trans (g9.trans g10)⟩
  · rintro fp fs pts H8 g8 hfp hpts ⟨B, cB, lB⟩ SV
    have g78 := g7.trans g8
    refine ⟨_, rfl, _, rfl, (by show 2 ≤ sizeLine; decide), fun t2 nt2 => ?_⟩
    refine ⟨t2, _, rfl, rep _ _ g78 nt2, sw.sh, sw.nd, Nat.le_trans sw.dp (by decide), Nat.le_trans sw.ln (by decide), ?_⟩
    have gt := same_new nt2 (.tup [.ref pr, .ref ps])
    have g9 := g78.trans gt
    refine ⟨_, rfl, rfl, _, rfl, ?_⟩
    rw [decide_eq_true rfl]
    refine iteF ?_
    refine ⟨_, rfl, rfl, _, rfl, pr, rs, rows, ss, M, rfl, g9 _ _ hr6, hR6.imp fun _ _ => RowR.kept g9, W, fun k H10 g10 ⟨B', cB', e'⟩ => ?_⟩
    have hk : k = true := e'.mpr (Clears.lone W.sq pos cB cB' lB)
    subst hk
    have nn : V.ref fp ≠ V.non := fun z => by cases z
    refine ⟨rfl, _, rfl, ?_⟩
    rw [decide_eq_false nn, decide_eq_true (show V.bl (!false) = V.bl true from rfl)]
    refine iteF ?_
    refine ⟨_, rfl, rfl, _, rfl, ?_⟩
    rw [decide_eq_false nn]
    refine iteT ?_
    have g610 := g9.trans g10
    have g810 := gt.trans g10
    refine ⟨_, rfl, _, rfl, pr, _, rfl, .inr (SqT.of (g610 _ _ hr6)), fp, fs, pts, _, rfl, g810 _ _ hfp, hpts.imp fun _ _ => SideR.kept g810, by rw [List.length_map, hR6.1, SV.len], SV.red, fun H11 g11 => ?_⟩
    refine ⟨_, rfl, iteF ?_⟩
    have g611 := g610.trans g11
    have g811 := g810.trans g11
    refine ⟨_, rfl, _, rfl, pr, ps, rfl, ⟨_, SqT.of (g611 _ _ hr6)⟩, ⟨_, SqT.of (g611 _ _ hps)⟩, ?_⟩
    refine for_zip (k1 := false) (k2 := false) (xs := rs.map V.ref) (ys := us.map V.ref) (fun j σ H12 => ∃ (x1 x2 x5 x7 x8 : Option V), σ = [some (.ref a), x1, x2, some (.ref pr), some (.ref ps), x5, some (.ref fp), x7, x8] ∧ Same H11 H12) (by rw [List.length_map, List.length_map, hR6.1, hS6.1, ls]) ⟨_, _, _, _, _, rfl, Same.refl _⟩ ?_ ?_ ?_
    · rintro j σ H12 _ ⟨x1, x2, x5, x7, x8, rfl, g12⟩
      exact ⟨SqT.of (g12 _ _ (g611 _ _ hr6)), SqT.of (g12 _ _ (g611 _ _ hps))⟩
    · rintro j v w Z σ H12 hv hw nZ ⟨x1, x2, x5, x7, x8, rfl, g12⟩
      rw [List.getElem?_map] at hv hw
      obtain ⟨rp, hrp, rfl⟩ := Option.map_eq_some_iff.mp hv
      obtain ⟨sp, hsp, rfl⟩ := Option.map_eq_some_iff.mp hw
      obtain ⟨row, er, hrow⟩ := hR6.get hrp
      obtain ⟨sd, es, hsd⟩ := hS6.get hsp
      have gZ := g12.trans (same_new nZ (.tup [.ref rp, .ref sp]))
      have g6Z := g611.trans gZ
      have g8Z := g811.trans gZ
      have hm := List.mem_of_getElem? er
      have sq := W.sq row hm
      have pw : ∀ x, x < 2 ^ M → x < 2 ^ 200 := fun x h => Nat.lt_of_lt_of_le h (Nat.pow_le_pow_right (by decide) W.m)
      have bR : ∀ f ∈ row, f.1.natAbs < 2 ^ 200 ∧ f.2 < 2 ^ 200 := fun f hf => ⟨pw _ (W.fr row hm f hf).1, pw _ (W.fr row hm f hf).2⟩
      have so := ok sd (List.mem_of_getElem? es)
      have lp : pts.length = row.length := by rw [SV.len, sq]
      obtain ⟨L, gg, L0, hg, hs⟩ := SV.x j row sd er es
      obtain ⟨L', gg', L0', hg', hs'⟩ := SV.y j row sd er es
      rw [← sq] at hs hs'
      refine ⟨Z, _, rfl, SqT.of upd_same, rfl, _, _, rfl, _, _, rfl, rfl, ?_⟩
      refine ⟨_, rfl, _, rfl, _, rfl, rp, fp, sp, false, fs, row, pts, sd, L, gg, rfl, hrow.kept g6Z, g8Z _ _ hfp, hpts.imp fun _ _ => SideR.kept g8Z, hsd.kept g6Z, by omega, lp, bR, fun pt h => ⟨(SV.bits pt h).1, (SV.bits pt h).2.1⟩, L0, hg, hs, so.x, fun H13 g13 => ?_⟩
      refine ⟨_, rfl, iteF ?_⟩
      have g6Z := g6Z.trans g13
      have g8Z := g8Z.trans g13
      refine ⟨_, rfl, _, rfl, _, rfl, rp, fp, sp, true, fs, row, pts, sd, L', gg', rfl, hrow.kept g6Z, g8Z _ _ hfp, hpts.imp fun _ _ => SideR.kept g8Z, hsd.kept g6Z, by omega, lp, bR, fun pt h => (SV.bits pt h).2.2, L0', hg', hs', so.y, fun H14 g14 => ?_⟩
      refine ⟨_, rfl, iteF ?_⟩
      exact ⟨_, _, _, _, _, rfl, gZ.trans (g13.trans g14)⟩
    · rintro σ H12 ⟨x1, x2, x5, x7, x8, rfl, g12⟩
      exact ⟨_, _, _, _, _, _, _, _, rfl, gH.trans (g611.trans g12)⟩
--SPLIT
theorem all_mk {l : PySem.W.OpenLaw} {w : World} {K : PySem.W.Frag} {h : Heap} {mg : Str → Option Value} {fa : Addr} (X : K.In h) (G : h.Ns mainGlobals mg) (hfa : mg "law" = some (.ref fa)) (B : FxG l.prog K mg) : ∃ fd : FuncData, (∀ (s : Shared) (v : Value), BindsTo s fd ⟨[v], []⟩ [("_law_script", v)]) ∧ ∀ base : Heap, K.In base → base.Ns mainGlobals mg → FnOk l.prog w K mg base CX0 46 fa fd ["_law_script"] (spLaw K) := by
  obtain ⟨f, fd, e, F⟩ := B.d22
  cases hfa.symm.trans (PySem.W.mg_of X G e)
  refine ⟨fd, fun s v => ?_, fun base _ _ => ?_⟩
  · obtain ⟨oc, od, kV, doc, pm, an, cdv, ct, osl, rfl, _⟩ := F.ex
    exact .of_eq rfl
  refine Classical.byContradiction fun n => ?_
  obtain ⟨B', f', fd', F', n'⟩ : Bad c0 := Classical.epsilon_spec ⟨⟨l.prog, w, K, mg, base⟩, B, fa, fd, F, n⟩
  exact n' (ok_law B' F')
theorem walk {l : PySem.W.OpenLaw} {q : Program} {loose : List Str} {XP : (Str → Option Value) → Heap → Prop} {YP : World → Heap → Prop} {d : DefRec} {K : Params → PySem.W.Frag} (hn : l.most = some 63) (hdf : d.params.defaults = [])
    (hY : ∀ (w : World) (h : Heap), YP w h → (K w.params).In h)
    (F : ∀ (w : World) (mg : Str → Option Value) (fa : Addr) (h : Heap), (K w.params).In h → h.Ns mainGlobals mg → mg d.name = some (.ref fa) →
      ∃ fd : FuncData, (∀ (s : Shared) (u : Value), BindsTo s fd ⟨[u], []⟩ [("_law_script", u)]) ∧ ∀ base : Heap, (K w.params).In base → base.Ns mainGlobals mg → FnOk l.prog w (K w.params) mg base CX0 46 fa fd ["_law_script"] (spLaw (K w.params))) (hq : PyProof.Rows.importsNone q = true := by first | assumption | decide +kernel) :
    PySem.W.WalkO q loose XP YP l.row.toRowW d [] (fun f vs => PySem.call f vs) :=
  L2.walk_of (n := 63) (k := 46) (x := "_law_script") (CX := fun _ => CX0) (sp := fun w => spLaw (K w.params)) hn (by decide) hdf ⟨rfl, by decide, by decide, rfl⟩ hY F (fun _ _ a ns hl _ hS => ⟨a, ns, rfl, hS, hl, fun _ => rfl⟩) fun _ _ _ _ _ z => z
end Prf
def PySem.W.Fast.tw7859879860479109248 : Nat := 0
def PySem.W.Fast.tw18400760109057317155 : Nat := 0
def PySem.W.Fast.tw12903139699373840468 : Nat := 0
def PySem.W.Fast.tw2182347946043419798 : Nat := 0
def PySem.W.Fast.tw3224763150084150044 : Nat := 0
def PySem.W.Fast.tw7603107968558591901 : Nat := 0
def PySem.W.Fast.tw14675882792381813214 : Nat := 0
open PySem PySem.W PyProof.Rows
set_option maxRecDepth 100000 in
set_option maxHeartbeats 0 in
theorem PySem.Challenge.cw_restdraw_k31_solved_holds : PySem.Challenge.rw_restdraw_k31_solved.Holds := by
  w_on; o_law; k_head; (case hw => w_witness2)
  k_fill
  refine Prf.walk (l := PySem.Challenge.rw_restdraw_k31_solved) rfl rfl (fun w h Y => PySem.W.kIn_of Y) ?F
  case F =>
    intro w mg fa h KX G hmg
    refine' Prf.all_mk KX G hmg ?_
    apply Prf.FxG.mk ⟨_, KX, G⟩ rfl <;> first | (refine' L2.df_mk ?a ?l ?c ?k; (case a => k_is); (case l => k_is); (case c => k_is); (case k => k_is)) | (refine' L2.cn_mk ?a ?l ?v; (case a => k_is); (case l => k_is); (case v => first | rfl | decide)) | (refine' L2.cv_mk ?a ?v; (case a => k_is); (case v => first | rfl | decide +kernel)) | k_is
