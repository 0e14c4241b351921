import PyProof.Rows.All
import Wide.All
import OpenK.AllK
import Wide.FinOn
import Lean
import PyProof.EqAt
import PyProof.EqKinds
import PyProof.TupleCall
import PyProof.ListRange
import PyProof.StrCalls2
import PyProof.StrWalks
import PyProof.EnumMake
import PyProof.Rows.Range3
import PyProof.SliceStr
import PyProof.StrLawsChain
import PyProof.DictValues
import PyProof.StrLawsIdx
import KE.KDictList
import PyProof.ExcInit
import PyProof.StationsW
import PyProof.ExcArgsOwn
import PyProof.InstStoreFacts
import KE.KIsAll
import PyProof.ExcBaseAll.ValueError
import PyProof.RulesAs
import PyProof.NsDelKeeps
import PyProof.Rows.StrJoin2
import PySem.Challenge.RW_restdraw_k92_texts_that_are_no_pictures
set_option Elab.async false
set_option linter.all false
set_option maxRecDepth 100000
local macro_rules | `(tactic| omega) => `(tactic| lia)
noncomputable section
namespace L2
open PySem PySem.Spec PyProof.Rows

/-- a key: an int or a str -/
abbrev Key := Sum Int Str
def keyIs : Key → Value → Bool
  | .inl k, v => Value.isInt k v
  | .inr x, v => Value.isStrOf x v
def keyH (w : World) : Key → Int
  | .inl k => hashInt k
  | .inr x => hashStr w x
theorem keyIs_shape : ∀ {k : Key} {v : Value}, keyIs k v = true → (∃ i t, k = Sum.inl i ∧ v = Value.int i t) ∨ (∃ x t, k = Sum.inr x ∧ v = Value.str x t)
  | .inl i, v, h => by
    obtain ⟨t, e⟩ := Value.isInt_shape (k := i) (v := v) h
    exact .inl ⟨i, t, rfl, e⟩
  | .inr x, v, h => by
    obtain ⟨t, e⟩ := Value.isStrOf_shape (x := x) (v := v) h
    exact .inr ⟨x, t, rfl, e⟩
theorem keyIs_int (i : Int) (t : Tok) : keyIs (.inl i) (.int i t) = true := by simp [keyIs, Value.isInt]
theorem keyIs_str (x : Str) (t : Tok) : keyIs (.inr x) (.str x t) = true := by simp [keyIs, Value.isStrOf]
theorem key_ll (a b : Int) : decide ((Sum.inl a : Key) = Sum.inl b) = (a == b) := by
  by_cases e : a = b
  · subst e; simp
  · have h : ¬ (Sum.inl a : Key) = Sum.inl b := fun q => e (Sum.inl.inj q)
    rw [decide_eq_false h]
    exact (beq_eq_false_iff_ne.mpr e).symm
theorem key_rr (a b : Str) : decide ((Sum.inr a : Key) = Sum.inr b) = decide (a = b) := by
  by_cases e : a = b
  · subst e; simp
  · have h : ¬ (Sum.inr a : Key) = Sum.inr b := fun q => e (Sum.inr.inj q)
    rw [decide_eq_false h, decide_eq_false e]
theorem key_lr (a : Int) (b : Str) : decide ((Sum.inl a : Key) = Sum.inr b) = false := decide_eq_false (fun q => nomatch q)
theorem key_rl (a : Str) (b : Int) : decide ((Sum.inr a : Key) = Sum.inl b) = false := decide_eq_false (fun q => nomatch q)

def mixKind (prog : Program) (w : World) : PySem.KeyKind prog w Key where
  is := keyIs
  hash := keyH w
  inj := fun v a b ha hb => by
    rcases keyIs_shape ha with ⟨i, t, rfl, rfl⟩ | ⟨x, t, rfl, rfl⟩
    · rcases keyIs_shape hb with ⟨j, u, rfl, e⟩ | ⟨y, u, rfl, e⟩
      · injection e with e1 _; rw [e1]
      · exact nomatch e
    · rcases keyIs_shape hb with ⟨j, u, rfl, e⟩ | ⟨y, u, rfl, e⟩
      · exact nomatch e
      · injection e with e1 _; rw [e1]
  byValue := fun k v h => by
    rcases keyIs_shape h with ⟨i, t, rfl, rfl⟩ | ⟨x, t, rfl, rfl⟩ <;> rfl
  pyHash := fun hv h => by
    rcases keyIs_shape hv with ⟨i, t, rfl, rfl⟩ | ⟨x, t, rfl, rfl⟩
    · exact wpAny_pyHash_int h
    · exact wpAny_pyHash_str h
  eqBool := fun hu hv h => by
    rcases keyIs_shape hu with ⟨i, t, rfl, rfl⟩ | ⟨x, t, rfl, rfl⟩
    · rcases keyIs_shape hv with ⟨j, u, rfl, rfl⟩ | ⟨y, u, rfl, rfl⟩
      · rw [key_ll] at h; exact wpAny_eqBool_int h
      · rw [key_lr] at h; exact SeqAt.EqAt.int_str i t y u _ _ _ _ h
    · rcases keyIs_shape hv with ⟨j, u, rfl, rfl⟩ | ⟨y, u, rfl, rfl⟩
      · rw [key_rl] at h; exact SeqAt.EqAt.str_int x t j u _ _ _ _ h
      · rw [key_rr] at h; exact wpAny_eqBool_str h
  «strs» := fun k x t v h => by
    rcases keyIs_shape h with ⟨i, u, rfl, e⟩ | ⟨y, u, rfl, e⟩
    · exact nomatch e
    · injection e with e1 _
      subst e1
      cases v <;> rfl

theorem mixKind_int (prog : Program) (w : World) (i : Int) (t : Tok) : (mixKind prog w).is (.inl i) (.int i t) = true := keyIs_int i t
theorem mixKind_str (prog : Program) (w : World) (x : Str) (t : Tok) : (mixKind prog w).is (.inr x) (.str x t) = true := keyIs_str x t
end L2

namespace L2
open PySem PySem.Spec PyProof.Rows

/-- a value, without the heap -/
inductive V where
  | non | bl (b : Bool) | int (i : Int) | str (x : Str) | byt (b : Array UInt8) | flt (b : UInt64) | ref (a : Addr) | ty (n : String)
  deriving DecidableEq

def RelV : V → Value → Prop
  | .non, u => u = Value.none
  | .bl b, u => u = Value.bool b
  | .int i, u => ∃ t, u = Value.int i t
  | .str x, u => ∃ t, u = Value.str x t
  | .byt b, u => ∃ t, u = Value.bytes b t
  | .flt b, u => ∃ t, u = Value.float b t
  | .ref a, u => u = Value.ref a
  | .ty n, u => u = Value.type n

abbrev Vals : List V → List Value → Prop := Paired RelV
theorem Vals.length {xs : List V} {us : List Value} (r : Vals xs us) : xs.length = us.length := Paired.length r
theorem Vals.get : ∀ {xs : List V} {us : List Value} {i : Nat} {x : V}, Vals xs us → xs[i]? = some x → ∃ u, us[i]? = some u ∧ RelV x u
  | _, _, _, _, .nil, e => by simp at e
  | _, _, 0, _, .cons r _, e => by simp at e; subst e; exact ⟨_, rfl, r⟩
  | _, _, i + 1, x, .cons _ t, e => by
    obtain ⟨u, h1, h2⟩ := Vals.get (i := i) (x := x) t (by simpa using e)
    exact ⟨u, by simpa using h1, h2⟩
theorem Vals.set {x : V} {u : Value} (r : RelV x u) : ∀ {xs : List V} {us : List Value} (i : Nat), Vals xs us → Vals (xs.set i x) (us.set i u)
  | _, _, _, .nil => .nil
  | _, _, 0, .cons _ t => .cons r t
  | _, _, i + 1, .cons q t => .cons q (Vals.set r i t)
theorem Vals.append : ∀ {xs ys : List V} {us ws : List Value}, Vals xs us → Vals ys ws → Vals (xs ++ ys) (us ++ ws)
  | _, _, _, _, .nil, s => s
  | _, _, _, _, .cons r t, s => .cons r (Vals.append t s)
theorem Vals.take : ∀ {xs : List V} {us : List Value} (n : Nat), Vals xs us → Vals (xs.take n) (us.take n)
  | _, _, 0, _ => .nil
  | _, _, _ + 1, .nil => .nil
  | _, _, n + 1, .cons r t => .cons r (Vals.take n t)
theorem Vals.drop : ∀ {xs : List V} {us : List Value} (n : Nat), Vals xs us → Vals (xs.drop n) (us.drop n)
  | _, _, 0, r => r
  | _, _, _ + 1, .nil => .nil
  | _, _, n + 1, .cons _ t => Vals.drop n t
def RelO : Option V → Option Value → Prop
  | some v, some u => RelV v u
  | none, none => True
  | _, _ => False
def KV {κ : Type} : List (κ × V) → List (κ × Value) → Prop := Paired fun (p : κ × V) (q : κ × Value) => p.1 = q.1 ∧ RelV p.2 q.2

/-- a key of a dict (00_mix): an int or a text -/
def kV : Key → V
  | .inl i => .int i
  | .inr x => .str x

/-- what stands at a tracked address -/
inductive HO where
  /-- a list -/
  | lst (xs : List V)
  /-- a tuple (never changes) -/
  | tup (xs : List V)
  /-- a dict whose keys are ints and texts; one whose keys are tuples of ints and texts (the empty one is both) -/
  | dK (kvs : List (Key × V)) | dT (kvs : List (List Key × V))
  /-- a set of ints: its members, its size -/
  | set (S : Int → Bool) (n : Nat)
  /-- an instance of the class at C, its dict at dx, its attributes -/
  | ins (C dx : Addr) (fs : List (Str × V))
  /-- the dict of the instance at x -/
  | own (x : Addr)
  /-- the dict of an exception -/
  | xd (fs : List (Str × V))
  /-- a bound method, f of x -/
  | met (f x : Addr)
  /-- a range object lo, lo + 1, .. below hi -/
  | rng (lo hi : Int)
  /-- a thing that is known to the object (the script; a dict while a loop walks it): read, never written while it is so -/
  | frz (o : Obj) (u : HO)
  /-- a code object's table -/
  | tbl (ps : Array Value)
  /-- any other thing, by what is true of its one object (a def of one's own: SetO a S n := HO.ext fun h => ..) -/
  | ext (φ : Heap → Prop)

abbrev Hp := Addr → Option HO
def upd (H : Hp) (a : Addr) (o : HO) : Hp := fun b => if b = a then some o else H b
theorem upd_same {H : Hp} {a : Addr} {o : HO} : upd H a o a = some o := by unfold upd; rw [if_pos rfl]
theorem upd_ne {H : Hp} {a b : Addr} {o : HO} (h : b ≠ a) : upd H a o b = H b := by unfold upd; rw [if_neg h]
/-- two objects of different content stand apart -/
theorem ne_of {H : Hp} {a b : Addr} {o u : HO} (h : H a = some o) (h' : H b = some u) (d : o ≠ u) : a ≠ b := by
  intro e; subst e; rw [h] at h'; exact d (Option.some.inj h')
theorem ne_of_none {H : Hp} {a b : Addr} {o : HO} (h : H a = some o) (h' : H b = none) : a ≠ b := by
  intro e; subst e; rw [h] at h'; cases h'

section
/-- a tuple that has no dict of its own -/
def IsTupN (h : Heap) (a : Addr) (items : Array Value) : Prop := ∃ o, h.get? a = some o ∧ o.cls = .type "tuple" ∧ ∃ n, o.data = .seq items n ∧ o.dict = none
theorem IsTupN.isTup {h : Heap} {a : Addr} {items : Array Value} : IsTupN h a items → IsTup h a items := fun ⟨o, e, c, n, d, _⟩ => ⟨o, e, c, n, d⟩
theorem IsTupN.lt {h : Heap} {a : Addr} {items : Array Value} (x : IsTupN h a items) : a < h.objs.size := x.isTup.lt
theorem IsTupN.new (h : Heap) (items : Array Value) : IsTupN (h.push { cls := .type "tuple", data := .seq items }) h.objs.size items := ⟨_, Heap.get?_push_size _ rfl, rfl, _, rfl, rfl⟩
variable (P : Program) (w : World)
def ObjOk (H : Hp) (h : Heap) (a : Addr) : HO → Prop
  | .lst xs => xs.length ≤ sizeLine ∧ ∃ (its : List Value) (n : Nat), Vals xs its ∧ h.get? a = some { cls := .type "list", data := .seq its.toArray n }
  | .tup xs => xs.length ≤ sizeLine ∧ ∃ its : List Value, Vals xs its ∧ IsTupN h a its.toArray
  | .dK kvs => kvs.length ≤ sizeLine ∧ (a == sysModules) = false ∧ ∃ vs, KV kvs vs ∧ h.DictOf (mixKind P w) a vs
  | .dT kvs => kvs.length ≤ sizeLine ∧ (a == sysModules) = false ∧ ∃ xs : List (List Key × Addr × Value),
      Paired (fun (p : List Key × V) (q : List Key × Addr × Value) => p.1 = q.1 ∧ H q.2.1 = some (.tup (p.1.map kV)) ∧ RelV p.2 q.2.2) kvs xs ∧
      ∃ o es ep, h.get? a = some o ∧ o.ExactDict ∧ o.data = .dict es ep ∧ es.toList = xs.map (entryOfKey (tupleKind (mixKind P w))) ∧ (xs.map (·.1)).Nodup
  | .set S n => h.SetOf (intKind P w) a S n
  | .ins C dx fs => H dx = some (.own a) ∧ fs.length ≤ 1000 ∧ dx ≠ a ∧ h.get? a = some (PySem.W.instObj C dx) ∧
      ∃ mA, h.Ns1 dx mA ∧ (∀ f, RelO (fs.lookup f) (mA f)) ∧ PySem.Within mA (fs.map (·.1))
  | .own _ => ∃ o, h.get? a = some o
  | .xd fs => ∃ mA, h.Ns1 a mA ∧ ∀ f, RelO (fs.lookup f) (mA f)
  | .rng lo hi => ∃ t u v, h.get? a = some { cls := .type "range", data := .fields #[.int lo t, .int hi u, .int 1 v] }
  | .frz o u => h.get? a = some o ∧ ObjOk H h a u
  | .tbl ps => h.get? a = some { cls := .none, data := .fields ps }
  | .met f x => h.get? a = some (PySem.W.methodObj (.ref f) (.ref x))
  | .ext φ => φ h ∧ (∃ o, h.get? a = some o) ∧ ∀ h1 h2 : Heap, φ h1 → (∀ o, h1.get? a = some o → h2.get? a = some o) → φ h2
/-- the abstract heap is held -/
def HOk (H : Hp) (h : Heap) : Prop := ∀ a o, H a = some o → ObjOk P w H h a o
end

section
variable {P : Program} {w : World} {H H' : Hp} {h h' : Heap} {a : Addr} {o : HO}
theorem ObjOk.lt (x : ObjOk P w H h a o) : a < h.objs.size := by
  cases o with
  | lst xs => obtain ⟨_, _, _, _, e⟩ := x; exact Heap.lt_size e
  | tup xs => obtain ⟨_, _, _, p⟩ := x; exact p.lt
  | dK kvs => obtain ⟨_, _, _, _, o, _, _, e, _⟩ := x; exact Heap.lt_size e
  | dT kvs => obtain ⟨_, _, _, _, o, _, _, e, _⟩ := x; exact Heap.lt_size e
  | set S n => obtain ⟨o, _, _, _, e, _⟩ := x; exact Heap.lt_size e
  | ins C dx fs => obtain ⟨_, _, _, e, _⟩ := x; exact Heap.lt_size e
  | own y => obtain ⟨_, e⟩ := x; exact Heap.lt_size e
  | xd fs => obtain ⟨_, ⟨_, _, _, e, _⟩, _⟩ := x; exact Heap.lt_size e
  | rng lo hi => obtain ⟨_, _, _, e⟩ := x; exact Heap.lt_size e
  | frz ob u => obtain ⟨e, _⟩ := x; exact Heap.lt_size e
  | tbl ps => exact Heap.lt_size (show h.get? a = some _ from x)
  | met f y => exact Heap.lt_size (show h.get? a = some _ from x)
  | ext φ => obtain ⟨_, ⟨_, e⟩, _⟩ := x; exact Heap.lt_size e
theorem Paired.mapP {α β : Type} {F G : α → β → Prop} : ∀ {l₁ : List α} {l₂ : List β}, Paired F l₁ l₂ → (∀ a b, F a b → G a b) → Paired G l₁ l₂
  | _, _, .nil, _ => .nil
  | _, _, .cons r t, f => .cons (f _ _ r) (Paired.mapP t f)
/-- what an object's description leans on: its own object, its own dict, the tuples -/
theorem ObjOk.stay (x : ObjOk P w H h a o) (k : ∀ b u, (b = a ∨ H b = some (.own a)) → h.get? b = some u → h'.get? b = some u)
    (ho : ∀ b, H b = some (.own a) → H' b = some (.own a)) (ht : ∀ b xs, H b = some (.tup xs) → H' b = some (.tup xs)) : ObjOk P w H' h' a o := by
  induction o with
  | lst xs => obtain ⟨z, its, n, r, e⟩ := x; exact ⟨z, its, n, r, k _ _ (.inl rfl) e⟩
  | tup xs => obtain ⟨z, its, r, ob, e, c⟩ := x; exact ⟨z, its, r, ob, k _ _ (.inl rfl) e, c⟩
  | dK kvs => obtain ⟨z, y, vs, r, ob, es, ep, e, c⟩ := x; exact ⟨z, y, vs, r, ob, es, ep, k _ _ (.inl rfl) e, c⟩
  | dT kvs =>
    obtain ⟨z, y, xs, r, ob, es, ep, e, c⟩ := x
    exact ⟨z, y, xs, Paired.mapP r fun p q z => ⟨z.1, ht _ _ z.2.1, z.2.2⟩, ob, es, ep, k _ _ (.inl rfl) e, c⟩
  | set S n => obtain ⟨ob, es, ep, t, e, c⟩ := x; exact ⟨ob, es, ep, t, k _ _ (.inl rfl) e, c⟩
  | ins C dx fs =>
    obtain ⟨d, z, ne, e, mA, ⟨od, es, ep, e2, c⟩, r⟩ := x
    exact ⟨ho _ d, z, ne, k _ _ (.inl rfl) e, mA, ⟨od, es, ep, k _ _ (.inr d) e2, c⟩, r⟩
  | own y => obtain ⟨ob, e⟩ := x; exact ⟨ob, k _ _ (.inl rfl) e⟩
  | xd fs => obtain ⟨mA, ⟨od, es, ep, e, c⟩, r⟩ := x; exact ⟨mA, ⟨od, es, ep, k _ _ (.inl rfl) e, c⟩, r⟩
  | rng lo hi => obtain ⟨t, u, v, e⟩ := x; exact ⟨t, u, v, k _ _ (.inl rfl) e⟩
  | frz ob u ih => obtain ⟨e, q⟩ := x; exact ⟨k _ _ (.inl rfl) e, ih q⟩
  | tbl ps =>
    have e : h.get? a = some { cls := .none, data := .fields ps } := x
    show h'.get? a = some { cls := .none, data := .fields ps }
    exact k a _ (.inl rfl) e
  | met f y =>
    have e : h.get? a = some (PySem.W.methodObj (.ref f) (.ref y)) := x
    show h'.get? a = some (PySem.W.methodObj (.ref f) (.ref y))
    exact k a _ (.inl rfl) e
  | ext φ => obtain ⟨p, ⟨o, e⟩, st⟩ := x; exact ⟨st _ _ p fun o q => k _ _ (.inl rfl) q, ⟨o, k _ _ (.inl rfl) e⟩, st⟩
theorem HOk.lt (x : HOk P w H h) (e : H a = some o) : a < h.objs.size := (x a o e).lt
theorem HOk.fresh (x : HOk P w H h) (e : h.objs.size ≤ a) : H a = none := by
  cases q : H a with
  | none => rfl
  | some u => exact absurd (Nat.lt_of_lt_of_le (x.lt q) e) (Nat.lt_irrefl _)
/-- every object of the heap is kept -/
theorem HOk.kept (x : HOk P w H h) (k : ∀ b u, h.get? b = some u → h'.get? b = some u) : HOk P w H h' := fun a o e =>
  (x a o e).stay (fun b u _ q => k b u q) (fun _ q => q) fun _ _ q => q
/-- a new object is laid and tracked -/
theorem HOk.laid (x : HOk P w H h) (k : ∀ b u, h.get? b = some u → h'.get? b = some u) (hp : h.objs.size ≤ a) (new : ObjOk P w (upd H a o) h' a o) : HOk P w (upd H a o) h' := fun b u e => by
  have hn := x.fresh hp
  by_cases hb : b = a
  · subst hb; rw [upd_same] at e; cases e; exact new
  · rw [upd_ne hb] at e
    exact (x b u e).stay (fun c v _ q => k c v q) (fun c q => by rw [upd_ne (ne_of_none q hn)]; exact q) fun c xs q => by rw [upd_ne (ne_of_none q hn)]; exact q
end

/-- what may be read as u: it is u, or a known u -/
def Rd (H : Hp) (a : Addr) (u : HO) : Prop := H a = some u ∨ ∃ o, H a = some (.frz o u)
theorem Rd.of {H : Hp} {a : Addr} {u : HO} (h : H a = some u) : Rd H a u := .inl h
theorem Rd.ok {P : Program} {w : World} {H : Hp} {h : Heap} {a : Addr} {u : HO} (r : Rd H a u) (x : HOk P w H h) : ObjOk P w H h a u := by
  rcases r with r | ⟨o, r⟩
  · exact x a u r
  · obtain ⟨_, q⟩ := x a _ r
    exact q
/-- what may be written -/
def Mut : Option HO → Prop
  | some (.lst _) => True
  | some (.dK _) => True
  | some (.dT _) => True
  | some (.set _ _) => True
  | some (.ins _ _ _) => True
  | some (.ext _) => True
  | _ => False
section
variable {P : Program} {w : World} {H : Hp} {h h' : Heap} {x e : Addr} {o' : HO}
/-- the object at e is changed: x itself, or the dict of the instance x -/
theorem HOk.write (ok : HOk P w H h) (mu : Mut (H x)) (he : e = x ∨ H e = some (.own x)) (k : ∀ b u, b ≠ e → h.get? b = some u → h'.get? b = some u) (heo : ∃ u, h'.get? e = some u)
    (new : ObjOk P w (upd H x o') h' x o') : HOk P w (upd H x o') h' := fun b u q => by
  have nown : ∀ c y, H c = some (.own y) → c ≠ x := fun c y r z => by subst z; rw [r] at mu; exact mu
  have ntup : ∀ c xs, H c = some (.tup xs) → c ≠ x := fun c xs r z => by subst z; rw [r] at mu; exact mu
  by_cases hb : b = x
  · subst hb; rw [upd_same] at q; cases q; exact new
  · rw [upd_ne hb] at q
    by_cases hbe : b = e
    · have q' : H b = some (.own x) := by
        rcases he with z | z
        · exact absurd (hbe.trans z) hb
        · rw [hbe]; exact z
      rw [q] at q'; cases q'
      obtain ⟨v, hv⟩ := heo
      exact ⟨v, by rw [hbe]; exact hv⟩
    · refine (ok b u q).stay (fun c v hc r => k c v ?_ r) (fun c r => by rw [upd_ne (nown c b r)]; exact r) fun c xs r => by rw [upd_ne (ntup c xs r)]; exact r
      rcases hc with rfl | hc
      · exact hbe
      · rintro rfl
        rcases he with z | z
        · exact nown c b hc z
        · rw [hc] at z; cases z; exact hb rfl
end

structure Un (fs ex : List Addr) (H H' : Hp) (h h' : Heap) : Prop where
  keep : ∀ b o, h.get? b = some o → H b = none → b ∉ fs → b ∉ ex → h'.get? b = some o
  slot : ∀ b o, h.get? b = some o → H b = none → b ∈ fs → b ∉ ex → ∃ sl, h'.get? b = some { o with slots := sl }
  free : ∀ b o, h.get? b = some o → H b = none → b ∉ ex → H' b = none
  there : ∀ b o, h.get? b = some o → b ∉ ex → ∃ o', h'.get? b = some o'
  tups : ∀ b xs, H b = some (.tup xs) → H' b = some (.tup xs)
  frzs : ∀ b o u, H b = some (.frz o u) → H' b = some (.frz o u)
  tbls : ∀ b ps, H b = some (.tbl ps) → ∃ more, H' b = some (.tbl (ps ++ more))
section
variable {fs fs' ex ex' : List Addr} {H H1 H2 : Hp} {h h1 h2 h' : Heap} {a x e : Addr} {o : HO}
theorem Un.any (u : Un fs ex H H1 h h1) {b : Addr} {ob : Obj} (q : h.get? b = some ob) (n : H b = none) (hx : b ∉ ex) : ∃ sl, h1.get? b = some { ob with slots := sl } := by
  by_cases hb : b ∈ fs
  · exact u.slot b ob q n hb hx
  · exact ⟨ob.slots, u.keep b ob q n hb hx⟩
theorem Un.trans (a : Un fs ex H H1 h h1) (b : Un fs ex H1 H2 h1 h2) : Un fs ex H H2 h h2 where
  keep := fun c ob q n hc hx => b.keep c ob (a.keep c ob q n hc hx) (a.free c ob q n hx) hc hx
  slot := fun c ob q n hc hx => by
    obtain ⟨sl, e1⟩ := a.slot c ob q n hc hx
    obtain ⟨sl', e2⟩ := b.slot c _ e1 (a.free c ob q n hx) hc hx
    exact ⟨sl', e2⟩
  free := fun c ob q n hx => by
    obtain ⟨o', e1⟩ := a.there c ob q hx
    exact b.free c o' e1 (a.free c ob q n hx) hx
  there := fun c ob q hx => by
    obtain ⟨o', e1⟩ := a.there c ob q hx
    exact b.there c o' e1 hx
  tups := fun c xs q => b.tups c xs (a.tups c xs q)
  frzs := fun c ob xs q => b.frzs c ob xs (a.frzs c ob xs q)
  tbls := fun c ps q => by
    obtain ⟨m1, e1⟩ := a.tbls c ps q
    obtain ⟨m2, e2⟩ := b.tbls c _ e1
    exact ⟨m1 ++ m2, by rw [e2, Array.append_assoc]⟩
theorem Un.kept (k : ∀ b u, h.get? b = some u → h'.get? b = some u) : Un fs ex H H h h' :=
  ⟨fun b ob q _ _ _ => k b ob q, fun b ob q _ _ _ => ⟨ob.slots, k b ob q⟩, fun _ _ _ n _ => n, fun b ob q _ => ⟨ob, k b ob q⟩, fun _ _ q => q, fun _ _ _ q => q, fun _ ps q => ⟨#[], by rw [q]; simp⟩⟩
theorem Un.refl : Un fs ex H H h h := Un.kept fun _ _ q => q
theorem Un.laid (k : ∀ b u, h.get? b = some u → h'.get? b = some u) (hp : h.objs.size ≤ a) (hn : H a = none) : Un fs ex H (upd H a o) h h' where
  keep := fun b u q _ _ _ => k b u q
  slot := fun b u q _ _ _ => ⟨u.slots, k b u q⟩
  free := fun b u q n _ => by rw [upd_ne (Nat.ne_of_lt (Nat.lt_of_lt_of_le (Heap.lt_size q) hp))]; exact n
  there := fun b u q _ => ⟨u, k b u q⟩
  tups := fun b xs q => by rw [upd_ne (ne_of_none q hn)]; exact q
  frzs := fun b u xs q => by rw [upd_ne (ne_of_none q hn)]; exact q
  tbls := fun b ps q => ⟨#[], by rw [upd_ne (ne_of_none q hn), q]; simp⟩
theorem Un.write (mu : Mut (H x)) (he : e = x ∨ H e = some (.own x)) (k : ∀ b u, b ≠ e → h.get? b = some u → h'.get? b = some u) (heo : ∃ u, h'.get? e = some u) : Un fs ex H (upd H x o) h h' := by
  have hx : ∀ b, H b = none → b ≠ x := fun b n z => by subst z; rw [n] at mu; exact mu
  have hb : ∀ b, H b = none → b ≠ e := fun b n z => by
    subst z
    rcases he with r | r
    · exact hx b n r
    · rw [n] at r; cases r
  have hm : ∀ b u, H b = some u → ¬ Mut (some u) → b ≠ x := fun b u q nm z => by subst z; rw [q] at mu; exact nm mu
  refine ⟨fun b u q n _ _ => k b u (hb b n) q, fun b u q n _ _ => ⟨u.slots, k b u (hb b n) q⟩, fun b u q n _ => by rw [upd_ne (hx b n)]; exact n, fun b u q _ => ?_,
    fun b xs q => by rw [upd_ne (hm b _ q fun z => z)]; exact q, fun b u xs q => by rw [upd_ne (hm b _ q fun z => z)]; exact q, fun b ps q => ⟨#[], by rw [upd_ne (hm b _ q fun z => z), q]; simp⟩⟩
  by_cases hbe : b = e
  · subst hbe; exact heo
  · exact ⟨u, k b u hbe q⟩
theorem Un.mono (u : Un fs ex H H1 h h1) (hs : ∀ b ∈ fs, b ∈ fs') (hx : ∀ b ∈ ex, b ∈ ex') : Un fs' ex' H H1 h h1 :=
  ⟨fun b ob q n hb he => u.keep b ob q n (fun z => hb (hs b z)) fun z => he (hx b z), fun _ _ q n _ he => u.any q n fun z => he (hx _ z), fun b ob q n he => u.free b ob q n fun z => he (hx b z), fun b ob q he => u.there b ob q fun z => he (hx b z), u.tups, u.frzs, u.tbls⟩
end

def trk (h : Heap) (H : Hp) : List Addr := (List.range h.objs.size).filter fun a => (H a).isSome
def hidT (h : Heap) (H : Hp) : Heap := PySem.W.hideAll h (trk h H)
theorem hidT_size (h : Heap) (H : Hp) : (hidT h H).objs.size = h.objs.size := PySem.W.hideAll_size _ _
theorem hidT_get {h : Heap} {H : Hp} {b : Addr} {o : Obj} (e : h.get? b = some o) (n : H b = none) : (hidT h H).get? b = some o :=
  PySem.W.hideAll_get _ e fun hm => by
    have q : (H b).isSome = true := (List.mem_filter.mp hm).2
    rw [n] at q; simp at q
theorem of_hidT {h : Heap} {H : Hp} {b : Addr} {o : Obj} (e : (hidT h H).get? b = some o) : h.get? b = some o ∧ H b = none := by
  have e' : h.get? b = some o := PySem.W.of_hideAll (trk h H) e
  refine ⟨e', ?_⟩
  cases q : H b with
  | none => rfl
  | some x =>
    have hm : b ∈ trk h H := List.mem_filter.mpr ⟨List.mem_range.mpr (Heap.lt_size e'), by simp [q]⟩
    have z : (hidT h H).get? b = none := PySem.W.hideAll_none (trk h H) hm
    rw [z] at e; cases e

def allNews (g h : Heap) (L : Addr) : List (Addr × Obj) := (List.range h.objs.size).filterMap fun a => if a = L ∨ (g.get? a).isSome = true then none else (h.get? a).map fun o => (a, o)
def rest (g h : Heap) (L d : Addr) : List (Addr × Obj) := (allNews g h L).filter fun p => decide (p.1 ≠ d)
end L2

namespace L2
open PySem PySem.Spec PyProof.Rows

/-- the module's facts, over the base: the heap at the law's entry without what is tracked there -/
structure Mod (K : PySem.W.Frag) (mg : Str → Option Value) (base : Heap) : Prop where
  kin : K.In base
  glob : base.Ns mainGlobals mg
  blt : ∃ mb, base.Ns builtinsNs mb ∧ ∀ x : Str, x ≠ "__name__" → mb x = bootBuiltins x
  nolimit : base.NoLimit

/-- the context: a def's body (or a comprehension's block) running. base: fixed through the whole law; s₀, H₀: the entry; outer: the frames whose slots others may change (a def's callers); stack: all frames that run;
   ex: iterators that were made ahead of the entry and are walked here (a comprehension's); fn: the names whose cells were made at the entry (a def: all; a comprehension's block: its own); calm: not within an except suite; pn: pins that every state bears; xe: what is wanted of an exception that leaves the code -/
structure Cx where
  prog : Program
  w : World
  K : PySem.W.Frag
  mg : Str → Option Value
  base : Heap
  A : Around
  N : List Str
  s₀ : Shared
  H₀ : Hp
  env : Env
  outer : List Env
  stack : List Env
  ex : List Addr
  fn : Str → Bool
  calm : Bool
  pn : List (Addr × Obj)
  xe : Value → Shared → Prop
/-- the callers' frames -/
def frs (l : List Env) : List Addr := l.filterMap (·.frame)
abbrev Cx.fs (X : Cx) : List Addr := frs X.outer

def Vis (sc : Scope) (x : Str) : Prop := sc.names.lookup x = some .local ∨ sc.names.lookup x = some .cell ∨ sc.names.lookup x = some .free
def Loc (sc : Scope) (x : Str) : Prop := sc.names.lookup x = some .local ∨ sc.names.lookup x = some .cell
def Look (env : Env) (h : Heap) (m : Str → Option Value) (x : Str) (u : Value) : Prop :=
  (env.kindOf x = some .local ∧ m x = some u) ∨ ((env.kindOf x = some .cell ∨ env.kindOf x = some .free) ∧ ∃ c, env.cells.lookup x = some c ∧ h.IsCell c (some u))

structure Cx.Ok (X : Cx) : Prop where
  mod : Mod X.K X.mg X.base
  kind : X.env.scope.kind = .function
  glob : X.env.globals = mainGlobals
  blt : X.env.builtins = builtinsNs
  above : X.s₀.heap.objs.size ≤ X.env.locals
  inj : ∀ x y c, X.env.cells.lookup x = some c → X.env.cells.lookup y = some c → x = y
  has : ∀ x, (X.env.kindOf x = some .cell ∨ X.env.kindOf x = some .free) → ∃ c, X.env.cells.lookup x = some c
  cab : ∀ x c, X.fn x = true → X.env.cells.lookup x = some c → X.s₀.heap.objs.size ≤ c
  hd : X.calm = true → X.A.handled = none
  frames : X.A.frames = some X.stack
  stk : X.stack = X.outer ∨ (X.stack = X.env :: X.outer ∧ X.env.frame = some X.env.locals)
  exf : ∀ b ∈ X.ex, b ≠ X.env.locals ∧ ∀ x c, X.env.cells.lookup x = some c → c ≠ b
  bs : ∀ b o, X.base.get? b = some o → X.s₀.heap.get? b = some o ∧ X.H₀ b = none
  bsz : X.base.objs.size ≤ X.s₀.heap.objs.size
  noex : ∀ b o, X.base.get? b = some o → b ∉ X.ex
  exfs : ∀ b ∈ X.ex, b ∉ X.fs
  funs : X.s₀.heap.FunFrames X.base X.outer
  frf : ∀ b ∈ X.fs, X.H₀ b = none

structure Inv (X : Cx) (pins : List (Addr × Obj)) (σ : List (Option V)) (H : Hp) (s : Shared) : Prop where
  ok : X.Ok
  os : s.os = X.s₀.os
  bare : AllBare s.gens
  base : Un X.fs X.ex X.H₀ H X.s₀.heap s.heap
  loc : ∃ m, s.heap.Ns X.env.locals m ∧ ∀ (i : Nat) (x : Str) (v : V), X.N[i]? = some x → σ[i]? = some (some v) → Vis X.env.scope x → ∃ u, RelV v u ∧ Look X.env s.heap m x u
  cell : ∀ x c, X.env.cells.lookup x = some c → ∃ v, s.heap.IsCell c v
  free : H X.env.locals = none
  freeC : ∀ x c, X.env.cells.lookup x = some c → H c = none
  pin : ∀ p ∈ X.pn ++ pins, s.heap.get? p.1 = some p.2 ∧ H p.1 = none ∧ p.1 ≠ X.env.locals ∧ p.1 ∉ X.fs ∧ ∀ v, p.2.data ≠ .cell v
  hok : HOk X.prog X.w H s.heap
  len : σ.length = X.N.length

section
variable {X : Cx} {pins : List (Addr × Obj)} {σ : List (Option V)} {H H' : Hp} {s : Shared} {h' : Heap}

theorem Cx.Ok.nofr (ok : X.Ok) {b : Addr} {o : Obj} (e : X.base.get? b = some o) : b ∉ X.fs := fun hb => by
  have := (ok.funs.mem hb).1
  rw [e] at this; cases this
theorem Inv.bs (I : Inv X pins σ H s) : ∀ b o, X.base.get? b = some o → s.heap.get? b = some o ∧ H b = none := fun b o e =>
  ⟨I.base.keep b o (I.ok.bs b o e).1 (I.ok.bs b o e).2 (I.ok.nofr e) (I.ok.noex b o e), I.base.free b o (I.ok.bs b o e).1 (I.ok.bs b o e).2 (I.ok.noex b o e)⟩
theorem Inv.bk (I : Inv X pins σ H s) : ∀ b o, X.base.get? b = some o → s.heap.get? b = some o := fun b o e => (I.bs b o e).1
theorem Inv.mod (I : Inv X pins σ H s) : Mod X.K X.mg X.base := I.ok.mod
theorem Inv.kIn (I : Inv X pins σ H s) : X.K.In s.heap := I.ok.mod.kin.keeps I.bk
theorem Inv.nolimit (I : Inv X pins σ H s) : s.heap.NoLimit := I.ok.mod.nolimit.keeps I.bk
/-- the frame over the base: for OpenK's rules (K.In X.base is I.mod.kin) -/
theorem Inv.fr (I : Inv X pins σ H s) : ∃ m, Fr X.base X.env.locals s.heap m :=
  let ⟨m, hn, _⟩ := I.loc
  ⟨m, hn, I.bk, Nat.le_trans I.ok.bsz I.ok.above⟩
theorem Inv.lt (I : Inv X pins σ H s) : X.env.locals < s.heap.objs.size := let ⟨_, hn, _⟩ := I.loc; hn.lt
theorem Inv.sz (I : Inv X pins σ H s) : X.s₀.heap.objs.size ≤ s.heap.objs.size := Nat.le_trans I.ok.above (Nat.le_of_lt I.lt)
theorem Inv.nofs (I : Inv X pins σ H s) {a : Addr} (h : s.heap.objs.size ≤ a) : a ∉ X.fs := fun hb => by
  obtain ⟨_, o, ho, _⟩ := I.ok.funs.mem hb
  exact absurd (Nat.lt_of_lt_of_le (Heap.lt_size ho) (Nat.le_trans I.sz h)) (Nat.lt_irrefl _)
theorem Inv.cne (I : Inv X pins σ H s) : ∀ x c, X.env.cells.lookup x = some c → c ≠ X.env.locals := fun x c e z => by
  obtain ⟨v, o, ho, hd⟩ := I.cell x c e
  obtain ⟨m, ⟨o', es, ep, ho', hd', _⟩, _⟩ := I.loc
  rw [z, ho'] at ho; cases ho; rw [hd'] at hd; cases hd
theorem Inv.funs (I : Inv X pins σ H s) : s.heap.FunFrames X.base X.outer := by
  have all : ∀ (l : List Env), (∀ b ∈ frs l, b ∈ X.fs) → X.s₀.heap.FunFrames X.base l → s.heap.FunFrames X.base l := by
    intro l
    induction l with
    | nil => intro _ _; trivial
    | cons env r ih =>
      intro hs hl
      obtain ⟨hk, ⟨L, o, hf, hn, ho, hd⟩, hr⟩ := hl
      have hL : L ∈ X.fs := hs L (by unfold frs; rw [List.filterMap_cons, hf]; exact List.mem_cons_self)
      obtain ⟨sl, e⟩ := I.base.slot L o ho (I.ok.frf L hL) hL fun z => I.ok.exfs L z hL
      exact ⟨hk, ⟨L, _, hf, hn, e, hd⟩, ih (fun b hb => hs b (by unfold frs; rw [List.filterMap_cons, hf]; exact List.mem_cons_of_mem _ hb)) hr⟩
  exact all X.outer (fun _ hb => hb) I.ok.funs

/-- the frames that run, for a call -/
theorem Inv.stack (I : Inv X pins σ H s) : s.heap.FunFrames X.base X.stack := by
  rcases I.ok.stk with e | ⟨e, hf⟩
  · rw [e]; exact I.funs
  · rw [e]
    obtain ⟨m, hn, _⟩ := I.loc
    refine .cons (by rw [I.ok.kind]; decide) hf hn ?_ I.funs
    exact Heap.get?_none_of_le (Nat.le_trans I.ok.bsz I.ok.above)
theorem Inv.stkSub (I : Inv X pins σ H s) : ∀ b ∈ frs X.stack, b ∈ X.env.locals :: X.fs := fun b hb => by
  rcases I.ok.stk with e | ⟨e, hf⟩
  · rw [e] at hb; exact List.mem_cons_of_mem _ hb
  · rw [e] at hb
    unfold frs at hb
    rw [List.filterMap_cons, hf] at hb
    exact hb
theorem Inv.stkFree (I : Inv X pins σ H s) : ∀ b ∈ frs X.stack, H b = none := fun b hb => by
  rcases List.mem_cons.mp (I.stkSub b hb) with e | hb
  · rw [e]; exact I.free
  · obtain ⟨_, o, ho, _⟩ := I.ok.funs.mem hb
    exact I.base.free b o ho (I.ok.frf b hb) fun z => I.ok.exfs b z hb

/-- THE STEP: the untracked objects but the frame and the records at ch are kept (the callers' frames up to slots), the frame's map is kept, the new abstract heap is held -/
theorem Inv.step {g' : Array GenState} {t' : Nat} {d' : Drawn} {ch : List Addr} (I : Inv X pins σ H s)
    (hch : ∀ b ∈ ch, (b ∈ X.ex ∨ X.s₀.heap.objs.size ≤ b) ∧ b ≠ X.env.locals ∧ (∀ x c, X.env.cells.lookup x = some c → c ≠ b) ∧ ∀ p ∈ X.pn ++ pins, p.1 ≠ b)
    (keep : ∀ b o, b ≠ X.env.locals → b ∉ X.fs → b ∉ ch → s.heap.get? b = some o → H b = none → h'.get? b = some o)
    (slot : ∀ b o, b ≠ X.env.locals → b ∈ X.fs → b ∉ ch → s.heap.get? b = some o → H b = none → ∃ sl, h'.get? b = some { o with slots := sl }) (free : ∀ b o, b ∉ ch → s.heap.get? b = some o → H b = none → H' b = none)
    (there : ∀ b o, b ∉ ch → s.heap.get? b = some o → ∃ o', h'.get? b = some o')
    (tups : ∀ b xs, H b = some (.tup xs) → H' b = some (.tup xs)) (frzs : ∀ b o u, H b = some (.frz o u) → H' b = some (.frz o u)) (tbls : ∀ b ps, H b = some (.tbl ps) → ∃ more, H' b = some (.tbl (ps ++ more)))
    (ns : ∀ m, s.heap.Ns X.env.locals m → h'.Ns X.env.locals m) (hok : HOk X.prog X.w H' h') (hg : AllBare g') :
    Inv X pins σ H' { s with heap := h', gens := g', drawn := d', toks := t' } := by
  have neL : ∀ b o, X.s₀.heap.get? b = some o → b ≠ X.env.locals := fun b o e => Nat.ne_of_lt (Nat.lt_of_lt_of_le (Heap.lt_size e) I.ok.above)
  have neC : ∀ b o, X.s₀.heap.get? b = some o → b ∉ X.ex → b ∉ ch := fun b o e hx hb => by
    rcases (hch b hb).1 with z | z
    · exact hx z
    · exact absurd (Nat.lt_of_lt_of_le (Heap.lt_size e) z) (Nat.lt_irrefl _)
  have cellK : ∀ x c, X.env.cells.lookup x = some c → ∀ v, s.heap.IsCell c v → h'.IsCell c v := fun x c e v ⟨o, ho, hd⟩ => by
    have nch : c ∉ ch := fun z => (hch c z).2.2.1 x c e rfl
    by_cases hc : c ∈ X.fs
    · obtain ⟨sl, q⟩ := slot c o (I.cne x c e) hc nch ho (I.freeC x c e)
      exact ⟨_, q, hd⟩
    · exact ⟨o, keep c o (I.cne x c e) hc nch ho (I.freeC x c e), hd⟩
  refine ⟨I.ok, I.os, hg, ⟨fun b o e n hb hx => ?_, fun b o e n hb hx => ?_, fun b o e n hx => ?_, fun b o e hx => ?_, fun b xs e => tups b xs (I.base.tups b xs e), fun b o xs e => frzs b o xs (I.base.frzs b o xs e), fun b ps e => ?_⟩, ?_, fun x c e => ?_, ?_, fun x c e => ?_, fun p hp => ?_, hok, I.len⟩
  · exact keep b o (neL b o e) hb (neC b o e hx) (I.base.keep b o e n hb hx) (I.base.free b o e n hx)
  · obtain ⟨sl, e1⟩ := I.base.slot b o e n hb hx
    obtain ⟨sl', e2⟩ := slot b _ (neL b o e) hb (neC b o e hx) e1 (I.base.free b o e n hx)
    exact ⟨sl', e2⟩
  · obtain ⟨o', e1⟩ := I.base.there b o e hx
    exact free b o' (neC b o e hx) e1 (I.base.free b o e n hx)
  · obtain ⟨o', e1⟩ := I.base.there b o e hx
    exact there b o' (neC b o e hx) e1
  · obtain ⟨m1, e1⟩ := I.base.tbls b ps e
    obtain ⟨m2, e2⟩ := tbls b _ e1
    exact ⟨m1 ++ m2, by rw [e2, Array.append_assoc]⟩
  · obtain ⟨m, hn, hl⟩ := I.loc
    refine ⟨m, ns m hn, fun i x v e1 e2 e3 => ?_⟩
    obtain ⟨u, r, l⟩ := hl i x v e1 e2 e3
    refine ⟨u, r, ?_⟩
    rcases l with l | ⟨k, c, e, z⟩
    · exact .inl l
    · exact .inr ⟨k, c, e, cellK x c e _ z⟩
  · obtain ⟨v, z⟩ := I.cell x c e
    exact ⟨v, cellK x c e v z⟩
  · obtain ⟨m, ⟨o, _, _, ho, _⟩, _⟩ := I.loc
    exact free _ o (fun z => (hch _ z).2.1 rfl) ho I.free
  · obtain ⟨v, o, ho, hd⟩ := I.cell x c e
    exact free c o (fun z => (hch c z).2.2.1 x c e rfl) ho (I.freeC x c e)
  · obtain ⟨e, n, ne, nf, d⟩ := I.pin p hp
    have nch : p.1 ∉ ch := fun z => (hch p.1 z).2.2.2 p hp rfl
    exact ⟨keep p.1 p.2 ne nf nch e n, free p.1 p.2 nch e n, ne, nf, d⟩
/-- .. where the frame's own object is kept too -/
theorem Inv.un {t' : Nat} (I : Inv X pins σ H s) (u : Un X.fs [] H H' s.heap h') (hok : HOk X.prog X.w H' h') : Inv X pins σ H' { s with heap := h', toks := t' } := by
  obtain ⟨m, ⟨o, es, ep, ho, r⟩, _⟩ := id I.loc
  obtain ⟨sl, hL⟩ := u.any ho I.free (by simp)
  exact I.step (g' := s.gens) (d' := s.drawn) (ch := []) (fun _ z => nomatch z) (fun b o _ hb _ e n => u.keep b o e n hb (by simp)) (fun b o _ hb _ e n => u.slot b o e n hb (by simp)) (fun b o _ e n => u.free b o e n (by simp)) (fun b o _ e => u.there b o e (by simp)) u.tups u.frzs u.tbls (fun m' hm => by
    obtain ⟨o', es', ep', ho', r'⟩ := hm
    rw [ho] at ho'; cases ho'
    exact ⟨_, es', ep', hL, r'⟩) hok I.bare
/-- behind a call (or a comprehension's block): the slots of this frame may have changed too, the records at ch may have turned -/
theorem Inv.call {g' : Array GenState} {t' : Nat} {d' : Drawn} {ch : List Addr} (I : Inv X pins σ H s) (u : Un (frs X.stack) ch H H' s.heap h') (hok : HOk X.prog X.w H' h') (hg : AllBare g')
    (hch : ∀ b ∈ ch, (b ∈ X.ex ∨ X.s₀.heap.objs.size ≤ b) ∧ b ≠ X.env.locals ∧ (∀ x c, X.env.cells.lookup x = some c → c ≠ b) ∧ ∀ p ∈ X.pn ++ pins, p.1 ≠ b) :
    Inv X pins σ H' { s with heap := h', gens := g', drawn := d', toks := t' } := by
  obtain ⟨m, ⟨o, es, ep, ho, r⟩, _⟩ := id I.loc
  obtain ⟨sl, hL⟩ := u.any ho I.free fun z => (hch _ z).2.1 rfl
  exact I.step (ch := ch) hch (fun b o hL hb hc e n => u.keep b o e n (fun z => (List.mem_cons.mp (I.stkSub b z)).elim hL hb) hc) (fun b o _ _ hc e n => u.any e n hc) (fun b o hc e n => u.free b o e n hc) (fun b o hc e => u.there b o e hc) u.tups u.frzs u.tbls (fun m' hm => by
    obtain ⟨o', es', ep', ho', r'⟩ := hm
    rw [ho] at ho'; cases ho'
    exact ⟨_, es', ep', hL, r'⟩) hok hg
/-- an untracked record of ours (an iterator) has turned -/
theorem Inv.turned {t' : Nat} {it : Addr} (I : Inv X pins σ H s) (k : ∀ b o, b ≠ it → s.heap.get? b = some o → h'.get? b = some o) (hn : H it = none) (hL : it ≠ X.env.locals)
    (h1 : it ∈ X.ex ∨ X.s₀.heap.objs.size ≤ it) (h2 : ∀ x c, X.env.cells.lookup x = some c → c ≠ it) (h3 : ∀ p ∈ X.pn ++ pins, p.1 ≠ it) : Inv X pins σ H { s with heap := h', toks := t' } := by
  have nit : ∀ b u, H b = some u → b ≠ it := fun b u e z => by rw [z, hn] at e; cases e
  refine I.step (g' := s.gens) (d' := s.drawn) (ch := [it]) (fun b hb => ?_) (fun b o _ _ hc e _ => k b o (fun z => hc (by simp [z])) e) (fun b o _ _ hc e _ => ⟨o.slots, k b o (fun z => hc (by simp [z])) e⟩) (fun _ _ _ _ n => n)
    (fun b o hc e => ⟨o, k b o (fun z => hc (by simp [z])) e⟩) (fun _ _ e => e) (fun _ _ _ e => e) (fun b ps e => ⟨#[], by rw [e]; simp⟩) (fun m hm => ?_) (fun b u e => ?_) I.bare
  · have e : b = it := by simpa using hb
    subst e
    exact ⟨h1, hL, h2, h3⟩
  · obtain ⟨o, es, ep, ho, r⟩ := hm
    exact ⟨o, es, ep, k _ o (Ne.symm hL) ho, r⟩
  · refine (I.hok b u e).stay (fun c v hc q => k c v ?_ q) (fun _ q => q) fun _ _ q => q
    rcases hc with z | z
    · rw [z]; exact nit b u e
    · exact nit c _ z
theorem Inv.tok (I : Inv X pins σ H s) (t : Nat) : Inv X pins σ H { s with toks := t } := I.un (h' := s.heap) (t' := t) Un.refl I.hok
/-- all objects kept -/
theorem Inv.kept {t' : Nat} (I : Inv X pins σ H s) (k : ∀ b u, s.heap.get? b = some u → h'.get? b = some u) : Inv X pins σ H { s with heap := h', toks := t' } := I.un (Un.kept k) (I.hok.kept k)
/-- a new object laid and tracked -/
theorem Inv.laid {a : Addr} {o : HO} {t' : Nat} (I : Inv X pins σ H s) (k : ∀ b u, s.heap.get? b = some u → h'.get? b = some u) (hp : s.heap.objs.size ≤ a) (new : ObjOk X.prog X.w (upd H a o) h' a o) :
    Inv X pins σ (upd H a o) { s with heap := h', toks := t' } := I.un (Un.laid k hp (I.hok.fresh hp)) (I.hok.laid k hp new)
/-- an object written -/
theorem Inv.write {x e : Addr} {o : HO} {t' : Nat} (I : Inv X pins σ H s) (mu : Mut (H x)) (he : e = x ∨ H e = some (.own x)) (k : ∀ b u, b ≠ e → s.heap.get? b = some u → h'.get? b = some u) (heo : ∃ u, h'.get? e = some u)
    (new : ObjOk X.prog X.w (upd H x o) h' x o) : Inv X pins σ (upd H x o) { s with heap := h', toks := t' } := I.un (Un.write mu he k heo) (I.hok.write mu he k heo new)
theorem Inv.pins_of {pins' : List (Addr × Obj)} (I : Inv X pins σ H s) (h : ∀ p ∈ pins', s.heap.get? p.1 = some p.2 ∧ H p.1 = none ∧ p.1 ≠ X.env.locals ∧ p.1 ∉ X.fs ∧ ∀ v, p.2.data ≠ .cell v) : Inv X pins' σ H s :=
  ⟨I.ok, I.os, I.bare, I.base, I.loc, I.cell, I.free, I.freeC, fun p hp => (List.mem_append.mp hp).elim (fun z => I.pin p (List.mem_append_left _ z)) (h p), I.hok, I.len⟩

theorem nodup_ix {N : List Str} (hN : N.Nodup) {i j : Nat} {x : Str} (a : N[i]? = some x) (b : N[j]? = some x) : i = j := by
  obtain ⟨h1, e1⟩ := List.getElem?_eq_some_iff.mp a
  obtain ⟨h2, e2⟩ := List.getElem?_eq_some_iff.mp b
  exact (List.getElem_inj hN).mp (e1.trans e2.symm)

/-- a name is stored; what changed -/
theorem store_ok2 {M : Model} {A : Around} {E : Value → Shared → Prop} {i : Nat} {x : Str} {v : V} {u : Value} {Q : Unit → Shared → Prop} (I : Inv X pins σ H s) (hN : X.N.Nodup) (hi : X.N[i]? = some x) (hx : Loc X.env.scope x) (r : RelV v u)
    (h : ∀ s', Inv X pins (σ.set i (some v)) H s' → (∃ a, Heap.SameBut a s.heap s'.heap ∧ (a = X.env.locals ∨ X.env.cells.lookup x = some a)) → Q () s') (hf : X.fn x = true ∨ X.env.scope.names.lookup x = some .local := by first | exact .inl rfl | exact .inr rfl | assumption) : wpAny M A (storeName X.env x u) Q E s := by
  obtain ⟨m, hn, hl⟩ := id I.loc
  have hcls : (X.env.scope.kind == .class || (X.env.scope.kind == .module && X.env.locals != X.env.globals)) = false := by rw [I.ok.kind]; rfl
  have hiσ : i < σ.length := by rw [I.len]; exact (List.getElem?_eq_some_iff.mp hi).1
  have cne := I.cne
  have tracked : ∀ {a : Addr} {h' : Heap}, (∃ o, s.heap.get? a = some o ∧ H a = none) → Heap.SameBut a s.heap h' → HOk X.prog X.w H h' := fun {a h'} ha hs b ob e => by
    obtain ⟨_, _, hfree⟩ := ha
    refine (I.hok b ob e).stay (fun c w' hc q => (hs.2 c ?_).trans q) (fun _ q => q) fun _ _ q => q
    rintro rfl
    rcases hc with rfl | hc
    · rw [hfree] at e; cases e
    · rw [hfree] at hc; cases hc
  rcases hx with hk | hk
  · refine wpAny_storeName_local hk hn (fun h' hn' hs => ?_) hcls
    obtain ⟨oL, _, _, hoL, _⟩ := id hn
    refine h _ ⟨I.ok, I.os, I.bare, ⟨fun b o e n hb hx => ?_, fun b o e n hb hx => ?_, I.base.free, fun b o e hx => ?_, I.base.tups, I.base.frzs, I.base.tbls⟩, ⟨_, hn', fun j y v' e1 e2 e3 => ?_⟩, fun y c e => ?_, I.free, I.freeC, fun p hp => ?_, tracked ⟨oL, hoL, I.free⟩ hs, by simpa using I.len⟩ ⟨_, hs, .inl rfl⟩
    · exact (hs.2 b (Nat.ne_of_lt (Nat.lt_of_lt_of_le (Heap.lt_size e) I.ok.above))).trans (I.base.keep b o e n hb hx)
    · obtain ⟨sl, e1⟩ := I.base.slot b o e n hb hx
      exact ⟨sl, (hs.2 b (Nat.ne_of_lt (Nat.lt_of_lt_of_le (Heap.lt_size e) I.ok.above))).trans e1⟩
    · obtain ⟨o', e1⟩ := I.base.there b o e hx
      exact ⟨o', (hs.2 b (Nat.ne_of_lt (Nat.lt_of_lt_of_le (Heap.lt_size e) I.ok.above))).trans e1⟩
    · by_cases hj : j = i
      · subst hj
        rw [hi] at e1; cases e1
        rw [List.getElem?_set_self hiσ] at e2
        cases e2
        exact ⟨u, r, .inl ⟨hk, by simp⟩⟩
      · rw [List.getElem?_set_ne (Ne.symm hj)] at e2
        obtain ⟨u', r', q⟩ := hl j y v' e1 e2 e3
        refine ⟨u', r', ?_⟩
        rcases q with ⟨k, e⟩ | ⟨k, c, e, z⟩
        · refine .inl ⟨k, ?_⟩
          have : y ≠ x := fun e => hj (nodup_ix hN e1 (e ▸ hi))
          simp [this, e]
        · exact .inr ⟨k, c, e, z.sameBut hs (cne y c e)⟩
    · obtain ⟨w', z⟩ := I.cell y c e
      exact ⟨w', z.sameBut hs (cne y c e)⟩
    · obtain ⟨e, n, ne, nf, d⟩ := I.pin p hp
      exact ⟨(hs.2 p.1 ne).trans e, n, ne, nf, d⟩
  · have hfn : X.fn x = true := by
      rcases hf with z | z
      · exact z
      · rw [z] at hk; cases hk
    obtain ⟨c, hc⟩ := I.ok.has x (.inl hk)
    obtain ⟨w', z⟩ := I.cell x c hc
    refine wpAny_storeName_cell I.ok.kind hk hc z (fun h' hc' hs => ?_)
    obtain ⟨oc, hoc, hocd⟩ := id z
    refine h { s with heap := h' } ⟨I.ok, I.os, I.bare, ⟨fun b o e n hb hx => ?_, fun b o e n hb hx => ?_, I.base.free, fun b o e hx => ?_, I.base.tups, I.base.frzs, I.base.tbls⟩, ⟨m, hn.sameBut hs (Ne.symm (cne x c hc)), fun j y v' e1 e2 e3 => ?_⟩, fun y c' e => ?_, I.free, I.freeC, fun p hp => ?_, tracked ⟨oc, hoc, I.freeC x c hc⟩ hs, by simpa using I.len⟩ ⟨c, hs, .inr hc⟩
    · exact (hs.2 b (Nat.ne_of_lt (Nat.lt_of_lt_of_le (Heap.lt_size e) (I.ok.cab x c hfn hc)))).trans (I.base.keep b o e n hb hx)
    · obtain ⟨sl, e1⟩ := I.base.slot b o e n hb hx
      exact ⟨sl, (hs.2 b (Nat.ne_of_lt (Nat.lt_of_lt_of_le (Heap.lt_size e) (I.ok.cab x c hfn hc)))).trans e1⟩
    · obtain ⟨o', e1⟩ := I.base.there b o e hx
      exact ⟨o', (hs.2 b (Nat.ne_of_lt (Nat.lt_of_lt_of_le (Heap.lt_size e) (I.ok.cab x c hfn hc)))).trans e1⟩
    · by_cases hj : j = i
      · subst hj
        rw [hi] at e1; cases e1
        rw [List.getElem?_set_self hiσ] at e2
        cases e2
        exact ⟨u, r, .inr ⟨.inl hk, c, hc, hc'⟩⟩
      · rw [List.getElem?_set_ne (Ne.symm hj)] at e2
        obtain ⟨u', r', q⟩ := hl j y v' e1 e2 e3
        refine ⟨u', r', ?_⟩
        rcases q with q | ⟨k, c', e, z'⟩
        · exact .inl q
        · refine .inr ⟨k, c', e, z'.sameBut hs ?_⟩
          rintro rfl
          exact hj (nodup_ix hN e1 (I.ok.inj _ _ _ e hc ▸ hi))
    · by_cases hcc : c' = c
      · subst hcc; exact ⟨_, hc'⟩
      · obtain ⟨w2, z2⟩ := I.cell y c' e
        exact ⟨w2, z2.sameBut hs hcc⟩
    · obtain ⟨e, n, ne, nf, d⟩ := I.pin p hp
      refine ⟨(hs.2 p.1 ?_).trans e, n, ne, nf, d⟩
      intro q
      rw [q, hoc] at e
      have q' : oc = p.2 := Option.some.inj e
      exact d w' (by rw [← q']; exact hocd)
theorem store_ok {M : Model} {A : Around} {E : Value → Shared → Prop} {i : Nat} {x : Str} {v : V} {u : Value} {Q : Unit → Shared → Prop} (I : Inv X pins σ H s) (hN : X.N.Nodup) (hi : X.N[i]? = some x) (hx : Loc X.env.scope x) (r : RelV v u)
    (h : ∀ s', Inv X pins (σ.set i (some v)) H s' → Q () s') (hf : X.fn x = true ∨ X.env.scope.names.lookup x = some .local := by first | exact .inl rfl | exact .inr rfl | assumption) : wpAny M A (storeName X.env x u) Q E s :=
  store_ok2 I hN hi hx r (fun s' I' _ => h s' I') hf
/-- behind a call or a block, the state as it is -/
theorem Inv.call' {s' : Shared} {ch : List Addr} (I : Inv X pins σ H s) (ho : s'.os = s.os) (u : Un (frs X.stack) ch H H' s.heap s'.heap) (hok : HOk X.prog X.w H' s'.heap) (hg : AllBare s'.gens)
    (hch : ∀ b ∈ ch, (b ∈ X.ex ∨ X.s₀.heap.objs.size ≤ b) ∧ b ≠ X.env.locals ∧ (∀ x c, X.env.cells.lookup x = some c → c ≠ b) ∧ ∀ p ∈ X.pn ++ pins, p.1 ≠ b) : Inv X pins σ H' s' := by
  obtain ⟨h', g', d', t', o'⟩ := s'
  have e : o' = s.os := ho
  subst e
  exact I.call (g' := g') (t' := t') (d' := d') u hok hg hch
end

/-- an exception: its class, its own dict's address (where it has one), the abstract heap behind it -/
abbrev XK := Value → Option Addr → Hp → Prop
abbrev St := List (Option V)
abbrev VK := V → Hp → Prop
/-- an expression's reading; a test's; an argument list's -/
abbrev TE := St → Hp → VK → Prop
abbrev TT := St → Hp → (Bool → Hp → Prop) → Prop
abbrev TA := St → Hp → (List V → Hp → Prop) → Prop
/-- what is wanted behind a statement -/
structure Ends where
  nx : St → Hp → Prop
  rt : VK
  bk : St → Hp → Prop := fun _ _ => False
  ct : St → Hp → Prop := fun _ _ => False
abbrev TS := Ends → St → Hp → Prop

def EP (X : Cx) (pins : List (Addr × Obj)) (σ : St) (Q : VK) (u : Value) (s' : Shared) : Prop := ∃ v H', Inv X pins σ H' s' ∧ RelV v u ∧ Q v H'
def TP (X : Cx) (pins : List (Addr × Obj)) (σ : St) (Q : Bool → Hp → Prop) (b : Bool) (s' : Shared) : Prop := ∃ H', Inv X pins σ H' s' ∧ Q b H'
def AP (X : Cx) (pins : List (Addr × Obj)) (σ : St) (Q : List V → Hp → Prop) (us : List Value) (s' : Shared) : Prop := ∃ vs H', Inv X pins σ H' s' ∧ Vals vs us ∧ Q vs H'
def SP (X : Cx) (pins : List (Addr × Obj)) (D : Ends) (f : Flow) (s' : Shared) : Prop :=
  match f with
  | .next => ∃ σ' H', Inv X pins σ' H' s' ∧ D.nx σ' H'
  | .brk => ∃ σ' H', Inv X pins σ' H' s' ∧ D.bk σ' H'
  | .cont => ∃ σ' H', Inv X pins σ' H' s' ∧ D.ct σ' H'
  | .ret u => ∃ v σ' H', Inv X pins σ' H' s' ∧ RelV v u ∧ D.rt v H'

def PE (X : Cx) (e : Expr) (t : TE) : Prop :=
  ∀ (pins : List (Addr × Obj)) (s : Shared) (σ : St) (H : Hp) (Q : VK), Inv X pins σ H s → t σ H Q → wpAny (model X.prog X.w) X.A (eval e X.env) (EP X pins σ Q) X.xe s
def PT (X : Cx) (e : Expr) (t : TT) : Prop :=
  ∀ (pins : List (Addr × Obj)) (s : Shared) (σ : St) (H : Hp) (Q : Bool → Hp → Prop), Inv X pins σ H s → t σ H Q → wpAny (model X.prog X.w) X.A (isTrue e X.env (eval e X.env)) (TP X pins σ Q) X.xe s
/-- a test whatever its 'whole' is (and, or) -/
def PW (X : Cx) (e : Expr) (t : TT) : Prop :=
  ∀ (whole : Sem Value) (pins : List (Addr × Obj)) (s : Shared) (σ : St) (H : Hp) (Q : Bool → Hp → Prop), Inv X pins σ H s → t σ H Q → wpAny (model X.prog X.w) X.A (isTrue e X.env whole) (TP X pins σ Q) X.xe s
theorem PW.pt {X : Cx} {e : Expr} {t : TT} (h : PW X e t) : PT X e t := h _
/-- an argument list (no star), from the left -/
def PA (X : Cx) (es : List Expr) (t : TA) : Prop :=
  ∀ (pos : Pos) (pins : List (Addr × Obj)) (s : Shared) (σ : St) (H : Hp) (Q : List V → Hp → Prop), Inv X pins σ H s → t σ H Q → wpAny (model X.prog X.w) X.A (spliced (backTo pos (starEach es X.env))) (AP X pins σ Q) X.xe s
def PS (X : Cx) (st : Stmt) (t : TS) : Prop :=
  ∀ (pins : List (Addr × Obj)) (s : Shared) (σ : St) (H : Hp) (D : Ends), Inv X pins σ H s → t D σ H → wpAny (model X.prog X.w) X.A (exec st X.env) (SP X pins D) X.xe s
def PSs (X : Cx) (st : List Stmt) (t : TS) : Prop :=
  ∀ (pins : List (Addr × Obj)) (s : Shared) (σ : St) (H : Hp) (D : Ends), Inv X pins σ H s → t D σ H → wpAny (model X.prog X.w) X.A (execs st X.env) (SP X pins D) X.xe s
/-- weaken the end -/
theorem thn {α : Type} {t : Sem α} {Q Q' : α → Shared → Prop} {M : Model} {A : Around} {E : Value → Shared → Prop} {s : Shared} (h : wpAny M A t Q E s) (hQ : ∀ a s, Q a s → Q' a s) : wpAny M A t Q' E s := wpAny_mono h hQ fun _ _ x => x
end L2

namespace L2
open PySem PySem.Spec PyProof.Rows
section
variable {X : Cx}

inductive tVar (i : Nat) (σ : St) (H : Hp) (Q : VK) : Prop
  | mk : ∀ v, (σ[i]? = some (some v)) → (Q v H) → tVar i σ H Q
def tC (v : V) : TE := fun _ H Q => Q v H
theorem pe_var {i : Nat} {x : Str} {pos : Pos} (hN : X.N[i]? = some x) (hv : Vis X.env.scope x) (hd : (x == ("__debug__" : Str)) = false := by decide) (hcd : (x == ("__classdict__" : Str)) = false := by decide) : PE X (.Name x pos) (tVar i) := by
  intro pins s σ H Q I h
  obtain ⟨v, e, h⟩ := h
  obtain ⟨m, hn, hl⟩ := I.loc
  obtain ⟨u, r, l⟩ := hl i x v hN e hv
  have fin : EP X pins σ Q u s := ⟨v, H, I, r, h⟩
  rcases l with ⟨hk, hm⟩ | ⟨hk, c, hc, hcell⟩
  · exact wpAny_Name (wpAny_loadName_local I.ok.kind hk hn hm fin) hd
  · rcases hk with hk | hk
    · exact wpAny_Name (wpAny_loadName_cell I.ok.kind hk hc hcell fin) hd
    · exact wpAny_Name (wpAny_loadName_free I.ok.kind hk hc hcell fin hcd) hd
theorem pe_int {i j pos} : PE X (.Constant (.int i) j pos) (tC (.int i)) := fun _ _ _ H _ I h => wpAny_Constant_int ⟨.int i, H, I.tok _, ⟨_, rfl⟩, h⟩
theorem pe_bl {b j pos} : PE X (.Constant (.bool b) j pos) (tC (.bl b)) := fun _ _ _ H _ I h => Constant_bool ⟨.bl b, H, I, rfl, h⟩
theorem pe_non {j pos} : PE X (.Constant .none j pos) (tC .non) := fun _ _ _ H _ I h => Constant_none ⟨.non, H, I, rfl, h⟩
theorem pe_str {x j pos} : PE X (.Constant (.str x) j pos) (tC (.str x)) := fun _ _ _ H _ I h => Calls.Constant_str ⟨.str x, H, I.tok _, ⟨_, rfl⟩, h⟩

/-- a global name of the def -/
def Gl (X : Cx) (x : Str) : Prop := X.env.kindOf x = some .globalImplicit
theorem ld_glob {E : Value → Shared → Prop} {pins : List (Addr × Obj)} {s : Shared} {σ : St} {H : Hp} {x : Str} {u : Value} {pos : Pos} {Q : Value → Shared → Prop} (I : Inv X pins σ H s) (hg : Gl X x) (hm : X.mg x = some u) (h : Q u s)
    (hd : (x == ("__debug__" : Str)) = false := by decide) : wpAny (model X.prog X.w) X.A (eval (.Name x pos) X.env) Q E s :=
  Calls.Name_function_global I.ok.kind hg (Calls.loadGlobal_global (by rw [I.ok.glob]; exact I.mod.glob.keeps I.bk) hm h) hd
theorem ld_blt {E : Value → Shared → Prop} {pins : List (Addr × Obj)} {s : Shared} {σ : St} {H : Hp} {x : Str} {u : Value} {pos : Pos} {Q : Value → Shared → Prop} (I : Inv X pins σ H s) (hg : Gl X x) (hm : X.mg x = none) (hv : bootBuiltins x = some u) (h : Q u s)
    (hn : x ≠ "__name__" := by decide) (hd : (x == ("__debug__" : Str)) = false := by decide) : wpAny (model X.prog X.w) X.A (eval (.Name x pos) X.env) Q E s := by
  obtain ⟨mb, h1, h2⟩ := I.mod.blt
  exact Calls.Name_function_global I.ok.kind hg (Calls.loadGlobal_builtin (by rw [I.ok.glob]; exact I.mod.glob.keeps I.bk) hm (by rw [I.ok.blt]; exact h1.keeps I.bk) ((h2 x hn).trans hv) h) hd
/-- a module's constant, a class, a function, as a value -/
theorem pe_glob {x : Str} {v : V} {u : Value} {pos : Pos} (hg : Gl X x) (hm : X.mg x = some u) (r : RelV v u) (hd : (x == ("__debug__" : Str)) = false := by decide) : PE X (.Name x pos) (tC v) :=
  fun _ _ _ H _ I h => ld_glob I hg hm ⟨v, H, I, r, h⟩ hd
theorem pe_bltn {x : Str} {v : V} {u : Value} {pos : Pos} (hg : Gl X x) (hm : X.mg x = none) (hv : bootBuiltins x = some u) (r : RelV v u) (hn : x ≠ "__name__" := by decide) (hd : (x == ("__debug__" : Str)) = false := by decide) : PE X (.Name x pos) (tC v) :=
  fun _ _ _ H _ I h => ld_blt I hg hm hv ⟨v, H, I, r, h⟩ hn hd

variable {a b : Expr} {ta tb : TE} {pos : Pos}
def PC (X : Cx) (op : CmpOp) (a b : Expr) (t : TE) : Prop :=
  ∀ (pins : List (Addr × Obj)) (s : Shared) (σ : St) (H : Hp) (Q : VK), Inv X pins σ H s → t σ H Q →
    wpAny (model X.prog X.w) X.A (eval a X.env) (fun v s₁ => wpAny (model X.prog X.w) X.A (eval b X.env) (fun u s₂ => wpAny (model X.prog X.w) X.A (compareOp op v u) (EP X pins σ Q) X.xe s₂) X.xe s₁) X.xe s
theorem nobehind (b : Expr) {op : CmpOp} (h : op ≠ .In) (h2 : op ≠ .NotIn) : behindInMarks op b = false := by
  have e1 : (op == CmpOp.In) = false := by cases op <;> first | rfl | exact absurd rfl h
  have e2 : (op == CmpOp.NotIn) = false := by cases op <;> first | rfl | exact absurd rfl h2
  cases b <;> simp [behindInMarks, e1, e2]
/-- a comparison as a value, as a test -/
inductive tBY (Q : Bool → Hp → Prop) (x : V) (H1 : Hp) : Prop
  | mk : ∀ c, (x = .bl c) → (Q c H1) → tBY Q x H1
def tB (t : TE) : TT := fun σ H Q => t σ H fun x H1 => tBY Q x H1
theorem pe_cmp {op : CmpOp} {t : TE} (h : PC X op a b t) (h1 : behindInMarks op b = false := by first | exact nobehind _ (by decide) (by decide) | rfl) : PE X (.Compare a [op] [b] pos) t := fun pins s σ H Q I hw => wpAny_Compare1 (h pins s σ H Q I hw) h1
theorem pt_cmp {op : CmpOp} {t : TE} (h : PC X op a b t) (h1 : behindInMarks op b = false := by first | exact nobehind _ (by decide) (by decide) | rfl) : PT X (.Compare a [op] [b] pos) (tB t) := by
  intro pins s σ H Q I hw
  refine wpAny_isTrue_Compare1 (thn (h pins s σ H _ I hw) fun v s1 h1 => thn h1 fun u s2 h2 => thn h2 fun c s3 ⟨x, H1, I1, r1, q1⟩ => ?_) h1
  obtain ⟨d, rfl, q⟩ := q1
  cases r1
  exact wpAny_truthy_bool ⟨H1, I1, q⟩
/-- an expression whose value is a bool, as a test -/
theorem pt_val {e : Expr} {t : TE} (h : PE X e t) (he : ∀ whole, isTrue e X.env whole = (do let v ← whole; standAt e.pos; holding [v] (truthy v)) := by intro _; rfl) : PT X e (tB t) := by
  intro pins s σ H Q I hw
  refine isTrue_plain (thn (h pins s σ H _ I hw) fun v s1 ⟨x, H1, I1, r1, q1⟩ => ?_) (he _)
  obtain ⟨d, rfl, q⟩ := q1
  cases r1
  exact wpAny_truthy_bool ⟨H1, I1, q⟩

variable {tA tB' : TT} {rest : List Expr}
def tOr (t u : TT) : TT := fun σ H Q => t σ H fun c H1 => if c = true then Q true H1 else u σ H1 Q
def tNot (t : TT) : TT := fun σ H Q => t σ H fun c H1 => Q (!c) H1
theorem pw_or1 (ha : PT X a tA) : PW X (.BoolOp .Or [a] pos) tA := by
  intro wh pins s σ H Q I h
  refine isTrue_or (thn (ha pins s σ H Q I h) fun c s1 e => ?_)
  cases c with
  | false => exact isTrue_or_nil e
  | true => exact e
theorem pw_or (ha : PT X a tA) (hb : PW X (.BoolOp .Or (b :: rest) pos) tB') : PW X (.BoolOp .Or (a :: b :: rest) pos) (tOr tA tB') := by
  intro wh pins s σ H Q I h
  refine isTrue_or (thn (ha pins s σ H _ I h) fun c s1 ⟨H1, I1, q1⟩ => ?_)
  cases c with
  | true => exact ⟨H1, I1, q1⟩
  | false => exact hb wh pins s1 σ H1 Q I1 q1
theorem pt_not (ha : PT X a tA) : PT X (.UnaryOp .Not a pos) (tNot tA) := by
  intro pins s σ H Q I h
  exact isTrue_not (ha pins s σ H (fun c H1 => Q (!c) H1) I h)
/-- .. as values (bools) -/
inductive tAndVY (tb : TE) (σ : St) (Q : VK) (x : V) (H1 : Hp) : Prop
  | mk : ∀ c, (x = .bl c) → (if c = true then tb σ H1 Q else Q (.bl false) H1) → tAndVY tb σ Q x H1
def tAndV (ta tb : TE) : TE := fun σ H Q => ta σ H fun x H1 => tAndVY tb σ Q x H1
theorem pe_one {op} {t : TE} (h : PE X a t) : PE X (.BoolOp op [a] pos) t := fun pins s σ H Q I hw => BoolOp_one (h pins s σ H Q I hw)
theorem pe_and (ha : PE X a ta) (hb : PE X (.BoolOp .And (b :: rest) pos) tb) : PE X (.BoolOp .And (a :: b :: rest) pos) (tAndV ta tb) := by
  intro pins s σ H Q I h
  refine BoolOp_and (thn (ha pins s σ H _ I h) fun v s1 ⟨x, H1, I1, r1, q1⟩ => ?_)
  obtain ⟨c, rfl, q1⟩ := q1
  cases r1
  refine wpAny_truthy_bool ?_
  cases c with
  | true => exact hb pins s1 σ H1 Q I1 q1
  | false => exact ⟨.bl false, H1, I1, rfl, q1⟩
end
end L2

namespace L2
open PySem PySem.Spec PyProof.Rows

def SqL (K : PySem.W.Frag) (H : Hp) (a : Addr) (xs : List V) : Prop :=
  Rd H a (.lst xs) ∨
    ∃ (o : Obj) (its : Array Value) (n : Nat), K.lookup a = some o ∧ o.cls = .type "list" ∧ o.dict = none ∧ o.data = .seq its n ∧ its.size ≤ sizeLine ∧ Vals xs its.toList
def SqT (K : PySem.W.Frag) (H : Hp) (a : Addr) (xs : List V) : Prop :=
  Rd H a (.tup xs) ∨
    ∃ (o : Obj) (its : Array Value) (n : Nat), K.lookup a = some o ∧ o.cls = .type "tuple" ∧ o.data = .seq its n ∧ its.size ≤ sizeLine ∧ Vals xs its.toList
def absV : Value → Option V
  | .none => some .non
  | .bool b => some (.bl b)
  | .int i _ => some (.int i)
  | .str x _ => some (.str x)
  | .bytes b _ => some (.byt b)
  | .float b _ => some (.flt b)
  | .ref a => some (.ref a)
  | .type n => some (.ty n)
  | _ => none
theorem RelV.abs {x : V} {u : Value} (r : RelV x u) : absV u = some x := by
  cases x with
  | non => cases r; rfl
  | bl _ => cases r; rfl
  | int _ => obtain ⟨t, rfl⟩ := r; rfl
  | str _ => obtain ⟨t, rfl⟩ := r; rfl
  | byt _ => obtain ⟨t, rfl⟩ := r; rfl
  | flt _ => obtain ⟨t, rfl⟩ := r; rfl
  | ref _ => cases r; rfl
  | ty _ => cases r; rfl
theorem RelV.inj {x y : V} {u : Value} (r : RelV x u) (q : RelV y u) : x = y := Option.some.inj (r.abs.symm.trans q.abs)
theorem Vals.inj : ∀ {xs ys : List V} {us : List Value}, Vals xs us → Vals ys us → xs = ys
  | _, _, _, .nil, .nil => rfl
  | _, _, _, .cons r t, .cons r' t' => by rw [r.inj r', Vals.inj t t']
section
variable {X : Cx} {pins : List (Addr × Obj)} {σ : St} {H : Hp} {s : Shared} {a : Addr} {xs ys : List V}
theorem SqL.of {K : PySem.W.Frag} (h : H a = some (.lst xs)) : SqL K H a xs := .inl (.inl h)
theorem SqT.of {K : PySem.W.Frag} (h : H a = some (.tup xs)) : SqT K H a xs := .inl (.inl h)
theorem Inv.list (I : Inv X pins σ H s) (h : SqL X.K H a xs) : ∃ its : List Value, Vals xs its ∧ PlainL s.heap a its.toArray ∧ xs.length ≤ sizeLine := by
  rcases h with h | ⟨o, its, n, hk, hc, hd, hs, hz, r⟩
  · obtain ⟨z, its, n, r, e⟩ := h.ok I.hok
    exact ⟨its, r, ⟨_, n, e, rfl, rfl, rfl⟩, z⟩
  · refine ⟨its.toList, r, ⟨o, n, I.kIn a o hk, hc, hd, by simpa using hs⟩, ?_⟩
    have e := r.length
    simp only [Array.length_toList] at e
    omega
theorem Inv.tuple (I : Inv X pins σ H s) (h : SqT X.K H a xs) : ∃ its : List Value, Vals xs its ∧ IsTup s.heap a its.toArray ∧ xs.length ≤ sizeLine := by
  rcases h with h | ⟨o, its, n, hk, hc, hs, hz, r⟩
  · obtain ⟨z, its, r, p⟩ := h.ok I.hok
    exact ⟨its, r, p.isTup, z⟩
  · refine ⟨its.toList, r, ⟨o, I.kIn a o hk, hc, n, by simpa using hs⟩, ?_⟩
    have e := r.length
    simp only [Array.length_toList] at e
    omega
theorem Inv.list_inj (I : Inv X pins σ H s) (h : SqL X.K H a xs) (h' : SqL X.K H a ys) : xs = ys := by
  obtain ⟨its, r, ⟨o, n, e, _, _, d⟩, _⟩ := I.list h
  obtain ⟨its', r', ⟨o', n', e', _, _, d'⟩, _⟩ := I.list h'
  rw [e] at e'; cases e'
  rw [d] at d'
  injection d' with d1 _
  have : its = its' := by simpa using congrArg Array.toList d1
  subst this
  exact r.inj r'
theorem Inv.tuple_inj (I : Inv X pins σ H s) (h : SqT X.K H a xs) (h' : SqT X.K H a ys) : xs = ys := by
  obtain ⟨its, r, ⟨o, e, _, n, d⟩, _⟩ := I.tuple h
  obtain ⟨its', r', ⟨o', e', _, n', d'⟩, _⟩ := I.tuple h'
  rw [e] at e'; cases e'
  rw [d] at d'
  injection d' with d1 _
  have : its = its' := by simpa using congrArg Array.toList d1
  subst this
  exact r.inj r'
end

abbrev Cx.wish (X : Cx) (E : Value → Shared → Prop) : Cx := { X with xe := E }
/-- no exception leaves -/
abbrev Cx.nox (X : Cx) : Cx := X.wish fun _ _ => False
theorem Cx.Ok.wish {X : Cx} (ok : X.Ok) (E : Value → Shared → Prop) : (X.wish E).Ok :=
  ⟨ok.mod, ok.kind, ok.glob, ok.blt, ok.above, ok.inj, ok.has, ok.cab, ok.hd, ok.frames, ok.stk, ok.exf, ok.bs, ok.bsz, ok.noex, ok.exfs, ok.funs, ok.frf⟩
theorem Cx.Ok.unwish {X : Cx} {E : Value → Shared → Prop} (ok : (X.wish E).Ok) : X.Ok :=
  ⟨ok.mod, ok.kind, ok.glob, ok.blt, ok.above, ok.inj, ok.has, ok.cab, ok.hd, ok.frames, ok.stk, ok.exf, ok.bs, ok.bsz, ok.noex, ok.exfs, ok.funs, ok.frf⟩
section
variable {X : Cx} {pins : List (Addr × Obj)} {σ : St} {H : Hp} {s : Shared} {E : Value → Shared → Prop}
theorem Inv.wish (I : Inv X pins σ H s) (E : Value → Shared → Prop) : Inv (X.wish E) pins σ H s := ⟨I.ok.wish E, I.os, I.bare, I.base, I.loc, I.cell, I.free, I.freeC, I.pin, I.hok, I.len⟩
theorem Inv.unwish (I : Inv (X.wish E) pins σ H s) : Inv X pins σ H s := ⟨I.ok.unwish, I.os, I.bare, I.base, I.loc, I.cell, I.free, I.freeC, I.pin, I.hok, I.len⟩
theorem SP.unwish {D : Ends} {f : Flow} {s' : Shared} (h : SP (X.wish E) pins D f s') : SP X pins D f s' := by
  cases f with
  | next => obtain ⟨σ', H', I, q⟩ := h; exact ⟨σ', H', I.unwish, q⟩
  | brk => obtain ⟨σ', H', I, q⟩ := h; exact ⟨σ', H', I.unwish, q⟩
  | cont => obtain ⟨σ', H', I, q⟩ := h; exact ⟨σ', H', I.unwish, q⟩
  | ret u => obtain ⟨v, σ', H', I, r, q⟩ := h; exact ⟨v, σ', H', I.unwish, r, q⟩
theorem PE.nox {e : Expr} {t : TE} (h : PE X.nox e t) : PE X e t := fun pins s σ H Q I hw =>
  wpAny_mono (h pins s σ H Q (I.wish _) hw) (fun _ _ ⟨v, H', I', r, q⟩ => ⟨v, H', I'.unwish, r, q⟩) fun _ _ z => False.elim z
theorem PT.nox {e : Expr} {t : TT} (h : PT X.nox e t) : PT X e t := fun pins s σ H Q I hw =>
  wpAny_mono (h pins s σ H Q (I.wish _) hw) (fun _ _ ⟨H', I', q⟩ => ⟨H', I'.unwish, q⟩) fun _ _ z => False.elim z
theorem PSs.nox {st : List Stmt} {t : TS} (h : PSs X.nox st t) : PSs X st t := fun pins s σ H D I hw =>
  wpAny_mono (h pins s σ H D (I.wish _) hw) (fun _ _ q => q.unwish) fun _ _ z => False.elim z
end

section
variable {X : Cx} {st : Stmt} {rest : List Stmt} {t u : TS} {e : Expr} {te : TE} {pos : Pos}
def tNext : TS := fun D σ H => D.nx σ H
def tSeq (t u : TS) : TS := fun D σ H => t { D with nx := u D } σ H
theorem pss_nil : PSs X [] tNext := fun _ _ σ H _ I h => wpAny_execs_nil ⟨σ, H, I, h⟩
theorem pss_cons (h1 : PS X st t) (h2 : PSs X rest u) : PSs X (st :: rest) (tSeq t u) := by
  intro pins s σ H D I h
  refine wpAny_execs_cons (thn (h1 pins s σ H { D with nx := u D } I h) fun f s1 q => ?_)
  cases f with
  | next =>
    obtain ⟨σ', H', I', q⟩ := q
    exact h2 pins s1 σ' H' D I' q
  | ret v => exact q
  | brk => exact q
  | cont => exact q
theorem pss_one (h1 : PS X st t) : PSs X [st] t := by
  intro pins s σ H D I h
  refine wpAny_execs_cons (thn (h1 pins s σ H D I h) fun f s1 q => ?_)
  cases f with
  | next => exact wpAny_execs_nil q
  | ret v => exact q
  | brk => exact q
  | cont => exact q
/-- in a def's body nothing is shown -/
theorem Inv.quiet {pins : List (Addr × Obj)} {σ : St} {H : Hp} {s : Shared} (I : Inv X pins σ H s) : interactive X.env = false := by simp [interactive, I.ok.kind]
/-- an expression whose value is dropped -/
def tDrop (te : TE) : TS := fun D σ H => te σ H fun _ H1 => D.nx σ H1
theorem ps_expr (he : PE X e te) (hs : swapsWith e none pos.line X.env = pure false := by rfl) : PS X (.Expr e pos) (tDrop te) := by
  intro pins s σ H D I h
  exact wpAny_Expr_any (thn (he pins s σ H _ I h) fun v s1 ⟨x, H1, I1, r1, q1⟩ => ⟨σ, H1, I1, q1⟩) I.quiet hs
def tRet (te : TE) : TS := fun D σ H => te σ H D.rt
theorem ps_ret (he : PE X e te) : PS X (.Return (some e) pos) (tRet te) := by
  intro pins s σ H D I h
  exact wpAny_Return_some (thn (he pins s σ H _ I h) fun v s1 ⟨x, H1, I1, r1, q1⟩ => ⟨x, σ, H1, I1, r1, q1⟩)
def tIfS (c : TT) (t u : TS) : TS := fun D σ H => c σ H fun b H1 => if b = true then t D σ H1 else u D σ H1
theorem ps_if {c : Expr} {a b : List Stmt} {tc : TT} (hc : PT X c tc) (ha : PSs X a t) (hb : PSs X b u) : PS X (.If c a b pos) (tIfS tc t u) := by
  intro pins s σ H D I h
  refine wpAny_If (thn (hc pins s σ H _ I h) fun d s1 ⟨H1, I1, q1⟩ => ?_)
  cases d with
  | true => exact ha pins s1 σ H1 D I1 q1
  | false => exact hb pins s1 σ H1 D I1 q1
end

abbrev TG := V → St → Hp → (St → Hp → Prop) → Prop
abbrev TGs := List V → St → Hp → (St → Hp → Prop) → Prop
def PG (X : Cx) (target : Expr) (t : TG) : Prop :=
  ∀ (pins : List (Addr × Obj)) (s : Shared) (σ : St) (H : Hp) (v : V) (u : Value) (Q : St → Hp → Prop), Inv X pins σ H s → RelV v u → t v σ H Q →
    wpAny (model X.prog X.w) X.A (assign target X.env u) (fun _ s' => ∃ σ' H', Inv X pins σ' H' s' ∧ Q σ' H') X.xe s
/-- several targets, one after another -/
def PGs (X : Cx) (ts : List Expr) (t : TGs) : Prop :=
  ∀ (pins : List (Addr × Obj)) (s : Shared) (σ : St) (H : Hp) (vs : List V) (us : List Value) (Q : St → Hp → Prop), Inv X pins σ H s → Vals vs us → t vs σ H Q →
    wpAny (model X.prog X.w) X.A (assignInOrder ((assignEach ts X.env).map (·.2)) us) (fun _ s' => ∃ σ' H', Inv X pins σ' H' s' ∧ Q σ' H') X.xe s
/-- o[i] = v, by values -/
abbrev TSet := V → V → V → Hp → (Hp → Prop) → Prop
def PSet (X : Cx) (t : TSet) : Prop :=
  ∀ (pins : List (Addr × Obj)) (s : Shared) (σ : St) (H : Hp) (o i v : V) (ov iv u : Value) (Q : Hp → Prop), Inv X pins σ H s → RelV o ov → RelV i iv → RelV v u → t o i v H Q →
    wpAny (model X.prog X.w) X.A (setItem ov iv u) (fun _ s' => ∃ H', Inv X pins σ H' s' ∧ Q H') X.xe s
section
variable {X : Cx} {pos : Pos}
def gName (i : Nat) : TG := fun v σ H Q => Q (σ.set i (some v)) H
theorem pg_name {i : Nat} {x : Str} (hN : X.N.Nodup) (hi : X.N[i]? = some x) (hx : Loc X.env.scope x) (hf : X.fn x = true ∨ X.env.scope.names.lookup x = some .local := by first | exact .inl rfl | exact .inr rfl | assumption) : PG X (.Name x pos) (gName i) := by
  intro pins s σ H v u Q I r h
  exact wpAny_assign_Name (store_ok I hN hi hx r (fun s' I' => ⟨_, H, I', h⟩) hf)
inductive gNil (vs : List V) (σ : St) (H : Hp) (Q : St → Hp → Prop) : Prop
  | mk : (vs = []) → (Q σ H) → gNil vs σ H Q
inductive gCons (t : TG) (u : TGs) (vs : List V) (σ : St) (H : Hp) (Q : St → Hp → Prop) : Prop
  | mk : ∀ v r, (vs = v :: r) → (t v σ H fun σ' H' => u r σ' H' Q) → gCons t u vs σ H Q
theorem pgs_nil : PGs X [] gNil := by
  intro pins s σ H vs us Q I r h
  obtain ⟨e, h⟩ := h
  subst e
  cases r
  exact assignInOrder_nil ⟨σ, H, I, h⟩
theorem pgs_cons {e : Expr} {es : List Expr} {t : TG} {u : TGs} (h1 : PG X e t) (h2 : PGs X es u)
    (hs : (assignEach (e :: es) X.env).map (·.2) = assign e X.env :: (assignEach es X.env).map (·.2) := by rfl) : PGs X (e :: es) (gCons t u) := by
  intro pins s σ H vs us Q I r h
  obtain ⟨v, vr, e1, h⟩ := h
  subst e1
  cases r with
  | cons r rr =>
    rw [hs]
    refine assignInOrder_cons (thn (h1 pins s σ H _ _ _ I r h) fun _ s1 ⟨σ1, H1, I1, q1⟩ => ?_)
    exact h2 pins s1 σ1 H1 _ _ Q I1 rr q1
/-- (a, b, ..) = a tuple of that length -/
inductive gTup (K : PySem.W.Frag) (n : Nat) (t : TGs) (v : V) (σ : St) (H : Hp) (Q : St → Hp → Prop) : Prop
  | mk : ∀ a xs, (v = .ref a) → (SqT K H a xs) → (xs.length = n) → (t xs σ H Q) → gTup K n t v σ H Q
theorem pg_tup {es : List Expr} {k : Nat} {t : TGs} {n : Nat} (hc : X.calm = true) (h : PGs X es t)
    (hn : (assignEach es X.env).length = n := by rfl) (hst : (assignEach es X.env).findIdx? (·.1) = none := by rfl) : PG X (.Tuple es k pos) (gTup X.K n t) := by
  intro pins s σ H v u Q I r hw
  obtain ⟨a, xs, e1, hq, hl, hw⟩ := hw
  subst e1
  cases r
  obtain ⟨its, rv, ht, hz⟩ := I.tuple hq
  refine assign_Tuple_tuple (I.ok.hd hc) ht (by simp [hn, ← hl, rv.length]) hst fun h' hx => ?_
  have I1 : Inv X pins σ H { s with heap := h' } := I.kept (t' := s.toks) fun b o e => hx b o (Nat.ne_of_lt (Heap.lt_size e)) e
  exact h pins _ σ H xs _ Q I1 (by simpa using rv) hw
/-- o[i] = .. -/
def gSub (to ti : TE) (t : TSet) : TG := fun v σ H Q => to σ H fun o H1 => ti σ H1 fun i H2 => t o i v H2 fun H3 => Q σ H3
theorem pg_sub {o i : Expr} {to ti : TE} {t : TSet} (ho : PE X o to) (hi : PE X i ti) (hs : PSet X t)
    (ha : ∀ v, assign (.Subscript o i pos) X.env v = (do
      let ov ← holding [v] (eval o X.env)
      let iv ← holding [v, ov] (eval i X.env)
      standAt pos
      holding [v, ov, iv] (setItem ov iv v)
      release [v, ov, iv] []) := by intro _; rfl) : PG X (.Subscript o i pos) (gSub to ti t) := by
  intro pins s σ H v u Q I r h
  rw [ha]
  refine wpAny_bind (wpAny_holding (thn (ho pins s σ H _ I h) fun ov s1 ⟨x, H1, I1, r1, q1⟩ => ?_))
  refine wpAny_bind (wpAny_holding (thn (hi pins s1 σ H1 _ I1 q1) fun iv s2 ⟨y, H2, I2, r2, q2⟩ => ?_))
  refine wpAny_bind (wpAny_standAt (wpAny_bind (wpAny_holding (thn (hs pins s2 σ H2 x y v ov iv u _ I2 r1 r2 r q2) fun _ s3 ⟨H3, I3, q3⟩ => ?_))))
  exact wpAny_release ⟨σ, H3, I3, q3⟩
/-- target = value -/
def tAsg (te : TE) (g : TG) : TS := fun D σ H => te σ H fun x H1 => g x σ H1 D.nx
theorem ps_asg {tg e : Expr} {te : TE} {g : TG} (he : PE X e te) (hg : PG X tg g) (hs : swapsWithSole [tg] e pos.line X.env = pure false := by rfl) (hw : swappedStores [tg] e X.env = pure none := by rfl)
    (h1 : (assignEach [tg] X.env).map (·.2) = [assign tg X.env] := by rfl) : PS X (.Assign [tg] e pos) (tAsg te g) := by
  intro pins s σ H D I h
  refine wpAny_Assign_stores (thn (he pins s σ H _ I h) fun v s1 ⟨x, H1, I1, r1, q1⟩ => ?_) hs hw
  rw [h1]
  exact thn (hg pins s1 σ H1 x v _ I1 r1 q1) fun _ s2 q => q
/-- name = value -/
theorem ps_set {i : Nat} {x : Str} {e : Expr} {te : TE} {pos' : Pos} (hN : X.N.Nodup) (hi : X.N[i]? = some x) (hx : Loc X.env.scope x) (he : PE X e te) (hs : swapsWith e (some (.Name x pos')) pos.line X.env = pure false := by rfl) (hf : X.fn x = true ∨ X.env.scope.names.lookup x = some .local := by first | exact .inl rfl | exact .inr rfl | assumption) :
    PS X (.Assign [.Name x pos'] e pos) (tAsg te (gName i)) := by
  intro pins s σ H D I h
  refine wpAny_Assign_Name (thn (he pins s σ H _ I h) fun v s1 ⟨y, H1, I1, r1, q1⟩ => ?_) hs
  exact store_ok I1 hN hi hx r1 (fun s2 I2 => ⟨_, H1, I2, q1⟩) hf
end

section
variable {X : Cx} {pos : Pos}
end

/-- at turn i: it yields x (the heap may grow), or it stops -/
structure It where
  go : Nat → Hp → Prop
  yld : Nat → Hp → V → Hp → Prop
  stop : Nat → Hp → Prop
/-- the iterator's own objects may turn: they are not the frame's, not pinned, younger than the entry (or a comprehension's own) -/
def FpOk (X : Cx) (pins : List (Addr × Obj)) (H : Hp) (b : Addr) : Prop :=
  H b = none ∧ b ≠ X.env.locals ∧ b ∉ X.fs ∧ (b ∈ X.ex ∨ X.s₀.heap.objs.size ≤ b) ∧ (∀ x c, X.env.cells.lookup x = some c → c ≠ b) ∧ ∀ p ∈ X.pn ++ pins, p.1 ≠ b
theorem Inv.fpOk {X : Cx} {pins : List (Addr × Obj)} {σ : St} {H H' : Hp} {s : Shared} {b : Addr} (I : Inv X pins σ H s) (hb : s.heap.objs.size ≤ b) (hn : H' b = none) : FpOk X pins H' b := by
  refine ⟨hn, Nat.ne_of_gt (Nat.lt_of_lt_of_le I.lt hb), I.nofs hb, .inr (Nat.le_trans I.sz hb), fun x c e z => ?_, fun p hp z => ?_⟩
  · obtain ⟨v, q⟩ := I.cell x c e
    exact absurd (Nat.lt_of_lt_of_le q.lt (by rw [z]; exact hb)) (Nat.lt_irrefl _)
  · exact absurd (Nat.lt_of_lt_of_le (Heap.lt_size (I.pin p hp).1) (by rw [z]; exact hb)) (Nat.lt_irrefl _)
structure Turn (P : Program) (w : World) (K : PySem.W.Frag) (tg : Expr) (J : It) (fp : List Addr) (it : Addr) (tn : Nat → Heap → Prop) : Prop where
  mem : it ∈ fp
  obj : ∀ i h, tn i h → ∀ b ∈ fp, ∃ o, h.get? b = some o ∧ ∀ v, o.data ≠ .cell v
  keep : ∀ i h h', tn i h → (∀ b ∈ fp, ∀ o, h.get? b = some o → h'.get? b = some o) → tn i h'
  item : ∀ (X : Cx), X.prog = P → X.w = w → X.K = K → X.calm = true → ∀ (i : Nat) (pins : List (Addr × Obj)) (s : Shared) (σ : St) (H : Hp) (E : Value → Shared → Prop), Inv X pins σ H s → (∀ b ∈ fp, FpOk X pins H b) → tn i s.heap → J.go i H →
    wpAny (model P w) X.A (pyNext (.ref it)) (fun r s1 => ∃ u, r = some u ∧
      wpAny (model P w) X.A (letOwnedTupleGo tg (.ref it) u) (fun _ s2 => ∃ x H', Inv X pins σ H' s2 ∧ RelV x u ∧ J.yld i H x H' ∧ tn (i + 1) s2.heap ∧ ∀ b ∈ fp, H' b = none) E s1) E s
  done : ∀ (X : Cx), X.prog = P → X.w = w → X.K = K → X.calm = true → ∀ (i : Nat) (pins : List (Addr × Obj)) (s : Shared) (σ : St) (H : Hp) (E : Value → Shared → Prop), Inv X pins σ H s → (∀ b ∈ fp, FpOk X pins H b) → tn i s.heap → J.stop i H →
    wpAny (model P w) X.A (pyNext (.ref it)) (fun r s1 => r = none ∧ Inv X pins σ H s1) E s
  self : ∀ (A : Around) (i : Nat) (s : Shared) (Q : Value → Shared → Prop) (E : Value → Shared → Prop), tn i s.heap → Q (.ref it) s → wpAny (model P w) A (pyIter (.ref it)) Q E s
abbrev TI := St → Hp → (It → Hp → Prop) → Prop
/-- an iterator has come -/
def PIE (X : Cx) (pins : List (Addr × Obj)) (σ : St) (tg : Expr) (R : It → Hp → Prop) (itv : Value) (s2 : Shared) : Prop :=
  ∃ (it : Addr) (fp : List Addr) (tn : Nat → Heap → Prop) (J : It) (H' : Hp), itv = .ref it ∧ Inv X pins σ H' s2 ∧ Turn X.prog X.w X.K tg J fp it tn ∧ tn 0 s2.heap ∧ (∀ b ∈ fp, FpOk X pins H' b) ∧ R J H'
def PI (X : Cx) (tg iter : Expr) (wi : TI) : Prop :=
  ∀ (pins : List (Addr × Obj)) (s : Shared) (σ : St) (H : Hp) (R : It → Hp → Prop), Inv X pins σ H s → wi σ H R →
    wpAny (model X.prog X.w) X.A (eval iter X.env) (fun v s1 => wpAny (model X.prog X.w) X.A (pyIter v) (PIE X pins σ tg R) X.xe s1) X.xe s

/-- the step ahead of the store is nothing for an iterator that keeps no tuple -/
theorem go_of {M : Model} {A : Around} {E : Value → Shared → Prop} {s : Shared} {tg : Expr} {it : Addr} {u : Value} {o : Obj} {n : String} {vs : Array Value} {Q : Unit → Shared → Prop} (ho : s.heap.get? it = some o) (hc : o.cls = .type n) (hd : o.data = .fields vs)
    (hn : ["enumerate", "zip", "dict_itemiterator", "dict_reverseitemiterator", "odict_iterator", "itertools.zip_longest", "itertools.pairwise"].contains n = false) (hQ : Q () s) : wpAny M A (letOwnedTupleGo tg (.ref it) u) Q E s := by
  unfold letOwnedTupleGo
  cases tg <;> first
    | exact wpAny_pure hQ
    | (cases u <;> first
        | exact wpAny_pure hQ
        | (refine wpAny_bind (wpAny_load ho ?_)
           rw [hc, hd]
           show wpAny M A (if (["enumerate", "zip", "dict_itemiterator", "dict_reverseitemiterator", "odict_iterator", "itertools.zip_longest", "itertools.pairwise"].contains n && vs[0]? == some (rawInt _)) = true then _ else _) Q E s
           rw [if_neg (by intro h; rw [hn, Bool.false_and] at h; cases h)]
           exact wpAny_pure hQ))

/-- the list at a, as it stands at each turn (a loop may append to it) -/
def Itl (K : PySem.W.Frag) (a : Addr) : It :=
  ⟨fun i H => ∃ xs x, SqL K H a xs ∧ xs[i]? = some x, fun i H x H' => H' = H ∧ ∀ xs, SqL K H a xs → xs[i]? = some x, fun i H => ∃ xs, SqL K H a xs ∧ xs.length ≤ i⟩
def Itt (K : PySem.W.Frag) (a : Addr) : It :=
  ⟨fun i H => ∃ xs x, SqT K H a xs ∧ xs[i]? = some x, fun i H x H' => H' = H ∧ ∀ xs, SqT K H a xs → xs[i]? = some x, fun i H => ∃ xs, SqT K H a xs ∧ xs.length ≤ i⟩
/-- lo, lo + 1, .. (n of them) -/
def Itr (lo : Int) (n : Nat) : It := ⟨fun i _ => i < n, fun i H x H' => H' = H ∧ x = .int (lo + i), fun i _ => n ≤ i⟩
theorem turn_list {P : Program} {w : World} {K : PySem.W.Frag} {tg : Expr} (a it : Addr) : Turn P w K tg (Itl K a) [it] it (fun i h => h.IsListIter it a i) where
  mem := by simp
  obj := fun i h st b hb => by
    have e : b = it := by simpa using hb
    subst e
    obtain ⟨o, e, c, d⟩ := st
    exact ⟨o, e, fun v z => by rw [d] at z; cases z⟩
  keep := fun i h h' st k => st.at fun o e => k it (by simp) o e
  item := by
    intro X hP hw hK hc i pins s σ H E I hf st hg
    subst hP hw hK
    obtain ⟨xs, x, hq, hx⟩ := hg
    obtain ⟨its, rv, p, hz⟩ := I.list hq
    obtain ⟨u, hu, ru⟩ := rv.get hx
    obtain ⟨f0, f1, f2, f3, f4, f5⟩ := hf it (by simp)
    refine wpAny_pyNext_list_item st p.isList (x := u) (by simpa using hu) fun h' st' sb => ?_
    have I1 : Inv X pins σ H { s with heap := h' } := I.turned (t' := s.toks) (fun b o hb e => (sb.2 b hb).trans e) f0 f1 f3 f4 f5
    obtain ⟨o, e, c, d⟩ := id st'
    exact ⟨u, rfl, go_of (s := { s with heap := h' }) e c d (by decide) ⟨x, H, I1, ru, ⟨rfl, fun ys hy => by rw [I.list_inj hy hq]; exact hx⟩, st', fun b hb => (hf b hb).1⟩⟩
  done := by
    intro X hP hw hK hc i pins s σ H E I hf st hg
    subst hP hw hK
    obtain ⟨xs, hq, hx⟩ := hg
    obtain ⟨its, rv, p, hz⟩ := I.list hq
    obtain ⟨f0, f1, f2, f3, f4, f5⟩ := hf it (by simp)
    have hl := rv.length
    exact wpAny_pyNext_list_end (I.ok.hd hc) st p.isList (by simp; omega) fun h' eb => ⟨rfl, I.turned (t' := s.toks) (fun b o hb e => eb b o hb e) f0 f1 f3 f4 f5⟩
  self := fun _ _ _ _ _ st h => wpAny_pyIter_listiter st h
theorem turn_tuple {P : Program} {w : World} {K : PySem.W.Frag} {tg : Expr} (a it : Addr) : Turn P w K tg (Itt K a) [it] it (fun i h => h.IsTupleIter it a i) where
  mem := by simp
  obj := fun i h st b hb => by
    have e : b = it := by simpa using hb
    subst e
    obtain ⟨o, e, c, d⟩ := st
    exact ⟨o, e, fun v z => by rw [d] at z; cases z⟩
  keep := fun i h h' st k => st.at fun o e => k it (by simp) o e
  item := by
    intro X hP hw hK hc i pins s σ H E I hf st hg
    subst hP hw hK
    obtain ⟨xs, x, hq, hx⟩ := hg
    obtain ⟨its, rv, p, hz⟩ := I.tuple hq
    obtain ⟨u, hu, ru⟩ := rv.get hx
    obtain ⟨f0, f1, f2, f3, f4, f5⟩ := hf it (by simp)
    refine wpAny_pyNext_tuple_item st (show s.heap.IsTuple a its.toArray from p) (x := u) (by simpa using hu) fun h' st' sb => ?_
    have I1 : Inv X pins σ H { s with heap := h' } := I.turned (t' := s.toks) (fun b o hb e => (sb.2 b hb).trans e) f0 f1 f3 f4 f5
    obtain ⟨o, e, c, d⟩ := id st'
    exact ⟨u, rfl, go_of (s := { s with heap := h' }) e c d (by decide) ⟨x, H, I1, ru, ⟨rfl, fun ys hy => by rw [I.tuple_inj hy hq]; exact hx⟩, st', fun b hb => (hf b hb).1⟩⟩
  done := by
    intro X hP hw hK hc i pins s σ H E I hf st hg
    subst hP hw hK
    obtain ⟨xs, hq, hx⟩ := hg
    obtain ⟨its, rv, p, hz⟩ := I.tuple hq
    obtain ⟨f0, f1, f2, f3, f4, f5⟩ := hf it (by simp)
    have hl := rv.length
    exact wpAny_pyNext_tuple_end (I.ok.hd hc) st (show s.heap.IsTuple a its.toArray from p) (by simp; omega) fun h' eb => ⟨rfl, I.turned (t' := s.toks) (fun b o hb e => eb b o hb e) f0 f1 f3 f4 f5⟩
  self := fun _ _ _ _ _ st h => wpAny_pyIter_tupleiter st h
theorem turn_range {P : Program} {w : World} {K : PySem.W.Frag} {tg : Expr} (it : Addr) (lo : Int) (n : Nat) : Turn P w K tg (Itr lo n) [it] it (fun i h => IsRangeIter h it (lo + (i : Nat) * 1) ((n : Int) - (i : Nat)) 1) where
  mem := by simp
  obj := fun i h st b hb => by
    have e : b = it := by simpa using hb
    subst e
    exact ⟨_, st, fun v z => by
      have z' : Data.fields _ = Data.cell v := z
      cases z'⟩
  keep := fun i h h' st k => k it (by simp) _ st
  item := by
    intro X hP hw hK hc i pins s σ H E I hf st hg
    subst hP hw hK
    obtain ⟨f0, f1, f2, f3, f4, f5⟩ := hf it (by simp)
    have W := Walks.range (prog := X.prog) (w := X.w) (I.ok.hd hc) it lo 1 n
    refine W.item i s _ _ hg st fun v h' tk hv st' kk => ?_
    obtain ⟨t, rfl⟩ := hv
    have I1 : Inv X pins σ H { s with heap := h', toks := tk } := I.turned (fun b o hb e => kk b o (by simpa using hb) e) f0 f1 f3 f4 f5
    refine ⟨_, rfl, go_of (s := { s with heap := h', toks := tk }) (n := "range_iterator") st' rfl rfl (by decide) ⟨.int (lo + i), H, I1, ⟨t, ?_⟩, ⟨rfl, rfl⟩, st', fun b hb => (hf b hb).1⟩⟩
    rw [Int.mul_one]
  done := by
    intro X hP hw hK hc i pins s σ H E I hf st hg
    subst hP hw hK
    obtain ⟨f0, f1, f2, f3, f4, f5⟩ := hf it (by simp)
    exact wpAny_pyNext_range_end (I.ok.hd hc) st (by have : n ≤ i := hg; omega) fun h' eb => ⟨rfl, I.turned (t' := s.toks) (fun b o hb e => eb b o hb e) f0 f1 f3 f4 f5⟩
  self := fun _ _ _ _ _ st h => wpAny_pyIter_rangeiter st h
end L2

namespace L2
open PySem PySem.Spec PyProof.Rows
section
variable {X : Cx} {tg : Expr}
inductive iListY (K : PySem.W.Frag) (R : It → Hp → Prop) (x : V) (H1 : Hp) : Prop
  | mk : ∀ a, (x = .ref a) → ((∃ xs, SqL K H1 a xs)) → (R (Itl K a) H1) → iListY K R x H1
def iList (K : PySem.W.Frag) (tl : TE) : TI := fun σ H R => tl σ H fun x H1 => iListY K R x H1
inductive iTupY (K : PySem.W.Frag) (R : It → Hp → Prop) (x : V) (H1 : Hp) : Prop
  | mk : ∀ a, (x = .ref a) → ((∃ xs, SqT K H1 a xs)) → (R (Itt K a) H1) → iTupY K R x H1
def iTup (K : PySem.W.Frag) (tl : TE) : TI := fun σ H R => tl σ H fun x H1 => iTupY K R x H1
theorem pi_list {l : Expr} {tl : TE} (hl : PE X l tl) : PI X tg l (iList X.K tl) := by
  intro pins s σ H R I h
  refine thn (hl pins s σ H _ I h) fun v s1 ⟨x, H1, I1, r1, q1⟩ => ?_
  obtain ⟨a, e, ⟨xs, hq⟩, q⟩ := q1
  subst e
  cases r1
  obtain ⟨its, rv, p, hz⟩ := I1.list hq
  refine wpAny_pyIter_list p.isList ?_
  refine ⟨s1.heap.objs.size, [s1.heap.objs.size], _, _, H1, rfl, I1.kept (t' := s1.toks) fun b o e => Heap.get?_push_of_some _ e, turn_list a _, ⟨_, Heap.get?_push_size _ rfl, rfl, rfl⟩, fun b hb => ?_, q⟩
  have e : b = s1.heap.objs.size := by simpa using hb
  subst e
  exact I1.fpOk (Nat.le_refl _) (I1.hok.fresh (Nat.le_refl _))
theorem pi_tup {l : Expr} {tl : TE} (hl : PE X l tl) : PI X tg l (iTup X.K tl) := by
  intro pins s σ H R I h
  refine thn (hl pins s σ H _ I h) fun v s1 ⟨x, H1, I1, r1, q1⟩ => ?_
  obtain ⟨a, e, ⟨xs, hq⟩, q⟩ := q1
  subst e
  cases r1
  obtain ⟨its, rv, p, hz⟩ := I1.tuple hq
  refine wpAny_pyIter_tuple (show s1.heap.IsTuple a its.toArray from p) ?_
  refine ⟨s1.heap.objs.size, [s1.heap.objs.size], _, _, H1, rfl, I1.kept (t' := s1.toks) fun b o e => Heap.get?_push_of_some _ e, turn_tuple a _, ⟨_, Heap.get?_push_size _ rfl, rfl, rfl⟩, fun b hb => ?_, q⟩
  have e : b = s1.heap.objs.size := by simpa using hb
  subst e
  exact I1.fpOk (Nat.le_refl _) (I1.hok.fresh (Nat.le_refl _))
/-- a range object just made, walked -/
theorem range_it {pins : List (Addr × Obj)} {σ : St} {H : Hp} {s : Shared} {R : It → Hp → Prop} {E : Value → Shared → Prop} {lo hi : Int} {t u v : Tok} {tk : Nat} (I : Inv X pins σ H s) (h1 : -(2 ^ 62) ≤ lo) (h2 : lo < 2 ^ 62) (h3 : -(2 ^ 62) ≤ hi) (h4 : hi < 2 ^ 62)
    (q : R (Itr lo (hi - lo).toNat) H) : wpAny (model X.prog X.w) X.A (pyIter (.ref s.heap.objs.size)) (PIE X pins σ tg R) E { s with heap := s.heap.push { cls := .type "range", data := .fields #[.int lo t, .int hi u, .int 1 v] }, toks := tk } := by
  refine wpAny_pyIter_range (IsRange.new ..) (small_one h1 h2 h3 h4) ?_
  have I1 : Inv X pins σ H { s with heap := s.heap.push { cls := .type "range", data := .fields #[.int lo t, .int hi u, .int 1 v] }, toks := tk } := I.kept fun b o e => Heap.get?_push_of_some _ e
  refine ⟨(s.heap.push { cls := .type "range", data := .fields #[.int lo t, .int hi u, .int 1 v] }).objs.size, [(s.heap.push { cls := .type "range", data := .fields #[.int lo t, .int hi u, .int 1 v] }).objs.size], _, _, H, rfl,
    I1.kept (t' := tk) fun b o e => Heap.get?_push_of_some _ e, turn_range _ lo (hi - lo).toNat, ?_, fun b hb => ?_, q⟩
  · have e1 : lo + ((0 : Nat) : Int) * 1 = lo := by simp
    have e2 : (((hi - lo).toNat : Nat) : Int) - ((0 : Nat) : Int) = Builtin.Range.rangeSize lo hi 1 := by rw [rangeSize_one]; split <;> omega
    show IsRangeIter _ _ (lo + ((0 : Nat) : Int) * 1) ((((hi - lo).toNat : Nat) : Int) - ((0 : Nat) : Int)) 1
    rw [e1, e2]
    exact Heap.get?_push_size _ rfl
  · have e : b = (s.heap.push { cls := .type "range", data := .fields #[.int lo t, .int hi u, .int 1 v] }).objs.size := by simpa using hb
    subst e
    exact I1.fpOk (Nat.le_refl _) (I1.hok.fresh (Nat.le_refl _))
inductive iRng1Y (R : It → Hp → Prop) (vs : List V) (H1 : Hp) : Prop
  | mk : ∀ (j : Int), (vs = [.int j]) → (-(2 ^ 62) ≤ j) → (j < 2 ^ 62) → (R (Itr 0 j.toNat) H1) → iRng1Y R vs H1
def iRng1 (ta : TA) : TI := fun σ H R => ta σ H fun vs H1 => iRng1Y R vs H1
theorem pi_range1 {a : Expr} {ta : TA} {p pos : Pos} (hg : Gl X "range") (hm : X.mg "range" = none) (ha : PA X [a] ta) (hs : starEach [a] X.env = [(false, eval a X.env)] := by rfl) : PI X tg (.Call (.Name "range" p) [a] [] pos) (iRng1 ta) := by
  intro pins s σ H R I h
  refine Call_ (ld_blt I hg hm boot_range (PyProof.Rows.callWith_type1 (thn (ha pos pins s σ H _ I h) fun us s1 ⟨vs, H1, I1, r1, q1⟩ => ?_) hs rfl))
  obtain ⟨j, e, q1, q2, q⟩ := q1
  subst e
  cases r1 with
  | cons r rr =>
    cases rr
    obtain ⟨t, rfl⟩ := r
    exact call_range_1 (range_it I1 (by omega) (by omega) q1 q2 (by simpa using q))
/-- W: the invariant by the turn and a measure; N: what the body is to reach -/
def tFor (wi : TI) (g : TG) (tb : TS) : TS := fun D σ H => wi σ H fun J H1 => ∃ W : Nat → Nat → St → Hp → Prop, (∃ m, W 0 m σ H1) ∧ ∀ i m σ H, W i m σ H →
  (J.stop i H ∧ D.nx σ H) ∨ (J.go i H ∧ ∃ N : St → Hp → Prop, (∀ σ' H', N σ' H' → ∃ m', m' < m ∧ W (i + 1) m' σ' H') ∧ ∀ x H', J.yld i H x H' → g x σ H' fun σ2 H2 => tb { D with nx := N, ct := N, bk := D.nx } σ2 H2)
/-- the records at fp as they stand -/
def pinsAt (fp : List Addr) (h : Heap) : List (Addr × Obj) := fp.filterMap fun b => (h.get? b).map fun o => (b, o)
theorem mem_pinsAt {fp : List Addr} {h : Heap} {b : Addr} {o : Obj} (hb : b ∈ fp) (e : h.get? b = some o) : (b, o) ∈ pinsAt fp h := List.mem_filterMap.mpr ⟨b, hb, by rw [e]; rfl⟩
theorem of_pinsAt {fp : List Addr} {h : Heap} {p : Addr × Obj} (hp : p ∈ pinsAt fp h) : p.1 ∈ fp ∧ h.get? p.1 = some p.2 := by
  obtain ⟨b, hb, e⟩ := List.mem_filterMap.mp hp
  cases q : h.get? b with
  | none => rw [q] at e; cases e
  | some o =>
    rw [q] at e
    have e' : (b, o) = p := Option.some.inj e
    subst e'
    exact ⟨hb, q⟩
theorem Inv.pinned {pins : List (Addr × Obj)} {σ : St} {H : Hp} {s : Shared} {fp : List Addr} (I : Inv X pins σ H s) (hf : ∀ b ∈ fp, FpOk X pins H b) (ho : ∀ b ∈ fp, ∃ o, s.heap.get? b = some o ∧ ∀ v, o.data ≠ .cell v) : Inv X (pins ++ pinsAt fp s.heap) σ H s :=
  I.pins_of fun p hp => (List.mem_append.mp hp).elim (fun z => I.pin p (List.mem_append_right _ z)) fun z => by
    obtain ⟨hb, e⟩ := of_pinsAt z
    obtain ⟨f0, f1, f2, _⟩ := hf p.1 hb
    obtain ⟨o, e', d⟩ := ho p.1 hb
    rw [e] at e'; cases e'
    exact ⟨e, f0, f1, f2, d⟩
theorem Inv.unpinned {pins pl : List (Addr × Obj)} {σ : St} {H : Hp} {s : Shared} (I : Inv X (pins ++ pl) σ H s) : Inv X pins σ H s := I.pins_of fun p hp => I.pin p (List.mem_append_right _ (List.mem_append_left _ hp))
theorem ps_for {iter : Expr} {body : List Stmt} {wi : TI} {g : TG} {tb : TS} {pos : Pos} (hp : PassesOwn (model X.prog X.w) X.A X.env X.xe) (hc : X.calm = true) (hi : PI X tg iter wi) (hg : PG X tg g) (hb : PSs X body tb)
    (hs : ∀ x, foldedSetIterable iter X.env x = pure x := by intro _; rfl) : PS X (.For tg iter body [] pos) (tFor wi g tb) := by
  intro pins s σ H D I h
  refine wpAny_For (thn (hi pins s σ H _ I h) fun v s1 h1 => thn h1 fun itv s2 h2 => ?_) hs
  obtain ⟨it, fp, tn, J, H2, e, I2, T, st2, f2, W, ⟨m0, w0⟩, turn⟩ := h2
  subst e
  -- what stays true of the iterator's objects through the loop
  have stat : ∀ {H' : Hp}, (∀ b ∈ fp, H' b = none) → ∀ b ∈ fp, FpOk X pins H' b := fun hn b hb => ⟨hn b hb, (f2 b hb).2⟩
  refine codeAny_forLoop_any (fun n s' => ∃ i σ' H', Inv X pins σ' H' s' ∧ tn i s'.heap ∧ (∀ b ∈ fp, H' b = none) ∧ W i n σ' H') ?_ m0 ⟨0, σ, H2, I2, st2, fun b hb => (f2 b hb).1, w0⟩
  rintro n s3 ⟨i, σ3, H3, I3, st3, fr3, w3⟩
  rcases turn i n σ3 H3 w3 with ⟨stop, qn⟩ | ⟨go, N, hN, step⟩
  · refine wpAny_passesOwn hp (thn (T.done X rfl rfl rfl hc i pins s3 σ3 H3 X.xe I3 (stat fr3) st3 stop) fun r s4 ⟨hr, I4⟩ => ?_)
    subst hr
    exact wpAny_execs_nil ⟨σ3, H3, I4, qn⟩
  · refine wpAny_passesOwn hp (thn (T.item X rfl rfl rfl hc i pins s3 σ3 H3 X.xe I3 (stat fr3) st3 go) fun r s4 ⟨u, hr, h4⟩ => ?_)
    subst hr
    refine wpAny_passesOwn hp (thn h4 fun _ s5 ⟨x, H5, I5, r5, y5, st5, fr5⟩ => ?_)
    have I5' := I5.pinned (stat fr5) (T.obj _ _ st5)
    refine wpAny_passesOwn hp (thn (hg _ s5 σ3 H5 x u _ I5' r5 (step x H5 y5)) fun _ s6 ⟨σ6, H6, I6, q6⟩ => ?_)
    refine wpAny_passesOwn hp (thn (hb _ s6 σ6 H6 _ I6 q6) fun f s7 q7 => ?_)
    have again : ∀ {σ7 : St} {H7 : Hp}, Inv X (pins ++ pinsAt fp s5.heap) σ7 H7 s7 → N σ7 H7 → ∃ m, m < n ∧ ∃ i σ' H', Inv X pins σ' H' s7 ∧ tn i s7.heap ∧ (∀ b ∈ fp, H' b = none) ∧ W i m σ' H' := fun {σ7 H7} I7 n7 => by
      obtain ⟨m', hm, w7⟩ := hN σ7 H7 n7
      refine ⟨m', hm, i + 1, σ7, H7, I7.unpinned, T.keep _ _ _ st5 fun b hb o e => (I7.pin (b, o) (List.mem_append_right _ (List.mem_append_right _ (mem_pinsAt hb e)))).1, fun b hb => ?_, w7⟩
      obtain ⟨o, e, d⟩ := T.obj _ _ st5 b hb
      exact (I7.pin (b, o) (List.mem_append_right _ (List.mem_append_right _ (mem_pinsAt hb e)))).2.1
    cases f with
    | next => obtain ⟨σ7, H7, I7, n7⟩ := q7; exact again I7 n7
    | cont => obtain ⟨σ7, H7, I7, n7⟩ := q7; exact again I7 n7
    | brk => obtain ⟨σ7, H7, I7, q7⟩ := q7; exact ⟨σ7, H7, I7.unpinned, q7⟩
    | ret v => obtain ⟨x7, σ7, H7, I7, r7, q7⟩ := q7; exact ⟨x7, σ7, H7, I7.unpinned, r7, q7⟩
end

theorem for_range {lo : Int} {n : Nat} {g : TG} {tb : TS} {D : Ends} {σ : St} {H : Hp} (Pv : Nat → St → Hp → Prop) (h0 : Pv 0 σ H)
    (hs : ∀ i σ H, i < n → Pv i σ H → g (.int (lo + i)) σ H fun σ2 H2 => tb { D with nx := Pv (i + 1), ct := Pv (i + 1), bk := D.nx } σ2 H2) (hd : ∀ σ H, Pv n σ H → D.nx σ H) :
    ∃ W : Nat → Nat → St → Hp → Prop, (∃ m, W 0 m σ H) ∧ ∀ i m σ H, W i m σ H →
      ((Itr lo n).stop i H ∧ D.nx σ H) ∨ ((Itr lo n).go i H ∧ ∃ N : St → Hp → Prop, (∀ σ' H', N σ' H' → ∃ m', m' < m ∧ W (i + 1) m' σ' H') ∧ ∀ x H', (Itr lo n).yld i H x H' → g x σ H' fun σ2 H2 => tb { D with nx := N, ct := N, bk := D.nx } σ2 H2) := by
  refine ⟨fun i m σ H => m = n - i ∧ i ≤ n ∧ Pv i σ H, ⟨n, by simp, Nat.zero_le _, h0⟩, ?_⟩
  rintro i m σ H ⟨rfl, hi, p⟩
  by_cases hlt : i < n
  · refine .inr ⟨hlt, Pv (i + 1), fun σ' H' p' => ⟨n - (i + 1), by omega, rfl, hlt, p'⟩, fun x H' y => ?_⟩
    obtain ⟨e, y⟩ := y
    subst e y
    exact hs i σ _ hlt p
  · have e : i = n := by omega
    subst e
    exact .inl ⟨Nat.le_refl _, hd σ H p⟩
end L2

namespace L2
open PySem PySem.Spec PyProof.Rows

abbrev R2 := V → V → Hp → VK → Prop
/-- a two-place operation on values: f is binaryOp op, inplaceOp op or compareOp op -/
def OpR (X : Cx) (f : Value → Value → Sem Value) (r : R2) : Prop :=
  ∀ (pins : List (Addr × Obj)) (s : Shared) (σ : St) (H : Hp) (x y : V) (v u : Value) (Q : VK), Inv X pins σ H s → RelV x v → RelV y u → r x y H Q →
    wpAny (model X.prog X.w) X.A (f v u) (EP X pins σ Q) X.xe s
/-- a one-place operation -/
def UnR (X : Cx) (f : Value → Sem Value) (r : V → Hp → VK → Prop) : Prop :=
  ∀ (pins : List (Addr × Obj)) (s : Shared) (σ : St) (H : Hp) (x : V) (v : Value) (Q : VK), Inv X pins σ H s → RelV x v → r x H Q →
    wpAny (model X.prog X.w) X.A (f v) (EP X pins σ Q) X.xe s
/-- a call of a value that is known (a builtin, a type) with values -/
def CallR (X : Cx) (f : Value) (r : List V → Hp → VK → Prop) : Prop :=
  ∀ (pins : List (Addr × Obj)) (s : Shared) (σ : St) (H : Hp) (xs : List V) (us : List Value) (Q : VK), Inv X pins σ H s → Vals xs us → r xs H Q →
    wpAny (model X.prog X.w) X.A (call f us) (EP X pins σ Q) X.xe s
def tOp (r : R2) (ta tb : TE) : TE := fun σ H Q => ta σ H fun x H1 => tb σ H1 fun y H2 => r x y H2 Q
def tUn (r : V → Hp → VK → Prop) (ta : TE) : TE := fun σ H Q => ta σ H fun x H1 => r x H1 Q
/-- ints in, under C, and a value out -/
inductive rI (C : Int → Int → Prop) (g : Int → Int → V) (x : V) (y : V) (H : Hp) (Q : VK) : Prop
  | mk : ∀ i j, (x = .int i) → (y = .int j) → (C i j) → (Q (g i j) H) → rI C g x y H Q
inductive rI0 (g : Int → Int → V) (x : V) (y : V) (H : Hp) (Q : VK) : Prop
  | mk : ∀ i j, (x = .int i) → (y = .int j) → (Q (g i j) H) → rI0 g x y H Q
inductive rU (g : Int → V) (x : V) (H : Hp) (Q : VK) : Prop
  | mk : ∀ i, (x = .int i) → (Q (g i) H) → rU g x H Q
section
variable {X : Cx} {a b c : Expr} {ta tb tc : TE} {pos : Pos}

theorem binT (ha : PE X a ta) (hb : PE X b tb) {pins : List (Addr × Obj)} {s : Shared} {σ : St} {H : Hp} {R : V → V → Hp → Prop} (I : Inv X pins σ H s)
    (h : ta σ H fun x H1 => tb σ H1 fun y H2 => R x y H2) {Q : Value → Shared → Prop} {f : Value → Value → Sem Value}
    (hf : ∀ v u s2 x y H2, Inv X pins σ H2 s2 → RelV x v → RelV y u → R x y H2 → wpAny (model X.prog X.w) X.A (f v u) Q X.xe s2) :
    wpAny (model X.prog X.w) X.A (eval a X.env) (fun v s₁ => wpAny (model X.prog X.w) X.A (eval b X.env) (fun u s₂ => wpAny (model X.prog X.w) X.A (f v u) Q X.xe s₂) X.xe s₁) X.xe s := by
  refine thn (ha pins s σ H _ I h) fun v s1 ⟨x, H1, I1, r1, q1⟩ => ?_
  refine thn (hb pins s1 σ H1 _ I1 q1) fun u s2 ⟨y, H2, I2, r2, q2⟩ => ?_
  exact hf v u s2 x y H2 I2 r1 r2 q2

theorem pe_op {op : Operator} {r : R2} (ho : OpR X (binaryOp op) r) (ha : PE X a ta) (hb : PE X b tb) : PE X (.BinOp a op b pos) (tOp r ta tb) := by
  intro pins s σ H Q I h
  exact wpAny_BinOp (binT ha hb I h fun v u s2 x y H2 I2 rx ry q => ho pins s2 σ H2 x y v u Q I2 rx ry q)
theorem pe_un {op : UnaryOp} {r : V → Hp → VK → Prop} (ho : UnR X (unaryOp op) r) (ha : PE X a ta) : PE X (.UnaryOp op a pos) (tUn r ta) := by
  intro pins s σ H Q I h
  exact UnaryOp_ (thn (ha pins s σ H _ I h) fun v s1 ⟨x, H1, I1, r1, q1⟩ => ho pins s1 σ H1 x v Q I1 r1 q1)
theorem opI {f : Value → Value → Sem Value} {C : Int → Int → Prop} {g : Int → Int → Int}
    (rule : ∀ (i j : Int) (t u : Tok) (s : Shared) (Q : Value → Shared → Prop) (E : Value → Shared → Prop), C i j → Q (.int (g i j) s.toks) { s with toks := s.toks + 1 } → wpAny (model X.prog X.w) X.A (f (.int i t) (.int j u)) Q E s) :
    OpR X f (rI C fun i j => .int (g i j)) := by
  intro pins s σ H x y v u Q I rx ry h
  obtain ⟨i, j, rfl, rfl, hc, q⟩ := h
  obtain ⟨t, rfl⟩ := rx
  obtain ⟨t', rfl⟩ := ry
  exact rule i j t t' s _ _ hc ⟨.int (g i j), H, I.tok _, ⟨_, rfl⟩, q⟩
theorem opI0 {f : Value → Value → Sem Value} {g : Int → Int → Int}
    (rule : ∀ (i j : Int) (t u : Tok) (s : Shared) (Q : Value → Shared → Prop) (E : Value → Shared → Prop), Q (.int (g i j) s.toks) { s with toks := s.toks + 1 } → wpAny (model X.prog X.w) X.A (f (.int i t) (.int j u)) Q E s) :
    OpR X f (rI0 fun i j => .int (g i j)) := by
  intro pins s σ H x y v u Q I rx ry h
  obtain ⟨i, j, rfl, rfl, q⟩ := h
  obtain ⟨t, rfl⟩ := rx
  obtain ⟨t', rfl⟩ := ry
  exact rule i j t t' s _ _ ⟨.int (g i j), H, I.tok _, ⟨_, rfl⟩, q⟩
theorem opB0 {f : Value → Value → Sem Value} {g : Int → Int → Bool}
    (rule : ∀ (i j : Int) (t u : Tok) (s : Shared) (Q : Value → Shared → Prop) (E : Value → Shared → Prop), Q (.bool (g i j)) s → wpAny (model X.prog X.w) X.A (f (.int i t) (.int j u)) Q E s) :
    OpR X f (rI0 fun i j => .bl (g i j)) := by
  intro pins s σ H x y v u Q I rx ry h
  obtain ⟨i, j, rfl, rfl, q⟩ := h
  obtain ⟨t, rfl⟩ := rx
  obtain ⟨t', rfl⟩ := ry
  exact rule i j t t' s _ _ ⟨.bl (g i j), H, I, rfl, q⟩

def CDiv (i j : Int) : Prop := 0 < j ∧ j < 1073741824
def CPow (i j : Int) : Prop := 0 ≤ j ∧ j ≤ 1000000 ∧ i.natAbs < 2 ^ 64
def CMul (i j : Int) : Prop := (-(2 ^ 64) < i ∧ i < 2 ^ 64) ∨ (-(2 ^ 64) < j ∧ j < 2 ^ 64)
theorem CMul.ok {i j : Int} (h : CMul i j) : IntMulOk i j := by
  rcases h with ⟨h1, h2⟩ | ⟨h1, h2⟩
  · exact .of_left (intBits_le_64 h1 h2)
  · exact .of_right (intBits_le_64 h1 h2)
theorem op_add : OpR X (binaryOp .Add) (rI0 fun i j => .int (i + j)) := opI0 fun _ _ _ _ _ _ _ q => add_int q
theorem op_sub : OpR X (binaryOp .Sub) (rI0 fun i j => .int (i - j)) := opI0 fun _ _ _ _ _ _ _ q => sub_int q
theorem op_mul : OpR X (binaryOp .Mult) (rI CMul fun i j => .int (i * j)) := opI fun _ _ _ _ _ _ _ hc q => mul_int q hc.ok
/-- // by a positive divisor -/
theorem op_fdiv : OpR X (binaryOp .FloorDiv) (rI CDiv fun i j => .int (i / j)) := opI fun i j _ _ _ _ _ hc q => by
  have h1 : (0 : Int) < j := hc.1
  have h2 : j < 1073741824 := hc.2
  exact floordiv_int (by omega) (by rw [Int.fdiv_eq_ediv_of_nonneg i (by omega)]; exact q) (.inl (PyProof.noPylong_small (by omega)))
/-- % by a positive divisor of any size -/
theorem op_mod : OpR X (binaryOp .Mod) (rI (fun _ j => 0 < j) fun i j => .int (i % j)) := opI fun i j _ _ _ _ _ hc q => by
  have h1 : (0 : Int) < j := hc
  exact mod_int' (by omega) (by rw [Int.fmod_eq_emod_of_nonneg i (by omega)]; exact q)
theorem op_pow : OpR X (binaryOp .Pow) (rI CPow fun i j => .int (i ^ j.toNat)) := opI fun _ _ _ _ _ _ _ hc q => pow_int_small hc.1 hc.2.1 hc.2.2 q
theorem unI {f : Value → Sem Value} {g : Int → Int}
    (rule : ∀ (i : Int) (t : Tok) (s : Shared) (Q : Value → Shared → Prop) (E : Value → Shared → Prop), Q (.int (g i) s.toks) { s with toks := s.toks + 1 } → wpAny (model X.prog X.w) X.A (f (.int i t)) Q E s) :
    UnR X f (rU fun i => .int (g i)) := by
  intro pins s σ H x v Q I rx h
  obtain ⟨i, rfl, q⟩ := h
  obtain ⟨t, rfl⟩ := rx
  exact rule i t s _ _ ⟨.int (g i), H, I.tok _, ⟨_, rfl⟩, q⟩
theorem un_neg : UnR X (unaryOp .USub) (rU fun i => .int (-i)) := unI fun _ _ _ _ _ q => neg_int q
end

/-- the scalars that == tells apart as data does -/
def scal : V → V → Bool
  | .non, .non => true | .non, .int _ => true | .int _, .non => true | .non, .bl _ => true | .bl _, .non => true | .non, .str _ => true | .str _, .non => true
  | .int _, .int _ => true | .bl _, .bl _ => true | .str _, .str _ => true | .byt _, .byt _ => true
  | .int _, .str _ => true | .str _, .int _ => true | .bl _, .str _ => true | .str _, .bl _ => true
  | _, _ => false
inductive rEq (x : V) (y : V) (H : Hp) (Q : VK) : Prop
  | mk : (scal x y = true) → (Q (.bl (decide (x = y))) H) → rEq x y H Q
inductive rNe (x : V) (y : V) (H : Hp) (Q : VK) : Prop
  | mk : (scal x y = true) → (Q (.bl (!decide (x = y))) H) → rNe x y H Q
theorem dec_int {i j : Int} : decide (V.int i = V.int j) = (i == j) := by
  rw [Bool.eq_iff_iff]
  simp
theorem dec_bl {i j : Bool} : decide (V.bl i = V.bl j) = (i == j) := by
  rw [Bool.eq_iff_iff]
  simp
theorem dec_str {i j : Str} : decide (V.str i = V.str j) = (i == j) := by
  rw [Bool.eq_iff_iff]
  simp
theorem dec_byt {i j : Array UInt8} : decide (V.byt i = V.byt j) = (i.toList == j.toList) := by
  rw [Bool.eq_iff_iff]
  cases i
  cases j
  simp

section
variable {X : Cx} {a b c : Expr} {ta tb tc : TE} {pos : Pos}
theorem fin_bl {pins : List (Addr × Obj)} {σ : St} {H : Hp} {s : Shared} {Q : VK} {k k' : Bool} (I : Inv X pins σ H s) (q : Q (.bl k) H) (e : k = k') : EP X pins σ Q (.bool k') s := by
  subst e
  exact ⟨.bl k, H, I, rfl, q⟩
theorem op_eq : OpR X (compareOp .Eq) rEq := by
  intro pins s σ H x y v u Q I rx ry h
  obtain ⟨hs, q⟩ := h
  cases x with
  | non =>
    cases rx
    cases y with
    | non => cases ry; exact PySem.EqNone.eq_none_none (fin_bl I q (by simp))
    | bl j => cases ry; exact PySem.EqNone.eq_none_bool (fin_bl I q (by simp))
    | int j => obtain ⟨t', rfl⟩ := ry; exact PySem.EqNone.eq_none_int (fin_bl I q (by simp))
    | str j => obtain ⟨t', rfl⟩ := ry; exact PySem.EqNone.eq_none_str (fin_bl I q (by simp))
    | _ => exact absurd (show false = true from hs) Bool.false_ne_true
  | bl i =>
    cases rx
    cases y with
    | non => cases ry; exact PySem.EqNone.eq_bool_none (fin_bl I q (by simp))
    | bl j => cases ry; exact eq_bool (fin_bl I q dec_bl)
    | str j => obtain ⟨t', rfl⟩ := ry; exact PySem.EqMixed.eq_bool_str (fin_bl I q (by simp))
    | _ => exact absurd (show false = true from hs) Bool.false_ne_true
  | int i =>
    obtain ⟨t, rfl⟩ := rx
    cases y with
    | non => cases ry; exact PySem.EqNone.eq_int_none (fin_bl I q (by simp))
    | int j => obtain ⟨t', rfl⟩ := ry; exact eq_int (fin_bl I q dec_int)
    | str j => obtain ⟨t', rfl⟩ := ry; exact PySem.EqMixed.eq_int_str (fin_bl I q (by simp))
    | _ => exact absurd (show false = true from hs) Bool.false_ne_true
  | str i =>
    obtain ⟨t, rfl⟩ := rx
    cases y with
    | non => cases ry; exact PySem.EqNone.eq_str_none (fin_bl I q (by simp))
    | bl j => cases ry; exact PySem.EqMixed.eq_str_bool (fin_bl I q (by simp))
    | int j => obtain ⟨t', rfl⟩ := ry; exact PySem.EqMixed.eq_str_int (fin_bl I q (by simp))
    | str j => obtain ⟨t', rfl⟩ := ry; exact eq_str (fin_bl I q dec_str)
    | _ => exact absurd (show false = true from hs) Bool.false_ne_true
  | byt i =>
    obtain ⟨t, rfl⟩ := rx
    cases y with
    | byt j => obtain ⟨t', rfl⟩ := ry; exact PySem.W.eq_bytes (fin_bl I q dec_byt)
    | _ => exact absurd (show false = true from hs) Bool.false_ne_true
  | _ => cases y <;> exact absurd (show false = true from hs) Bool.false_ne_true
theorem op_ne : OpR X (compareOp .NotEq) rNe := by
  intro pins s σ H x y v u Q I rx ry h
  obtain ⟨hs, q⟩ := h
  cases x with
  | non =>
    cases rx
    cases y with
    | non => cases ry; exact PySem.EqNone.ne_none_none (fin_bl I q (by simp))
    | bl j => cases ry; exact PySem.EqNone.ne_none_bool (fin_bl I q (by simp))
    | int j => obtain ⟨t', rfl⟩ := ry; exact PySem.EqNone.ne_none_int (fin_bl I q (by simp))
    | str j => obtain ⟨t', rfl⟩ := ry; exact PySem.EqNone.ne_none_str (fin_bl I q (by simp))
    | _ => exact absurd (show false = true from hs) Bool.false_ne_true
  | bl i =>
    cases rx
    cases y with
    | non => cases ry; exact PySem.EqNone.ne_bool_none (fin_bl I q (by simp))
    | bl j => cases ry; exact ne_bool (fin_bl I q (congrArg not dec_bl))
    | str j => obtain ⟨t', rfl⟩ := ry; exact PySem.EqMixed.ne_bool_str (fin_bl I q (by simp))
    | _ => exact absurd (show false = true from hs) Bool.false_ne_true
  | int i =>
    obtain ⟨t, rfl⟩ := rx
    cases y with
    | non => cases ry; exact PySem.EqNone.ne_int_none (fin_bl I q (by simp))
    | int j => obtain ⟨t', rfl⟩ := ry; exact ne_int (fin_bl I q (congrArg not dec_int))
    | str j => obtain ⟨t', rfl⟩ := ry; exact PySem.EqMixed.ne_int_str (fin_bl I q (by simp))
    | _ => exact absurd (show false = true from hs) Bool.false_ne_true
  | str i =>
    obtain ⟨t, rfl⟩ := rx
    cases y with
    | non => cases ry; exact PySem.EqNone.ne_str_none (fin_bl I q (by simp))
    | bl j => cases ry; exact PySem.EqMixed.ne_str_bool (fin_bl I q (by simp))
    | int j => obtain ⟨t', rfl⟩ := ry; exact PySem.EqMixed.ne_str_int (fin_bl I q (by simp))
    | str j => obtain ⟨t', rfl⟩ := ry; exact ne_str (fin_bl I q (congrArg not dec_str))
    | _ => exact absurd (show false = true from hs) Bool.false_ne_true
  | byt i =>
    obtain ⟨t, rfl⟩ := rx
    cases y with
    | byt j => obtain ⟨t', rfl⟩ := ry; exact PySem.W.ne_bytes (fin_bl I q (congrArg not dec_byt))
    | _ => exact absurd (show false = true from hs) Bool.false_ne_true
  | _ => cases y <;> exact absurd (show false = true from hs) Bool.false_ne_true

theorem op_lt : OpR X (compareOp .Lt) (rI0 fun i j => .bl (decide (i < j))) := opB0 fun _ _ _ _ _ _ _ q => lt_int q
theorem op_le : OpR X (compareOp .LtE) (rI0 fun i j => .bl (decide (i ≤ j))) := opB0 fun _ _ _ _ _ _ _ q => le_int q
theorem op_gt : OpR X (compareOp .Gt) (rI0 fun i j => .bl (decide (j < i))) := opB0 fun _ _ _ _ _ _ _ q => gt_int q
/-- the one string within the other -/
inductive op_in_strY (x : V) (y : V) (H : Hp) (Q : VK) : Prop
  | mk : ∀ i j, (x = .str i) → (y = .str j) → (Q (.bl (!(Builtin.Str.occurrences j i 0 j.length 1).isEmpty)) H) → op_in_strY x y H Q
theorem op_in_str : OpR X (compareOp .In) op_in_strY := by
  intro pins s σ H x y v u Q I rx ry h
  obtain ⟨i, j, rfl, rfl, q⟩ := h
  obtain ⟨t, rfl⟩ := rx
  obtain ⟨t', rfl⟩ := ry
  exact in_str (fin_bl I q rfl)

/-- is None, is not None: the right side a value none -/
inductive op_isNY (x : V) (y : V) (H : Hp) (Q : VK) : Prop
  | mk : (y = .non) → (Q (.bl (decide (x = .non))) H) → op_isNY x y H Q
theorem op_isN : OpR X (compareOp .Is) op_isNY := by
  intro pins s σ H x y v u Q I rx ry h
  obtain ⟨rfl, q⟩ := h
  cases ry
  refine is_none_gen (fin_bl I q ?_)
  cases x <;> first
    | (cases rx; rfl)
    | (obtain ⟨t, rfl⟩ := rx; rfl)
inductive op_notin_strY (x : V) (y : V) (H : Hp) (Q : VK) : Prop
  | mk : ∀ i j, (x = .str i) → (y = .str j) → (Q (.bl (!(!(Builtin.Str.occurrences j i 0 j.length 1).isEmpty))) H) → op_notin_strY x y H Q
theorem op_notin_str : OpR X (compareOp .NotIn) op_notin_strY := by
  intro pins s σ H x y v u Q I rx ry h
  obtain ⟨i, j, rfl, rfl, q⟩ := h
  obtain ⟨t, rfl⟩ := rx
  obtain ⟨t', rfl⟩ := ry
  exact notIn_str (fin_bl I q rfl)
/-- two rules for one operation: by cases -/
theorem OpR.or {f : Value → Value → Sem Value} {r r' : R2} (h : OpR X f r) (h' : OpR X f r') : OpR X f (fun x y H Q => r x y H Q ∨ r' x y H Q) := by
  intro pins s σ H x y v u Q I rx ry q
  rcases q with q | q
  · exact h pins s σ H x y v u Q I rx ry q
  · exact h' pins s σ H x y v u Q I rx ry q

theorem nomark (b : Expr) {op : CmpOp} (h : op ≠ .In := by decide) (h2 : op ≠ .NotIn := by decide) : behindInMarks op b = false := by
  have e1 : (op == CmpOp.In) = false := by cases op <;> first | rfl | exact absurd rfl h
  have e2 : (op == CmpOp.NotIn) = false := by cases op <;> first | rfl | exact absurd rfl h2
  cases b <;> simp [behindInMarks, e1, e2]
/-- a comparison as a value; hm: nomark b, or (for in, not in) by with_unfolding_all rfl -/
theorem pe_cmpR {op : CmpOp} {r : R2} (ho : OpR X (compareOp op) r) (ha : PE X a ta) (hb : PE X b tb) (hm : behindInMarks op b = false) : PE X (.Compare a [op] [b] pos) (tOp r ta tb) := by
  intro pins s σ H Q I h
  exact wpAny_Compare1 (binT ha hb I h fun v u s2 x y H2 I2 rx ry q => ho pins s2 σ H2 x y v u Q I2 rx ry q) hm
/-- a reading of a value as a test -/
inductive tTestY (Q : Bool → Hp → Prop) (x : V) (H' : Hp) : Prop
  | mk : ∀ k, (x = .bl k) → (Q k H') → tTestY Q x H'
def tTest (t : TE) : TT := fun σ H Q => t σ H fun x H' => tTestY Q x H'
theorem pt_cmpR {op : CmpOp} {r : R2} (ho : OpR X (compareOp op) r) (ha : PE X a ta) (hb : PE X b tb) (hm : behindInMarks op b = false) : PT X (.Compare a [op] [b] pos) (tTest (tOp r ta tb)) := by
  intro pins s σ H Q I h
  refine wpAny_isTrue_Compare1 (thn (ha pins s σ H _ I h) fun v s1 ⟨x, H1, I1, r1, q1⟩ => thn (hb pins s1 σ H1 _ I1 q1) fun u s2 ⟨y, H2, I2, r2, q2⟩ =>
    thn (ho pins s2 σ H2 x y v u _ I2 r1 r2 q2) fun c s3 ⟨z, H3, I3, r3, k, e, q3⟩ => ?_) hm
  subst e
  cases r3
  exact wpAny_truthy_bool ⟨H3, I3, q3⟩
theorem line63 : (sizeLine : Nat) < 2 ^ 63 := by rw [sizeLine_eq]; decide
inductive op_add_strY (x : V) (y : V) (H : Hp) (Q : VK) : Prop
  | mk : ∀ i j, (x = .str i) → (y = .str j) → (i.length + j.length ≤ sizeLine) → (Q (.str (i ++ j)) H) → op_add_strY x y H Q
theorem op_add_str : OpR X (binaryOp .Add) op_add_strY := by
  intro pins s σ H x y v u Q I rx ry h
  obtain ⟨i, j, rfl, rfl, hz, q⟩ := h
  obtain ⟨t, rfl⟩ := rx
  obtain ⟨t', rfl⟩ := ry
  exact add_str (fun t' tk => ⟨.str (i ++ j), H, I.tok _, ⟨_, rfl⟩, q⟩) hz
theorem vals1 {x : V} {us : List Value} (r : Vals [x] us) : ∃ u, us = [u] ∧ RelV x u := by
  cases r with
  | cons r1 r2 => cases r2; exact ⟨_, rfl, r1⟩
theorem vals2 {x y : V} {us : List Value} (r : Vals [x, y] us) : ∃ u w', us = [u, w'] ∧ RelV x u ∧ RelV y w' := by
  cases r with
  | cons r1 r2 =>
    cases r2 with
    | cons r3 r4 => cases r4; exact ⟨_, _, rfl, r1, r3⟩
inductive call_absY (xs : List V) (H : Hp) (Q : VK) : Prop
  | mk : ∀ i, (xs = [.int i]) → (Q (.int (if i < 0 then -i else i)) H) → call_absY xs H Q
theorem call_abs : CallR X (.builtin "abs") call_absY := by
  intro pins s σ H xs us Q I r h
  obtain ⟨i, rfl, q⟩ := h
  obtain ⟨u, rfl, t, rfl⟩ := vals1 r
  exact call_abs_int fun u tk => ⟨.int (if i < 0 then -i else i), H, I.tok _, ⟨_, rfl⟩, q⟩
inductive call_max2Y (xs : List V) (H : Hp) (Q : VK) : Prop
  | mk : ∀ i j, (xs = [.int i, .int j]) → (Q (.int (if j > i then j else i)) H) → call_max2Y xs H Q
theorem call_max2 (hc : X.calm = true) : CallR X (.builtin "max") call_max2Y := by
  intro pins s σ H xs us Q I r h
  obtain ⟨i, j, rfl, q⟩ := h
  obtain ⟨u, w', rfl, ⟨t, rfl⟩, ⟨t', rfl⟩⟩ := vals2 r
  refine max_two_ints (I.ok.hd hc) fun h' tk k => ⟨_, H, I.kept k, ?_, q⟩
  by_cases hj : j > i
  · rw [if_pos hj, if_pos hj]; exact ⟨_, rfl⟩
  · rw [if_neg hj, if_neg hj]; exact ⟨_, rfl⟩
inductive call_min2Y (xs : List V) (H : Hp) (Q : VK) : Prop
  | mk : ∀ i j, (xs = [.int i, .int j]) → (Q (.int (if j < i then j else i)) H) → call_min2Y xs H Q
theorem call_min2 (hc : X.calm = true) : CallR X (.builtin "min") call_min2Y := by
  intro pins s σ H xs us Q I r h
  obtain ⟨i, j, rfl, q⟩ := h
  obtain ⟨u, w', rfl, ⟨t, rfl⟩, ⟨t', rfl⟩⟩ := vals2 r
  refine min_two_ints (I.ok.hd hc) fun h' tk k => ⟨_, H, I.kept k, ?_, q⟩
  by_cases hj : j < i
  · rw [if_pos hj, if_pos hj]; exact ⟨_, rfl⟩
  · rw [if_neg hj, if_neg hj]; exact ⟨_, rfl⟩
end
end L2

namespace L2
open PySem PySem.Spec PyProof.Rows

structure ObjM (h : Heap) (x dx C : Addr) (mA : Str → Option Value) : Prop where
  obj : h.get? x = some (PySem.W.instObj C dx)
  ns : h.Ns1 dx mA
  ne : dx ≠ x

theorem lookIn_ns {h : Heap} {dx : Addr} {mA : Str → Option Value} (n : h.Ns1 dx mA) : ∃ od, h.get? dx = some od ∧ ∀ name, PySem.W.lookIn name od = some (mA name) := by
  obtain ⟨o, es, ep, ho, hd, hk, _, hm⟩ := n
  refine ⟨o, ho, fun name => ?_⟩
  have e := hm name
  unfold nsFind findBy at e
  rw [← Array.find?_toList] at e
  unfold PySem.W.lookIn
  rw [hd]
  dsimp only
  split
  · rename_i y q
    rw [q] at e
    exact congrArg some e
  · rename_i q
    rw [q] at e
    have a : es.toList.any (·.refKey) = false := by
      rw [List.any_eq_false]
      intro y hy
      obtain ⟨z, t, hkey⟩ := hk y (Array.mem_toList_iff.mp hy)
      simp [DictEntry.refKey, hkey]
    have a' : ¬ es.toList.any (·.refKey) = true := by rw [a]; exact Bool.false_ne_true
    rw [if_neg a']
    exact congrArg some e

theorem ObjM.look {h : Heap} {x dx C : Addr} {mA : Str → Option Value} (I : ObjM h x dx C mA) : ∃ od, PySem.W.InstAt h x (PySem.W.instObj C dx) C (some od) ∧ ∀ name, PySem.W.lookIn name od = some (mA name) :=
  let ⟨od, ho, hl⟩ := lookIn_ns I.ns
  ⟨od, ⟨I.obj, rfl, rfl, ho⟩, hl⟩

section
variable {prog : Program} {w : World} {A : Around} {E : Value → Shared → Prop} {s : Shared} {K : PySem.W.Frag} {x dx C f : Addr} {mA : Str → Option Value} {name : Str} {v : Value}

end

theorem RelO.some_of {v : V} {o : Option Value} (r : RelO (some v) o) : ∃ u, o = some u ∧ RelV v u := by
  cases o with
  | none => exact (show False from r).elim
  | some u => exact ⟨u, rfl, r⟩
section
variable {P : Program} {w : World} {H H' : Hp} {h h' : Heap} {a C dx : Addr} {fs fs' : List (Str × V)}
theorem ins_get (hok : HOk P w H h) (e : H a = some (.ins C dx fs)) : ∃ mA, ObjM h a dx C mA ∧ (∀ f, RelO (fs.lookup f) (mA f)) ∧ PySem.Within mA (fs.map (·.1)) ∧ fs.length ≤ 1000 ∧ H dx = some (.own a) := by
  obtain ⟨d, z, ne, ob, mA, n, r, q⟩ := (show ObjOk P w H h a (.ins C dx fs) from hok a _ e)
  exact ⟨mA, ⟨ob, n, ne⟩, r, q, z, d⟩
end

structure Cls (K : PySem.W.Frag) (C : Addr) : Prop where
  pg : PySem.W.plainGet K C Str.empty = true
  hd : PySem.W.hasDictIn K C = true
  po : PySem.W.plainOver K C = true
  sa : PySem.W.findIn K (.ref C) "__setattr__" = some (some (.builtin "object.__setattr__"))
theorem Cls.get {K : PySem.W.Frag} {C : Addr} (c : Cls K C) (f : Str) : PySem.W.plainGet K C f = true := c.pg
section
variable {X : Cx} {pins : List (Addr × Obj)} {σ : St} {H : Hp} {s : Shared} {a C dx : Addr} {fs : List (Str × V)} {f : Str} {v : V} {A : Around} {E : Value → Shared → Prop}

/-- a new instance, tracked, without attributes -/
theorem Inv.made (I : Inv X pins σ H s) : Inv X pins σ (upd (upd H s.heap.objs.size (.own (s.heap.objs.size + 1))) (s.heap.objs.size + 1) (.ins C s.heap.objs.size []))
    { s with heap := (s.heap.push PySem.W.emptyDict).push (PySem.W.instObj C s.heap.objs.size) } := by
  have e1 : (s.heap.push PySem.W.emptyDict).get? s.heap.objs.size = some PySem.W.emptyDict := Heap.get?_push_size s.heap rfl
  have e2 : ((s.heap.push PySem.W.emptyDict).push (PySem.W.instObj C s.heap.objs.size)).get? (s.heap.objs.size + 1) = some (PySem.W.instObj C s.heap.objs.size) := by
    have := Heap.get?_push_size (s.heap.push PySem.W.emptyDict) (o := PySem.W.instObj C s.heap.objs.size) rfl
    rwa [Heap.size_push] at this
  have e3 : (s.heap.push PySem.W.emptyDict).Ns s.heap.objs.size (fun _ => none) := ⟨PySem.W.emptyDict, #[], _, e1, rfl, (fun e he => absurd he (by simp)), fun _ => rfl⟩
  have I1 := I.laid (a := s.heap.objs.size) (o := .own (s.heap.objs.size + 1)) (h' := s.heap.push PySem.W.emptyDict) (t' := s.toks) (fun b u q => Heap.get?_push_of_some _ q) (Nat.le_refl _) ⟨_, e1⟩
  refine I1.laid (a := s.heap.objs.size + 1) (o := .ins C s.heap.objs.size []) (t' := s.toks) (fun b u q => Heap.get?_push_of_some _ q) (Nat.le_of_eq (Heap.size_push _ _)) ?_
  have ne : s.heap.objs.size ≠ s.heap.objs.size + 1 := Nat.ne_of_lt (Nat.lt_succ_self _)
  refine ⟨by rw [upd_ne ne, upd_same], Nat.zero_le _, ne, e2, fun _ => none, (Heap.Ns1.of_empty e3).at fun o q => Heap.get?_push_of_some _ q, fun _ => True.intro, fun y hy => absurd rfl hy⟩

end

section
variable {X : Cx} {o e value : Expr} {f : Str} {pos pos' tpos : Pos} {ta tv : TE}
end

section
variable {X : Cx} {pins : List (Addr × Obj)} {σ : St} {H : Hp} {s : Shared} {A : Around} {E : Value → Shared → Prop} {Q : Value → Shared → Prop} {c : Value} {b : Bool}
/-- the type of a value, as the fragment's deciders take it; for an instance its class -/
inductive TyOf (K : PySem.W.Frag) (H : Hp) : V → Value → Prop where
  | non : TyOf K H .non (.type "NoneType")
  | bl (x : Bool) : TyOf K H (.bl x) (.type "bool")
  | int (i : Int) : TyOf K H (.int i) (.type "int")
  | str (x : Str) : TyOf K H (.str x) (.type "str")
  | flt (x : UInt64) : TyOf K H (.flt x) (.type "float")
  | lst {a : Addr} {xs : List V} (e : H a = some (.lst xs)) : TyOf K H (.ref a) (.type "list")
  | frz {a : Addr} {o : Obj} {xs : List V} (e : H a = some (.frz o (.lst xs))) : TyOf K H (.ref a) (.type "list")
  | tup {a : Addr} {xs : List V} (e : H a = some (.tup xs)) : TyOf K H (.ref a) (.type "tuple")
  | dK {a : Addr} {kvs : List (Key × V)} (e : H a = some (.dK kvs)) : TyOf K H (.ref a) (.type "dict")
  | dT {a : Addr} {kvs : List (List Key × V)} (e : H a = some (.dT kvs)) : TyOf K H (.ref a) (.type "dict")
  | ins {a C dx : Addr} {fs : List (Str × V)} (e : H a = some (.ins C dx fs)) (cl : Cls K C) (ha : PySem.W.findIn K (.ref C) "__class__" = some (some (.builtin "object.__class__")))
      (hn : PySem.W.specialIn K (.builtin "object.__class__") "__get__" = some (some (.builtin "getset_descriptor.__get__"))) (htk : PySem.W.takesIn K (.builtin "object.__class__") = some true)
      (hm : PySem.W.mroIn K C (.type "object") = some true) : TyOf K H (.ref a) (.ref C)
/-- isinstance(x, c) for one class c, a built-in or an own one: kitOne's answer -/
theorem isinst_ok {x : V} {u t : Value} (I : Inv X pins σ H s) (rx : RelV x u) (ty : TyOf X.K H x t) (e : PySem.W.kitOne X.K t c = some b) (h : ∀ tk, Q (.bool b) { s with toks := tk }) :
    wpAny (model X.prog X.w) A (call (.builtin "isinstance") [u, c]) Q E s := by
  cases ty with
  | non => cases (show u = Value.none from rx); exact PySem.W.kia_one PySem.W.kitx_none I.kIn True.intro e (fun z => nomatch z) h
  | bl y => cases (show u = Value.bool y from rx); exact PySem.W.kia_one PySem.W.kitx_bool I.kIn True.intro e (fun z => nomatch z) h
  | int i => obtain ⟨t, q⟩ := (show ∃ t, u = Value.int i t from rx); cases q; exact PySem.W.kia_one PySem.W.kitx_int I.kIn True.intro e (fun z => nomatch z) h
  | str y => obtain ⟨t, q⟩ := (show ∃ t, u = Value.str y t from rx); cases q; exact PySem.W.kia_one PySem.W.kitx_str I.kIn True.intro e (fun z => nomatch z) h
  | flt y => obtain ⟨t, q⟩ := (show ∃ t, u = Value.float y t from rx); cases q; exact PySem.W.kia_one PySem.W.kitx_float I.kIn True.intro e (fun z => nomatch z) h
  | @lst a xs ea =>
    cases (show u = Value.ref a from rx)
    obtain ⟨_, _, n, _, h1⟩ := (show ObjOk X.prog X.w H s.heap a (.lst xs) from I.hok a _ ea)
    exact PySem.W.kia_one PySem.W.kitx_list I.kIn ⟨_, h1, rfl⟩ e (fun z => nomatch z) h
  | @frz a ob xs ea =>
    cases (show u = Value.ref a from rx)
    obtain ⟨_, _, _, n, _, h1⟩ := (show ObjOk X.prog X.w H s.heap a (.frz ob (.lst xs)) from I.hok a _ ea)
    exact PySem.W.kia_one PySem.W.kitx_list I.kIn ⟨_, h1, rfl⟩ e (fun z => nomatch z) h
  | @tup a xs ea =>
    cases (show u = Value.ref a from rx)
    obtain ⟨_, _, _, p⟩ := (show ObjOk X.prog X.w H s.heap a (.tup xs) from I.hok a _ ea)
    obtain ⟨o, h1, h2, _⟩ := p
    exact PySem.W.kia_one PySem.W.kitx_tuple I.kIn ⟨o, h1, h2⟩ e (fun z => nomatch z) h
  | @dK a kvs ea =>
    cases (show u = Value.ref a from rx)
    obtain ⟨_, _, vs, _, p⟩ := (show ObjOk X.prog X.w H s.heap a (.dK kvs) from I.hok a _ ea)
    obtain ⟨o, es, ep, h1, h2, _⟩ := p
    exact PySem.W.kia_one PySem.W.kitx_dict I.kIn ⟨o, h1, h2.1⟩ e (fun z => nomatch z) h
  | @dT a kvs ea =>
    cases (show u = Value.ref a from rx)
    obtain ⟨_, _, xs, _, o, es, ep, h1, h2, _⟩ := (show ObjOk X.prog X.w H s.heap a (.dT kvs) from I.hok a _ ea)
    exact PySem.W.kia_one PySem.W.kitx_dict I.kIn ⟨o, h1, h2.1⟩ e (fun z => nomatch z) h
  | @ins a C dx fs ea cl ha hn htk hm =>
    cases (show u = Value.ref a from rx)
    obtain ⟨mA, O, _⟩ := ins_get I.hok ea
    obtain ⟨od, J, _⟩ := O.look
    exact PySem.W.kia_one (PySem.W.kitx_own (cl.get _) cl.hd ha hn htk hm) I.kIn J e (fun z => nomatch z) h
end
end L2

namespace L2
open PySem PySem.Spec PyProof.Rows

structure Room (k : Nat) (A : Around) : Prop where
  hd : A.handled = none
  dp : A.depth + 3 * k + 5 < recursionLimit
  un : A.units + 16 * k + 200 < cLine
  gd : A.guards = some []
theorem Room.mono {j k : Nat} {A : Around} (r : Room k A) (h : j ≤ k) : Room j A := ⟨r.hd, by have := r.dp; omega, by have := r.un; omega, r.gd⟩
theorem Room.deeper {k : Nat} {A : Around} (r : Room (k + 1) A) (env : Env) : Room k (A.deeper env) :=
  ⟨r.hd, by have := r.dp; show A.depth + 1 + 3 * k + 5 < _; omega, by have := r.un; show A.units + 3 + 16 * k + 200 < _; omega, r.gd⟩
theorem Room.in1 {k : Nat} {A : Around} (r : Room (k + 1) A) : Room k A.in1 :=
  ⟨r.hd, by have := r.dp; show A.depth + 3 * k + 5 < _; omega, by have := r.un; show A.units + 1 + 16 * k + 200 < _; omega, r.gd⟩
theorem make_depth {A : Around} {C : Addr} {us : List Value} {kw : List (Str × Value)} : (A.under (.builtin "type.__call__" ⟨.ref C :: us, kw⟩)).depth = A.depth + 1 := by
  first | rfl | simp [Around.under, Code.weight, Code.isCreation, Code.isGuard, Code.isCaller, Code.frames, Code.isFrame, guardIds]
theorem make_units {A : Around} {C : Addr} {us : List Value} {kw : List (Str × Value)} : (A.under (.builtin "type.__call__" ⟨.ref C :: us, kw⟩)).units = A.units + 1 := by
  first | rfl | simp [Around.under, Code.cUnits, Code.frames, Code.isFrame]
theorem make_guards {A : Around} {C : Addr} {us : List Value} {kw : List (Str × Value)} : (A.under (.builtin "type.__call__" ⟨.ref C :: us, kw⟩)).guards = A.guards := by
  first | rfl | simp [Around.under, Code.guards, Code.isGuard, guardIds, pushGuards]
theorem Room.make {k : Nat} {A : Around} (r : Room (k + 1) A) (C : Addr) (us : List Value) (kw : List (Str × Value)) : Room k (A.under (.builtin "type.__call__" ⟨.ref C :: us, kw⟩)) :=
  ⟨r.hd, by have := r.dp; rw [make_depth]; omega, by have := r.un; rw [make_units]; omega, (by rw [make_guards]; exact r.gd)⟩
theorem Room.depth {k : Nat} {A : Around} (r : Room k A) : A.depth < recursionLimit := by have := r.dp; omega
theorem Room.units {k : Nat} {A : Around} (r : Room k A) : A.units + 64 < cLine := by have := r.un; omega
def tNil : TA := fun _ H Q => Q [] H
def tCons (ta : TE) (tr : TA) : TA := fun σ H Q => ta σ H fun x H1 => tr σ H1 fun xs H2 => Q (x :: xs) H2
section
variable {X : Cx} {e : Expr} {es : List Expr} {te : TE} {t : TA} {pos : Pos}
theorem pa_nil : PA X [] tNil := fun _ _ _ _ H Q I h => Calls.spliced_nil ⟨[], H, I, .nil, h⟩
theorem pa_cons (ha : PE X e te) (hr : PA X es t) (hs : starEach (e :: es) X.env = (false, eval e X.env) :: starEach es X.env := by rfl) : PA X (e :: es) (tCons te t) := by
  intro pos pins s σ H Q I h
  rw [hs]
  show wpAny _ _ (spliced ((false, eval e X.env) :: backTo pos (starEach es X.env))) _ _ s
  refine Calls.spliced_cons (thn (ha pins s σ H _ I h) fun u s1 ⟨x, H1, I1, r1, q1⟩ => ?_)
  exact thn (hr pos pins s1 σ H1 _ I1 q1) fun us s2 ⟨xs, H2, I2, r2, q2⟩ => ⟨x :: xs, H2, I2, .cons r1 r2, q2⟩

/-- a tuple, a list of written items -/
inductive tTupY (Q : VK) (xs : List V) (H1 : Hp) : Prop
  | mk : (xs.length ≤ sizeLine) → (∀ p, H1 p = none → Q (.ref p) (upd H1 p (.tup xs))) → tTupY Q xs H1
def tTup (t : TA) : TE := fun σ H Q => t σ H fun xs H1 => tTupY Q xs H1
inductive tLstY (Q : VK) (xs : List V) (H1 : Hp) : Prop
  | mk : (xs.length ≤ sizeLine) → (∀ p, H1 p = none → Q (.ref p) (upd H1 p (.lst xs))) → tLstY Q xs H1
def tLst (t : TA) : TE := fun σ H Q => t σ H fun xs H1 => tLstY Q xs H1
theorem pe_tup {x1} (h : PA X es t) : PE X (.Tuple es x1 pos) (tTup t) := by
  intro pins s σ H Q I hq
  refine wpAny_Tuple_spliced (thn (h pos pins s σ H _ I hq) fun us s1 ⟨xs, H1, I1, r, z, q⟩ => ⟨by rw [← r.length]; exact z, ?_⟩)
  have hf : H1 s1.heap.objs.size = none := I1.hok.fresh (Nat.le_refl _)
  refine ⟨.ref s1.heap.objs.size, upd H1 s1.heap.objs.size (.tup xs), I1.laid (t' := s1.toks) (fun b u e => Heap.get?_push_of_some _ e) (Nat.le_refl _) ?_, rfl, q _ hf⟩
  exact ⟨z, us, r, ⟨_, Heap.get?_push_size _ rfl, rfl, _, rfl, rfl⟩⟩
theorem pe_lst (h : PA X es t) : PE X (.List es pos) (tLst t) := by
  intro pins s σ H Q I hq
  refine wpAny_List_spliced (thn (h pos pins s σ H _ I hq) fun us s1 ⟨xs, H1, I1, r, z, q⟩ => ⟨by rw [← r.length]; exact z, ?_⟩)
  have hf : H1 s1.heap.objs.size = none := I1.hok.fresh (Nat.le_refl _)
  refine ⟨.ref s1.heap.objs.size, upd H1 s1.heap.objs.size (.lst xs), I1.laid (t' := s1.toks) (fun b u e => Heap.get?_push_of_some _ e) (Nat.le_refl _) ?_, rfl, q _ hf⟩
  exact ⟨z, us, 0, r, Heap.get?_push_size _ rfl⟩
end

/-- a def's promise: the bound arguments in the parameters' order, the heap, the wanted end, the wanted exception -/
abbrev Sp := List V → Hp → VK → XK → Prop
/-- how an exception lies behind a call (file 08 gives it): the callers' frames, abstract heap and state ahead of the call, the wish, the exception, the state -/
abbrev CXT := List Env → Hp → Shared → XK → Value → Shared → Prop

/-- the state at a call -/
structure Env0 (P : Program) (w : World) (K : PySem.W.Frag) (mg : Str → Option Value) (base : Heap) (A : Around) (outer : List Env) (s : Shared) (H : Hp) : Prop where
  frames : A.frames = some outer
  mod : Mod K mg base
  bs : ∀ b o, base.get? b = some o → s.heap.get? b = some o ∧ H b = none
  bsz : base.objs.size ≤ s.heap.objs.size
  funs : s.heap.FunFrames base outer
  frf : ∀ b ∈ frs outer, H b = none
  hok : HOk P w H s.heap
  bare : AllBare s.gens
/-- a call's end -/
def CE (outer : List Env) (P : Program) (w : World) (H : Hp) (s : Shared) (Q : VK) (u : Value) (s' : Shared) : Prop :=
  ∃ v H', s'.os = s.os ∧ AllBare s'.gens ∧ Un (frs outer) [] H H' s.heap s'.heap ∧ HOk P w H' s'.heap ∧ RelV v u ∧ Q v H'
def CR (CX : CXT) (outer : List Env) (P : Program) (w : World) (H : Hp) (s : Shared) (Q : VK) (E : XK) (r : Result) (s' : Shared) : Prop :=
  match r with
  | .ok (.ret u) => CE outer P w H s Q u s'
  | .ok _ => False
  | .error e => CX outer H s E e s'
structure FnOk (P : Program) (w : World) (K : PySem.W.Frag) (mg : Str → Option Value) (base : Heap) (CX : CXT) (k : Nat) (f : Addr) (fd : FuncData) (ps : List Str) (sp : Sp) : Prop where
  len : ∀ vs H Q E, sp vs H Q E → vs.length = ps.length
  run : ∀ (A : Around) (outer : List Env) (s : Shared) (H : Hp) (args : Args) (us : List Value) (vs : List V) (Q : VK) (E : XK), Room k A → Env0 P w K mg base A outer s H → BindsTo s fd args (ps.zip us) → Vals vs us → sp vs H Q E →
    codeAny (model P w) A (.call (.ref f) args) (CR CX outer P w H s Q E) s
theorem FnOk.mono {P : Program} {w : World} {K : PySem.W.Frag} {mg : Str → Option Value} {base : Heap} {CX : CXT} {j k : Nat} {f : Addr} {fd : FuncData} {ps : List Str} {sp : Sp} (F : FnOk P w K mg base CX j f fd ps sp) (h : j ≤ k) :
    FnOk P w K mg base CX k f fd ps sp := ⟨F.len, fun A outer s H args us vs Q E hr => F.run A outer s H args us vs Q E (hr.mono h)⟩
/-- a weaker promise -/
theorem FnOk.imp {P : Program} {w : World} {K : PySem.W.Frag} {mg : Str → Option Value} {base : Heap} {CX : CXT} {k : Nat} {f : Addr} {fd : FuncData} {ps : List Str} {sp sp' : Sp} (F : FnOk P w K mg base CX k f fd ps sp)
    (h : ∀ vs H Q E, sp' vs H Q E → sp vs H Q E) : FnOk P w K mg base CX k f fd ps sp' :=
  ⟨fun vs H Q E q => F.len vs H Q E (h _ _ _ _ q), fun A outer s H args us vs Q E hr he hb hv hs => F.run A outer s H args us vs Q E hr he hb hv (h _ _ _ _ hs)⟩

theorem Env0.make {P : Program} {w : World} {K : PySem.W.Frag} {mg : Str → Option Value} {base : Heap} {A : Around} {outer : List Env} {s : Shared} {H : Hp} (e : Env0 P w K mg base A outer s H) (C : Addr) (us : List Value) (kw : List (Str × Value)) :
    Env0 P w K mg base (A.under (.builtin "type.__call__" ⟨.ref C :: us, kw⟩)) outer s H := ⟨by first | exact e.frames | (simpa [Around.under, Code.envs, Code.isFrame, pushEnvs] using e.frames), e.mod, e.bs, e.bsz, e.funs, e.frf, e.hok, e.bare⟩
theorem Env0.in1 {P : Program} {w : World} {K : PySem.W.Frag} {mg : Str → Option Value} {base : Heap} {A : Around} {outer : List Env} {s : Shared} {H : Hp} (e : Env0 P w K mg base A outer s H) :
    Env0 P w K mg base A.in1 outer s H := ⟨e.frames, e.mod, e.bs, e.bsz, e.funs, e.frf, e.hok, e.bare⟩

section
variable {X : Cx} {pins : List (Addr × Obj)} {σ : St} {H : Hp} {s s' : Shared}
/-- from a body: what a callee wants -/
theorem Inv.env0 (I : Inv X pins σ H s) : Env0 X.prog X.w X.K X.mg X.base X.A X.stack s H :=
  ⟨I.ok.frames, I.ok.mod, I.bs, Nat.le_trans I.ok.bsz I.sz, I.stack, I.stkFree, I.hok, I.bare⟩
/-- behind a call -/
theorem Inv.after {Q : VK} {u : Value} (I : Inv X pins σ H s) (h : CE X.stack X.prog X.w H s Q u s') : EP X pins σ Q u s' := by
  obtain ⟨v, H', os, bare, un, hok, r, q⟩ := h
  obtain ⟨hh, g, d, t, os'⟩ := s'
  obtain rfl : os' = s.os := os
  exact ⟨v, H', I.call (h' := hh) (g' := g) (d' := d) (t' := t) (ch := []) un hok bare (fun b z => absurd z (by simp)), r, q⟩
end

/-- f(..): the written arguments, then the defaults dvs; E: what is wanted of an exception -/
def tCall (sp : Sp) (dvs : List V) (E : XK) (t : TA) : TE := fun σ H Q => t σ H fun vs H1 => sp (vs ++ dvs) H1 Q E
/-- how the parameters are bound: us the positional arguments, kw the keywords' values by name, ds the defaults that fill up -/
def Binds (K : PySem.W.Frag) (fd : FuncData) (ps : List Str) (ds : List Value) : Prop :=
  ∀ (s : Shared) (us : List Value), K.In s.heap → (us ++ ds).length = ps.length → BindsTo s fd ⟨us, []⟩ (ps.zip (us ++ ds))
/-- every parameter is given -/
theorem Binds.all {K : PySem.W.Frag} {fd : FuncData} {ps : List Str} (h : ∀ us : List Value, us.length = ps.length → bindArgs fd ⟨us, []⟩ = pure (ps.zip us)) : Binds K fd ps [] := fun s us _ hl => by
  rw [List.append_nil] at hl ⊢
  exact .of_eq (h us hl)

/-- an exception of a callee reaches what this body wants of exceptions -/
def Passes (CX : CXT) (X : Cx) (E : XK) : Prop := ∀ (pins : List (Addr × Obj)) (σ : St) (H : Hp) (s : Shared) (e : Value) (s' : Shared), Inv X pins σ H s → CX X.stack H s E e s' → X.xe e s'

section
variable {X : Cx} {CX : CXT} {k : Nat} {f C : Addr} {fd : FuncData} {ps : List Str} {sp : Sp} {dvs : List V} {ds : List Value} {E : XK} {x m : Str} {p pos apos : Pos} {e o : Expr} {es : List Expr} {ta : TE} {t : TA}

/-- the callee runs -/
theorem run_fn {pins : List (Addr × Obj)} {σ : St} {H : Hp} {s : Shared} {Q : VK} {us : List Value} {vs : List V} (F : FnOk X.prog X.w X.K X.mg X.base CX k f fd ps sp) (hr : Room k X.A) (hb : Binds X.K fd ps ds) (hd : Vals dvs ds) (hx : Passes CX X E)
    (I : Inv X pins σ H s) (r : Vals vs us) (h : sp (vs ++ dvs) H Q E) : wpAny (model X.prog X.w) X.A (call (.ref f) us) (EP X pins σ Q) X.xe s := by
  have r2 : Vals (vs ++ dvs) (us ++ ds) := r.append hd
  have hl : (us ++ ds).length = ps.length := by rw [← r2.length]; exact F.len _ _ _ _ h
  refine wpAny_call (codeAny_mono (F.run X.A X.stack s H ⟨us, []⟩ (us ++ ds) (vs ++ dvs) Q E hr I.env0 (hb s us I.kIn hl) r2 h) fun r s' hq => ?_)
  cases r with
  | error e => exact hx pins σ H s e s' I hq
  | ok fl =>
    cases fl with
    | ret u => exact I.after hq
    | next => exact False.elim hq
    | brk => exact False.elim hq
    | cont => exact False.elim hq

theorem pe_call (F : FnOk X.prog X.w X.K X.mg X.base CX k f fd ps sp) (hr : Room k X.A) (hg : Gl X x) (hm : X.mg x = some (.ref f)) (hk : PySem.W.keepIn X.K (.ref f) = true) (hb : Binds X.K fd ps ds) (hd : Vals dvs ds) (hx : Passes CX X E)
    (ha : PA X (e :: es) t) (hdb : (x == ("__debug__" : Str)) = false := by decide) (he : starEach (e :: es) X.env = (false, eval e X.env) :: starEach es X.env := by rfl) (hpl : (backTo pos (starEach es X.env)).any (·.1) = false := by rfl) :
    PE X (.Call (.Name x p) (e :: es) [] pos) (tCall sp dvs E t) := by
  intro pins s σ H Q I h
  refine wpAny_Call_Name_kw (ld_glob I hg hm ?_ hdb)
  refine PySem.W.callWith_K (h₀ := X.base) I.ok.mod.kin hk (thn (ha pos pins s σ H _ I h) fun us s1 ⟨vs, H1, I1, r, q⟩ => ⟨I1.kIn, ?_⟩) he hpl
  exact run_fn F hr hb hd hx I1 r q
theorem pe_call0 (F : FnOk X.prog X.w X.K X.mg X.base CX k f fd ps sp) (hr : Room k X.A) (hg : Gl X x) (hm : X.mg x = some (.ref f)) (hk : PySem.W.keepIn X.K (.ref f) = true) (hb : Binds X.K fd ps ds) (hd : Vals dvs ds) (hx : Passes CX X E)
    (hdb : (x == ("__debug__" : Str)) = false := by decide) : PE X (.Call (.Name x p) [] [] pos) (tCall sp dvs E tNil) := by
  intro pins s σ H Q I h
  refine wpAny_Call_Name_kw (ld_glob I hg hm ?_ hdb)
  exact PySem.W.callWith_K0 I.kIn hk (run_fn (us := []) F hr hb hd hx I .nil h)

end

section
variable {X : Cx} {CX : CXT} {k : Nat} {f C : Addr} {fd : FuncData} {ps ks : List Str} {sp : Sp} {E : XK} {x m : Str} {p pos apos kpos : Pos} {e o : Expr} {es : List Expr} {kws : List Keyword} {te ta : TE} {t tk : TA} {nm : Option Str}
variable {g : List Value → List Value → List Value} {gV : List V → List V → List V}
end

/-- names: the parameters first -/
structure FnScope (N P : List Str) (sc : Scope) : Prop where
  kind : sc.kind = .function
  co : sc.isCoroutine = false
  gen : sc.isGenerator = false
  nd : N.Nodup
  pre : N.take P.length = P
  par : ∀ x ∈ P, sc.names.lookup x = some .local ∨ sc.names.lookup x = some .cell
  nofree : ∀ y ∈ sc.names, y.2 ≠ .free

theorem bindL_out {kindOf : Str → Option NameKind} {x : Str} : ∀ {binds : List (Str × Value)} {m : Str → Option Value}, (∀ v, (x, v) ∉ binds) → bindL kindOf binds m x = m x
  | [], _, _ => rfl
  | (n, v) :: r, m, h => by
    unfold bindL
    rw [bindL_out fun w hw => h w (List.mem_cons_of_mem _ hw)]
    split
    · have : x ≠ n := by rintro rfl; exact h v List.mem_cons_self
      simp [this]
    · rfl
theorem bindC_out {kindOf : Str → Option NameKind} {x : Str} : ∀ {binds : List (Str × Value)} {m : Str → Option Value}, (∀ v, (x, v) ∉ binds) → bindC kindOf binds m x = m x
  | [], _, _ => rfl
  | (n, v) :: r, m, h => by
    unfold bindC
    rw [bindC_out fun w hw => h w (List.mem_cons_of_mem _ hw)]
    split
    · rfl
    · have : x ≠ n := by rintro rfl; exact h v List.mem_cons_self
      simp [this]
theorem bindL_get {kindOf : Str → Option NameKind} {x : Str} {v : Value} : ∀ {P : List Str} {vs : List Value} {i : Nat} {m : Str → Option Value}, P.Nodup → P[i]? = some x → vs[i]? = some v → kindOf x = some .local →
    bindL kindOf (P.zip vs) m x = some v
  | [], _, _, _, _, h, _, _ => by simp at h
  | _ :: _, [], _, _, _, _, h, _ => by simp at h
  | p :: P, w :: vs, 0, m, nd, h1, h2, hk => by
    simp at h1 h2; subst h1; subst h2
    show bindL kindOf ((p, w) :: P.zip vs) m p = _
    unfold bindL
    rw [bindL_out fun v hv => (List.nodup_cons.mp nd).1 (List.of_mem_zip hv).1, if_pos hk]
    simp
  | p :: P, w :: vs, i + 1, m, nd, h1, h2, hk => by
    show bindL kindOf ((p, w) :: P.zip vs) m x = _
    unfold bindL
    exact bindL_get (i := i) (List.nodup_cons.mp nd).2 (by simpa using h1) (by simpa using h2) hk
theorem bindC_get {kindOf : Str → Option NameKind} {x : Str} {v : Value} : ∀ {P : List Str} {vs : List Value} {i : Nat} {m : Str → Option Value}, P.Nodup → P[i]? = some x → vs[i]? = some v → kindOf x ≠ some .local →
    bindC kindOf (P.zip vs) m x = some v
  | [], _, _, _, _, h, _, _ => by simp at h
  | _ :: _, [], _, _, _, _, h, _ => by simp at h
  | p :: P, w :: vs, 0, m, nd, h1, h2, hk => by
    simp at h1 h2; subst h1; subst h2
    show bindC kindOf ((p, w) :: P.zip vs) m p = _
    unfold bindC
    rw [bindC_out fun v hv => (List.nodup_cons.mp nd).1 (List.of_mem_zip hv).1, if_neg hk]
    simp
  | p :: P, w :: vs, i + 1, m, nd, h1, h2, hk => by
    show bindC kindOf ((p, w) :: P.zip vs) m x = _
    unfold bindC
    exact bindC_get (i := i) (List.nodup_cons.mp nd).2 (by simpa using h1) (by simpa using h2) hk

/-- the names' values at the entry -/
def start (N : List Str) (vs : List V) : St := vs.map some ++ List.replicate (N.length - vs.length) none

/-- the context of a def's body, at its entry; an exception leaves the frame, then lies as CX says -/
def cxOf (CX : CXT) (P : Program) (w : World) (K : PySem.W.Frag) (mg : Str → Option Value) (base : Heap) (N : List Str) (qual : Str) (scope : Scope) (f : Addr) (cd : Value) (A : Around) (outer : List Env) (s : Shared) (H : Hp) (E : XK) : Cx where
  prog := P
  w := w
  K := K
  mg := mg
  base := base
  A := A.deeper (envOfC qual scope s.heap.objs.size f cd)
  N := N
  s₀ := s
  H₀ := H
  env := envOfC qual scope s.heap.objs.size f cd
  outer := outer
  stack := envOfC qual scope s.heap.objs.size f cd :: outer
  ex := []
  calm := true
  fn := fun _ => true
  pn := []
  xe := fun e s' => wpAny (model P w) (A.deeper (envOfC qual scope s.heap.objs.size f cd)) (leaving (envOfC qual scope s.heap.objs.size f cd) e) (fun _ s'' => CX outer H s E e s'') (fun e' s'' => CX outer H s E e' s'') s'

theorem cell_has {sc : Scope} {n : Nat} {x : Str} (h : sc.names.lookup x = some .cell) : ∃ c, (cellsFrom n sc.names []).lookup x = some c := by
  have q := PySem.W.cellsFrom_some sc.names n [] (.inl h)
  exact Option.isSome_iff_exists.mp q

theorem inv_start {CX : CXT} {P : Program} {w : World} {K : PySem.W.Frag} {mg : Str → Option Value} {base : Heap} {N ps : List Str} {qual : Str} {scope : Scope} {f : Addr} {cd : Value} {A : Around} {outer : List Env} {s s1 : Shared} {H : Hp} {E : XK} {us : List Value} {vs : List V}
    (S : FnScope N ps scope) (hd : A.handled = none) (e0 : Env0 P w K mg base A outer s H) (hl : vs.length = ps.length) (r : Vals vs us)
    (x : InCallC s s.heap.objs.size (bindL (envOfC qual scope s.heap.objs.size f cd).kindOf (ps.zip us) fun _ => none) (cellsFrom (s.heap.objs.size + 1) scope.names []) (bindC (envOfC qual scope s.heap.objs.size f cd).kindOf (ps.zip us) fun _ => none) s1) :
    Inv (cxOf CX P w K mg base N qual scope f cd A outer s H E) [] (start N vs) H s1 := by
  have hpl : ps.length ≤ N.length := by have := congrArg List.length S.pre; rw [List.length_take] at this; omega
  obtain ⟨h1, tk, rfl, hk⟩ := x.done
  have noA : ∀ b : Addr, b ∉ (cxOf CX P w K mg base N qual scope f cd A outer s H E).ex := fun b z => absurd (show b ∈ ([] : List Addr) from z) (by simp)
  refine ⟨⟨e0.mod, S.kind, rfl, rfl, Nat.le_refl _, fun y z c h1 h2 => ?_, fun y hy => ?_, fun y c _ h => ?_, fun _ => hd, Around.frames_deeper e0.frames, .inr ⟨rfl, rfl⟩, fun b z => absurd z (noA b), e0.bs, e0.bsz, fun b _ _ => noA b, fun b z => absurd z (noA b), e0.funs, e0.frf⟩,
    rfl, e0.bare, Un.kept hk, ⟨_, x.toInCall.ns, fun i y v h1 h2 h3 => ?_⟩, fun y c h => ⟨_, x.cell y c h⟩, e0.hok.fresh (Nat.le_refl _), fun y c h => ?_, fun p hp => absurd (show p ∈ ([] : List (Addr × Obj)) from hp) (by simp), e0.hok.kept hk, ?_⟩
  · exact name_of_addr x.apart (PySem.mem_of_lookup h1) (PySem.mem_of_lookup h2)
  · have hy : scope.names.lookup y = some .cell ∨ scope.names.lookup y = some .free := hy
    rcases hy with hy | hy
    · exact cell_has hy
    · exact absurd rfl (S.nofree _ (PySem.mem_of_lookup hy))
  · exact Nat.le_of_lt (x.above y c (PySem.mem_of_lookup h))
  · have hi : i < vs.length := by
      unfold start at h2
      by_cases hi : i < vs.length
      · exact hi
      · rw [List.getElem?_append_right (by simpa using hi)] at h2
        rw [List.getElem?_replicate] at h2
        split at h2 <;> cases h2
    have ha : vs[i]? = some v := by
      unfold start at h2
      rw [List.getElem?_append_left (by simpa using hi), List.getElem?_map] at h2
      cases e : vs[i]? with
      | none => rw [e] at h2; cases h2
      | some a => rw [e] at h2; cases h2; rfl
    obtain ⟨u, hu, rv⟩ := r.get ha
    have hp : ps[i]? = some y := by
      rw [← S.pre, List.getElem?_take_of_lt (by omega)]; exact h1
    have ndP : ps.Nodup := by rw [← S.pre]; exact S.nd.sublist (List.take_sublist _ _)
    refine ⟨u, rv, ?_⟩
    rcases S.par y (List.mem_of_getElem? hp) with k | k
    · exact .inl ⟨k, bindL_get ndP hp hu k⟩
    · obtain ⟨c, e⟩ := cell_has (n := s.heap.objs.size + 1) k
      refine .inr ⟨.inl k, c, e, ?_⟩
      have q := x.cell y c e
      rw [bindC_get ndP hp hu (by show scope.names.lookup y ≠ _; rw [k]; decide)] at q
      exact q
  · exact e0.hok.fresh (Nat.le_of_lt (x.above y c (PySem.mem_of_lookup h)))
  · unfold start
    show _ = N.length
    rw [List.length_append, List.length_map, List.length_replicate]
    omega

/-- THE RULE: a def (or a method) of the text, by its body. The body's reading t is chosen for each entry; it is run at the parameters' values -/
theorem fn_of {CX : CXT} {P : Program} {w : World} {K : PySem.W.Frag} {mg : Str → Option Value} {base : Heap} {k : Nat} {f : Addr} {name qual : Str} {params : Arguments} {body : List Stmt} {scope : Scope} {dV kV doc pm cdv ct oc : Value} {an od : Option Addr}
    {osl : Array (Option Value)} {N ps : List Str} {sp : Sp} (lk : K.lookup f = some ⟨oc, od, .func (PySem.W.fnOf name qual params body scope dV kV doc pm an cdv ct), osl⟩) (hcd : PySem.W.codeIn K cdv qual = true) (S : FnScope N ps scope)
    (len : ∀ vs H Q E, sp vs H Q E → vs.length = ps.length)
    (hbody : ∀ (A : Around) (outer : List Env) (s : Shared) (H : Hp) (vs : List V) (Q : VK) (E : XK), Room k (A.deeper (envOfC qual scope s.heap.objs.size f cdv)) → sp vs H Q E →
      ∃ t, PSs (cxOf CX P w K mg base N qual scope f cdv A outer s H E) body t ∧ t { nx := fun _ H' => Q .non H', rt := Q } (start N vs) H) :
    FnOk P w K mg base CX (k + 1) f (PySem.W.fnOf name qual params body scope dV kV doc pm an cdv ct) ps sp := by
  refine ⟨len, fun A outer s H args us vs Q E hr e0 hb r hsp => ?_⟩
  have hl := len _ _ _ _ hsp
  have KX : K.In s.heap := e0.mod.kin.keeps fun b o e => (e0.bs b o e).1
  have lim : s.heap.NoLimit := e0.mod.nolimit.keeps fun b o e => (e0.bs b o e).1
  have hkind : ∀ y ∈ ps.zip us, scope.names.lookup y.1 = some .local ∨ (scope.names.lookup y.1 = some .cell ∧ ((cellsFrom (s.heap.objs.size + 1) scope.names []).lookup y.1).isSome = true) := fun ⟨n, v⟩ hy => by
    rcases S.par n (List.of_mem_zip hy).1 with q | q
    · exact .inl q
    · exact .inr ⟨q, PySem.W.cellsFrom_some _ _ _ (.inl q)⟩
  refine codeAny_call_function hr.depth (KX _ _ lk) rfl S.co S.gen rfl (PySem.W.codeRec_of KX hcd) (hb _ _ _ _ ?_)
  refine wpAny_newFunctionEnv_cells S.kind hkind fun env he s1 x => ?_
  subst he
  refine ⟨lim.keeps x.toInCall.keep, codeAny_func ?_⟩
  obtain ⟨t, ht, hq⟩ := hbody A outer s H vs Q E (hr.deeper _) hsp
  have I : Inv (cxOf CX P w K mg base N qual scope f cdv A outer s H E) [] (start N vs) H s1 := inv_start S hr.hd e0 hl r x
  refine wpAny_mono (ht [] s1 (start N vs) H _ I hq) (fun fl s' hs => ?_) fun e s' hs => hs
  have fin : ∀ {σ' : St} {H' : Hp} {v : V} {u : Value}, Inv (cxOf CX P w K mg base N qual scope f cdv A outer s H E) [] σ' H' s' → RelV v u → Q v H' → CE outer P w H s Q u s' :=
    fun {σ' H' v u} J rv q => ⟨v, H', J.os, J.bare, J.base, J.hok, rv, q⟩
  cases fl with
  | ret u =>
    obtain ⟨v, σ', H', J, rv, q⟩ := hs
    exact fin J rv q
  | next =>
    obtain ⟨σ', H', J, q⟩ := hs
    exact fin (v := V.non) (u := Value.none) J rfl q
  | brk =>
    obtain ⟨_, _, _, q⟩ := hs
    exact False.elim q
  | cont =>
    obtain ⟨_, _, _, q⟩ := hs
    exact False.elim q
end L2

namespace L2
open PySem PySem.Spec PyProof.Rows
section
variable {X : Cx} {x : Str} {p pos : Pos} {e : Expr} {es : List Expr} {t : TA} {id T : String} {r : List V → Hp → VK → Prop}

def tCB (r : List V → Hp → VK → Prop) (t : TA) : TE := fun σ H Q => t σ H fun vs H1 => r vs H1 Q
/-- f(e, ..), f a built-in function -/
theorem pe_callB (hc : CallR X (.builtin id) r) (hg : Gl X x) (hm : X.mg x = none) (hv : bootBuiltins x = some (.builtin id)) (ha : PA X (e :: es) t) (hn : x ≠ "__name__" := by decide) (hdb : (x == ("__debug__" : Str)) = false := by decide)
    (he : starEach (e :: es) X.env = (false, eval e X.env) :: starEach es X.env := by rfl) (hpl : (backTo pos (starEach es X.env)).any (·.1) = false := by rfl) : PE X (.Call (.Name x p) (e :: es) [] pos) (tCB r t) := by
  intro pins s σ H Q I h
  refine wpAny_Call_Name_kw (ld_blt I hg hm hv ?_ hn hdb)
  exact PyProof.Rows.callWith_builtin1 (thn (ha pos pins s σ H _ I h) fun us s1 ⟨vs, H1, I1, r1, q1⟩ => hc pins s1 σ H1 vs us Q I1 r1 q1) he hpl
/-- T(e, ..), T a built-in type -/
theorem pe_callTy (hc : CallR X (.type T) r) (hg : Gl X x) (hm : X.mg x = none) (hv : bootBuiltins x = some (.type T)) (ha : PA X (e :: es) t) (hn : x ≠ "__name__" := by decide) (hdb : (x == ("__debug__" : Str)) = false := by decide)
    (he : starEach (e :: es) X.env = (false, eval e X.env) :: starEach es X.env := by rfl) (hpl : (backTo pos (starEach es X.env)).any (·.1) = false := by rfl) : PE X (.Call (.Name x p) (e :: es) [] pos) (tCB r t) := by
  intro pins s σ H Q I h
  refine wpAny_Call_Name_kw (ld_blt I hg hm hv ?_ hn hdb)
  exact PyProof.Rows.callWith_type1 (thn (ha pos pins s σ H _ I h) fun us s1 ⟨vs, H1, I1, r1, q1⟩ => hc pins s1 σ H1 vs us Q I1 r1 q1) he hpl
end
end L2

namespace HT
open PySem PyProof.Rows

section
open PySem.SeqAt
open PySem.AutoSeq1 (wpAny_loadPart')
open PySem.MeetsSeq PySem.MeetsSeq2 PySem.MeetsSeq3

end

section
variable {prog : Program} {w : World} {A : Around} {E : Value → Shared → Prop} {s : Shared}

/-- a slice's bound as a place among n (d where it is left out) -/
def sIx (n d : Nat) : Option Int → Nat
  | none => d
  | some v => if v < 0 then (v + (n : Int)).toNat else min v.toNat n
end
end HT

namespace L2
open PySem PySem.Spec PyProof.Rows

abbrev TO := St → Hp → (Option Int → Hp → Prop) → Prop
/-- a slice's part (left out, or an int) -/
def PO (X : Cx) (e : Option Expr) (t : TO) : Prop :=
  ∀ (pins : List (Addr × Obj)) (s : Shared) (σ : St) (H : Hp) (Q : Option Int → Hp → Prop), Inv X pins σ H s → t σ H Q →
    wpAny (model X.prog X.w) X.A (evalPart e X.env) (fun u s' => ∃ o H', Inv X pins σ H' s' ∧ IsPart u o ∧ Q o H') X.xe s
def tNoPart : TO := fun _ H Q => Q none H
inductive tPartY (Q : Option Int → Hp → Prop) (x : V) (H1 : Hp) : Prop
  | mk : ∀ i, (x = .int i) → (Q (some i) H1) → tPartY Q x H1
def tPart (t : TE) : TO := fun σ H Q => t σ H fun x H1 => tPartY Q x H1
section
variable {X : Cx} {e : Expr} {te : TE} {lo hi : Option Expr} {tl th : TO} {pos p2 : Pos}

theorem po_none : PO X none tNoPart := by
  intro pins s σ H Q I h
  rw [evalPart_none]
  exact wpAny_pure ⟨none, H, I, .none, h⟩
theorem po_some (h : PE X e te) : PO X (some e) (tPart te) := by
  intro pins s σ H Q I hw
  rw [evalPart_some]
  refine thn (h pins s σ H _ I hw) fun u s1 ⟨x, H1, I1, r1, q1⟩ => ?_
  obtain ⟨i, rfl, q⟩ := q1
  obtain ⟨t, rfl⟩ := r1
  exact ⟨some i, H1, I1, .int i t, q⟩

/-- what a slice of a value is, by values: the slice object stands at sl -/
def SlR (X : Cx) (r : V → Option Int → Option Int → Hp → VK → Prop) : Prop :=
  ∀ (pins : List (Addr × Obj)) (s : Shared) (σ : St) (H : Hp) (x : V) (v vl vu : Value) (lo hi : Option Int) (sl : Addr) (Q : VK), Inv X pins σ H s → RelV x v → s.heap.IsSliceOf sl vl vu .none → IsPart vl lo → IsPart vu hi → r x lo hi H Q →
    ∃ T id, typeLookup (.type T) "__getitem__" = pure (some (.builtin id)) ∧ s.TypeIs v T ∧ wpAny (model X.prog X.w) X.A (getItem v (.ref sl)) (EP X pins σ Q) X.xe s
theorem SlR.or {r r' : V → Option Int → Option Int → Hp → VK → Prop} (h : SlR X r) (h' : SlR X r') : SlR X (fun x lo hi H Q => r x lo hi H Q ∨ r' x lo hi H Q) := by
  intro pins s σ H x v vl vu lo hi sl Q I rx hs pl pu q
  rcases q with q | q
  · exact h pins s σ H x v vl vu lo hi sl Q I rx hs pl pu q
  · exact h' pins s σ H x v vl vu lo hi sl Q I rx hs pl pu q
def tSl (r : V → Option Int → Option Int → Hp → VK → Prop) (te : TE) (tl th : TO) : TE := fun σ H Q => te σ H fun x H1 => tl σ H1 fun l H2 => th σ H2 fun u H3 => r x l u H3 Q
/-- a[lo:hi], any a -/
theorem pe_slice {r : V → Option Int → Option Int → Hp → VK → Prop} (hr : SlR X r) (he : PE X e te) (hl : PO X lo tl) (hu : PO X hi th) : PE X (.Subscript e (.Slice lo hi none p2) pos) (tSl r te tl th) := by
  intro pins s σ H Q I h
  refine Subscript_ (thn (he pins s σ H _ I h) fun v s1 ⟨x, H1, I1, r1, q1⟩ => ?_)
  refine wpAny_Slice (thn (hl pins s1 σ H1 _ I1 q1) fun vl s2 ⟨l, H2, I2, pl, q2⟩ => thn (hu pins s2 σ H2 _ I2 q2) fun vu s3 ⟨u, H3, I3, pu, q3⟩ => ?_)
  rw [evalPart_none]
  refine wpAny_pure ?_
  have I4 : Inv X pins σ H3 { s3 with heap := s3.heap.push { cls := .type "slice", data := .fields #[vl, vu, .none] } } := I3.kept (t' := s3.toks) fun b ob q => Heap.get?_push_of_some _ q
  obtain ⟨T, id, hT, ht, hg⟩ := hr pins { s3 with heap := s3.heap.push { cls := .type "slice", data := .fields #[vl, vu, .none] } } σ H3 x v vl vu l u s3.heap.objs.size Q I4 r1 (Heap.IsSliceOf.new ..) pl pu q3
  show wpAny (model X.prog X.w) X.A (subscriptTail e (.Slice lo hi none p2) v (.ref s3.heap.objs.size)) (EP X pins σ Q) X.xe { s3 with heap := s3.heap.push { cls := .type "slice", data := .fields #[vl, vu, .none] } }
  exact tail_any (ops := [.ref s3.heap.objs.size, v]) ht hT hg (by with_unfolding_all rfl)

/-- the items of xs[lo:hi] -/
def cutV (xs : List V) (lo hi : Option Int) : List V := (xs.drop (HT.sIx xs.length 0 lo)).take (HT.sIx xs.length xs.length hi - HT.sIx xs.length 0 lo)
theorem cutV_length (xs : List V) (lo hi : Option Int) : (cutV xs lo hi).length ≤ xs.length := by
  unfold cutV
  rw [List.length_take, List.length_drop]
  omega
end
end L2

namespace L2
open PySem PySem.Spec PyProof.Rows

/-- the place that an index of any sign means -/
def ixN (n : Nat) (i : Int) : Option Nat := if 0 ≤ i then (if i < n then some i.toNat else none) else if -(n : Int) ≤ i then some (i + n).toNat else none
def atI {α : Type} (xs : List α) (i : Int) : Option α := (ixN xs.length i).bind fun j => xs[j]?
theorem ixN_seq {n : Nat} {i : Int} {j : Nat} (h : ixN n i = some j) : seqIndex? i n = some j ∧ j < n ∧ -(n : Int) ≤ i ∧ i < n := by
  unfold ixN at h
  by_cases h0 : 0 ≤ i
  · rw [if_pos h0] at h
    by_cases h1 : i < n
    · rw [if_pos h1] at h
      have e : i.toNat = j := Option.some.inj h
      exact ⟨by rw [seqIndex_of h0 h1, e], by omega, by omega, h1⟩
    · rw [if_neg h1] at h; cases h
  · rw [if_neg h0] at h
    by_cases h1 : -(n : Int) ≤ i
    · rw [if_pos h1] at h
      have e : (i + n).toNat = j := Option.some.inj h
      exact ⟨by rw [seqIndex_neg (by omega) h1, e], by omega, h1, by omega⟩
    · rw [if_neg h1] at h; cases h
theorem atI_get {α : Type} {xs : List α} {i : Int} {v : α} (h : atI xs i = some v) : ∃ j, seqIndex? i xs.length = some j ∧ xs[j]? = some v ∧ j < xs.length ∧ -(xs.length : Int) ≤ i ∧ i < xs.length := by
  unfold atI at h
  cases e : ixN xs.length i with
  | none => rw [e] at h; cases h
  | some j =>
    rw [e] at h
    obtain ⟨h1, h2, h3, h4⟩ := ixN_seq e
    exact ⟨j, h1, h, h2, h3, h4⟩
theorem atI_nat {α : Type} {xs : List α} {j : Nat} {v : α} (h : xs[j]? = some v) : atI xs (j : Int) = some v := by
  have hj : j < xs.length := (List.getElem?_eq_some_iff.mp h).1
  have e : ixN xs.length (j : Int) = some j := by
    unfold ixN
    rw [if_pos (by omega), if_pos (by omega)]; simp
  unfold atI; rw [e]; exact h
/-- what stands as an index of a plain subscript -/
def PlainIx (b : Expr) : Prop := ∀ o i, subscripted b false o i = operate [o, i] (getItem o i)
/-- a subscript by values -/
def IxR (X : Cx) (r : R2) : Prop :=
  ∀ (value slice : Expr) (pins : List (Addr × Obj)) (s : Shared) (σ : St) (H : Hp) (x y : V) (v u : Value) (Q : VK), Inv X pins σ H s → RelV x v → RelV y u → r x y H Q →
    subscripted slice false v u = operate [v, u] (getItem v u) → wpAny (model X.prog X.w) X.A (subscriptTail value slice v u) (EP X pins σ Q) X.xe s
/-- a call of a builtin's method by values: the receiver, the arguments -/
def MtR (X : Cx) (id : String) (r : V → List V → Hp → VK → Prop) : Prop :=
  ∀ (pins : List (Addr × Obj)) (s : Shared) (σ : St) (H : Hp) (x : V) (xs : List V) (v : Value) (us : List Value) (Q : VK), Inv X pins σ H s → RelV x v → Vals xs us → r x xs H Q →
    wpAny (model X.prog X.w) X.A (call (.builtin id) (v :: us)) (EP X pins σ Q) X.xe s
section
variable {X : Cx} {a b : Expr} {ta tb : TE} {pos : Pos}
theorem IxR.or {r r' : R2} (h : IxR X r) (h' : IxR X r') : IxR X (fun x y H Q => r x y H Q ∨ r' x y H Q) := by
  intro value slice pins s σ H x y v u Q I rx ry q hs
  rcases q with q | q
  · exact h value slice pins s σ H x y v u Q I rx ry q hs
  · exact h' value slice pins s σ H x y v u Q I rx ry q hs
theorem MtR.or {id : String} {r r' : V → List V → Hp → VK → Prop} (h : MtR X id r) (h' : MtR X id r') : MtR X id (fun x xs H Q => r x xs H Q ∨ r' x xs H Q) := by
  intro pins s σ H x xs v us Q I rx rs q
  rcases q with q | q
  · exact h pins s σ H x xs v us Q I rx rs q
  · exact h' pins s σ H x xs v us Q I rx rs q
/-- a[b] -/
theorem pe_ix {r : R2} (hr : IxR X r) (ha : PE X a ta) (hb : PE X b tb) (hs : PlainIx b) : PE X (.Subscript a b pos) (tOp r ta tb) := by
  intro pins s σ H Q I h
  exact Subscript_ (binT ha hb I h fun v u s2 x y H2 I2 rx ry q => hr a b pins s2 σ H2 x y v u Q I2 rx ry q (hs _ _))

inductive rIxL (K : PySem.W.Frag) (x : V) (y : V) (H : Hp) (Q : VK) : Prop
  | mk : ∀ p xs i v, (x = .ref p) → (y = .int i) → (SqL K H p xs) → (atI xs i = some v) → (Q v H) → rIxL K x y H Q
inductive rIxT (K : PySem.W.Frag) (x : V) (y : V) (H : Hp) (Q : VK) : Prop
  | mk : ∀ p xs i v, (x = .ref p) → (y = .int i) → (SqT K H p xs) → (atI xs i = some v) → (Q v H) → rIxT K x y H Q
inductive rIxS (x : V) (y : V) (H : Hp) (Q : VK) : Prop
  | mk : ∀ z i c, (x = .str z) → (y = .int i) → (z.length ≤ sizeLine) → (atI z.cps.toList i = some c) → (Q (.str ⟨#[c]⟩) H) → rIxS x y H Q
theorem ix_list : IxR X (rIxL X.K) := by
  intro value slice pins s σ H x y v u Q I rx ry h hs
  obtain ⟨p, xs, i, z, rfl, rfl, hq, he, q⟩ := h
  cases rx
  obtain ⟨t, rfl⟩ := ry
  obtain ⟨its, r, pl, hz⟩ := I.list hq
  obtain ⟨j, h1, h2, h3, h4, h5⟩ := atI_get he
  obtain ⟨w, ew, rw'⟩ := r.get h2
  have hl := r.length
  have hn := line63
  have fin : EP X pins σ Q w s := ⟨z, H, I, rw', q⟩
  by_cases h0 : 0 ≤ i
  · have hj : i.toNat = j := by
      rw [seqIndex_of h0 h5] at h1
      exact Option.some.inj h1
    exact item_listR pl.isList h0 (by omega) (by rw [hj]; simpa using ew) fin hs
  · have hj : (i + (its.toArray.size : Int)).toNat = j := by
      rw [seqIndex_neg (by omega) h4] at h1
      rw [List.size_toArray, ← hl]
      exact Option.some.inj h1
    exact subscriptTail_builtinR (x := w) pl.isList.typeIs slot_list_getitem.lookup
      (wpAny_getItem_list_neg (Q := fun r s' => r = w ∧ EP X pins σ Q r s') pl.isList (by omega) (by rw [List.size_toArray] <;> omega) (by omega) (by rw [hj]; simpa using ew) ⟨rfl, fin⟩) hs
theorem ix_tup : IxR X (rIxT X.K) := by
  intro value slice pins s σ H x y v u Q I rx ry h hs
  obtain ⟨p, xs, i, z, rfl, rfl, hq, he, q⟩ := h
  cases rx
  obtain ⟨t, rfl⟩ := ry
  obtain ⟨its, r, pl, hz⟩ := I.tuple hq
  obtain ⟨j, h1, h2, h3, h4, h5⟩ := atI_get he
  obtain ⟨w, ew, rw'⟩ := r.get h2
  have hl := r.length
  have hn := line63
  have fin : EP X pins σ Q w s := ⟨z, H, I, rw', q⟩
  exact subscriptTail_builtinR (x := w) pl.typeIs slot_tuple_getitem.lookup
    (getItem_tuple (j := j) (Q := fun r s' => r = w ∧ EP X pins σ Q r s') pl (by omega) (by omega) (by rw [List.size_toArray, ← hl]; exact h1) (by simpa using ew) ⟨rfl, fin⟩) hs
theorem ix_str : IxR X rIxS := by
  intro value slice pins s σ H x y v u Q I rx ry h hs
  obtain ⟨z, i, c, rfl, rfl, hz, he, q⟩ := h
  obtain ⟨t, rfl⟩ := rx
  obtain ⟨t', rfl⟩ := ry
  obtain ⟨j, h1, h2, h3, h4, h5⟩ := atI_get he
  have hl : z.cps.toList.length = z.length := by simp [Str.length]
  rw [hl] at h1 h4 h5
  have hn := line63
  exact tail_any (typeIs_str s z t) slot_str_getitem.lookup (getItem_str (c := c) (by
    have e1 : decide (i < -(2 ^ 63 : Int)) = false := decide_eq_false (by omega)
    have e2 : decide (i ≥ 2 ^ 63) = false := decide_eq_false (by omega)
    rw [e1, e2, Bool.or_false]) (by rw [h1]; simpa using h2) ⟨.str ⟨#[c]⟩, H, I.tok _, ⟨_, rfl⟩, q⟩) hs
/-- the list's object behind a store -/
theorem mapSeq_set (its : List Value) (n j : Nat) (u : Value) : Obj.mapSeq (·.setIfInBounds j u) { cls := .type "list", data := .seq its.toArray n } = { cls := .type "list", data := .seq (its.set j u).toArray n } := by
  simp [Obj.mapSeq]
theorem Inv.lst {pins : List (Addr × Obj)} {σ : St} {H : Hp} {s : Shared} {p : Addr} {xs : List V} (I : Inv X pins σ H s) (h : H p = some (.lst xs)) :
    ∃ (its : List Value) (n : Nat), Vals xs its ∧ s.heap.get? p = some { cls := .type "list", data := .seq its.toArray n } ∧ xs.length ≤ sizeLine := by
  obtain ⟨z, its, n, r, e⟩ := I.hok p _ h
  exact ⟨its, n, r, e, z⟩
/-- the list at p is written by an update of its object -/
theorem Inv.lstUpd {pins : List (Addr × Obj)} {σ : St} {H : Hp} {s : Shared} {p : Addr} {xs ys : List V} {its its' : List Value} {n n' : Nat} {f : Obj → Obj} (I : Inv X pins σ H s) (h : H p = some (.lst xs))
    (ho : s.heap.get? p = some { cls := .type "list", data := .seq its.toArray n }) (hf : f { cls := .type "list", data := .seq its.toArray n } = { cls := .type "list", data := .seq its'.toArray n' }) (r : Vals ys its') (hz : ys.length ≤ sizeLine) (t : Nat) :
    Inv X pins σ (upd H p (.lst ys)) { s with heap := s.heap.update p f, toks := t } := by
  have e : (s.heap.update p f).get? p = some { cls := .type "list", data := .seq its'.toArray n' } := by
    rw [Heap.get?_update_self f ho (by rw [hf] <;> rfl), hf]
  refine I.write (x := p) (e := p) (by rw [h]; trivial) (.inl rfl) (fun b u hb q => (Heap.get?_update_other _ _ (Ne.symm hb)).trans q) ⟨_, e⟩ ?_
  exact ⟨hz, its', n', r, e⟩
inductive rSetL (o : V) (i : V) (v : V) (H : Hp) (Q : Hp → Prop) : Prop
  | mk : ∀ p xs k j, (o = .ref p) → (i = .int k) → (H p = some (.lst xs)) → (ixN xs.length k = some j) → (Q (upd H p (.lst (xs.set j v)))) → rSetL o i v H Q
theorem set_list : PSet X rSetL := by
  intro pins s σ H o i v ov iv u Q I ro ri rv h
  obtain ⟨p, xs, k, j, rfl, rfl, hp, hj, q⟩ := h
  cases ro
  obtain ⟨t, rfl⟩ := ri
  obtain ⟨its, n, r, ho, hz⟩ := I.lst hp
  obtain ⟨h1, h2, h3, h4⟩ := ixN_seq hj
  have hl := r.length
  have hn := line63
  have I' : Inv X pins σ (upd H p (.lst (xs.set j v))) { s with heap := s.heap.update p (Obj.mapSeq (·.setIfInBounds j u)) } :=
    I.lstUpd hp ho (mapSeq_set its n j u) (r.set rv j) (by rw [List.length_set]; exact hz) s.toks
  by_cases h0 : 0 ≤ k
  · have hk : k.toNat = j := by
      rw [seqIndex_of h0 h4] at h1
      exact Option.some.inj h1
    exact PySem.W.ki_setAt ho h0 (by omega) (by rw [List.size_toArray, ← hl]; exact h4) (by rw [hk]; exact ⟨_, I', q⟩)
  · have hk : (k + (its.toArray.size : Int)).toNat = j := by
      rw [seqIndex_neg (by omega) h3] at h1
      rw [List.size_toArray, ← hl]
      exact Option.some.inj h1
    exact PySem.W.ki_setBack ho (by omega) (by rw [List.size_toArray, ← hl]; exact h3) (by omega) (by rw [hk]; exact ⟨_, I', q⟩)

theorem slice_bounds (lo hi : Option Int) (n : Nat) : (sliceBounds lo hi none n).1 = ((HT.sIx n 0 lo : Nat) : Int) ∧ (sliceBounds lo hi none n).2.1 = ((HT.sIx n n hi : Nat) : Int) ∧ (sliceBounds lo hi none n).2.2 = 1 := by
  refine ⟨?_, ?_, rfl⟩
  · cases lo with
    | none => simp [sliceBounds, HT.sIx]
    | some i =>
      simp only [sliceBounds, HT.sIx, Option.getD_none, show (1 : Int) > 0 by decide, if_true]
      by_cases h : i < 0
      · simp only [h, if_true] <;> omega
      · simp only [h, if_false] <;> omega
  · cases hi with
    | none => simp [sliceBounds, HT.sIx]
    | some i =>
      simp only [sliceBounds, HT.sIx, Option.getD_none, show (1 : Int) > 0 by decide, if_true]
      by_cases h : i < 0
      · simp only [h, if_true] <;> omega
      · simp only [h, if_false] <;> omega
theorem slicePick_cut (its : List Value) (lo hi : Option Int) : slicePick its.toArray lo hi none = ((its.drop (HT.sIx its.length 0 lo)).take (HT.sIx its.length its.length hi - HT.sIx its.length 0 lo)).toArray := by
  obtain ⟨h1, h2, h3⟩ := slice_bounds lo hi its.toArray.size
  unfold slicePick
  rw [h1, h2, h3]
  simp only [sliceRange_one, pick_run, List.size_toArray] <;> rfl
/-- xs[lo:hi] of a list: a new list -/
inductive rSlL (K : PySem.W.Frag) (x : V) (lo : Option Int) (hi : Option Int) (H : Hp) (Q : VK) : Prop
  | mk : ∀ a xs, (x = .ref a) → (SqL K H a xs) → (∀ p, H p = none → Q (.ref p) (upd H p (.lst (cutV xs lo hi)))) → rSlL K x lo hi H Q
theorem sl_list : SlR X (rSlL X.K) := by
  intro pins s σ H x v vl vu lo hi sl Q I rx hs pl pu h
  obtain ⟨a, xs, rfl, hx, q⟩ := h
  cases rx
  obtain ⟨its, r, ht, hz⟩ := I.list hx
  have hlen := r.length
  refine ⟨"list", _, slot_list_getitem.lookup, ht.isList.typeIs, ?_⟩
  refine wpAny_getItem_list_slice ht.isList hs pl pu .none (by simp) ?_ (by rw [List.size_toArray] <;> omega)
  rw [slicePick_cut, ← hlen]
  refine ⟨.ref s.heap.objs.size, _, I.laid (t' := s.toks) (o := .lst (cutV xs lo hi)) (fun b ob q => Heap.get?_push_of_some _ q) (Nat.le_refl _) ?_, rfl, q _ (I.hok.fresh (Nat.le_refl _))⟩
  exact ⟨Nat.le_trans (cutV_length xs lo hi) hz, _, 0, (r.drop (HT.sIx xs.length 0 lo)).take (HT.sIx xs.length xs.length hi - HT.sIx xs.length 0 lo), Heap.get?_push_size _ rfl⟩

inductive call_len_seqY (K : PySem.W.Frag) (xs : List V) (H : Hp) (Q : VK) : Prop
  | mk : ∀ p ys, (xs = [.ref p]) → ((SqL K H p ys ∨ SqT K H p ys)) → (Q (.int ys.length) H) → call_len_seqY K xs H Q
theorem call_len_seq : CallR X (.builtin "len") (call_len_seqY X.K) := by
  intro pins s σ H xs us Q I r h
  obtain ⟨p, ys, rfl, hq, q⟩ := h
  obtain ⟨u, rfl, rx⟩ := vals1 r
  cases rx
  have hn := line63
  rcases hq with hq | hq
  · obtain ⟨its, r', pl, hz⟩ := I.list hq
    have hlen := r'.length
    exact Calls.call_len_list pl.isList (by simp only [List.size_toArray] <;> omega) ⟨.int ys.length, H, I.tok _, ⟨s.toks + 1, by rw [List.size_toArray, hlen]⟩, q⟩
  · obtain ⟨its, r', pl, hz⟩ := I.tuple hq
    have hlen := r'.length
    exact len_tuple pl (by simp only [List.size_toArray] <;> omega) ⟨.int ys.length, H, I.tok _, ⟨s.toks + 1, by rw [List.size_toArray, hlen]⟩, q⟩
inductive call_len_strY (xs : List V) (H : Hp) (Q : VK) : Prop
  | mk : ∀ z, (xs = [.str z]) → (z.length ≤ sizeLine) → (Q (.int z.length) H) → call_len_strY xs H Q
theorem call_len_str : CallR X (.builtin "len") call_len_strY := by
  intro pins s σ H xs us Q I r h
  obtain ⟨z, rfl, hz, q⟩ := h
  obtain ⟨u, rfl, t, rfl⟩ := vals1 r
  have hn := line63
  exact len_str (by omega) ⟨.int z.length, H, I.tok _, ⟨_, rfl⟩, q⟩
theorem CallR.or {f : Value} {r r' : List V → Hp → VK → Prop} (h : CallR X f r) (h' : CallR X f r') : CallR X f (fun xs H Q => r xs H Q ∨ r' xs H Q) := by
  intro pins s σ H xs us Q I rs q
  rcases q with q | q
  · exact h pins s σ H xs us Q I rs q
  · exact h' pins s σ H xs us Q I rs q
inductive call_list_ofY (K : PySem.W.Frag) (xs : List V) (H : Hp) (Q : VK) : Prop
  | mk : ∀ p ys, (xs = [.ref p]) → ((SqL K H p ys ∨ SqT K H p ys)) → (∀ l, H l = none → Q (.ref l) (upd H l (.lst ys))) → call_list_ofY K xs H Q
theorem call_list_of : CallR X (.type "list") (call_list_ofY X.K) := by
  intro pins s σ H xs us Q I r h
  obtain ⟨p, ys, rfl, hq, q⟩ := h
  obtain ⟨u, rfl, rx⟩ := vals1 r
  cases rx
  have fin : ∀ (its : List Value), Vals ys its → ys.length ≤ sizeLine → ∀ (h' : Heap) (c' : Nat), (∀ b o', s.heap.get? b = some o' → h'.get? b = some o') →
      h'.get? s.heap.objs.size = some { cls := .type "list", dict := none, data := .seq its.toArray c', slots := #[] } → EP X pins σ Q (.ref s.heap.objs.size) { s with heap := h' } := fun its r' hz h' c' kp e =>
    ⟨.ref s.heap.objs.size, _, I.laid (t' := s.toks) kp (Nat.le_refl _) (show ObjOk X.prog X.w _ h' _ (.lst ys) from ⟨hz, its, c', r', e⟩), rfl, q _ (I.hok.fresh (Nat.le_refl _))⟩
  rcases hq with hq | hq
  · obtain ⟨its, r', pl, hz⟩ := I.list hq
    have hlen := r'.length
    obtain ⟨o, ho, hc, n, hd⟩ := pl.isList
    exact call_list_seq p (.inl rfl) ho hc hd (fun h' c' kp e => fin its r' hz h' c' kp e) (by simp only [List.size_toArray] <;> omega)
  · obtain ⟨its, r', pl, hz⟩ := I.tuple hq
    have hlen := r'.length
    obtain ⟨o, ho, hc, n, hd⟩ := pl
    exact call_list_seq p (.inr rfl) ho hc hd (fun h' c' kp e => fin its r' hz h' c' kp e) (by simp only [List.size_toArray] <;> omega)
inductive call_tuple_ofY (K : PySem.W.Frag) (xs : List V) (H : Hp) (Q : VK) : Prop
  | mk : ∀ p ys, (xs = [.ref p]) → (((SqL K H p ys ∧ ∀ l, H l = none → Q (.ref l) (upd H l (.tup ys))) ∨ (SqT K H p ys ∧ Q (.ref p) H))) → call_tuple_ofY K xs H Q
theorem call_tuple_of : CallR X (.type "tuple") (call_tuple_ofY X.K) := by
  intro pins s σ H xs us Q I r h
  obtain ⟨p, ys, rfl, h⟩ := h
  obtain ⟨u, rfl, rx⟩ := vals1 r
  cases rx
  rcases h with ⟨hq, q⟩ | ⟨hq, q⟩
  · obtain ⟨its, r', pl, hz⟩ := I.list hq
    have hlen := r'.length
    refine call_tuple_list pl.isList (fun h' kp => ?_) (by simp only [List.size_toArray] <;> omega)
    have I1 : Inv X pins σ H { s with heap := h' } := I.kept (t' := s.toks) kp
    have I2 : Inv X pins σ (upd H h'.objs.size (.tup ys)) { s with heap := h'.push { cls := .type "tuple", data := .seq its.toArray } } :=
      I1.laid (t' := s.toks) (fun b o e => Heap.get?_push_of_some _ e) (Nat.le_refl _) (show ObjOk X.prog X.w _ _ _ (.tup ys) from ⟨hz, its, r', IsTupN.new _ _⟩)
    exact ⟨.ref h'.objs.size, _, I2, rfl, q _ (I1.hok.fresh (Nat.le_refl _))⟩
  · obtain ⟨its, r', pl, hz⟩ := I.tuple hq
    exact call_tuple_same pl ⟨.ref p, H, I, rfl, q⟩

/-- the value is of that builtin type -/
def tyV (K : PySem.W.Frag) (T : String) (x : V) (H : Hp) : Prop := match x with
  | .str _ => T = "str"
  | .int _ => T = "int"
  | .ref p => (T = "list" ∧ ∃ xs, SqL K H p xs) ∨ (T = "tuple" ∧ ((∃ o, K.lookup p = some o ∧ o.cls = .type "tuple" ∧ o.dict = none) ∨ ∃ xs, H p = some (.tup xs))) ∨
      (T = "dict" ∧ ((∃ kvs, H p = some (.dK kvs)) ∨ ∃ kvs, H p = some (.dT kvs))) ∨ (T = "set" ∧ ∃ S n, H p = some (.set S n))
  | _ => False
theorem tyV_is {pins : List (Addr × Obj)} {σ : St} {H : Hp} {s : Shared} {T : String} {x : V} {v : Value} (I : Inv X pins σ H s) (r : RelV x v) (ty : tyV X.K T x H) :
    s.TypeIs v T ∧ ∀ a, v = .ref a → ∃ ob, s.heap.get? a = some ob ∧ ob.dict = none := by
  cases x with
  | str z =>
    obtain ⟨t, rfl⟩ := r
    cases (show T = "str" from ty)
    exact ⟨typeIs_str s z t, fun _ e => nomatch e⟩
  | int i =>
    obtain ⟨t, rfl⟩ := r
    cases (show T = "int" from ty)
    exact ⟨typeIs_int s i t, fun _ e => nomatch e⟩
  | ref p =>
    cases r
    rcases ty with ⟨rfl, xs, hq⟩ | ⟨rfl, ⟨o, hk, hc, hd⟩ | ⟨xs, hq⟩⟩ | ⟨rfl, hk⟩ | ⟨rfl, S, n, hk⟩
    · obtain ⟨its, _, pl, _⟩ := I.list hq
      refine ⟨pl.isList.typeIs, fun a e => ?_⟩
      cases e
      obtain ⟨o, n, e, c, hd, _⟩ := pl
      exact ⟨o, e, hd⟩
    · refine ⟨⟨o, I.kIn p o hk, hc⟩, fun a e => ?_⟩
      cases e
      exact ⟨o, I.kIn _ o hk, hd⟩
    · obtain ⟨_, its, _, o, e, c, n, _, hd⟩ := (show ObjOk X.prog X.w H s.heap p (.tup xs) from I.hok p _ hq)
      refine ⟨⟨o, e, c⟩, fun a e2 => ?_⟩
      cases e2
      exact ⟨o, e, hd⟩
    · have z : ∃ o, s.heap.get? p = some o ∧ o.ExactDict := by
        rcases hk with ⟨kvs, hk⟩ | ⟨kvs, hk⟩
        · obtain ⟨_, _, _, _, o, _, _, e, ex, _⟩ := I.hok p _ hk
          exact ⟨o, e, ex⟩
        · obtain ⟨_, _, _, _, o, _, _, e, ex, _⟩ := I.hok p _ hk
          exact ⟨o, e, ex⟩
      obtain ⟨o, e, ex⟩ := z
      refine ⟨⟨o, e, ex.1⟩, fun a e2 => ?_⟩
      cases e2
      exact ⟨o, e, ex.2.1⟩
    · obtain ⟨o, _, _, _, e, ex, _⟩ := I.hok p _ hk
      refine ⟨⟨o, e, ex.1⟩, fun a e2 => ?_⟩
      cases e2
      exact ⟨o, e, ex.2.1⟩
  | _ => exact False.elim ty
inductive tBMY (K : PySem.W.Frag) (T : String) (r : V → List V → Hp → VK → Prop) (t : TA) (σ : St) (Q : VK) (x : V) (H1 : Hp) : Prop
  | mk : (tyV K T x H1) → (t σ H1 fun xs H2 => r x xs H2 Q) → tBMY K T r t σ Q x H1
def tBM (K : PySem.W.Frag) (T : String) (r : V → List V → Hp → VK → Prop) (to : TE) (t : TA) : TE := fun σ H Q => to σ H fun x H1 => tBMY K T r t σ Q x H1
variable {o e : Expr} {es : List Expr} {to : TE} {t : TA} {name : Str} {apos cpos : Pos} {T id : String} {r : V → List V → Hp → VK → Prop}
theorem pe_bm (pa : PlainAttrs T) (slot : Slot T name id) (hty : typeOf (.builtin id) = pure (.type "method_descriptor")) (hm : MtR X id r) (ho : PE X o to) (ha : PA X (e :: es) t)
    (hbase : attributeBase o name X.env (eval o X.env) = eval o X.env := by rfl)
    (hfew : ((backTo cpos (starEach (e :: es) X.env)).all (fun x => !x.1) && (backToKw cpos (keywordEach [] X.env)).all (fun x => x.1.isSome)
      && decide ((e :: es).length + ([] : List Keyword).length + (if ([] : List Keyword).isEmpty then 0 else 1) < 30)) = true := by rfl)
    (hline : (apos.endLine == cpos.line) = true := by rfl) (hs : starEach (e :: es) X.env = (false, eval e X.env) :: starEach es X.env := by rfl) (hplain : (backTo cpos (starEach es X.env)).any (·.1) = false := by rfl) :
    PE X (.Call (.Attribute o name apos) (e :: es) [] cpos) (tBM X.K T r to t) := by
  intro pins s σ H Q I h
  refine wpAny_Call_method_late hbase hfew hline rfl (thn (ho pins s σ H _ I h) fun v s1 ⟨x, H1, I1, r1, ty, q1⟩ => ?_)
  obtain ⟨h1, h2⟩ := tyV_is I1 r1 ty
  refine ⟨T, id, pa, slot, hty, h1, h2, ?_⟩
  have hA := ha cpos pins s1 σ H1 _ I1 q1
  rw [hs] at hA ⊢
  refine Calls.callWith_builtin (by show (false || (backTo cpos (starEach es X.env)).any (·.1)) = false; rw [hplain] <;> rfl) (Calls.evalArgs_plain ?_)
  exact thn hA fun us s2 ⟨vs, H2, I2, r2, q2⟩ => hm pins s2 σ H2 x vs v us Q I2 r1 r2 q2
end
end L2

namespace L2
open PySem PySem.Spec PyProof.Rows

def MtM (X : Cx) (id : String) (r : V → List V → Hp → VK → Prop) : Prop :=
  ∀ (pins : List (Addr × Obj)) (s : Shared) (σ : St) (H : Hp) (x : V) (xs : List V) (v : Value) (us : List Value) (Q : VK), Inv X pins σ H s → RelV x v → Vals xs us → r x xs H Q →
    wpAny (model X.prog X.w) X.A (call (.builtin id) (v :: us)) (EP X pins σ Q) X.xe s

theorem Vals.one : ∀ {x : V} {us : List Value}, Vals [x] us → ∃ u, us = [u] ∧ RelV x u
  | _, _, .cons r .nil => ⟨_, rfl, r⟩
theorem Vals.two : ∀ {x y : V} {us : List Value}, Vals [x, y] us → ∃ u v, us = [u, v] ∧ RelV x u ∧ RelV y v
  | _, _, _, .cons r (.cons q .nil) => ⟨_, _, rfl, r, q⟩
theorem Vals.zero : ∀ {us : List Value}, Vals [] us → us = []
  | _, .nil => rfl
theorem Vals.dropLast {xs : List V} {us : List Value} (h : Vals xs us) : Vals xs.dropLast us.dropLast := by
  induction h with
  | nil => exact .nil
  | cons r t ih =>
    cases t with
    | nil => exact .nil
    | cons q t' => exact .cons r ih
theorem Vals.eraseIdx : ∀ {xs : List V} {us : List Value} (i : Nat), Vals xs us → Vals (xs.eraseIdx i) (us.eraseIdx i)
  | _, _, _, .nil => .nil
  | _, _, 0, .cons _ t => t
  | _, _, i + 1, .cons r t => .cons r (Vals.eraseIdx i t)
theorem Vals.reverse {xs : List V} {us : List Value} (h : Vals xs us) : Vals xs.reverse us.reverse := by
  induction h with
  | nil => exact .nil
  | cons r t ih => rw [List.reverse_cons, List.reverse_cons]; exact Vals.append ih (.cons r .nil)
theorem Vals.rep {xs : List V} {us : List Value} (h : Vals xs us) : ∀ k : Nat, Vals (List.replicate k xs).flatten (List.replicate k us).flatten
  | 0 => .nil
  | k + 1 => by
    rw [List.replicate_succ, List.replicate_succ, List.flatten_cons, List.flatten_cons]
    exact Vals.append h (Vals.rep h k)
theorem len_erase {α : Type} : ∀ (l : List α) (i : Nat), (l.eraseIdx i).length ≤ l.length
  | [], _ => Nat.le_refl _
  | _ :: _, 0 => Nat.le_succ _
  | _ :: r, i + 1 => Nat.succ_le_succ (len_erase r i)
theorem foldl_rep (its : List Value) : ∀ (k : Nat) (acc : List Value),
    List.foldl (fun x1 x2 => x1 ++ x2) acc.toArray (List.replicate k its.toArray) = (acc ++ (List.replicate k its).flatten).toArray
  | 0, acc => by simp
  | k + 1, acc => by
    have e : acc.toArray ++ its.toArray = (acc ++ its).toArray := by simp
    have e2 : (acc ++ its) ++ (List.replicate k its).flatten = acc ++ (List.replicate (k + 1) its).flatten := by
      rw [List.replicate_succ, List.flatten_cons, List.append_assoc]
    rw [← e2, ← foldl_rep its k (acc ++ its), ← e, List.replicate_succ, List.foldl_cons]

section
variable {X : Cx} {pins : List (Addr × Obj)} {σ : St} {H : Hp} {s : Shared} {l b : Addr} {xs ys zs : List V}

theorem Inv.lset {its its' : List Value} {n : Nat} {f : Array Value → Array Value} {t' : Nat} (I : Inv X pins σ H s) (hH : H l = some (.lst xs))
    (e : s.heap.get? l = some { cls := .type "list", data := .seq its.toArray n }) (hf : f its.toArray = its'.toArray) (hv : Vals ys its') (hz : ys.length ≤ sizeLine) :
    Inv X pins σ (upd H l (.lst ys)) { s with heap := s.heap.update l (Obj.mapSeq f), toks := t' } := by
  have q := PySem.IsL.update e f
  rw [hf] at q
  refine I.write (x := l) (e := l) (by rw [hH]; exact trivial) (.inl rfl) (fun b' u hb hu => (Heap.get?_update_other s.heap (Obj.mapSeq f) (Ne.symm hb)).trans hu) ⟨_, q⟩ ?_
  exact ⟨hz, its', _, hv, q⟩
theorem Inv.lnew {its : List Value} {t' : Nat} (I : Inv X pins σ H s) (hv : Vals ys its) (hz : ys.length ≤ sizeLine) :
    Inv X pins σ (upd H s.heap.objs.size (.lst ys)) { s with heap := s.heap.push { cls := .type "list", data := .seq its.toArray }, toks := t' } :=
  I.laid (fun _ _ q => Heap.get?_push_of_some _ q) (Nat.le_refl _) ⟨hz, its, 0, hv, Heap.get?_push_size _ rfl⟩
theorem Inv.fresh (I : Inv X pins σ H s) : H s.heap.objs.size = none := I.hok.fresh (Nat.le_refl _)
theorem Inv.lstM (I : Inv X pins σ H s) (hH : H l = some (.lst xs)) : xs.length ≤ sizeLine ∧ ∃ (its : List Value) (n : Nat), Vals xs its ∧ xs.length = its.length ∧ s.heap.get? l = some { cls := .type "list", data := .seq its.toArray n } := by
  obtain ⟨z, its, n, r, e⟩ := I.hok l _ hH
  exact ⟨z, its, n, r, r.length, e⟩

theorem notLongL {n : Nat} (h : n ≤ sizeLine) : Builtin.List.listTooLong n = false := by
  unfold Builtin.List.listTooLong
  exact decide_eq_false (by omega)
end

section
variable {X : Cx}

inductive rAppend (x : V) (vs : List V) (H : Hp) (Q : VK) : Prop
  | mk : ∀ l xs y, (x = .ref l) → (vs = [y]) → (H l = some (.lst xs)) → (xs.length < sizeLine) → (Q .non (upd H l (.lst (xs ++ [y])))) → rAppend x vs H Q
theorem mt_append : MtM X "list.append" rAppend := by
  intro pins s σ H x vs v us Q I rx rv h
  obtain ⟨l, xs, y, rfl, rfl, hH, hz, q⟩ := h
  cases rx
  obtain ⟨u, rfl, ru⟩ := rv.one
  obtain ⟨z, its, n, r, hl, e⟩ := I.lstM hH
  refine call_meets F.slot_list_append ⟨_, e, rfl⟩ F.entry_list_append (F.args_list_append_2 _ _) (PySem.list_append l its.toArray n u (by rw [List.size_toArray]; omega)) ⟨e, ?_⟩
  refine ⟨.non, _, I.lset (its' := its ++ [u]) hH e (by simp) (r.append (.cons ru .nil)) ?_, rfl, q⟩
  rw [List.length_append, List.length_singleton]
  omega

inductive rPopAt (x : V) (vs : List V) (H : Hp) (Q : VK) : Prop
  | mk : ∀ l xs i k y, (x = .ref l) → (vs = [.int i]) → (H l = some (.lst xs)) → (-(2 ^ 63) ≤ i) → (i < 2 ^ 63) → (seqIndex? i xs.length = some k) → (xs[k]? = some y) → (Q y (upd H l (.lst (xs.eraseIdx k)))) → rPopAt x vs H Q
theorem mt_popAt : MtM X "list.pop" rPopAt := by
  intro pins s σ H x vs v us Q I rx rv h
  obtain ⟨l, xs, i, k, y, rfl, rfl, hH, h1, h2, hk, hy, q⟩ := h
  cases rx
  obtain ⟨u, rfl, ru⟩ := rv.one
  obtain ⟨t, rfl⟩ := ru
  obtain ⟨z, its, n, r, hl, e⟩ := I.lstM hH
  obtain ⟨w, hw, rw'⟩ := r.get hy
  refine call_meets F.slot_list_pop ⟨_, e, rfl⟩ F.entry_list_pop (F.args_list_pop_2 _ _)
    (MeetsSeq.list_pop_at l its.toArray n i t k w (fitsIndex_both h1 h2) (by rw [List.size_toArray, ← hl]; exact hk) (by rw [← Array.getElem?_toList]; exact hw) (by rw [List.size_toArray]; omega)) ⟨e, ?_⟩
  refine ⟨y, _, I.lset (its' := its.eraseIdx k) hH e ?_ (r.eraseIdx k) ?_, rw', q⟩
  · show its.toArray.eraseIdxIfInBounds k = (its.eraseIdx k).toArray
    rw [List.eraseIdxIfInBounds_toArray]
  · have := len_erase xs k
    omega

inductive rCat (x : V) (y : V) (H : Hp) (Q : VK) : Prop
  | mk : ∀ l b xs zs, (x = .ref l) → (y = .ref b) → (H l = some (.lst xs)) → (H b = some (.lst zs)) → (xs.length + zs.length ≤ sizeLine) → (∀ p, H p = none → Q (.ref p) (upd H p (.lst (xs ++ zs)))) → rCat x y H Q
theorem op_cat : OpR X (binaryOp .Add) rCat := by
  intro pins s σ H x y v u Q I rx ry h
  obtain ⟨l, b, xs, zs, rfl, rfl, hH, hB, hz, q⟩ := h
  cases rx
  cases ry
  obtain ⟨z, its, n, r, hl, e⟩ := I.lstM hH
  obtain ⟨z2, its2, n2, r2, hl2, e2⟩ := I.lstM hB
  refine PySem.P.add_list e e2 ?_ (by rw [List.size_toArray, List.size_toArray]; omega)
  have ea : its.toArray ++ its2.toArray = (its ++ its2).toArray := by simp
  rw [ea]
  exact ⟨.ref _, _, I.lnew (t' := s.toks) (r.append r2) (by rw [List.length_append]; omega), rfl, q _ I.fresh⟩
/-- a list times an int (a negative one is nothing) -/
inductive rRep (x : V) (y : V) (H : Hp) (Q : VK) : Prop
  | mk : ∀ l k xs, (x = .ref l) → (y = .int k) → (H l = some (.lst xs)) → (-(2 ^ 63) ≤ k) → (k < 2 ^ 63) → (xs.length * k.toNat ≤ sizeLine) → (∀ p, H p = none → Q (.ref p) (upd H p (.lst (List.replicate k.toNat xs).flatten))) → rRep x y H Q
theorem len_rep {α : Type} (xs : List α) (k : Nat) : (List.replicate k xs).flatten.length = k * xs.length := by
  induction k with
  | zero => simp
  | succ k ih => rw [List.replicate_succ, List.flatten_cons, List.length_append, ih, Nat.succ_mul, Nat.add_comm]
theorem op_rep : OpR X (binaryOp .Mult) rRep := by
  intro pins s σ H x y v u Q I rx ry h
  obtain ⟨l, k, xs, rfl, rfl, hH, h1, h2, hz, q⟩ := h
  cases rx
  obtain ⟨t, rfl⟩ := ry
  obtain ⟨z, its, n, r, hl, e⟩ := I.lstM hH
  have hlen : its.toArray.size * k.toNat ≤ sizeLine := by rw [List.size_toArray, ← hl]; exact hz
  have hcap : ¬ its.toArray.size * k.toNat > (2 ^ 63 - 1) / 8 := by
    have : (sizeLine : Nat) ≤ (2 ^ 63 - 1) / 8 := by decide
    omega
  have hfit : ¬ (!Builtin.List.listFitsIndex k) = true := by
    rw [fitsIndex_both h1 h2]
    exact Bool.false_ne_true
  have hlong : ¬ Builtin.List.listTooLong (its.toArray.size * k.toNat) = true := by
    rw [notLongL hlen]
    exact Bool.false_ne_true
  have hnew : List.foldl (fun x1 x2 => x1 ++ x2) #[] (List.replicate (if its.toArray.isEmpty = true then 0 else k.toNat) its.toArray) = (List.replicate k.toNat its).flatten.toArray := by
    have f0 : ∀ m : Nat, List.foldl (fun x1 x2 => x1 ++ x2) #[] (List.replicate m its.toArray) = (List.replicate m its).flatten.toArray := fun m => by
      have := foldl_rep its m []
      rw [List.nil_append] at this
      exact this
    rw [f0]
    cases its with
    | nil => simp
    | cons a r' => rw [if_neg (by simp)]
  refine wpAny_binaryOp_repeat_ref (T := "list") (U := "int") (by decide) ⟨_, e, rfl⟩ (fun s' => typeIs_int s' k t) noFill_list_mul F.fills_int_mul F.slot_int_rmul repeat_list F.slot_int_index.lookup
    (call_meets F.slot_int_rmul (typeIs_int s k t) F.entry_int_rmul (F.args_int_rmul_2 _ _) (int___rmul___int_list k t l its.toArray n)
      ⟨e, rfl, ⟨_, e, rfl⟩, call_meets F.slot_list_mul ⟨_, e, rfl⟩ F.entry_list_mul (F.args_list_mul_2 _ _) (AutoListH.list___mul___list_int_3 l its.toArray n k t hfit hcap hlong) ⟨e, ?_⟩⟩)
  rw [hnew]
  exact ⟨.ref _, _, I.lnew (t' := s.toks) (r.rep k.toNat) (by rw [len_rep, Nat.mul_comm]; exact hz), rfl, q _ I.fresh⟩

end

section
variable {prog : Program} {w : World} {A : Around} {E : Value → Shared → Prop} {s : Shared}
end

section
variable {X : Cx}
end
end L2

namespace Att
open PySem PySem.W PySem.Calls PyProof.Rows

theorem ints_of_wellAll {P : Params} {h : Heap} : ∀ (ns : List Int) (vs : List Value), WellAll P h vs (ns.map WData.int) → IntsAre vs ns := by
  intro ns
  induction ns with
  | nil =>
    intro vs w
    rw [List.map_nil] at w
    cases w
    exact .nil
  | cons n ns ih =>
    intro vs w
    rw [List.map_cons] at w
    cases w with
    | cons a b =>
      cases a
      exact .cons _ _ (ih _ b)

theorem script_of {l : OpenLaw} {n : Nat} (hn : l.most = some n) {P : Params} {h : Heap} {args : List WData} {vals : List Value}
    (hpre : l.row.toRowW.claim.pre args = true) (hwl : WellAll P h vals args) :
    ∃ a vs ns, vals = [Value.ref a] ∧ args = [WData.list (ns.map WData.int)] ∧ h.get? a = some { cls := .type "list", data := .seq vs.toArray } ∧ IntsAre vs ns ∧ ns.length ≤ n := by
  have hsh : WShape.hasAll [] args [.list .int] = true := (pre_splitW hpre).1
  have hc : l.pre.holds [] { args := args } = true := (pre_splitW hpre).2
  obtain ⟨d, r, rfl, h1, h2⟩ := hasAllW_cons hsh
  obtain rfl := hasAllW_nil h2
  obtain ⟨xs, rfl, h3⟩ := hasW_list h1
  obtain ⟨ns, rfl⟩ := items_int h3
  have hlen : ns.length ≤ n := by
    unfold OpenLaw.pre at hc
    have h4 : (WTm.not (.lt (.lit (.int (n : Int))) (.len (.arg 0)))).holds [] { args := [.list (ns.map .int)] } = true := by
      have h4 := (holds_andW hc).1
      rw [hn] at h4
      exact h4
    have h5 := condW_of h4 (w_not (w_lt w_lit (w_len_list (w_arg rfl))))
    rw [List.length_map] at h5
    refine Nat.le_of_not_lt fun q => ?_
    have q' : (n : Int) < ((ns.length : Nat) : Int) := by omega
    first
      | (rw [decide_eq_true q'] at h5; exact absurd h5 (by decide))
      | (simp at h5; omega)
  cases hwl with
  | cons w1 w2 =>
    cases w2
    cases w1 with
    | list ho hall => exact ⟨_, _, ns, rfl, rfl, ho, ints_of_wellAll ns _ hall, hlen⟩

theorem post_true (l : OpenLaw) (args : List WData) : l.row.toRowW.claim.post args (.bool true) args = true :=
  postW_of (r := l.row.toRowW) (X := (true == true))
    (show WShape.has [] (.bool true) .bool = true by first | rfl | decide | simp [WShape.has, WShape.arms, WShape.armsAll])
    (show (WTm.eq .res (.lit (.bool true))).value [] { args := args, res := some (.bool true), after := args } = some (.bool (true == true)) from w_eq_bool (w_res rfl) w_lit) rfl

/-- the same from a codeAny of the CALL (for a layer whose function contracts speak of calls) -/
theorem attach_call {l : OpenLaw} {n : Nat} {q : Program} {loose : List Str} {XP : (Str → Option Value) → Heap → Prop} {YP : World → Heap → Prop} {d : DefRec}
    (hn : l.most = some n) (hdf : d.params.defaults = [])
    (call : ∀ (w : World) (s₀ s₁ : Shared) (mg mb : Str → Option Value) (fa : Addr) (o : Obj) (pm cd doc : Value) (a : Addr) (vs : List Value) (ns : List Int),
      Ground q loose [] XP w s₀ mg mb s₁.heap → YP w s₁.heap →
      s₁.heap.get? fa = some o → o.data = .func (docDef d.name d.params d.body d.scope pm cd doc) → s₁.heap.CodeRec cd d.name → mg d.name = some (.ref fa) →
      s₁.heap.get? a = some { cls := .type "list", data := .seq vs.toArray } → IntsAre vs ns → ns.length ≤ n → s₁.gens = #[] →
      codeAny (model l.prog w) callerA (.call (.ref fa) ⟨[.ref a], []⟩) (fun r s' => r = .ok (.ret (.bool true)) ∧ OldK s₁.heap s'.heap ∧ s'.os = s₁.os ∧ AllBare s'.gens) s₁) :
    WalkO q loose XP YP l.row.toRowW d [] (fun f vs => PySem.call f vs) := by
  intro w s₀ s₁ mg mb G Y fa o pm cd doc dV kV ho hd hcd hD hmg hg args vals as hpre hlay hrd hwl hlo
  obtain rfl : dV = .none := Dflts.none hD hdf
  obtain rfl : kV = .none := Dflts.noKw hD
  obtain ⟨a, vs, ns, rfl, rfl, hobj, hints, hlen⟩ := script_of hn hpre hwl
  refine enter_call (codeAny_mono (call w s₀ s₁ mg mb fa o pm cd doc a vs ns G Y ho (fd_plain hd) hcd hmg hobj hints hlen hg) fun r s' hq => ?_)
  obtain ⟨rfl, h2, h3, h4⟩ := hq
  exact ⟨.inl ⟨.bool true, .bool true, [], rfl, fun _ => rfl, .bool true, post_true l _, fun _ => ⟨List.Pairwise.nil, fun _ hm => (nomatch hm)⟩⟩, h2, h3, h4⟩

section
variable {prog : Program} {w : World} {A : Around} {E : Value → Shared → Prop} {s : Shared} {K : Frag}

end
end Att

namespace L2
open PySem PySem.Spec PyProof.Rows

theorem vals_ints : ∀ {vs : List Value} {ns : List Int}, IntsAre vs ns → Vals (ns.map V.int) vs
  | _, _, .nil => .nil
  | _, _, .cons n t h => .cons ⟨t, rfl⟩ (vals_ints h)

/-- nothing is tracked but the script, known to the object (or it is an object of the module) -/
def Only (H : Hp) : Prop := ∀ b, H b = none ∨ ∃ o xs, H b = some (.frz o (.lst xs))

/-- THE HEAD: the law's promise, at the heap behind the top. F, the promise of the law's def, may use that base is part of the heap (so K.In base, base.Ns mainGlobals mg stand in Mod) -/
theorem law_call {P : Program} {w : World} {K : PySem.W.Frag} {mg mb : Str → Option Value} {CX : CXT} {k : Nat} {fa a : Addr} {fd : FuncData} {x : Str} {sp : Sp} {s₁ : Shared} {vs : List Value} {ns : List Int}
    (KX : K.In s₁.heap) (hns : s₁.heap.Ns mainGlobals mg) (hb : s₁.heap.Ns builtinsNs mb) (hbb : ∀ x : Str, x ≠ "__name__" → mb x = bootBuiltins x) (hlim : s₁.heap.NoLimit) (hg : s₁.gens = #[])
    (ha : s₁.heap.get? a = some { cls := .type "list", data := .seq vs.toArray }) (hi : IntsAre vs ns) (hl : ns.length ≤ sizeLine) (hr : Room k callerA)
    (F : ∀ base : Heap, K.In base → base.Ns mainGlobals mg → FnOk P w K mg base CX k fa fd [x] sp) (hbind : ∀ (s : Shared) (u : Value), BindsTo s fd ⟨[u], []⟩ [(x, u)])
    (hsp : ∀ H : Hp, Only H → SqL K H a (ns.map V.int) → sp [.ref a] H (fun v _ => v = .bl true) fun _ _ _ => False)
    (hCX : ∀ H e s', CX [] H s₁ (fun _ _ _ => False) e s' → False) :
    codeAny (model P w) callerA (.call (.ref fa) ⟨[.ref a], []⟩) (fun r s' => r = .ok (.ret (.bool true)) ∧ OldK s₁.heap s'.heap ∧ s'.os = s₁.os ∧ AllBare s'.gens) s₁ := by
  have rv := vals_ints hi
  have lenV := hi.length
  -- from an abstract heap in which nothing but the script may be tracked
  have core : ∀ H : Hp, Only H → SqL K H a (ns.map V.int) → HOk P w H s₁.heap → (∀ b, H b ≠ none → b = a) → (H a ≠ none → K.lookup a = none) →
      codeAny (model P w) callerA (.call (.ref fa) ⟨[.ref a], []⟩) (fun r s' => r = .ok (.ret (.bool true)) ∧ OldK s₁.heap s'.heap ∧ s'.os = s₁.os ∧ AllBare s'.gens) s₁ := by
    intro H hO hS hok hA hK
    have base_of : ∀ {b : Addr} {o : Obj}, s₁.heap.get? b = some o → H b = none → (hidT s₁.heap H).get? b = some o := fun e n => hidT_get e n
    have noA : ∀ {b : Addr} {o : Obj} {es : Array DictEntry} {ep : Nat}, s₁.heap.get? b = some o → o.data = .dict es ep → H b = none := fun {b o es ep} e d => by
      cases q : H b with
      | none => rfl
      | some u =>
        have e' : b = a := hA b (by rw [q]; simp)
        subst e'
        rw [ha] at e; cases e
        have d' : Data.seq vs.toArray _ = Data.dict es ep := d
        cases d'
    have nsK : ∀ {b : Addr} {m : Str → Option Value}, s₁.heap.Ns b m → (hidT s₁.heap H).Ns b m := fun {b m} ⟨o, es, ep, e, d, r⟩ => ⟨o, es, ep, base_of e (noA e d), d, r⟩
    have hKb : K.In (hidT s₁.heap H) := fun b o e => base_of (KX b o e) (by
      cases q : H b with
      | none => rfl
      | some u =>
        have e' : b = a := hA b (by rw [q]; simp)
        subst e'
        rw [hK (by rw [q]; simp)] at e; cases e)
    have hM : Mod K mg (hidT s₁.heap H) := ⟨hKb, nsK hns, ⟨mb, nsK hb, hbb⟩, let ⟨mc, h1, h2⟩ := hlim; ⟨mc, nsK h1, h2⟩⟩
    have e0 : Env0 P w K mg (hidT s₁.heap H) callerA [] s₁ H := ⟨rfl, hM, fun b o e => of_hidT e, Nat.le_of_eq (hidT_size _ _), trivial, fun b hb => absurd (show b ∈ ([] : List Addr) from hb) (by simp), hok, .of_eq hg⟩
    refine codeAny_mono ((F _ hKb (nsK hns)).run callerA [] s₁ H ⟨[.ref a], []⟩ [.ref a] [.ref a] _ _ hr e0 (hbind s₁ (.ref a)) (.cons rfl .nil) (hsp H hO hS)) fun r s' h => ?_
    cases r with
    | error e => exact (hCX H e s' h).elim
    | ok fl =>
      cases fl with
      | next => exact False.elim h
      | brk => exact False.elim h
      | cont => exact False.elim h
      | ret u =>
        obtain ⟨v, H', os, bare, un, hok', r', q⟩ := h
        have q' : v = .bl true := q
        subst q'
        obtain rfl : u = Value.bool true := r'
        refine ⟨rfl, OldK.of_keep fun b o e => ?_, os, bare⟩
        cases q : H b with
        | none => exact un.keep b o e q (by intro z; exact absurd (show b ∈ ([] : List Addr) from z) (by simp)) (by simp)
        | some u =>
          rcases hO b with z | ⟨ob, xs, z⟩
          · rw [q] at z; cases z
          · have z2 := un.frzs b ob _ z
            obtain ⟨e1, _⟩ := hok b _ z
            obtain ⟨e2, _⟩ := hok' b _ z2
            rw [e] at e1; cases e1
            exact e2
  cases hk : K.lookup a with
  | some o =>
    -- the script is one of the module's own objects
    have e := KX a o hk
    rw [ha] at e
    cases e
    refine core (fun _ => none) (fun _ => .inl rfl) (.inr ⟨_, vs.toArray, _, hk, rfl, rfl, rfl, by rw [List.size_toArray, lenV]; exact hl, by simpa using rv⟩) (fun b u z => by have z' : (none : Option HO) = some u := z; cases z') (fun b z => absurd rfl z) fun z => absurd rfl z
  | none =>
    refine core (fun b => if b = a then some (.frz { cls := .type "list", data := .seq vs.toArray } (.lst (ns.map V.int))) else none) (fun b => ?_) (.inl (.inr ⟨{ cls := .type "list", data := .seq vs.toArray }, if_pos rfl⟩)) (fun b u z => ?_) (fun b z => ?_) fun _ => hk
    · by_cases hb : b = a
      · exact .inr ⟨_, _, if_pos hb⟩
      · exact .inl (if_neg hb)
    · by_cases hb : b = a
      · have z' := (if_pos hb).symm.trans z
        cases z'
        subst hb
        exact ⟨ha, by rw [List.length_map]; exact hl, vs, _, rv, ha⟩
      · have z' := (if_neg hb).symm.trans z
        cases z'
    · by_cases hb : b = a
      · exact hb
      · exact absurd (if_neg hb) z
end L2

namespace L2
open PySem PySem.Spec PyProof.Rows

/-- the goal that k_head leaves (case hc), from the law's promise. F gives the function object fd (K's own) once, then the promise over every base -/
theorem walk_of {l : PySem.W.OpenLaw} {n k : Nat} {q : Program} {loose : List Str} {XP : (Str → Option Value) → Heap → Prop} {YP : World → Heap → Prop} {d : DefRec} {K : Params → PySem.W.Frag} {CX : World → CXT} {sp : World → Sp} {x : Str}
    (hn : l.most = some n) (hn2 : n ≤ sizeLine) (hdf : d.params.defaults = []) (hr : Room k callerA)
    (hY : ∀ (w : World) (h : Heap), YP w h → (K w.params).In h)
    (F : ∀ (w : World) (mg : Str → Option Value) (fa : Addr) (h : Heap), (K w.params).In h → h.Ns mainGlobals mg → mg d.name = some (.ref fa) →
      ∃ fd : FuncData, (∀ (s : Shared) (u : Value), BindsTo s fd ⟨[u], []⟩ [(x, u)]) ∧
        ∀ base : Heap, (K w.params).In base → base.Ns mainGlobals mg → FnOk l.prog w (K w.params) mg base (CX w) k fa fd [x] (sp w))
    (hsp : ∀ (w : World) (H : Hp) (a : Addr) (ns : List Int), ns.length ≤ n → Only H → SqL (K w.params) H a (ns.map V.int) → sp w [.ref a] H (fun v _ => v = .bl true) fun _ _ _ => False)
    (hCX : ∀ (w : World) (H : Hp) (s : Shared) (e : Value) (s' : Shared), CX w [] H s (fun _ _ _ => False) e s' → False) :
    PySem.W.WalkO q loose XP YP l.row.toRowW d [] (fun f vs => PySem.call f vs) := by
  refine Att.attach_call hn hdf fun w s₀ s₁ mg mb fa o pm cd doc a vs ns G Y ho hd hcd hmg hobj hints hlen hg => ?_
  have KX := hY w _ Y
  obtain ⟨fd, hb, hF⟩ := F w mg fa _ KX G.T.g hmg
  exact law_call KX G.T.g G.T.b G.T.builtins G.T.nolimit hg hobj hints (Nat.le_trans hlen hn2) hr hF hb (fun H hO hS => hsp w H a ns hlen hO hS) fun H e s' => hCX w H s₁ e s'
end L2


namespace L2
open PySem PySem.Spec PyProof.Rows

def defArgs (s : Stmt) : Arguments := match s with
  | .FunctionDef _ a _ _ _ _ _ _ _ _ => a
  | _ => { posonlyargs := [], args := [], vararg := none, kwonlyargs := [], kw_defaults := [], kwarg := none, defaults := [] }
def defBody (s : Stmt) : List Stmt := match s with
  | .FunctionDef _ _ b _ _ _ _ _ _ _ => b
  | _ => []
def defScope (s : Stmt) : Scope := match s with
  | .FunctionDef _ _ _ _ _ _ sc _ _ _ => sc
  | _ => { kind := .function, names := [], isGenerator := false, isCoroutine := false }

abbrev CX0 : CXT := fun _ _ _ _ _ _ => False
abbrev E0 : XK := fun _ _ _ => False
theorem pass0 {X : Cx} : Passes CX0 X E0 := fun _ _ _ _ _ _ _ h => h.elim

structure Fun (K : PySem.W.Frag) (x qual : Str) (st : Stmt) (f : Addr) (fd : FuncData) : Prop where
  ex : ∃ (oc : Value) (od : Option Addr) (kV doc pm : Value) (an : Option Addr) (cdv ct : Value) (osl : Array (Option Value)),
    fd = PySem.W.fnOf x qual (defArgs st) (defBody st) (defScope st) .none kV doc pm an cdv ct ∧ K.lookup f = some ⟨oc, od, .func fd, osl⟩ ∧ PySem.W.codeIn K cdv qual = true
  kp : PySem.W.keepIn K (.ref f) = true
section
variable {P : Program} {w : World} {K : PySem.W.Frag} {mg : Str → Option Value} {base : Heap}
/-- THE RULE for a def: its body as a term of rules, and the reading of that term -/
theorem Fun.ok {x qual : Str} {st : Stmt} {f : Addr} {fd : FuncData} {N ps : List Str} {k : Nat} {sp : Sp} (F : Fun K x qual st f fd) (S : FnScope N ps (defScope st)) (len : ∀ vs H Q E, sp vs H Q E → vs.length = ps.length)
    (hbody : ∀ (cdv : Value) (A : Around) (outer : List Env) (s : Shared) (H : Hp) (vs : List V) (Q : VK) (E : XK), Room k (A.deeper (envOfC qual (defScope st) s.heap.objs.size f cdv)) → sp vs H Q E →
      ∃ t, PSs (cxOf CX0 P w K mg base N qual (defScope st) f cdv A outer s H E).nox (defBody st) t ∧ t { nx := fun _ H' => Q .non H', rt := Q } (start N vs) H) : FnOk P w K mg base CX0 (k + 1) f fd ps sp := by
  obtain ⟨oc, od, kV, doc, pm, an, cdv, ct, osl, rfl, lk, hcd⟩ := F.ex
  refine fn_of lk hcd S len fun A outer s H vs Q E hr hsp => ?_
  obtain ⟨t, h, q⟩ := hbody cdv A outer s H vs Q E hr hsp
  exact ⟨t, h.nox, q⟩
/-- how its arguments bind (no defaults): h is «fun _ _ _ _ _ _ us hl => match us, hl with | [_, _], _ => rfl», one _ a parameter -/
theorem Fun.binds {x qual : Str} {st : Stmt} {f : Addr} {fd : FuncData} {ps : List Str} (F : Fun K x qual st f fd)
    (h : ∀ (kV doc pm : Value) (an : Option Addr) (cdv ct : Value) (us : List Value), us.length = ps.length → bindArgs (PySem.W.fnOf x qual (defArgs st) (defBody st) (defScope st) .none kV doc pm an cdv ct) ⟨us, []⟩ = pure (ps.zip us)) : Binds K fd ps [] := by
  obtain ⟨oc, od, kV, doc, pm, an, cdv, ct, osl, rfl, lk, hcd⟩ := F.ex
  exact .all (h kV doc pm an cdv ct)
theorem fun_mk {x qual : Str} {st : Stmt} {f : Addr} {oc : Value} {od an : Option Addr} {osl : Array (Option Value)} {kV doc pm cdv ct : Value} (l : K.lookup f = some ⟨oc, od, .func (PySem.W.fnOf x qual (defArgs st) (defBody st) (defScope st) .none kV doc pm an cdv ct), osl⟩)
    (c : PySem.W.codeIn K cdv qual = true) (k : PySem.W.keepIn K (.ref f) = true) : Fun K x qual st f (PySem.W.fnOf x qual (defArgs st) (defBody st) (defScope st) .none kV doc pm an cdv ct) := ⟨⟨oc, od, kV, doc, pm, an, cdv, ct, osl, rfl, l, c⟩, k⟩
end
theorem hu_of {A : Around} {k : Nat} (hr : Room k A) : A.units + 1 < cLine := Nat.lt_of_le_of_lt (Nat.add_le_add_left (by decide : 1 ≤ 64) _) hr.units
theorem small1000 {n : Nat} (h : n ≤ 1000) : n < sizeLine := Nat.lt_of_le_of_lt h (by decide)

section
variable {X : Cx}
theorem pv (i : Nat) {x : Str} {pos : Pos} (hN : X.N[i]? = some x := by rfl) (hv : Vis X.env.scope x := by first | exact Or.inl rfl | exact Or.inr (Or.inl rfl) | exact Or.inr (Or.inr rfl)) (hd : (x == ("__debug__" : Str)) = false := by decide)
    (hcd : (x == ("__classdict__" : Str)) = false := by decide) : PE X (.Name x pos) (tVar i) := pe_var hN hv hd hcd
end

theorem iteF {A B : Prop} (h : B) : if false = true then A else B := by
  rw [if_neg Bool.false_ne_true]
  exact h
theorem iteT {A B : Prop} (h : A) : if true = true then A else B := by
  rw [if_pos rfl]
  exact h
theorem ite2 {c A B : Prop} [Decidable c] (h1 : c → A) (h2 : ¬ c → B) : if c then A else B := by
  by_cases h : c
  · rw [if_pos h]
    exact h1 h
  · rw [if_neg h]
    exact h2 h
/-- all that was tracked is as it was -/
def Same (H H' : Hp) : Prop := ∀ b o, H b = some o → H' b = some o
theorem Same.refl (H : Hp) : Same H H := fun _ _ h => h
theorem Same.trans {H H1 H2 : Hp} (a : Same H H1) (b : Same H1 H2) : Same H H2 := fun c o h => b c o (a c o h)
theorem Same.free {H H' : Hp} (e : Same H H') {l : Addr} (h : H' l = Option.none) : H l = Option.none := by
  cases q : H l with
  | none => rfl
  | some o =>
    rw [e l o q] at h
    cases h
theorem Same.seq {K : PySem.W.Frag} {H H' : Hp} {a : Addr} {xs : List V} (e : Same H H') (h : SqL K H a xs) : SqL K H' a xs := by
  rcases h with (h | ⟨o, h⟩) | h
  · exact .inl (.inl (e _ _ h))
  · exact .inl (.inr ⟨o, e _ _ h⟩)
  · exact .inr h

end L2
set_option Elab.async false
set_option linter.all false
set_option maxRecDepth 100000
namespace Own
open PySem PySem.Spec PyProof.Rows L2

def Has (P : Program) (w : World) (K : PySem.W.Frag) (mg : Str → Option Value) (base : Heap) (x : Str) (ps : List Str) (k : Nat) (sp : Sp) : Prop :=
  ∃ (f : Addr) (fd : FuncData), FnOk P w K mg base CX0 k f fd ps sp ∧ Binds K fd ps [] ∧ PySem.W.keepIn K (.ref f) = true ∧ mg x = some (.ref f)
theorem Has.mono {P : Program} {w : World} {K : PySem.W.Frag} {mg : Str → Option Value} {base : Heap} {x : Str} {ps : List Str} {j k : Nat} {sp : Sp} (h : Has P w K mg base x ps j sp) (hk : j ≤ k) : Has P w K mg base x ps k sp := by
  obtain ⟨f, fd, F, r⟩ := h
  exact ⟨f, fd, F.mono hk, r⟩
section
variable {X : Cx} {k : Nat} {ps : List Str} {sp : Sp} {x : Str} {p pos : Pos} {e : Expr} {es : List Expr} {t : TA}
theorem pe_has (h : Has X.prog X.w X.K X.mg X.base x ps k sp) (hr : Room k X.A) (hg : Gl X x)
    (ha : PA X (e :: es) t) (hdb : (x == ("__debug__" : Str)) = false := by decide) (he : starEach (e :: es) X.env = (false, eval e X.env) :: starEach es X.env := by rfl) (hpl : (backTo pos (starEach es X.env)).any (·.1) = false := by rfl) :
    PE X (.Call (.Name x p) (e :: es) [] pos) (tCall sp [] E0 t) := by
  obtain ⟨f, fd, F, b, kp, m⟩ := h
  exact pe_call F hr hg m kp b .nil pass0 ha hdb he hpl
end
section
variable {X : Cx}
theorem log2_lt {n : Nat} (h : n < 2 ^ 9000) : n.log2 < 9000 := by
  by_cases h0 : n = 0
  · subst h0; decide
  · exact (Nat.log2_lt h0).mpr h
/-- isinstance(x, T), T a built-in type -/
inductive call_isiY (K : PySem.W.Frag) (xs : List V) (H : Hp) (Q : VK) : Prop
  | mk : ∀ x t T b, (xs = [x, .ty T]) → (TyOf K H x t) → (PySem.W.kitOne K t (.type T) = some b) → (Q (.bl b) H) → call_isiY K xs H Q
theorem call_isi : CallR X (.builtin "isinstance") (call_isiY X.K) := by
  intro pins s σ H xs us Q I r h
  obtain ⟨x, t, T, b, rfl, ty, e, q⟩ := h
  obtain ⟨u, w', rfl, r1, r2⟩ := vals2 r
  cases r2
  exact isinst_ok I r1 ty e fun tk => ⟨.bl b, H, I.tok _, rfl, q⟩
end
end Own
set_option linter.all false
namespace L2
open PySem
/-- a def as it lies at the top -/
def DfAt (K : PySem.W.Frag) (n : Str) (st : Stmt) : Prop := ∃ (f : Addr) (fd : FuncData), PySem.W.nsIn K mainGlobals n = some (some (.ref f)) ∧ Fun K n n st f fd
theorem df_mk {K : PySem.W.Frag} {n : Str} {st : Stmt} {f : Addr} {oc : Value} {od an : Option Addr} {osl : Array (Option Value)} {kV doc pm cdv ct : Value} (a : PySem.W.nsIn K mainGlobals n = some (some (.ref f))) (l : K.lookup f = some ⟨oc, od, .func (PySem.W.fnOf n n (defArgs st) (defBody st) (defScope st) .none kV doc pm an cdv ct), osl⟩) (c : PySem.W.codeIn K cdv n = true) (k : PySem.W.keepIn K (.ref f) = true) : DfAt K n st := ⟨f, _, a, fun_mk l c k⟩
theorem has_mk {P : Program} {w : World} {K : PySem.W.Frag} {mg : Str → Option Value} {h base : Heap} (X : K.In h) (G : h.Ns mainGlobals mg) {n : Str} {st : Stmt} {ps : List Str} {lv : Nat} {sp : Sp} (d : DfAt K n st)
    (ok : ∀ (f : Addr) (fd : FuncData), Fun K n n st f fd → FnOk P w K mg base CX0 lv f fd ps sp) (b : ∀ (kV doc pm : Value) (an : Option Addr) (cdv ct : Value) (us : List Value), us.length = ps.length → bindArgs (PySem.W.fnOf n n (defArgs st) (defBody st) (defScope st) .none kV doc pm an cdv ct) ⟨us, []⟩ = pure (ps.zip us)) : Own.Has P w K mg base n ps lv sp := by
  obtain ⟨f, fd, a, F⟩ := d
  exact ⟨f, fd, ok f fd F, F.binds b, F.kp, PySem.W.mg_of X G a⟩
end L2
set_option Elab.async false
set_option linter.all false
set_option maxRecDepth 100000
namespace L2
open PySem PySem.Spec PyProof.Rows

section
variable {κ : Type} [DecidableEq κ]
def valV (kvs : List (κ × V)) (k : κ) : Option V := (kvs.find? fun kv => decide (kv.1 = k)).map (·.2)
/-- in its place, or at the end -/
def putK (kvs : List (κ × V)) (k : κ) (v : V) : List (κ × V) :=
  if (kvs.any fun kv => decide (kv.1 = k)) = true then kvs.map (fun kv => if kv.1 = k then (kv.1, v) else kv) else kvs ++ [(k, v)]
def dropK (kvs : List (κ × V)) (k : κ) : List (κ × V) := kvs.filter fun kv => decide (kv.1 ≠ k)

theorem valV_pos {p : κ × V} {r : List (κ × V)} {k : κ} (e : p.1 = k) : valV (p :: r) k = some p.2 := by simp [valV, List.find?_cons, e]
theorem valV_neg {p : κ × V} {r : List (κ × V)} {k : κ} (e : ¬ p.1 = k) : valV (p :: r) k = valV r k := by simp [valV, List.find?_cons, e]
theorem valV_any (k : κ) : ∀ kvs : List (κ × V), (kvs.any fun kv => decide (kv.1 = k)) = (valV kvs k).isSome
  | [] => rfl
  | p :: r => by
    rw [List.any_cons]
    by_cases e : p.1 = k
    · simp only [valV_pos e, decide_eq_true e, Bool.true_or, Option.isSome_some]
    · rw [valV_neg e, decide_eq_false e, Bool.false_or]; exact valV_any k r
theorem valV_map (k j : κ) (y : V) : ∀ kvs : List (κ × V), valV (kvs.map fun kv => if kv.1 = k then (kv.1, y) else kv) j = (valV kvs j).map fun x => if j = k then y else x
  | [] => rfl
  | p :: r => by
    have ih := valV_map k j y r
    rw [List.map_cons]
    by_cases h : p.1 = k
    · rw [if_pos h]
      by_cases e : p.1 = j
      · rw [valV_pos (p := (p.1, y)) e, valV_pos e, Option.map_some, if_pos (e.symm.trans h)]
      · rw [valV_neg (p := (p.1, y)) e, valV_neg e, ih]
    · rw [if_neg h]
      by_cases e : p.1 = j
      · rw [valV_pos (p := p) e, valV_pos e, Option.map_some, if_neg (fun z => h (e.trans z))]
      · rw [valV_neg (p := p) e, valV_neg e, ih]
theorem valV_snoc (k j : κ) (y : V) : ∀ kvs : List (κ × V), valV kvs k = none → valV (kvs ++ [(k, y)]) j = if j = k then some y else valV kvs j
  | [], _ => by
    by_cases e : k = j
    · rw [if_pos e.symm]; exact valV_pos (p := (k, y)) e
    · rw [if_neg (fun z => e z.symm)]; exact valV_neg (p := (k, y)) e
  | p :: r, hn => by
    rw [List.cons_append]
    have hk : ¬ p.1 = k := fun z => by rw [valV_pos z] at hn; cases hn
    rw [valV_neg hk] at hn
    have ih := valV_snoc k j y r hn
    by_cases e : p.1 = j
    · rw [valV_pos e, valV_pos e, if_neg (fun z => hk (e.trans z))]
    · rw [valV_neg e, valV_neg e, ih]
theorem valV_put (kvs : List (κ × V)) (k j : κ) (y : V) : valV (putK kvs k y) j = if j = k then some y else valV kvs j := by
  unfold putK
  by_cases a : (kvs.any fun kv => decide (kv.1 = k)) = true
  · rw [if_pos a, valV_map]
    rw [valV_any] at a
    by_cases e : j = k
    · obtain ⟨x, hx⟩ := Option.isSome_iff_exists.mp a
      rw [if_pos e, e, hx, Option.map_some, if_pos rfl]
    · rw [if_neg e]
      cases valV kvs j with
      | none => rfl
      | some x => rw [Option.map_some, if_neg e]
  · rw [if_neg a]
    refine valV_snoc k j y kvs ?_
    rw [valV_any] at a
    cases q : valV kvs k with
    | none => rfl
    | some x => rw [q] at a; exact (a rfl).elim
theorem length_putK (kvs : List (κ × V)) (k : κ) (v : V) : (putK kvs k v).length ≤ kvs.length + 1 := by
  unfold putK
  split
  · rw [List.length_map]; omega
  · rw [List.length_append, List.length_cons, List.length_nil]; omega
theorem RelO.isSome_eq {o : Option V} {u : Option Value} (r : RelO o u) : o.isSome = u.isSome := by
  cases o with
  | none => cases u with
    | none => rfl
    | some _ => exact (show False from r).elim
  | some _ => cases u with
    | none => exact (show False from r).elim
    | some _ => rfl
theorem RelO.getD {o : Option V} {u : Option Value} {d : V} {d' : Value} (r : RelO o u) (rd : RelV d d') : RelV (o.getD d) (u.getD d') := by
  cases o with
  | none => cases u with
    | none => exact rd
    | some _ => exact (show False from r).elim
  | some _ => cases u with
    | none => exact (show False from r).elim
    | some _ => exact r

/-- raw tables of the same keys -/
theorem KV.val {kvs : List (κ × V)} {vs : List (κ × Value)} (r : KV kvs vs) (k : κ) : RelO (valV kvs k) (valueAt vs k) := by
  unfold KV at r
  induction r with
  | nil => exact True.intro
  | @cons p q ps qs h t ih =>
    obtain ⟨h1, h2⟩ := h
    by_cases e : p.1 = k
    · have e' : q.1 = k := h1.symm.trans e
      have b : valueAt (q :: qs) k = some q.2 := by simp [valueAt, List.find?_cons, e']
      rw [valV_pos e, b]; exact h2
    · have e' : ¬ q.1 = k := fun z => e (h1.trans z)
      have b : valueAt (q :: qs) k = valueAt qs k := by simp [valueAt, List.find?_cons, e']
      rw [valV_neg e, b]; exact ih
theorem KV.any {kvs : List (κ × V)} {vs : List (κ × Value)} (r : KV kvs vs) (k : κ) : (kvs.any fun kv => decide (kv.1 = k)) = vs.any fun kv => decide (kv.1 = k) := by
  unfold KV at r
  induction r with
  | nil => rfl
  | cons h t ih => rw [List.any_cons, List.any_cons, ih, h.1]
theorem KV.repl {kvs : List (κ × V)} {vs : List (κ × Value)} (r : KV kvs vs) (k : κ) {y : V} {u : Value} (ry : RelV y u) :
    KV (kvs.map fun kv => if kv.1 = k then (kv.1, y) else kv) (vs.map fun kv => if kv.1 = k then (kv.1, u) else kv) := by
  unfold KV at r ⊢
  induction r with
  | nil => exact .nil
  | @cons p q ps qs h t ih =>
    rw [List.map_cons, List.map_cons]
    refine .cons ?_ ih
    obtain ⟨h1, h2⟩ := h
    by_cases e : p.1 = k
    · rw [if_pos e, if_pos (h1.symm.trans e)]; exact ⟨h1, ry⟩
    · rw [if_neg e, if_neg (fun z => e (h1.trans z))]; exact ⟨h1, h2⟩
theorem KV.put {kvs : List (κ × V)} {vs : List (κ × Value)} (r : KV kvs vs) (k : κ) {y : V} {u : Value} (ry : RelV y u) : KV (putK kvs k y) (stored vs k u) := by
  unfold putK stored
  rw [r.any k]
  by_cases e : (vs.any fun kv => decide (kv.1 = k)) = true
  · rw [if_pos e, if_pos e]; exact r.repl k ry
  · rw [if_neg e, if_neg e]; exact Paired.snoc r ⟨rfl, ry⟩
theorem KV.drop {kvs : List (κ × V)} {vs : List (κ × Value)} (r : KV kvs vs) (k : κ) : KV (dropK kvs k) (without vs k) := by
  unfold KV at r ⊢
  unfold dropK without
  induction r with
  | nil => exact .nil
  | @cons p q ps qs h t ih =>
    obtain ⟨h1, h2⟩ := h
    rw [List.filter_cons, List.filter_cons]
    by_cases e : p.1 = k
    · have a : ¬ decide (p.1 ≠ k) = true := by simp [e]
      have b : ¬ decide (q.1 ≠ k) = true := by simp [h1.symm.trans e]
      rw [if_neg a, if_neg b]; exact ih
    · have e' : ¬ q.1 = k := fun z => e (h1.trans z)
      have a : decide (p.1 ≠ k) = true := by simp [e]
      have b : decide (q.1 ≠ k) = true := by simp [e']
      rw [if_pos a, if_pos b]; exact .cons ⟨h1, h2⟩ ih
theorem KV.keys {kvs : List (κ × V)} {vs : List (κ × Value)} (r : KV kvs vs) : kvs.map (·.1) = vs.map (·.1) := by
  unfold KV at r
  induction r with
  | nil => rfl
  | cons h t ih => rw [List.map_cons, List.map_cons, ih, h.1]
theorem KV.length {kvs : List (κ × V)} {vs : List (κ × Value)} (r : KV kvs vs) : kvs.length = vs.length := Paired.length r
end


theorem kV_is {P : Program} {w : World} {k : Key} {u : Value} (r : RelV (kV k) u) : (mixKind P w).is k u = true := by
  cases k with
  | inl i => obtain ⟨t, e⟩ := (show ∃ t, u = Value.int i t from r); subst e; exact mixKind_int P w i t
  | inr x => obtain ⟨t, e⟩ := (show ∃ t, u = Value.str x t from r); subst e; exact mixKind_str P w x t
theorem items_are {P : Program} {w : World} : ∀ {ks : List Key} {us : List Value}, Vals (ks.map kV) us → ItemsAre (mixKind P w) ks us
  | [], _, r => by rw [List.map_nil] at r; cases r; exact .nil
  | k :: ks, _, r => by
    rw [List.map_cons] at r
    cases r with
    | cons h t => exact .cons (kV_is h) (items_are t)

/-- raw entries of a dict with tuple keys -/
abbrev KT (H : Hp) : List (List Key × V) → List (List Key × Addr × Value) → Prop := Paired fun p q => p.1 = q.1 ∧ H q.2.1 = some (.tup (p.1.map kV)) ∧ RelV p.2 q.2.2
theorem KT.val {H : Hp} {kvs : List (List Key × V)} {xs : List (List Key × Addr × Value)} (r : KT H kvs xs) (k : List Key) : RelO (valV kvs k) ((atKey xs k).map (·.2)) := by
  induction r with
  | nil => exact True.intro
  | @cons p q ps qs h t ih =>
    obtain ⟨h1, _, h2⟩ := h
    by_cases e : p.1 = k
    · have e' : q.1 = k := h1.symm.trans e
      have b : atKey (q :: qs) k = some q.2 := by simp [atKey, List.find?_cons, e']
      rw [valV_pos e, b]; exact h2
    · have e' : ¬ q.1 = k := fun z => e (h1.trans z)
      have b : atKey (q :: qs) k = atKey qs k := by simp [atKey, List.find?_cons, e']
      rw [valV_neg e, b]; exact ih
theorem KT.repl {H : Hp} {kvs : List (List Key × V)} {xs : List (List Key × Addr × Value)} (r : KT H kvs xs) (k : List Key) {y : V} {u : Value} (ry : RelV y u) :
    KT H (kvs.map fun kv => if kv.1 = k then (kv.1, y) else kv) (xs.map (putAt k u)) := by
  induction r with
  | nil => exact .nil
  | @cons p q ps qs h t ih =>
    rw [List.map_cons, List.map_cons]
    refine .cons ?_ ih
    obtain ⟨h1, h2, h3⟩ := h
    unfold putAt
    by_cases e : p.1 = k
    · rw [if_pos e, if_pos (h1.symm.trans e)]; exact ⟨h1, h2, ry⟩
    · rw [if_neg e, if_neg (fun z => e (h1.trans z))]; exact ⟨h1, h2, h3⟩
theorem KT.put {H : Hp} {kvs : List (List Key × V)} {xs : List (List Key × Addr × Value)} (r : KT H kvs xs) (k : List Key) {b : Addr} {y : V} {u : Value} (hb : H b = some (.tup (k.map kV))) (ry : RelV y u) :
    KT H (putK kvs k y) (storedH xs k b u) := by
  have e : (kvs.any fun kv => decide (kv.1 = k)) = (atKey xs k).isSome := by
    rw [valV_any, (r.val k).isSome_eq, Option.isSome_map]
  unfold putK storedH
  rw [e]
  by_cases q : (atKey xs k).isSome = true
  · rw [if_pos q, if_pos q]; exact r.repl k ry
  · rw [if_neg q, if_neg q]; exact Paired.snoc r ⟨rfl, hb, ry⟩
theorem KT.keeps {H H' : Hp} {kvs : List (List Key × V)} {xs : List (List Key × Addr × Value)} (r : KT H kvs xs) (ht : ∀ b ys, H b = some (.tup ys) → H' b = some (.tup ys)) : KT H' kvs xs :=
  Paired.mapP r fun _ _ z => ⟨z.1, ht _ _ z.2.1, z.2.2⟩

section
variable {P : Program} {w : World} {H : Hp} {h : Heap} {a : Addr}
theorem rd_of {u : HO} (ok : HOk P w H h) (e : Rd H a u) : ObjOk P w H h a u := e.ok ok
theorem dk_rd {kvs : List (Key × V)} (ok : HOk P w H h) (e : Rd H a (.dK kvs)) : kvs.length ≤ sizeLine ∧ (a == sysModules) = false ∧ ∃ vs, KV kvs vs ∧ h.DictOf (mixKind P w) a vs :=
  show ObjOk P w H h a (.dK kvs) from rd_of ok e
theorem dk_of {kvs : List (Key × V)} (ok : HOk P w H h) (e : H a = some (.dK kvs)) : kvs.length ≤ sizeLine ∧ (a == sysModules) = false ∧ ∃ vs, KV kvs vs ∧ h.DictOf (mixKind P w) a vs := dk_rd ok (.inl e)
/-- a tracked tuple of ints and texts is a key -/
theorem key_of {ks : List Key} (ok : HOk P w H h) (e : H a = some (.tup (ks.map kV))) : (tupleKind (mixKind P w)).is h ks a := by
  obtain ⟨_, its, r, o, h1, h2, n, h3, _⟩ := (show ObjOk P w H h a (.tup (ks.map kV)) from ok a _ e)
  exact ⟨o, its.toArray, n, h1, h2, h3, by simpa using items_are r⟩
theorem dt_rd {kvs : List (List Key × V)} (ok : HOk P w H h) (e : Rd H a (.dT kvs)) : kvs.length ≤ sizeLine ∧ (a == sysModules) = false ∧
    ∃ xs, KT H kvs xs ∧ h.DictOfH (tupleKind (mixKind P w)) a xs := by
  obtain ⟨z, y, xs, r, o, es, ep, h1, h2, h3, h4, h5⟩ := (show ObjOk P w H h a (.dT kvs) from rd_of ok e)
  refine ⟨z, y, xs, r, o, es, ep, h1, h2, h3, h4, fun x hx => ?_, h5⟩
  have all : ∀ {l : List (List Key × V)} {m : List (List Key × Addr × Value)}, KT H l m → ∀ x ∈ m, (tupleKind (mixKind P w)).is h x.1 x.2.1 := by
    intro l m q
    induction q with
    | nil => intro x hx; exact nomatch hx
    | @cons p q ps qs hq t ih =>
      intro x hx
      rcases List.mem_cons.mp hx with e | hx
      · subst e
        exact key_of ok (by rw [← hq.1]; exact hq.2.1)
      · exact ih x hx
  exact all r x hx
theorem dt_of {kvs : List (List Key × V)} (ok : HOk P w H h) (e : H a = some (.dT kvs)) : kvs.length ≤ sizeLine ∧ (a == sysModules) = false ∧
    ∃ xs, KT H kvs xs ∧ h.DictOfH (tupleKind (mixKind P w)) a xs := dt_rd ok (.inl e)
end

/-- what the dict at a holds at the key y -/
def DGet (H : Hp) (a : Addr) (y : V) (r : Option V) : Prop :=
  (∃ kvs k, Rd H a (.dK kvs) ∧ y = kV k ∧ r = valV kvs k) ∨ ∃ kvs k b, Rd H a (.dT kvs) ∧ y = .ref b ∧ H b = some (.tup (k.map kV)) ∧ r = valV kvs k
/-- the heap behind a[y] = v -/
def DPut (H : Hp) (a : Addr) (y v : V) (H' : Hp) : Prop :=
  (∃ kvs k, H a = some (.dK kvs) ∧ y = kV k ∧ kvs.length < sizeLine ∧ H' = upd H a (.dK (putK kvs k v))) ∨
  ∃ kvs k b, H a = some (.dT kvs) ∧ y = .ref b ∧ H b = some (.tup (k.map kV)) ∧ kvs.length < sizeLine ∧ H' = upd H a (.dT (putK kvs k v))
theorem DGet.k {H : Hp} {a : Addr} {kvs : List (Key × V)} {k : Key} (e : H a = some (.dK kvs)) : DGet H a (kV k) (valV kvs k) := .inl ⟨kvs, k, .inl e, rfl, rfl⟩
theorem DGet.t {H : Hp} {a b : Addr} {kvs : List (List Key × V)} {k : List Key} (e : H a = some (.dT kvs)) (eb : H b = some (.tup (k.map kV))) : DGet H a (.ref b) (valV kvs k) := .inr ⟨kvs, k, b, .inl e, rfl, eb, rfl⟩
theorem DPut.k {H : Hp} {a : Addr} {kvs : List (Key × V)} {k : Key} {v : V} (e : H a = some (.dK kvs)) (hl : kvs.length < sizeLine) : DPut H a (kV k) v (upd H a (.dK (putK kvs k v))) := .inl ⟨kvs, k, e, rfl, hl, rfl⟩
theorem DPut.t {H : Hp} {a b : Addr} {kvs : List (List Key × V)} {k : List Key} {v : V} (e : H a = some (.dT kvs)) (eb : H b = some (.tup (k.map kV))) (hl : kvs.length < sizeLine) :
    DPut H a (.ref b) v (upd H a (.dT (putK kvs k v))) := .inr ⟨kvs, k, b, e, rfl, eb, hl, rfl⟩


section
variable {X : Cx} {pins : List (Addr × Obj)} {σ : St} {H : Hp} {s : Shared} {a : Addr} {y v : V} {u r : Value} {o : Option V} {A : Around} {E : Value → Shared → Prop}

theorem Inv.big (I : Inv X pins σ H s) : sysModules < s.heap.objs.size := by
  have h : mainGlobals < s.heap.objs.size := (I.mod.glob.keeps I.bk).lt
  exact Nat.lt_trans (by decide) h

/-- d[y], there -/
theorem d_getItem {Q : Value → Shared → Prop} (hu : A.units + 1 < cLine) (I : Inv X pins σ H s) (g : DGet H a y (some v)) (ry : RelV y u) (h : ∀ w' s', Inv X pins σ H s' → RelV v w' → Q w' s') :
    wpAny (model X.prog X.w) A (getItem (.ref a) u) Q E s := by
  rcases g with ⟨kvs, k, e, ey, l⟩ | ⟨kvs, k, b, e, ey, eb, l⟩
  · subst ey
    obtain ⟨z, hd, vs, rel, dd⟩ := dk_rd I.hok e
    obtain ⟨w', hw, rw'⟩ := RelO.some_of (v := v) (o := valueAt vs k) (by rw [l]; exact rel.val k)
    exact wpAny_getItem_of (kV_is ry) dd.mapOf hw (h w' _ (I.tok _) rw')
  · subst ey
    cases (show u = Value.ref b from ry)
    obtain ⟨z, hd, xs, rel, dd⟩ := dt_rd I.hok e
    obtain ⟨w', hw, rw'⟩ := RelO.some_of (v := v) (o := (atKey xs k).map (·.2)) (by rw [l]; exact rel.val k)
    obtain ⟨p, hp, hp2⟩ := Option.map_eq_some_iff.mp hw
    refine wpAny_getItem_heap (tupleKind_room_in1 hu) (key_of I.hok eb) dd hp ?_
    rw [hp2]
    exact h w' _ (I.tok _) rw'
/-- y in d -/
theorem d_in {Q : Value → Shared → Prop} (hu : A.units + 1 < cLine) (I : Inv X pins σ H s) (g : DGet H a y o) (ry : RelV y u) (h : ∀ s', Inv X pins σ H s' → Q (.bool o.isSome) s') :
    wpAny (model X.prog X.w) A (compareOp .In u (.ref a)) Q E s := by
  rcases g with ⟨kvs, k, e, ey, l⟩ | ⟨kvs, k, b, e, ey, eb, l⟩
  · subst ey
    obtain ⟨z, hd, vs, rel, dd⟩ := dk_rd I.hok e
    refine wpAny_in_of (kV_is ry) hd dd.mapOf ?_
    rw [← (rel.val k).isSome_eq, ← l]
    exact h _ (I.tok _)
  · subst ey
    cases (show u = Value.ref b from ry)
    obtain ⟨z, hd, xs, rel, dd⟩ := dt_rd I.hok e
    refine wpAny_in_heap (tupleKind_room_in1 hu) (key_of I.hok eb) hd dd ?_
    have q := (rel.val k).isSome_eq
    rw [Option.isSome_map] at q
    rw [← q, ← l]
    exact h _ (I.tok _)
theorem d_notIn {Q : Value → Shared → Prop} (hu : A.units + 1 < cLine) (I : Inv X pins σ H s) (g : DGet H a y o) (ry : RelV y u) (h : ∀ s', Inv X pins σ H s' → Q (.bool (!o.isSome)) s') :
    wpAny (model X.prog X.w) A (compareOp .NotIn u (.ref a)) Q E s := by
  rcases g with ⟨kvs, k, e, ey, l⟩ | ⟨kvs, k, b, e, ey, eb, l⟩
  · subst ey
    obtain ⟨z, hd, vs, rel, dd⟩ := dk_rd I.hok e
    refine wpAny_notIn_of (kV_is ry) hd dd.mapOf ?_
    rw [← (rel.val k).isSome_eq, ← l]
    exact h _ (I.tok _)
  · subst ey
    cases (show u = Value.ref b from ry)
    obtain ⟨z, hd, xs, rel, dd⟩ := dt_rd I.hok e
    refine wpAny_notIn_heap (tupleKind_room_in1 hu) (key_of I.hok eb) hd dd ?_
    have q := (rel.val k).isSome_eq
    rw [Option.isSome_map] at q
    rw [← q, ← l]
    exact h _ (I.tok _)
/-- a dict's object is replaced -/
theorem d_write {h' : Heap} {t' : Nat} {ob : HO} (I : Inv X pins σ H s) (mu : Mut (H a)) (hs : Heap.SameBut a s.heap h') (he : ∃ q, h'.get? a = some q) (new : ObjOk X.prog X.w (upd H a ob) h' a ob) :
    Inv X pins σ (upd H a ob) { s with heap := h', toks := t' } :=
  I.write (x := a) (e := a) mu (.inl rfl) (fun b q hb z => (hs.2 b hb).trans z) he new
theorem dk_new {P : Program} {w : World} {H' : Hp} {h' : Heap} {kvs : List (Key × V)} {vs : List (Key × Value)} (z : kvs.length ≤ sizeLine) (hd : (a == sysModules) = false) (rel : KV kvs vs) (dd : h'.DictOf (mixKind P w) a vs) :
    ObjOk P w H' h' a (.dK kvs) := ⟨z, hd, vs, rel, dd⟩
/-- d[y] = v -/
theorem d_setItem {H' : Hp} {Q : Unit → Shared → Prop} (hu : A.units + 1 < cLine) (I : Inv X pins σ H s) (g : DPut H a y v H') (ry : RelV y u) (rv : RelV v r) (h : ∀ s', Inv X pins σ H' s' → Q () s') :
    wpAny (model X.prog X.w) A (setItem (.ref a) u r) Q E s := by
  rcases g with ⟨kvs, k, e, ey, l, eH⟩ | ⟨kvs, k, b, e, ey, eb, l, eH⟩
  · subst ey eH
    obtain ⟨z, hd, vs, rel, dd⟩ := dk_of I.hok e
    have hz : vs.length ≤ sizeLine := by rw [← rel.length]; exact z
    have hl : (putK kvs k v).length ≤ sizeLine := by have := length_putK kvs k v; omega
    refine wpAny_setItem_pairs (hsz := hz) (kV_is ry) dd fun h' dd' hs => h _ ?_
    have he : ∃ q, h'.get? a = some q := let ⟨q, _, _, hq, _⟩ := dd'; ⟨q, hq⟩
    exact d_write I (by rw [e]; exact True.intro) hs he (dk_new hl hd (rel.put k rv) dd')
  · subst ey eH
    cases (show u = Value.ref b from ry)
    obtain ⟨z, hd, xs, rel, dd⟩ := dt_of I.hok e
    have hz : xs.length ≤ sizeLine := by rw [← Paired.length rel]; exact z
    have hl : (putK kvs k v).length ≤ sizeLine := by have := length_putK kvs k v; omega
    refine wpAny_setItem_heap (hsz := hz) (tupleKind_room_in1 hu) (key_of I.hok eb) dd fun h' dd' hs => h _ ?_
    obtain ⟨q, es, ep, hq, h2, h3, h4, _, h5⟩ := dd'
    refine d_write I (by rw [e]; exact True.intro) hs ⟨q, hq⟩ ⟨hl, hd, _, (rel.put k eb rv).keeps fun c ys ec => ?_, q, es, ep, hq, h2, h3, h4, h5⟩
    rw [upd_ne (ne_of ec e (fun z => nomatch z))]
    exact ec
end

section
variable {X : Cx} {pins : List (Addr × Obj)} {σ : St} {H : Hp} {s : Shared} {a : Addr} {kvs : List (Key × V)} {k : Key} {u : Value} {A : Around} {E : Value → Shared → Prop}
/-- len(d) -/
theorem d_len {Q : Value → Shared → Prop} (I : Inv X pins σ H s) (e : Rd H a (.dK kvs)) (h : ∀ t s', Inv X pins σ H s' → Q (.int kvs.length t) s') : wpAny (model X.prog X.w) A (call (.builtin "len") [.ref a]) Q E s := by
  obtain ⟨z, hd, vs, rel, dd⟩ := dk_rd I.hok e
  refine call_len_dict hd dd (by rw [← rel.length]; rw [sizeLine_eq] at z; omega) ?_
  rw [← rel.length]
  exact h _ _ (I.tok _)
end


/-- the element of a subscription, not a slice -/
def NoSl (i : Expr) : Prop := ∀ ov iv, subscripted i false ov iv = operate [ov, iv] (getItem ov iv)
theorem subD_of {prog : Program} {w : World} {A : Around} {E : Value → Shared → Prop} {s : Shared} {env : Env} {value slice : Expr} {pos : Pos} {T id : String} {Q : Value → Shared → Prop}
    (hl : typeLookup (.type T) "__getitem__" = pure (some (.builtin id))) (hs : NoSl slice)
    (h : wpAny (model prog w) A (eval value env) (fun o s₁ => wpAny (model prog w) A (eval slice env) (fun i s₂ => s₂.TypeIs o T ∧ wpAny (model prog w) A (getItem o i) Q E s₂) E s₁) E s) :
    wpAny (model prog w) A (eval (.Subscript value slice pos) env) Q E s := by
  refine Subscript_ (wpAny_mono h (fun o s₁ h₁ => wpAny_mono h₁ (fun i s₂ h₂ => ?_) fun _ _ x => x) fun _ _ x => x)
  obtain ⟨hT, h₂⟩ := h₂
  unfold subscriptTail
  refine wpAny_bind ?_
  rw [getitemInPython_of_ne hT.not_modules]
  refine wpAny_bind (wpAny_specialOf hT hl ?_)
  have fin : wpAny (model prog w) A (subscripted slice false o i) (fun r s₃ => wpAny (model prog w) A (letTemporaryGo value o r >>= fun _ => pure r) Q E s₃) E s₂ := by
    rw [hs o i]
    exact wpAny_operating (wpAny_mono h₂ (fun r s₃ h₃ => wpAny_bind (wpAny_letTemporaryGo (wpAny_pure h₃))) fun _ _ x => x)
  first
    | exact wpAny_pure (wpAny_bind fin)
    | exact wpAny_bind (wpAny_pure (wpAny_bind fin))
    | exact wpAny_bind fin

theorem dict_typeIs {X : Cx} {pins : List (Addr × Obj)} {σ : St} {H : Hp} {s : Shared} {a : Addr} {y : V} {o : Option V} (I : Inv X pins σ H s) (g : DGet H a y o) : s.TypeIs (.ref a) "dict" := by
  rcases g with ⟨kvs, k, e, _, _⟩ | ⟨kvs, k, b, e, _, _, _⟩
  · obtain ⟨_, _, vs, _, dd⟩ := dk_rd I.hok e
    exact dd.typeIs
  · obtain ⟨_, _, xs, _, dd⟩ := dt_rd I.hok e
    exact dd.typeIs
/-- d[y] -/
inductive tDGetY (Q : VK) (x : V) (y : V) (H2 : Hp) : Prop
  | mk : ∀ a v, (x = .ref a) → (DGet H2 a y (some v)) → (Q v H2) → tDGetY Q x y H2
def tDGet (td ty : TE) : TE := fun σ H Q => td σ H fun x H1 => ty σ H1 fun y H2 => tDGetY Q x y H2
/-- y in d, y not in d -/
inductive tDInY (Q : VK) (y : V) (x : V) (H2 : Hp) : Prop
  | mk : ∀ a o, (x = .ref a) → (DGet H2 a y o) → (Q (.bl o.isSome) H2) → tDInY Q y x H2
def tDIn (ty td : TE) : TE := fun σ H Q => ty σ H fun y H1 => td σ H1 fun x H2 => tDInY Q y x H2
inductive tDNotInY (Q : VK) (y : V) (x : V) (H2 : Hp) : Prop
  | mk : ∀ a o, (x = .ref a) → (DGet H2 a y o) → (Q (.bl (!o.isSome)) H2) → tDNotInY Q y x H2
def tDNotIn (ty td : TE) : TE := fun σ H Q => ty σ H fun y H1 => td σ H1 fun x H2 => tDNotInY Q y x H2
/-- d[y] = v -/
inductive sDPutY (D : Ends) (σ : St) (v : V) (x : V) (y : V) (H3 : Hp) : Prop
  | mk : ∀ a H4, (x = .ref a) → (DPut H3 a y v H4) → (D.nx σ H4) → sDPutY D σ v x y H3
def sDPut (td ty tv : TE) : TS := fun D σ H => tv σ H fun v H1 => td σ H1 fun x H2 => ty σ H2 fun y H3 => sDPutY D σ v x y H3
section
variable {X : Cx} {o i e value : Expr} {pos pos' tpos : Pos} {td ty tv : TE}
theorem pe_dget (hu : X.A.units + 1 < cLine) (ho : PE X o td) (hi : PE X i ty) (hs : NoSl i) : PE X (.Subscript o i pos) (tDGet td ty) := by
  intro pins s σ H Q I h
  refine subD_of PySem.F.slot_dict_getitem.lookup hs (thn (ho pins s σ H _ I h) fun u s1 ⟨x, H1, I1, rx, q1⟩ => thn (hi pins s1 σ H1 _ I1 q1) fun iv s2 ⟨y, H2, I2, ry, a, v, ex, g, q2⟩ => ?_)
  subst ex
  obtain rfl : u = Value.ref a := rx
  exact ⟨dict_typeIs I2 g, d_getItem hu I2 g ry fun w' s3 I3 rw' => ⟨v, H2, I3, rw', q2⟩⟩
theorem pc_din (hu : X.A.units + 1 < cLine) (hi : PE X i ty) (ho : PE X o td) : PC X .In i o (tDIn ty td) := by
  intro pins s σ H Q I h
  refine thn (hi pins s σ H _ I h) fun iv s1 ⟨y, H1, I1, ry, q1⟩ => thn (ho pins s1 σ H1 _ I1 q1) fun u s2 ⟨x, H2, I2, rx, a, ov, ex, g, q2⟩ => ?_
  subst ex
  obtain rfl : u = Value.ref a := rx
  exact d_in hu I2 g ry fun s3 I3 => ⟨.bl ov.isSome, H2, I3, rfl, q2⟩
theorem pc_dnotin (hu : X.A.units + 1 < cLine) (hi : PE X i ty) (ho : PE X o td) : PC X .NotIn i o (tDNotIn ty td) := by
  intro pins s σ H Q I h
  refine thn (hi pins s σ H _ I h) fun iv s1 ⟨y, H1, I1, ry, q1⟩ => thn (ho pins s1 σ H1 _ I1 q1) fun u s2 ⟨x, H2, I2, rx, a, ov, ex, g, q2⟩ => ?_
  subst ex
  obtain rfl : u = Value.ref a := rx
  exact d_notIn hu I2 g ry fun s3 I3 => ⟨.bl (!ov.isSome), H2, I3, rfl, q2⟩
theorem ps_dput (hu : X.A.units + 1 < cLine) (ho : PE X o td) (hi : PE X i ty) (hv : PE X value tv) (hs : swapsWith value (some (.Subscript o i pos')) pos.line X.env = pure false) :
    PS X (.Assign [.Subscript o i pos'] value pos) (sDPut td ty tv) := by
  intro pins s σ H D I h
  refine wpAny_Assign_Subscript (thn (hv pins s σ H _ I h) fun r s1 ⟨v, H1, I1, rv, q1⟩ => thn (ho pins s1 σ H1 _ I1 q1) fun u s2 ⟨x, H2, I2, rx, q2⟩ => thn (hi pins s2 σ H2 _ I2 q2) fun iv s3 ⟨y, H3, I3, ry, a, H4, ex, g, q3⟩ => ?_) hs
  subst ex
  obtain rfl : u = Value.ref a := rx
  exact d_setItem hu I3 g ry rv fun s4 I4 => ⟨σ, H4, I4, q3⟩
end


theorem dk_empty {P : Program} {w : World} {H : Hp} (h : Heap) (hb : sysModules < h.objs.size) : ObjOk P w H (h.push { cls := .type "dict", data := .dict #[] }) h.objs.size (.dK []) :=
  ⟨Nat.zero_le _, beq_eq_false_iff_ne.mpr (Ne.symm (Nat.ne_of_lt hb)), [], .nil, Heap.DictOf.new h⟩
/-- {}, to be a dict of the kind that is wanted -/
def tDNewK : TE := fun _ H Q => ∀ p, H p = none → Q (.ref p) (upd H p (.dK []))
section
variable {X : Cx} {pos : Pos}
theorem pe_dnewK : PE X (.Dict [] [] pos) tDNewK := fun pins s σ H Q I h =>
  wpAny_Dict_empty ⟨.ref s.heap.objs.size, _, I.laid (a := s.heap.objs.size) (o := .dK []) (t' := s.toks) (fun _ _ q => Heap.get?_push_of_some _ q) (Nat.le_refl _) (dk_empty s.heap I.big), rfl, h _ (I.hok.fresh (Nat.le_refl _))⟩
end

/-- the pairs of a display, from the left -/
def tPairs : List (TE × TE) → St → Hp → (List (V × V) → Hp → Prop) → Prop
  | [], _, H, Q => Q [] H
  | (tk, tv) :: r, σ, H, Q => tk σ H fun x H1 => tv σ H1 fun y H2 => tPairs r σ H2 fun ps H3 => Q ((x, y) :: ps) H3
structure M2 (X : Cx) (o : Expr) (m : Str) (apos : Pos) (e f : Expr) (cpos : Pos) : Prop where
  base : attributeBase o m X.env (eval o X.env) = eval o X.env
  few : ((backTo cpos (starEach [e, f] X.env)).all (fun x => !x.1) && (backToKw cpos (keywordEach [] X.env)).all (fun x => x.1.isSome)
    && decide (([e, f] : List Expr).length + ([] : List Keyword).length + (if ([] : List Keyword).isEmpty then 0 else 1) < 30)) = true
  line : (apos.endLine == cpos.line) = true
  trees : backTo cpos (starEach [e, f] X.env) = [(false, eval e X.env), (false, eval f X.env)]

/-- a is a dict, whatever its keys -/
def IsD (H : Hp) (a : Addr) : Prop := (∃ kvs, Rd H a (.dK kvs)) ∨ ∃ kvs, Rd H a (.dT kvs)
theorem isD_at {X : Cx} {pins : List (Addr × Obj)} {σ : St} {H : Hp} {s : Shared} {a : Addr} (I : Inv X pins σ H s) (d : IsD H a) :
    s.TypeIs (.ref a) "dict" ∧ (∀ b, Value.ref a = .ref b → ∃ ob, s.heap.get? b = some ob ∧ ob.dict = none) ∧ (a == sysModules) = false := by
  rcases d with ⟨kvs, e⟩ | ⟨kvs, e⟩
  · obtain ⟨_, hd, vs, _, dd⟩ := dk_rd I.hok e
    refine ⟨dd.typeIs, fun b q => ?_, hd⟩
    cases q
    obtain ⟨ob, _, _, h1, h2, _⟩ := dd
    exact ⟨ob, h1, h2.2.1⟩
  · obtain ⟨_, hd, xs, _, dd⟩ := dt_rd I.hok e
    refine ⟨dd.typeIs, fun b q => ?_, hd⟩
    cases q
    obtain ⟨ob, _, _, h1, h2, _⟩ := dd
    exact ⟨ob, h1, h2.2.1⟩

section
variable {X : Cx} {pins : List (Addr × Obj)} {σ : St} {H : Hp} {s : Shared} {a : Addr} {y d : V} {u r : Value} {o : Option V} {A : Around} {E : Value → Shared → Prop}
/-- d.get(y, x) -/
theorem d_get2 {Q : Value → Shared → Prop} (hu : A.units + 1 < cLine) (I : Inv X pins σ H s) (g : DGet H a y o) (ry : RelV y u) (rd : RelV d r) (h : ∀ w' s', Inv X pins σ H s' → RelV (o.getD d) w' → Q w' s') :
    wpAny (model X.prog X.w) A (call (.builtin "dict.get") [.ref a, u, r]) Q E s := by
  rcases g with ⟨kvs, k, e, ey, l⟩ | ⟨kvs, k, b, e, ey, eb, l⟩
  · subst ey
    obtain ⟨z, hd, vs, rel, dd⟩ := dk_rd I.hok e
    refine call_meetsIn PySem.F.slot_dict_get dd.typeIs PySem.F.entry_dict_get (PySem.F.args_dict_get_3 _ _ _) (meets_dict_get_default (mixKind X.prog X.w) a (kV_is ry) hd r) ⟨_, dd.mapOf, h _ _ (I.tok _) ?_⟩
    rw [l]
    exact (rel.val k).getD rd
  · subst ey
    cases (show u = Value.ref b from ry)
    obtain ⟨z, hd, xs, rel, dd⟩ := dt_rd I.hok e
    refine call_meetsIn PySem.F.slot_dict_get dd.typeIs PySem.F.entry_dict_get (PySem.F.args_dict_get_3 _ _ _) (meetsH_dict_get_default (tupleKind (mixKind X.prog X.w)) a b hd r) ⟨tupleKind_room_in1 hu, k, xs, key_of I.hok eb, dd, h _ _ (I.tok _) ?_⟩
    rw [l]
    exact (rel.val k).getD rd
end

inductive tDGet2Y (ty : TE) (tx : TE) (σ : St) (Q : VK) (x : V) (H1 : Hp) : Prop
  | mk : ∀ a, (x = .ref a) → (IsD H1 a) → (ty σ H1 fun y H2 => tx σ H2 fun z H3 => ∃ o, DGet H3 a y o ∧ Q (o.getD z) H3) → tDGet2Y ty tx σ Q x H1
def tDGet2 (td ty tx : TE) : TE := fun σ H Q => td σ H fun x H1 => tDGet2Y ty tx σ Q x H1
section
variable {X : Cx} {o e f : Expr} {apos cpos : Pos} {td ty tx : TE}
theorem pe_dget2 (hu : X.A.units + 1 < cLine) (ho : PE X o td) (he : PE X e ty) (hf : PE X f tx) (m : M2 X o "get" apos e f cpos) : PE X (.Call (.Attribute o "get" apos) [e, f] [] cpos) (tDGet2 td ty tx) := by
  intro pins s σ H Q I h
  refine wpAny_Call_method m.base m.few m.line PySem.F.plainAttrs_dict PySem.F.slot_dict_get PySem.F.type_dict_get (thn (ho pins s σ H _ I h) fun u s1 ⟨x, H1, I1, rx, a, ex, d, q1⟩ => ?_)
  subst ex
  obtain rfl : u = Value.ref a := rx
  obtain ⟨t1, t2, _⟩ := isD_at I1 d
  refine ⟨t1, t2, ?_⟩
  rw [m.trees]
  refine Calls.callWith_builtin rfl (Calls.evalArgs_plain (Calls.spliced_cons (thn (he pins s1 σ H1 _ I1 q1) fun iv s2 ⟨y, H2, I2, ry, q2⟩ =>
    Calls.spliced_cons (thn (hf pins s2 σ H2 _ I2 q2) fun fv s3 ⟨z, H3, I3, rz, ov, g, q3⟩ => Calls.spliced_nil ?_))))
  exact d_get2 hu I3 g ry rz fun w' s4 I4 rw' => ⟨_, H3, I4, rw', q3⟩
end

section
variable {X : Cx} {pins : List (Addr × Obj)} {σ : St} {H : Hp} {s : Shared} {a : Addr} {kvs : List (Key × V)} {A : Around} {E : Value → Shared → Prop}
end


section
variable {X : Cx} {pins : List (Addr × Obj)} {σ : St} {H : Hp} {s : Shared} {a : Addr} {y : V} {u : Value} {A : Around} {E : Value → Shared → Prop}
end
end L2

namespace L2
open PySem PySem.Spec PyProof.Rows
section
variable {κ : Type} [DecidableEq κ]
end
end L2
set_option Elab.async false
set_option linter.all false
set_option maxRecDepth 100000
set_option maxHeartbeats 4000000
namespace L2
open PySem PySem.Spec PyProof.Rows

abbrev TB := (St → Hp → Prop) → St → Hp → Prop
/-- a piece of code within a comprehension's turn -/
def PBd (X : Cx) (code : Sem Unit) (b : TB) : Prop :=
  ∀ (pins : List (Addr × Obj)) (s : Shared) (σ : St) (H : Hp) (N : St → Hp → Prop), Inv X pins σ H s → b N σ H →
    wpAny (model X.prog X.w) X.A code (fun _ s' => ∃ σ' H', Inv X pins σ' H' s' ∧ N σ' H') X.xe s
/-- the rest of a turn: it ends with the loop again -/
def PTl (X : Cx) (tail : Sem PySem.Fin) (L : Code) (b : TB) : Prop :=
  ∀ (pins : List (Addr × Obj)) (s : Shared) (σ : St) (H : Hp) (N : St → Hp → Prop), Inv X pins σ H s → b N σ H →
    wpAny (model X.prog X.w) X.A tail (fun fin s' => fin = .again L ∧ ∃ σ' H', Inv X pins σ' H' s' ∧ N σ' H') X.xe s
def tailOf (ifs : List Expr) (env : Env) (body : Sem Unit) (L : Code) : Sem PySem.Fin :=
  (forIn ifs true fun c r => if r = true then do let ok ← isTrue c env (eval c env); pure (ForInStep.yield ok) else pure (ForInStep.yield r)) >>= fun ok => if ok = true then body >>= fun _ => again L else again L
/-- the walk of one clause: as tFor, without break and return -/
def tWalk (J : It) (g : TG) (b : TB) (N0 : St → Hp → Prop) (σ : St) (H : Hp) : Prop :=
  ∃ W : Nat → Nat → St → Hp → Prop, (∃ m, W 0 m σ H) ∧ ∀ i m σ H, W i m σ H →
    (J.stop i H ∧ N0 σ H) ∨ (J.go i H ∧ ∃ N : St → Hp → Prop, (∀ σ' H', N σ' H' → ∃ m', m' < m ∧ W (i + 1) m' σ' H') ∧ ∀ x H', J.yld i H x H' → g x σ H' fun σ2 H2 => b N σ2 H2)
section
variable {X : Cx} {e tg : Expr} {gens : List Comprehension} {sc : Scope} {cpos : Pos} {d : Nat} {it : Addr} {acc : Value} {tail : Sem PySem.Fin} {p : Pos} {g : TG} {b : TB} {J : It} {fp : List Addr} {tn : Nat → Heap → Prop} {N0 : St → Hp → Prop} {R : Result → Shared → Prop}
theorem comp_loop (he : (∃ el, e = .ListComp el gens sc cpos) ∨ ∃ k v, e = .DictComp k v gens sc cpos) (hx : X.xe = fun _ _ => False) (hc : X.calm = true)
    (ht : compTurn e d (.ref it) acc X.env = (standAt p >>= fun _ => pyNext (.ref it) >>= fun r => match r with
      | none => pure (.done .next)
      | some v => letOwnedTupleGo tg (.ref it) v >>= fun _ => assign tg X.env v >>= fun _ => tail))
    (T : Turn X.prog X.w X.K tg J fp it tn) (hg : PG X tg g) (hb : PTl X tail (.compLoop e d (.ref it) acc X.env) b) {pins : List (Addr × Obj)} {σ : St} {H : Hp} {s : Shared}
    (I : Inv X pins σ H s) (st : tn 0 s.heap) (f2 : ∀ b ∈ fp, FpOk X pins H b) (hw : tWalk J g b N0 σ H)
    (hR : ∀ σ' H' s', Inv X pins σ' H' s' → N0 σ' H' → R (.ok .next) s') :
    codeAny (model X.prog X.w) X.A (.compLoop e d (.ref it) acc X.env) R s := by
  obtain ⟨W, ⟨m0, w0⟩, turn⟩ := hw
  have stat : ∀ {H' : Hp}, (∀ b ∈ fp, H' b = none) → ∀ b ∈ fp, FpOk X pins H' b := fun hn b hb => ⟨hn b hb, (f2 b hb).2⟩
  refine codeAny_loop rfl (fun n s' => ∃ i σ' H', Inv X pins σ' H' s' ∧ tn i s'.heap ∧ (∀ b ∈ fp, H' b = none) ∧ W i n σ' H') ?_ m0 ⟨0, σ, H, I, st, fun b hb => (f2 b hb).1, w0⟩
  rintro n s3 ⟨i, σ3, H3, I3, st3, fr3, w3⟩
  have hden : (model X.prog X.w).den (.compLoop e d (.ref it) acc X.env) = ((compTurn e d (.ref it) acc X.env).onRaise (fun x => do noteFrame x X.env; theTreesLotGoes x)) ∧ X.A.under (.compLoop e d (.ref it) acc X.env) = X.A := by
    rcases he with ⟨el, rfl⟩ | ⟨k, v, rfl⟩ <;> exact ⟨rfl, rfl⟩
  rw [hden.1, hden.2]
  show wpAny _ _ ((compTurn e d (.ref it) acc X.env).onRaise (fun x => do noteFrame x X.env; theTreesLotGoes x)) _ _ s3
  refine wpAny_noted ?_
  rw [ht]
  have no : ∀ {α : Type} {t : Sem α} {Q : α → Shared → Prop} {E : Value → Shared → Prop} {s : Shared}, wpAny (model X.prog X.w) X.A t Q X.xe s → wpAny (model X.prog X.w) X.A t Q E s :=
    fun h => wpAny_mono h (fun _ _ q => q) fun _ _ q => by rw [hx] at q; exact q.elim
  refine wpAny_bind (wpAny_standAt (wpAny_bind ?_))
  rcases turn i n σ3 H3 w3 with ⟨stop, qn⟩ | ⟨go, N, hN, step⟩
  · refine no (thn (T.done X rfl rfl rfl hc i pins s3 σ3 H3 X.xe I3 (stat fr3) st3 stop) fun r s4 ⟨hr, I4⟩ => ?_)
    subst hr
    exact wpAny_pure (hR _ _ _ I4 qn)
  · refine no (thn (T.item X rfl rfl rfl hc i pins s3 σ3 H3 X.xe I3 (stat fr3) st3 go) fun r s4 ⟨u, hr, h4⟩ => ?_)
    subst hr
    refine wpAny_bind (no (thn h4 fun _ s5 ⟨x, H5, I5, r5, y5, st5, fr5⟩ => ?_))
    have I5' := I5.pinned (stat fr5) (T.obj _ _ st5)
    refine wpAny_bind (no (thn (hg _ s5 σ3 H5 x u _ I5' r5 (step x H5 y5)) fun _ s6 ⟨σ6, H6, I6, q6⟩ => ?_))
    refine no (thn (hb _ s6 σ6 H6 _ I6 q6) fun fin s7 ⟨hf, σ7, H7, I7, n7⟩ => ?_)
    subst hf
    obtain ⟨m', hm, w7⟩ := hN σ7 H7 n7
    refine ⟨rfl, m', hm, i + 1, σ7, H7, I7.unpinned, T.keep _ _ _ st5 fun b hb o e => (I7.pin (b, o) (List.mem_append_right _ (List.mem_append_right _ (mem_pinsAt hb e)))).1, fun b hb => ?_, w7⟩
    obtain ⟨o, e, d⟩ := T.obj _ _ st5 b hb
    exact (I7.pin (b, o) (List.mem_append_right _ (List.mem_append_right _ (mem_pinsAt hb e)))).2.1
end
/-- no test; one test; two -/
def bIf (t : TT) (b : TB) : TB := fun N σ H => t σ H fun c H1 => if c = true then b N σ H1 else N σ H1
theorem pt_tail0 {X : Cx} {body : Sem Unit} {L : Code} {b : TB} (hb : PBd X body b) : PTl X (tailOf [] X.env body L) L b := by
  intro pins s σ H N I h
  unfold tailOf
  refine wpAny_bind (wpAny_tests_nil ?_)
  show wpAny _ _ (body >>= fun _ => again L) _ _ s
  exact wpAny_bind (thn (hb pins s σ H N I h) fun _ s' q => wpAny_pure ⟨rfl, q⟩)
theorem pt_tail1 {X : Cx} {c : Expr} {t : TT} {body : Sem Unit} {L : Code} {b : TB} (hc : PT X c t) (hb : PBd X body b) : PTl X (tailOf [c] X.env body L) L (bIf t b) := by
  intro pins s σ H N I h
  unfold tailOf
  refine wpAny_bind (wpAny_tests_one (thn (hc pins s σ H _ I h) fun ok s1 ⟨H1, I1, q⟩ => ?_))
  cases ok with
  | true => exact wpAny_bind (thn (hb pins s1 σ H1 N I1 (by simpa using q)) fun _ s' q => wpAny_pure ⟨rfl, q⟩)
  | false => exact wpAny_pure ⟨rfl, σ, H1, I1, by simpa using q⟩
/-- the item onto the list at D -/
def bApp (D : Addr) (te : TE) : TB := fun N σ H => te σ H fun x H1 => ∃ xs, H1 D = some (.lst xs) ∧ xs.length < sizeLine ∧ N σ (upd H1 D (.lst (xs ++ [x])))
theorem pb_app {X : Cx} {el : Expr} {te : TE} {D : Addr} (he : PE X el te) : PBd X (do let _ ← call (.builtin "list.append") [.ref D, ← eval el X.env]) (bApp D te) := by
  intro pins s σ H N I h
  refine wpAny_bind (thn (he pins s σ H _ I h) fun u s1 ⟨x, H1, I1, r, xs, hD, hz, q⟩ => ?_)
  refine wpAny_bind (thn (mt_append pins s1 σ H1 (.ref D) [x] (.ref D) [u] (fun _ H2 => N σ H2) I1 rfl (.cons r .nil) ⟨D, xs, x, rfl, rfl, hD, hz, q⟩) fun _ s2 ⟨_, H2, I2, _, q2⟩ => ?_)
  exact wpAny_pure ⟨σ, H2, I2, q2⟩
theorem turn_l1 (el tg iter : Expr) (ifs : List Expr) (sc : Scope) (pos : Pos) (it acc : Value) (env : Env) :
    compTurn (.ListComp el [⟨tg, iter, ifs, 0⟩] sc pos) 0 it acc env = (standAt iter.pos >>= fun _ => pyNext it >>= fun r => match r with
      | none => pure (.done .next)
      | some v => letOwnedTupleGo tg it v >>= fun _ => assign tg env v >>= fun _ => tailOf ifs env (do let _ ← call (.builtin "list.append") [acc, ← eval el env]) (.compLoop (.ListComp el [⟨tg, iter, ifs, 0⟩] sc pos) 0 it acc env)) := by rfl
def tail2 (ifs : List Expr) (env : Env) (iter2 : Expr) (next : Value → Code) (L : Code) : Sem PySem.Fin :=
  (forIn ifs true fun c r => if r = true then do let ok ← isTrue c env (eval c env); pure (ForInStep.yield ok) else pure (ForInStep.yield r)) >>= fun ok => if ok = true then
    (eval iter2 env >>= fun x => standAt iter2.pos >>= fun _ => foldedSetIterable iter2 env x >>= fun x => holding [x] (pyIter x) >>= fun i => runOwn (next i) env >>= fun _ => again L) else again L
end L2
set_option Elab.async false
set_option linter.all false
set_option maxRecDepth 100000
set_option maxHeartbeats 4000000
namespace L2
open PySem PySem.Spec PyProof.Rows

/-- the cells of the enclosing frame that the block's free names stand for -/
def clStep (env : Env) (cs : List (Str × Addr)) (y : Str × NameKind) : List (Str × Addr) :=
  if (y.2 == .free) = true then (match env.cells.lookup y.1 with | some c => (y.1, c) :: cs | none => cs) else cs
def clOf (sc : Scope) (env : Env) : List (Str × Addr) := sc.names.foldl (clStep env) []
def clTurn (env : Env) (x : Str × NameKind) (r : List (Str × Addr)) : Sem (ForInStep (List (Str × Addr))) :=
  match x with | (name, kind) => if (kind == .free) = true then (do let a ← cellOf env name; pure (ForInStep.yield ((name, a) :: r))) else pure (ForInStep.yield r)
theorem clTurn_eq {env : Env} {y : Str × NameKind} {cs : List (Str × Addr)} (h : y.2 = .free → ∃ c, env.cells.lookup y.1 = some c) : clTurn env y cs = pure (ForInStep.yield (clStep env cs y)) := by
  obtain ⟨n, k⟩ := y
  unfold clTurn clStep
  cases hk : k == NameKind.free with
  | false => simp [hk]
  | true =>
    obtain ⟨c, hc⟩ := h (by simpa using hk)
    have hc' : List.lookup n env.cells = some c := hc
    simp only [hk, if_true, cellOf, hc', pure_bind]
theorem closure_go {env : Env} : ∀ (l : List (Str × NameKind)) (cs : List (Str × Addr)), (∀ y ∈ l, y.2 = .free → ∃ c, env.cells.lookup y.1 = some c) →
    (forIn l cs (clTurn env) : Sem (List (Str × Addr))) = pure (l.foldl (clStep env) cs)
  | [], cs, _ => rfl
  | y :: r, cs, h => by
    rw [List.forIn_cons, clTurn_eq (h y List.mem_cons_self), pure_bind, List.foldl_cons]
    exact closure_go r _ fun y hy => h y (List.mem_cons_of_mem _ hy)
theorem closure_of {sc : Scope} {env : Env} (h : ∀ y ∈ sc.names, y.2 = .free → ∃ c, env.cells.lookup y.1 = some c) : closureFor sc env = pure (clOf sc env) := by
  have q := closure_go (env := env) sc.names [] h
  have z : closureFor sc env = (forIn sc.names [] (clTurn env) >>= fun r => pure r) := rfl
  rw [z, q]
  rfl
theorem cl_in {env : Env} {x : Str} {c : Addr} : ∀ (l : List (Str × NameKind)) (cs : List (Str × Addr)), (cs.lookup x = some c → env.cells.lookup x = some c) → (l.foldl (clStep env) cs).lookup x = some c → env.cells.lookup x = some c
  | [], cs, h, e => h e
  | (n, k) :: r, cs, h, e => by
    rw [List.foldl_cons] at e
    refine cl_in r _ (fun z => ?_) e
    unfold clStep at z
    split at z
    · split at z
      · rename_i c' hc
        rw [List.lookup_cons] at z
        split at z
        · rename_i hx
          have : x = n := by simpa using hx
          subst this
          cases z
          exact hc
        · exact h z
      · exact h z
    · exact h z
theorem cl_has {env : Env} {x : Str} : ∀ (l : List (Str × NameKind)) (cs : List (Str × Addr)), (∃ c, env.cells.lookup x = some c) → ((∃ c, cs.lookup x = some c) ∨ (x, NameKind.free) ∈ l) → ∃ c, (l.foldl (clStep env) cs).lookup x = some c
  | [], cs, _, h => h.elim id (fun z => nomatch z)
  | (n, k) :: r, cs, he, h => by
    rw [List.foldl_cons]
    refine cl_has r _ he ?_
    rcases h with ⟨c, h⟩ | h
    · left
      unfold clStep
      split
      · split
        · rename_i c' hc
          rw [List.lookup_cons]
          split
          · exact ⟨_, rfl⟩
          · exact ⟨c, h⟩
        · exact ⟨c, h⟩
      · exact ⟨c, h⟩
    · rcases List.mem_cons.mp h with z | z
      · cases z
        obtain ⟨c, hc⟩ := he
        left
        refine ⟨c, ?_⟩
        unfold clStep
        simp [hc]
      · exact .inr z

structure CS (sc S0 : Scope) : Prop where
  kind : sc.kind = .function
  names : ∀ y ∈ sc.names, y.2 = .local → sc.names.lookup y.1 = some .local
  nocell : ∀ y ∈ sc.names, y.2 ≠ .cell
  free : ∀ y ∈ sc.names, y.2 = .free → S0.names.lookup y.1 = some .cell
def relOne (env : Env) (y : Str × NameKind) : Str × NameKind := if (y.2 == .free && env.scope.kind == .function && env.kindOf y.1 == some .cell) = true then (y.1, .cell) else (y.1, y.2)
theorem relOne_fst (env : Env) (y : Str × NameKind) : (relOne env y).1 = y.1 := by
  unfold relOne
  split <;> rfl
theorem rel_look {env : Env} {x : Str} : ∀ (l : List (Str × NameKind)), (l.map (relOne env)).lookup x = (l.lookup x).map fun k => (relOne env (x, k)).2
  | [] => rfl
  | (n, k) :: r => by
    rw [List.map_cons]
    have e : relOne env (n, k) = (n, (relOne env (n, k)).2) := Prod.ext (relOne_fst env (n, k)) rfl
    rw [e, List.lookup_cons, List.lookup_cons]
    cases hx : x == n with
    | true =>
      have : x = n := by simpa using hx
      subst this
      rfl
    | false => exact rel_look r
/-- the context of the block: s₂, H₂ ahead of it, the locals at C -/
def cxC (X : Cx) (Nc : List Str) (sc : Scope) (C : Addr) (s₂ : Shared) (H₂ : Hp) (fp : List Addr) (pins : List (Addr × Obj)) : Cx :=
  { X with N := Nc, s₀ := s₂, H₀ := H₂, env := compEnvC sc (clOf sc X.env) C X.env, outer := X.stack, ex := fp, fn := fun _ => false, pn := X.pn ++ pins }
/-- the names' values at the block's start: js says which name of the frame each is, none: the block's own -/
def compSt (js : List (Option Nat)) (σ : St) : St := js.map fun o => o.bind fun j => (σ[j]?).join
def capOk (js : List (Option Nat)) (Nc N : List Str) (names : List (Str × NameKind)) : Bool :=
  decide (js.length = Nc.length) && (js.zip Nc).all fun (o, x) => match o with | none => true | some j => decide (N[j]? = some x) && decide (names.lookup x = some .free)
theorem cap_of {js : List (Option Nat)} {Nc N : List Str} {names : List (Str × NameKind)} (h : capOk js Nc N names = true) : js.length = Nc.length ∧ ∀ (i j : Nat) (x : Str), js[i]? = some (some j) → Nc[i]? = some x → N[j]? = some x ∧ names.lookup x = some .free := by
  unfold capOk at h
  rw [Bool.and_eq_true] at h
  refine ⟨of_decide_eq_true h.1, fun i j x e1 e2 => ?_⟩
  have z : (js.zip Nc)[i]? = some (some j, x) := by
    rw [List.getElem?_zip_eq_some]
    exact ⟨e1, e2⟩
  have q := List.all_eq_true.mp h.2 _ (List.mem_of_getElem? z)
  dsimp only at q
  rw [Bool.and_eq_true] at q
  exact ⟨of_decide_eq_true q.1, of_decide_eq_true q.2⟩
section
variable {X : Cx} {pins : List (Addr × Obj)} {σ : St} {H : Hp} {s : Shared} {sc : Scope} {Nc : List Str} {js : List (Option Nat)} {fp : List Addr}
theorem ok_comp (I : Inv X pins σ H s) (S : CS sc X.env.scope) (f : ∀ b ∈ fp, FpOk X pins H b) (hlt : ∀ b ∈ fp, b < s.heap.objs.size) {C : Addr} (hC : s.heap.objs.size ≤ C) : (cxC X Nc sc C s H fp pins).Ok := by
  have inX : ∀ x c, (clOf sc X.env).lookup x = some c → X.env.cells.lookup x = some c := fun x c e => cl_in sc.names [] (fun z => nomatch z) e
  refine ⟨I.ok.mod, S.kind, I.ok.glob, I.ok.blt, hC, fun x y c e1 e2 => I.ok.inj x y c (inX x c e1) (inX y c e2), fun x hx => ?_, fun x c z => (nomatch z), I.ok.hd, I.ok.frames, .inl rfl, fun b hb => ⟨?_, fun x c e => (f b hb).2.2.2.2.1 x c (inX x c e)⟩, I.bs, Nat.le_trans I.ok.bsz I.sz, fun b o e hb => ?_, fun b hb hs => ?_, I.stack, I.stkFree⟩
  · have hx' : (sc.names.map (relOne X.env)).lookup x = some .cell ∨ (sc.names.map (relOne X.env)).lookup x = some .free := hx
    rw [rel_look] at hx'
    cases e : sc.names.lookup x with
    | none => rw [e] at hx'; rcases hx' with z | z <;> cases z
    | some k =>
      rw [e] at hx'
      have m : (x, k) ∈ sc.names := PySem.mem_of_lookup e
      have kf : k = .free := by
        have nk := S.nocell _ m
        unfold relOne at hx'
        by_cases hk : (k == NameKind.free) = true
        · simpa using hk
        · have hk' : (k == NameKind.free) = false := by simpa using hk
          simp only [hk', Bool.false_and, Option.map_some] at hx'
          rcases hx' with z | z
          · exact absurd (by simpa using z) nk
          · simpa using z
      subst kf
      have hx2 := S.free _ m rfl
      obtain ⟨c, hc⟩ := I.ok.has x (.inl hx2)
      exact cl_has sc.names [] ⟨c, hc⟩ (.inr m)
  · exact Nat.ne_of_lt (Nat.lt_of_lt_of_le (hlt b hb) hC)
  · obtain ⟨h0, h1, h2, h3, h4, h5⟩ := f b hb
    rcases h3 with z | z
    · exact I.ok.noex b o e z
    · exact absurd (Nat.lt_of_lt_of_le (Heap.lt_size (I.ok.bs b o e).1) z) (Nat.lt_irrefl _)
  · obtain ⟨h0, h1, h2, h3, h4, h5⟩ := f b hb
    rcases List.mem_cons.mp (I.stkSub b hs) with z | z
    · exact h1 z
    · exact h2 z
/-- the block begins: h₁ is the heap with the new object at D (tracked as o) and the block's names at C -/
theorem inv_comp (I : Inv X pins σ H s) (S : CS sc X.env.scope) (f : ∀ b ∈ fp, FpOk X pins H b) (hlt : ∀ b ∈ fp, b < s.heap.objs.size) (cap : capOk js Nc X.N sc.names = true) {C D : Addr} {o : HO} {h₁ : Heap} {m : Str → Option Value} {tk : Nat}
    (hC : s.heap.objs.size ≤ C) (hD : s.heap.objs.size ≤ D) (hDC : D ≠ C) (hk : ∀ b ob, s.heap.get? b = some ob → h₁.get? b = some ob) (hns : h₁.Ns C m) (new : ObjOk X.prog X.w (upd H D o) h₁ D o) :
    Inv (cxC X Nc sc C s H fp pins) [] (compSt js σ) (upd H D o) { s with heap := h₁, toks := tk } := by
  have inX : ∀ x c, (clOf sc X.env).lookup x = some c → X.env.cells.lookup x = some c := fun x c e => cl_in sc.names [] (fun z => nomatch z) e
  have fresh : ∀ a, s.heap.objs.size ≤ a → H a = none := fun a ha => I.hok.fresh ha
  obtain ⟨cl, cp⟩ := cap_of cap
  refine ⟨ok_comp I S f hlt hC, rfl, I.bare, Un.laid hk hD (fresh D hD), ⟨m, hns, fun i x v e1 e2 e3 => ?_⟩, fun x c e => ?_, ?_, fun x c e => ?_, fun p hp => ?_, I.hok.laid hk hD new, ?_⟩
  · -- a name of the frame's
    unfold compSt at e2
    rw [List.getElem?_map] at e2
    cases ej : js[i]? with
    | none => rw [ej] at e2; cases e2
    | some oj =>
      rw [ej] at e2
      cases oj with
      | none => cases e2
      | some j =>
        obtain ⟨hN, hfree⟩ := cp i j x ej e1
        have hv : σ[j]? = some (some v) := by
          simp only [Option.map_some, Option.bind_some, Option.some.injEq] at e2
          cases e : σ[j]? with
          | none => rw [e] at e2; cases e2
          | some w => rw [e] at e2; exact congrArg some e2
        have kc : X.env.kindOf x = some .cell := S.free _ (PySem.mem_of_lookup hfree) rfl
        obtain ⟨m', hn', hl⟩ := I.loc
        obtain ⟨u, r, lk⟩ := hl j x v hN hv (.inr (.inl kc))
        refine ⟨u, r, .inr ⟨.inl ?_, ?_⟩⟩
        · show (sc.names.map (relOne X.env)).lookup x = some .cell
          rw [rel_look, hfree]
          unfold relOne
          simp [I.ok.kind, kc]
        · rcases lk with ⟨z, _⟩ | ⟨_, c, hc, ic⟩
          · rw [kc] at z; cases z
          · obtain ⟨c', hc'⟩ := cl_has sc.names [] ⟨c, hc⟩ (.inr (PySem.mem_of_lookup hfree))
            have : c' = c := Option.some.inj ((inX x c' hc').symm.trans hc)
            subst this
            exact ⟨c', hc', ic.keeps hk⟩
  · obtain ⟨v, ic⟩ := I.cell x c (inX x c e)
    exact ⟨v, ic.keeps hk⟩
  · show upd H D o C = none
    rw [upd_ne hDC.symm]
    exact fresh C hC
  · have q := inX x c e
    obtain ⟨v, ic⟩ := I.cell x c q
    show upd H D o c = none
    rw [upd_ne (Nat.ne_of_lt (Nat.lt_of_lt_of_le ic.lt hD))]
    exact I.freeC x c q
  · have hp' : p ∈ X.pn ++ pins := by
      rcases List.mem_append.mp hp with z | z
      · exact z
      · exact absurd z (by simp)
    obtain ⟨a1, a2, a3, a4, a5⟩ := I.pin p hp'
    have lt := Heap.lt_size a1
    refine ⟨hk _ _ a1, ?_, Nat.ne_of_lt (Nat.lt_of_lt_of_le lt hC), fun z => ?_, a5⟩
    · rw [upd_ne (Nat.ne_of_lt (Nat.lt_of_lt_of_le lt hD))]
      exact a2
    · rcases List.mem_cons.mp (I.stkSub _ z) with z | z
      · exact a3 z
      · exact a4 z
  · unfold compSt
    rw [List.length_map]
    exact cl
/-- the block ends: its names are let go (h' is as h but at C) -/
theorem inv_back {C : Addr} {σ' : St} {H' : Hp} {s' : Shared} {h' : Heap} (I : Inv X pins σ H s) (f : ∀ b ∈ fp, FpOk X pins H b) (hC : s.heap.objs.size ≤ C) (J : Inv (cxC X Nc sc C s H fp pins) [] σ' H' s') (hs : Heap.SameBut C s'.heap h') :
    Inv X pins σ H' { s' with heap := h' } := by
  have u := J.base
  have nC : H' C = none := J.free
  have stay : ∀ b ob, b ≠ C → s'.heap.get? b = some ob → h'.get? b = some ob := fun b ob hb e => hs.extBut b ob hb e
  have neC : ∀ b ob, s.heap.get? b = some ob → b ≠ C := fun b ob e => Nat.ne_of_lt (Nat.lt_of_lt_of_le (Heap.lt_size e) hC)
  refine I.call' (ch := fp) J.os ?_ (fun b v e => ?_) J.bare fun b hb => ⟨(f b hb).2.2.2.1, (f b hb).2.1, (f b hb).2.2.2.2.1, (f b hb).2.2.2.2.2⟩
  · refine ⟨fun b ob e n h1 h2 => stay b ob (neC b ob e) (u.keep b ob e n h1 h2), fun b ob e n h1 h2 => ?_, u.free, fun b ob e h2 => ?_, u.tups, u.frzs, u.tbls⟩
    · obtain ⟨sl, q⟩ := u.slot b ob e n h1 h2
      exact ⟨sl, stay b _ (neC b ob e) q⟩
    · obtain ⟨o', q⟩ := u.there b ob e h2
      exact ⟨o', stay b _ (neC b ob e) q⟩
  · have nb : ∀ c w, H' c = some w → c ≠ C := fun c w e z => by rw [z, nC] at e; cases e
    refine (J.hok b v e).stay (fun c w hc q => stay c w ?_ q) (fun _ q => q) fun _ _ q => q
    rcases hc with z | z
    · rw [z]; exact nb b v e
    · exact nb c _ z
end
end L2
set_option Elab.async false
set_option linter.all false
set_option maxRecDepth 100000
set_option maxHeartbeats 4000000
namespace L2
open PySem PySem.Spec PyProof.Rows
section
variable {X : Cx} {e tg iter el : Expr} {ifs : List Expr} {gens rest : List Comprehension} {sc : Scope} {pos : Pos} {Nc : List Str} {js : List (Option Nat)} {wi : TI}
theorem comp_start {prog : Program} {w : World} {A : Around} {env : Env} {R : Result → Shared → Prop} {s : Shared} {d : Nat} {it acc : Value} {g : Comprehension} (he : (∃ el, e = .ListComp el gens sc pos) ∨ ∃ k v, e = .DictComp k v gens sc pos)
    (hg : (clausesOf e)[d]? = some g) (ha : g.is_async = 0)
    (h0 : codeAny (model prog w) A (.compLoop e d it acc env) R s)
    (h : wpAny (model prog w) A (pyIter it) (fun it' s' => codeAny (model prog w) A (.compLoop e d it' acc env) R s') (fun _ _ => False) s) :
    codeAny (model prog w) A (.compStart e d it acc env) R s := by
  refine codeAny_of_tree ?_
  have hden : (model prog w).den (.compStart e d it acc env) = ((compStart e d it acc env).onRaise (fun x => do noteFrame x env; standAt theWindowsPlace)) ∧ A.under (.compStart e d it acc env) = A := by
    rcases he with ⟨el, rfl⟩ | ⟨k, v, rfl⟩ <;> exact ⟨rfl, rfl⟩
  have hq : ∀ d it acc, (Code.compLoop e d it acc env).quiet = true := fun _ _ _ => rfl
  rw [hden.1, hden.2]
  refine wpAny_notedAt ?_
  unfold compStart
  rw [hg]
  have hz : ((some g).elim false fun x => x.is_async != 0) = false := by show (g.is_async != 0) = false; rw [ha]; rfl
  rw [hz]
  show wpAny _ _ (ask >>= _) _ _ s
  refine wpAny_bind (wpAny_askSetting (wpAny_ite ?_))
  split
  · first
      | exact wpAny_bind (wpAny_pure (wpAny_pure (And.intro rfl h0)))
      | exact wpAny_pure (And.intro rfl h0)
  · refine wpAny_bind (wpAny_rule ?_)
    show wpAny _ _ (standAt g.iter.pos >>= _) _ _ s
    exact wpAny_bind (wpAny_standAt (wpAny_bind (wpAny_mono h (fun it' s' h' => wpAny_pure (And.intro rfl h')) fun _ _ x => x.elim)))
/-- [el for tg in iter if ..]: bd is what a turn does behind the target's store, for the list at D -/
def tLC (js : List (Option Nat)) (wi : TI) (g : TG) (bd : Addr → TB) : TE := fun σ H Q => wi σ H fun J H1 => ∀ D, H1 D = none → tWalk J g (bd D) (fun _ H' => Q (.ref D) H') (compSt js σ) (upd H1 D (.lst []))
theorem pe_lc1x {g : TG} {bd : Addr → TB} (hx : X.xe = fun _ _ => False) (hc : X.calm = true) (hi : PI X tg iter wi) (S : CS sc X.env.scope) (cap : capOk js Nc X.N sc.names = true)
    (hg : ∀ C s₂ H₂ fp pins, PG (cxC X Nc sc C s₂ H₂ fp pins) tg g)
    (hb : ∀ C s₂ H₂ fp pins D L, PTl (cxC X Nc sc C s₂ H₂ fp pins) (tailOf ifs (cxC X Nc sc C s₂ H₂ fp pins).env (do let _ ← call (.builtin "list.append") [.ref D, ← eval el (cxC X Nc sc C s₂ H₂ fp pins).env]) L) L (bd D))
    (hs : ∀ x, foldedSetIterable iter X.env x = pure x := by intro _; rfl) :
    PE X (.ListComp el [⟨tg, iter, ifs, 0⟩] sc pos) (tLC js wi g bd) := by
  intro pins s σ H Q I h
  rw [eval_ListComp]
  have hcl : closureFor sc X.env = pure (clOf sc X.env) := closure_of fun y hy hf => I.ok.has y.1 (.inl (S.free y hy hf))
  refine wpAny_comprehension_free (use := none) rfl hs hcl S.kind S.names (thn (hi pins s σ H _ I h) fun v s1 h1 => thn h1 fun itv s2 h2 => ?_)
  obtain ⟨it, fp, tn, J, H2, e, I2, T, st2, f2, hw⟩ := h2
  subst e
  have hlt : ∀ b ∈ fp, b < s2.heap.objs.size := fun b hb => let ⟨o, ho, _⟩ := T.obj _ _ st2 b hb; Heap.lt_size ho
  refine wpAny_newObj_type (wpAny_newFunctionEnv S.nocell (by intro y hy; simp at hy) (fun h₁ hns₁ hsb₁ => ?_) S.kind)
  dsimp only at hns₁ hsb₁ ⊢
  generalize hH2 : s2.heap.push { cls := .type "list", dict := none, data := .seq ([] : List Value).toArray } = G at hns₁ hsb₁ ⊢
  have hCs : G.objs.size = s2.heap.objs.size + 1 := by rw [← hH2, Heap.size_push]
  have hDC : s2.heap.objs.size ≠ G.objs.size := by omega
  have hCle : s2.heap.objs.size ≤ G.objs.size := by omega
  have old : ∀ b o, s2.heap.get? b = some o → h₁.get? b = some o := fun b o e => hsb₁.extBut b o (Nat.ne_of_lt (Nat.lt_of_lt_of_le (Heap.lt_size e) hCle)) (Heap.get?_push_of_some _ (hH2 ▸ Heap.get?_push_of_some _ e))
  have hacc : h₁.get? s2.heap.objs.size = some { cls := .type "list", dict := none, data := .seq ([] : List Value).toArray } := hsb₁.extBut _ _ hDC (Heap.get?_push_of_some _ (hH2 ▸ Heap.get?_push_size _ rfl))
  have new : ObjOk X.prog X.w (upd H2 s2.heap.objs.size (.lst [])) h₁ s2.heap.objs.size (.lst []) := ⟨Nat.zero_le _, [], _, .nil, hacc⟩
  have I4 := inv_comp (js := js) (Nc := Nc) (tk := s2.toks + ([] : List (Str × Value)).length) I2 S f2 hlt cap hCle (Nat.le_refl _) hDC old hns₁ new
  have hn : H2 s2.heap.objs.size = none := I2.fresh
  have f4 : ∀ b ∈ fp, FpOk (cxC X Nc sc G.objs.size s2 H2 fp pins) [] (upd H2 s2.heap.objs.size (.lst [])) b := fun b hb => by
    obtain ⟨h0, h1, h2, h3, h4, h5⟩ := f2 b hb
    refine ⟨?_, Nat.ne_of_lt (Nat.lt_of_lt_of_le (hlt b hb) hCle), fun z => ?_, .inl hb, fun x c z => ?_, fun p hp => ?_⟩
    · rw [upd_ne (Nat.ne_of_lt (hlt b hb))]; exact h0
    · rcases List.mem_cons.mp (I2.stkSub b z) with q | q
      · exact h1 q
      · exact h2 q
    · exact h4 x c (cl_in sc.names [] (fun z => nomatch z) z)
    · rcases List.mem_append.mp hp with z | z
      · exact h5 p z
      · exact absurd z (by simp)
  have st4 : tn 0 h₁ := T.keep _ _ _ st2 fun b hb o e => old b o e
  have loop : codeAny (model X.prog X.w) X.A (.compLoop (.ListComp el [⟨tg, iter, ifs, 0⟩] sc pos) 0 (.ref it) (.ref s2.heap.objs.size) (compEnvC sc (clOf sc X.env) G.objs.size X.env))
      (compPost (model X.prog X.w) X.A X.xe none (EP X pins σ Q) (.ref s2.heap.objs.size) G.objs.size) { s2 with heap := h₁, toks := s2.toks + ([] : List (Str × Value)).length } := by
    refine comp_loop (X := cxC X Nc sc G.objs.size s2 H2 fp pins) (.inl ⟨el, rfl⟩) hx hc (turn_l1 _ _ _ _ _ _ _ _ _) T (hg _ _ _ _ _) (hb _ _ _ _ _ _ _) I4 st4 f4 (hw _ hn) fun σ' H' s' I' q => ?_
    obtain ⟨m', hm', _⟩ := I'.loc
    exact ⟨m', hm', fun h' hs' => ⟨.ref s2.heap.objs.size, H', inv_back I2 f2 hCle I' hs', rfl, q⟩⟩
  exact comp_start (.inl ⟨el, rfl⟩) rfl rfl loop (T.self _ _ _ _ _ st4 loop)
end
end L2
set_option Elab.async false
set_option linter.all false
set_option maxRecDepth 100000
set_option maxHeartbeats 4000000
namespace L2
open PySem PySem.Spec PyProof.Rows
section
variable {X : Cx}
inductive rInsert (x : V) (vs : List V) (H : Hp) (Q : VK) : Prop
  | mk : ∀ l xs i y, (x = .ref l) → (vs = [.int i, y]) → (H l = some (.lst xs)) → (0 ≤ i) → (i < 2 ^ 62) → (xs.length < sizeLine) → (Q .non (upd H l (.lst (xs.take i.toNat ++ y :: xs.drop i.toNat)))) → rInsert x vs H Q
theorem mt_insert : MtM X "list.insert" rInsert := by
  intro pins s σ H x vs v us Q I rx rv h
  obtain ⟨l, xs, i, y, rfl, rfl, hH, h1, h2, hz, q⟩ := h
  cases rx
  obtain ⟨u, w, rfl, ⟨t, rfl⟩, rw'⟩ := rv.two
  obtain ⟨z, its, n, r, hl, e⟩ := I.lstM hH
  refine call_meets F.slot_list_insert ⟨_, e, rfl⟩ F.entry_list_insert (F.args_list_insert_3 _ _ _)
    (AutoSeq1.list_insert_list_int_val_1 l its.toArray n i t w (by rw [fitsIndex_both (by omega) (by omega)]; decide) (by rw [List.size_toArray]; omega)) ⟨e, ?_⟩
  refine ⟨.non, _, I.lset (its' := its.take i.toNat ++ w :: its.drop i.toNat) hH e ?_ ((r.take i.toNat).append (.cons rw' (r.drop i.toNat))) ?_, rfl, q⟩
  · have hi : ¬ i < 0 := by omega
    simp only [hi, if_false, List.size_toArray]
    apply Array.toList_inj.mp
    simp
    by_cases hc : i.toNat ≤ its.length
    · rw [Nat.min_eq_left hc, List.take_of_length_le (l := List.drop i.toNat its) (by rw [List.length_drop]; omega)]
    · have hc' : its.length ≤ i.toNat := by omega
      rw [Nat.min_eq_right hc', List.take_of_length_le (Nat.le_refl _), List.take_of_length_le hc', List.drop_eq_nil_of_le (Nat.le_refl _), List.drop_eq_nil_of_le hc', List.take_nil]
  · simp only [List.length_append, List.length_take, List.length_cons, List.length_drop]
    omega
end
end L2
set_option Elab.async false
set_option linter.all false
set_option maxRecDepth 100000
set_option maxHeartbeats 4000000
namespace L2
open PySem PySem.Spec PyProof.Rows

theorem walk_range {lo : Int} {n : Nat} {g : TG} {b : TB} {N0 : St → Hp → Prop} {σ : St} {H : Hp} (Pv : Nat → St → Hp → Prop) (h0 : Pv 0 σ H)
    (hs : ∀ i σ H, i < n → Pv i σ H → g (.int (lo + i)) σ H fun σ2 H2 => b (Pv (i + 1)) σ2 H2) (hd : ∀ σ H, Pv n σ H → N0 σ H) : tWalk (Itr lo n) g b N0 σ H := by
  refine ⟨fun i m σ H => m = n - i ∧ i ≤ n ∧ Pv i σ H, ⟨n, by simp, Nat.zero_le _, h0⟩, ?_⟩
  rintro i m σ H ⟨rfl, hle, p⟩
  by_cases hi : i < n
  · refine .inr ⟨hi, Pv (i + 1), fun σ' H' q => ⟨n - (i + 1), by omega, rfl, by omega, q⟩, fun x H' hy => ?_⟩
    obtain ⟨rfl, rfl⟩ := hy
    exact hs i σ _ hi p
  · have : i = n := by omega
    subst this
    exact .inl ⟨Nat.le_refl _, hd σ H p⟩
theorem walk_list {K : PySem.W.Frag} {a : Addr} {xs : List V} {g : TG} {b : TB} {N0 : St → Hp → Prop} {σ : St} {H : Hp} (Pv : Nat → St → Hp → Prop) (h0 : Pv 0 σ H) (hl : ∀ i σ H, i ≤ xs.length → Pv i σ H → SqL K H a xs)
    (hs : ∀ i x σ H, xs[i]? = some x → Pv i σ H → g x σ H fun σ2 H2 => b (Pv (i + 1)) σ2 H2) (hd : ∀ σ H, Pv xs.length σ H → N0 σ H) : tWalk (Itl K a) g b N0 σ H := by
  refine ⟨fun i m σ H => m = xs.length - i ∧ i ≤ xs.length ∧ Pv i σ H, ⟨xs.length, by simp, Nat.zero_le _, h0⟩, ?_⟩
  rintro i m σ H ⟨rfl, hle, p⟩
  by_cases hi : i < xs.length
  · refine .inr ⟨⟨xs, xs[i], hl i σ H hle p, by simp [hi]⟩, Pv (i + 1), fun σ' H' q => ⟨xs.length - (i + 1), by omega, rfl, by omega, q⟩, fun x H' hy => ?_⟩
    obtain ⟨rfl, hy⟩ := hy
    exact hs i x σ _ (hy xs (hl i σ _ hle p)) p
  · have : i = xs.length := by omega
    subst this
    exact .inl ⟨⟨xs, hl _ σ H hle p, Nat.le_refl _⟩, hd σ H p⟩
theorem walk_tup {K : PySem.W.Frag} {a : Addr} {xs : List V} {g : TG} {b : TB} {N0 : St → Hp → Prop} {σ : St} {H : Hp} (Pv : Nat → St → Hp → Prop) (h0 : Pv 0 σ H) (hl : ∀ i σ H, i ≤ xs.length → Pv i σ H → SqT K H a xs)
    (hs : ∀ i x σ H, xs[i]? = some x → Pv i σ H → g x σ H fun σ2 H2 => b (Pv (i + 1)) σ2 H2) (hd : ∀ σ H, Pv xs.length σ H → N0 σ H) : tWalk (Itt K a) g b N0 σ H := by
  refine ⟨fun i m σ H => m = xs.length - i ∧ i ≤ xs.length ∧ Pv i σ H, ⟨xs.length, by simp, Nat.zero_le _, h0⟩, ?_⟩
  rintro i m σ H ⟨rfl, hle, p⟩
  by_cases hi : i < xs.length
  · refine .inr ⟨⟨xs, xs[i], hl i σ H hle p, by simp [hi]⟩, Pv (i + 1), fun σ' H' q => ⟨xs.length - (i + 1), by omega, rfl, by omega, q⟩, fun x H' hy => ?_⟩
    obtain ⟨rfl, hy⟩ := hy
    exact hs i x σ _ (hy xs (hl i σ _ hle p)) p
  · have : i = xs.length := by omega
    subst this
    exact .inl ⟨⟨xs, hl _ σ H hle p, Nat.le_refl _⟩, hd σ H p⟩

section
variable {prog : Program} {w : World} {A : Around} {E : Value → Shared → Prop}
end
section
variable {X : Cx} {pos : Pos}
inductive call_divmodWY (xs : List V) (H : Hp) (Q : VK) : Prop
  | mk : ∀ (i j : Int), (xs = [.int i, .int j]) → ((0 < j ∧ j.natAbs < 2 ^ 9000)) → (∀ p, H p = none → Q (.ref p) (upd H p (.tup [.int (i / j), .int (i % j)]))) → call_divmodWY xs H Q
theorem call_divmodW : CallR X (.builtin "divmod") call_divmodWY := by
  intro pins s σ H xs us Q I r h
  obtain ⟨i, j, rfl, ⟨h1, h2⟩, q⟩ := h
  obtain ⟨u, w', rfl, ⟨t, rfl⟩, ⟨t', rfl⟩⟩ := vals2 r
  refine divmod_int (by omega) ?_ (.inl (PyProof.noPylong_of_log2 (Own.log2_lt h2)))
  rw [Int.fdiv_eq_ediv_of_nonneg i (by omega), Int.fmod_eq_emod_of_nonneg i (by omega)]
  have hn : H s.heap.objs.size = none := I.hok.fresh (Nat.le_refl _)
  refine ⟨.ref s.heap.objs.size, _, ?_, rfl, q _ hn⟩
  refine I.laid (fun b o e => Heap.get?_push_of_some _ e) (Nat.le_refl _) ⟨by simp only [List.length_cons, List.length_nil]; rw [sizeLine_eq]; decide, [.int (i / j) s.toks, .int (i % j) (s.toks + 1)], .cons ⟨_, rfl⟩ (.cons ⟨_, rfl⟩ .nil), ?_⟩
  exact ⟨_, Heap.get?_push_size s.heap rfl, rfl, 0, rfl, rfl⟩

theorem ints_of : ∀ {ns : List Int} {its : List Value}, Vals (ns.map V.int) its → IntsAre its ns
  | [], _, r => by cases r; exact .nil
  | n :: ns, _, r => by
    cases r with
    | cons r1 r2 =>
      obtain ⟨t, rfl⟩ := r1
      exact .cons n t (ints_of r2)
inductive call_maxLY (K : PySem.W.Frag) (xs : List V) (H : Hp) (Q : VK) : Prop
  | mk : ∀ (a : Addr) (ns : List Int), (xs = [.ref a]) → (SqL K H a (ns.map V.int)) → (0 < ns.length) → (∀ M, M ∈ ns → (∀ i ∈ ns, i ≤ M) → Q (.int M) H) → call_maxLY K xs H Q
theorem call_maxL (hc : X.calm = true) : CallR X (.builtin "max") (call_maxLY X.K) := by
  intro pins s σ H xs us Q I r h
  obtain ⟨a, ns, rfl, hS, hne, q⟩ := h
  obtain ⟨u, rfl, r1⟩ := vals1 r
  cases r1
  obtain ⟨its, rv, ht, hz⟩ := I.list hS
  have hi := ints_of rv
  obtain ⟨xs, e⟩ := hi.allInts.items
  have hns : ns = xs.toList.map (·.1) := by rw [← hi.numsOf, ← nums_intItems, ← e]
  have hsz : 0 < xs.size := by
    have h3 := hne; rw [hns, List.length_map, Array.length_toList] at h3; exact h3
  have hl := ht.isList
  rw [e] at hl
  refine max_intList (I.ok.hd hc) hl hsz fun v h' tk hv hk => ?_
  obtain ⟨t, rfl⟩ := intItems_at hv
  obtain ⟨h1, h2⟩ := argBest_gt (numAt xs) (xs.size - 1)
  refine ⟨.int _, H, I.kept hk, ⟨_, rfl⟩, q _ ?_ fun a ha => ?_⟩
  · rw [hns, numAt_eq]; exact getD_mem (by rw [List.length_map, Array.length_toList]; omega)
  · rw [hns] at ha
    obtain ⟨j, hj, rfl⟩ := mem_getD ha
    rw [List.length_map, Array.length_toList] at hj
    rw [← numAt_eq]; exact h2 j (by omega)
end

mutual
def Dt (K : PySem.W.Frag) (H : Hp) : PyData → V → Prop
  | .none, v => v = .non
  | .bool b, v => v = .bl b
  | .int i, v => v = .int i
  | .str x, v => v = .str x
  | .tuple xs, v => ∃ a vs, v = .ref a ∧ SqT K H a vs ∧ DtAll K H xs vs
  | .list xs, v => ∃ a vs, v = .ref a ∧ SqL K H a vs ∧ DtAll K H xs vs
  | .dict _, _ => False
def DtAll (K : PySem.W.Frag) (H : Hp) : List PyData → List V → Prop
  | [], vs => vs = []
  | d :: ds, vs => ∃ v vr, vs = v :: vr ∧ Dt K H d v ∧ DtAll K H ds vr
end
section
variable {X : Cx} {pins : List (Addr × Obj)} {σ : St} {H : Hp} {s : Shared}
mutual
theorem Dt.reads (I : Inv X pins σ H s) : ∀ (d : PyData) (v : V) (u : Value), RelV v u → Dt X.K H d v → ∃ as, Reads s.heap u d as
  | .none, v, u, r, h => by unfold Dt at h; subst h; cases r; exact ⟨_, .none⟩
  | .bool b, v, u, r, h => by unfold Dt at h; subst h; cases r; exact ⟨_, .bool b⟩
  | .int i, v, u, r, h => by unfold Dt at h; subst h; obtain ⟨t, rfl⟩ := r; exact ⟨_, .int i t⟩
  | .str x, v, u, r, h => by unfold Dt at h; subst h; obtain ⟨t, rfl⟩ := r; exact ⟨_, .str x t⟩
  | .tuple xs, v, u, r, h => by
    unfold Dt at h
    obtain ⟨a, vs, rfl, hs, hd⟩ := h
    cases r
    obtain ⟨its, rv, ⟨o, e1, e2, n, e3⟩, hz⟩ := I.tuple hs
    obtain ⟨as, ra⟩ := DtAll.reads I xs vs its rv hd
    exact ⟨_, .tuple e1 e2 e3 (by simpa using ra)⟩
  | .list xs, v, u, r, h => by
    unfold Dt at h
    obtain ⟨a, vs, rfl, hs, hd⟩ := h
    cases r
    obtain ⟨its, rv, ht, hz⟩ := I.list hs
    obtain ⟨as, ra⟩ := DtAll.reads I xs vs its rv hd
    obtain ⟨o, e1, e2, n, e3⟩ := ht.isList
    exact ⟨_, .list e1 e2 e3 (by simpa using ra)⟩
  | .dict _, v, u, r, h => by unfold Dt at h; exact h.elim
theorem DtAll.reads (I : Inv X pins σ H s) : ∀ (ds : List PyData) (vs : List V) (us : List Value), Vals vs us → DtAll X.K H ds vs → ∃ as, ReadsAll s.heap us ds as
  | [], vs, us, r, h => by unfold DtAll at h; subst h; cases r; exact ⟨_, .nil⟩
  | d :: ds, vs, us, r, h => by
    unfold DtAll at h
    obtain ⟨v, vr, rfl, h1, h2⟩ := h
    cases r with
    | cons r1 r2 =>
      obtain ⟨as, q1⟩ := Dt.reads I d v _ r1 h1
      obtain ⟨bs, q2⟩ := DtAll.reads I ds vr _ r2 h2
      exact ⟨_, .cons q1 q2⟩
end
end
section
variable {X : Cx}
/-- x == y, x != y, told deep -/
inductive rEqD (K : PySem.W.Frag) (neg : Bool) (x : V) (y : V) (H : Hp) (Q : VK) : Prop
  | mk : ∀ d e, (Dt K H d x) → (Dt K H e y) → (SeqAt.shaped d = true) → (SeqAt.shaped e = true) → (Q (.bl (if neg then !PyData.eqv d e else PyData.eqv d e)) H) → rEqD K neg x y H Q
theorem op_neD (hu : X.A.units + 64 < cLine) : OpR X (compareOp .NotEq) (rEqD X.K true) := by
  intro pins s σ H x y v u Q I rx ry h
  obtain ⟨d, e, h1, h2, s1, s2, q⟩ := h
  obtain ⟨as, p1⟩ := Dt.reads I d x v rx h1
  obtain ⟨bs, p2⟩ := Dt.reads I e y u ry h2
  exact SeqAt.compareNe_shaped p1 p2 s1 s2 hu ⟨.bl _, H, I, rfl, q⟩
end
end L2
set_option Elab.async false
set_option linter.all false
set_option maxRecDepth 100000
set_option maxHeartbeats 4000000
namespace L2
open PySem PySem.Spec PyProof.Rows
section
variable {X : Cx}
end
def csOk (sc S0 : Scope) : Bool := (sc.names.all fun y => (y.2 != .local || sc.names.lookup y.1 == some .local) && y.2 != .cell && (y.2 != .free || S0.names.lookup y.1 == some .cell))
theorem CS.of {sc S0 : Scope} (k : sc.kind = .function) (h : csOk sc S0 = true) : CS sc S0 := by
  have q : ∀ y ∈ sc.names, _ := List.all_eq_true.mp h
  refine ⟨k, fun y hy e => ?_, fun y hy e => ?_, fun y hy e => ?_⟩ <;> have z := q y hy <;> rw [Bool.and_eq_true, Bool.and_eq_true] at z <;> obtain ⟨⟨z1, z2⟩, z3⟩ := z
  · rw [e] at z1; simpa using z1
  · rw [e] at z2; simp at z2
  · rw [e] at z3; simpa using z3
end L2
set_option Elab.async false
set_option linter.all false
set_option maxRecDepth 100000
set_option maxHeartbeats 4000000
namespace L2
open PySem PySem.Spec PyProof.Rows
section
variable {prog : Program} {w : World} {A : Around} {E : Value → Shared → Prop} {s : Shared}
theorem nextOf_tup {it t : Addr} {i : Nat} {items : Array Value} {x : Value} {Q : Value → Shared → Prop} (hit : s.heap.IsTupleIter it t i) (ht : s.heap.IsTuple t items) (hx : items[i]? = some x)
    (hQ : ∀ h', h'.IsTupleIter it t (i + 1) → Heap.SameBut it s.heap h' → Q x { s with heap := h' }) : wpAny (model prog w) A (Builtin.SmallTypes.nextOf (.ref it)) Q E s := by
  obtain ⟨o, ho, hc, hd⟩ := id hit
  obtain ⟨ot, hot, _, nt, hdt⟩ := ht
  unfold Builtin.SmallTypes.nextOf
  refine wpAny_bind (wpAny_callSpecial?_slot (name := Str.ofString "__next__") hit.typeIs F.slot_tuple_iterator_next (wpAny_call_entry F.slot_tuple_iterator_next hit.typeIs F.entry_tuple_iterator_next ?_ (F.args_tuple_iterator_next_1 _)))
  show wpAny _ _ (field (.ref it) 0 >>= _) _ _ s
  refine wpAny_bind (wpAny_field ho hd (x := .ref t) rfl ?_)
  show wpAny _ _ (if (Value.ref t == Value.none) = true then _ else _) _ _ s
  rw [if_neg (show ¬ ((Value.ref t == Value.none) = true) from Bool.false_ne_true)]
  show wpAny _ _ (field (.ref it) 1 >>= _) _ _ s
  refine wpAny_bind (wpAny_field ho hd (x := .int i 0) rfl ?_)
  show wpAny _ _ (seqItems? (.ref t) >>= _) _ _ s
  refine wpAny_bind (wpAny_seqItems hot hdt ?_)
  simp only [Int.toNat_natCast, hx]
  refine wpAny_bind (wpAny_setField ho hd (by simp) (wpAny_pure ⟨x, rfl, wpAny_pure (hQ _ ?_ (Heap.SameBut.update ..))⟩))
  refine ⟨_, Heap.get?_update_self _ ho (Obj.isFreed_of_fields (Obj.data_mapFields hd _)), (Obj.cls_mapFields ..).trans hc, ?_⟩
  rw [Obj.data_mapFields hd]
  simp [rawInt]
theorem nextOf_tup_end {it t : Addr} {i : Nat} {items : Array Value} {Q : Value → Shared → Prop} (hh : A.handled = none) (hit : s.heap.IsTupleIter it t i) (ht : s.heap.IsTuple t items) (hx : items[i]? = none)
    (hE : ∀ h' e, Heap.ExtBut it s.heap h' → (∃ o, h'.get? e = some o ∧ o.cls = .type "StopIteration") → E (.ref e) { s with heap := h' }) : wpAny (model prog w) A (Builtin.SmallTypes.nextOf (.ref it)) Q E s := by
  obtain ⟨o, ho, hc, hd⟩ := id hit
  obtain ⟨ot, hot, _, nt, hdt⟩ := ht
  unfold Builtin.SmallTypes.nextOf
  refine wpAny_bind (wpAny_callSpecial?_slot (name := Str.ofString "__next__") hit.typeIs F.slot_tuple_iterator_next (wpAny_call_entry F.slot_tuple_iterator_next hit.typeIs F.entry_tuple_iterator_next ?_ (F.args_tuple_iterator_next_1 _)))
  show wpAny _ _ (field (.ref it) 0 >>= _) _ _ s
  refine wpAny_bind (wpAny_field ho hd (x := .ref t) rfl ?_)
  show wpAny _ _ (if (Value.ref t == Value.none) = true then _ else _) _ _ s
  rw [if_neg (show ¬ ((Value.ref t == Value.none) = true) from Bool.false_ne_true)]
  show wpAny _ _ (field (.ref it) 1 >>= _) _ _ s
  refine wpAny_bind (wpAny_field ho hd (x := .int i 0) rfl ?_)
  show wpAny _ _ (seqItems? (.ref t) >>= _) _ _ s
  refine wpAny_bind (wpAny_seqItems hot hdt ?_)
  simp only [Int.toNat_natCast, hx]
  refine wpAny_bind (wpAny_rule (wpAny_bind (wpAny_setField ho hd (by simp) ?_)))
  show wpAny _ _ (newExc (.type "StopIteration") [] >>= _) _ _ _
  refine wpAny_bind ?_
  simp only [newExc, newTuple]
  refine wpAny_bind (wpAny_newObj_type ?_ (by size_fits))
  refine wpAny_bind (m := firstArgMember _ _) (wpAny_of_eq (a := Value.none) (by first | rfl | (simp only [firstArgMember]; rfl)) ?_)
  refine wpAny_newObj_type ?_ (by size_fits)
  simp only [raiseNew]
  refine wpAny_bind (wpAny_handled ?_)
  first | rw [show A.in1.handled = none from hh] | rw [hh]
  refine wpAny_bind (wpAny_pure (wpAny_throw ?_))
  exact hE _ _ (((Heap.SameBut.update ..).extBut.push _).push _) ⟨_, Heap.get?_push_size _ rfl, rfl⟩
end
def ItOf (k : Bool) (h : Heap) (it a : Addr) (i : Nat) : Prop := match k with | true => h.IsListIter it a i | false => h.IsTupleIter it a i
def SqOf (k : Bool) (h : Heap) (a : Addr) (items : Array Value) : Prop := match k with | true => h.IsList a items | false => h.IsTuple a items
def itName (k : Bool) : String := match k with | true => "list_iterator" | false => "tuple_iterator"
def SqX (K : PySem.W.Frag) (k : Bool) (H : Hp) (a : Addr) (xs : List V) : Prop := match k with | true => SqL K H a xs | false => SqT K H a xs
theorem ItOf.at {k : Bool} {h h' : Heap} {it a : Addr} {i : Nat} (x : ItOf k h it a i) (g : ∀ o, h.get? it = some o → h'.get? it = some o) : ItOf k h' it a i := by
  cases k
  · obtain ⟨o, e, r⟩ := x; exact ⟨o, g o e, r⟩
  · obtain ⟨o, e, r⟩ := x; exact ⟨o, g o e, r⟩
theorem ItOf.live {k : Bool} {h : Heap} {it a : Addr} {i : Nat} (x : ItOf k h it a i) : ∃ o, h.get? it = some o ∧ ∀ v, o.data ≠ .cell v := by
  cases k
  · obtain ⟨o, e, c, d⟩ := x; exact ⟨o, e, fun v z => by rw [d] at z; cases z⟩
  · obtain ⟨o, e, c, d⟩ := x; exact ⟨o, e, fun v z => by rw [d] at z; cases z⟩
theorem SqOf.at {k : Bool} {h h' : Heap} {a : Addr} {items : Array Value} (x : SqOf k h a items) (g : ∀ o, h.get? a = some o → h'.get? a = some o) : SqOf k h' a items := by
  cases k
  · obtain ⟨o, e, r⟩ := x; exact ⟨o, g o e, r⟩
  · obtain ⟨o, e, r⟩ := x; exact ⟨o, g o e, r⟩
theorem SqOf.there {k : Bool} {h : Heap} {a : Addr} {items : Array Value} (x : SqOf k h a items) : ∃ o, h.get? a = some o := by
  cases k
  · obtain ⟨o, e, r⟩ := x; exact ⟨o, e⟩
  · obtain ⟨o, e, r⟩ := x; exact ⟨o, e⟩
theorem SqOf.lt {k : Bool} {h : Heap} {a : Addr} {items : Array Value} (x : SqOf k h a items) : a < h.objs.size := let ⟨_, e⟩ := x.there; Heap.lt_size e
theorem ItOf.new (k : Bool) (h : Heap) (a : Addr) : ItOf k (h.push { cls := .type (itName k), data := .fields #[.ref a, .int 0 0] }) h.objs.size a 0 := by
  cases k
  · exact ⟨_, Heap.get?_push_size _ rfl, rfl, rfl⟩
  · exact ⟨_, Heap.get?_push_size _ rfl, rfl, rfl⟩
theorem Inv.sq {X : Cx} {pins : List (Addr × Obj)} {σ : St} {H : Hp} {s : Shared} {k : Bool} {a : Addr} {xs : List V} (I : Inv X pins σ H s) (h : SqX X.K k H a xs) : ∃ its : List Value, Vals xs its ∧ SqOf k s.heap a its.toArray := by
  cases k
  · obtain ⟨its, r, p, _⟩ := I.tuple h
    exact ⟨its, r, p⟩
  · obtain ⟨its, r, p, _⟩ := I.list h
    exact ⟨its, r, p.isList⟩
theorem Inv.sq_inj {X : Cx} {pins : List (Addr × Obj)} {σ : St} {H : Hp} {s : Shared} {k : Bool} {a : Addr} {xs ys : List V} (I : Inv X pins σ H s) (h : SqX X.K k H a xs) (h' : SqX X.K k H a ys) : xs = ys := by
  cases k
  · exact I.tuple_inj h h'
  · exact I.list_inj h h'
section
variable {prog : Program} {w : World} {A : Around} {E : Value → Shared → Prop} {s : Shared}
theorem draws_sq (hh : A.handled = none) (k : Bool) (it a : Addr) (hne : a ≠ it) (items : Array Value) : Draws prog w A it [it, a] items.size (fun i v => items[i]? = some v) (fun i h => ItOf k h it a i ∧ SqOf k h a items) where
  live := fun _ _ st => let ⟨o, ho, _⟩ := st.1.live; ⟨o, ho⟩
  frame := fun _ _ _ st hk => ⟨st.1.at fun o e => hk it (by simp) o e, st.2.at fun o e => hk a (by simp) o e⟩
  item := fun i s Q E hi st hQ => by
    have hx : items[i]? = some items[i] := by simp [hi]
    cases k
    · exact nextOf_tup st.1 st.2 hx fun h' hit' hs' => hQ _ h' s.toks hx ⟨hit', st.2.at fun o e => hs'.extBut a o hne e⟩ hs'
    · exact wpAny_nextOf_list_item st.1 st.2 hx fun h' hit' hs' => hQ _ h' s.toks hx ⟨hit', st.2.at fun o e => hs'.extBut a o hne e⟩ hs'
  done := fun s Q E st hE => by
    cases k
    · exact nextOf_tup_end hh st.1 st.2 (by simp) hE
    · exact wpAny_nextOf_list_end hh st.1 st.2 (by simp) hE
end
theorem Inv.turnedL {X : Cx} {pins : List (Addr × Obj)} {σ : St} {H : Hp} {s : Shared} {h' : Heap} {t' : Nat} {ch : List Addr} (I : Inv X pins σ H s) (k : ∀ b o, b ∉ ch → s.heap.get? b = some o → h'.get? b = some o) (hf : ∀ b ∈ ch, FpOk X pins H b) :
    Inv X pins σ H { s with heap := h', toks := t' } := by
  have nit : ∀ b u, H b = some u → b ∉ ch := fun b u e z => by rw [(hf b z).1] at e; cases e
  refine I.step (g' := s.gens) (d' := s.drawn) (ch := ch) (fun b hb => ?_) (fun b o _ _ hc e _ => k b o hc e) (fun b o _ _ hc e _ => ⟨o.slots, k b o hc e⟩) (fun _ _ _ _ n => n)
    (fun b o hc e => ⟨o, k b o hc e⟩) (fun _ _ e => e) (fun _ _ _ e => e) (fun b ps e => ⟨#[], by rw [e]; simp⟩) (fun m hm => ?_) (fun b u e => ?_) I.bare
  · obtain ⟨f0, f1, f2, f3, f4, f5⟩ := hf b hb
    exact ⟨f3, f1, f4, f5⟩
  · obtain ⟨o, es, ep, ho, r⟩ := hm
    exact ⟨o, es, ep, k _ o (fun z => (hf _ z).2.1 rfl) ho, r⟩
  · refine (I.hok b u e).stay (fun c v hc q => k c v ?_ q) (fun _ q => q) fun _ _ q => q
    rcases hc with z | z
    · rw [z]; exact nit b u e
    · exact nit c _ z
end L2
set_option Elab.async false
set_option linter.all false
set_option maxRecDepth 100000
set_option maxHeartbeats 4000000
namespace L2
open PySem PySem.Spec PyProof.Rows
open AutoSeq1 (wpAny_loadPart')
theorem enum_new_tup (l : Addr) (items : Array Value) (n : Nat) (dct : Option Addr) (sl : Array (Option Value)) :
    Meets (Builtin.«enumerate.__new__» ⟨[.type "enumerate", .ref l], []⟩) (fun _ R s => s.heap.get? l = some { cls := .type "tuple", dict := dct, data := .seq items n, slots := sl } ∧
      R (.ok (.ret (.ref (s.heap.push { cls := .type "tuple_iterator", data := .fields #[.ref l, .int 0 0] }).objs.size)))
        { s with heap := (s.heap.push { cls := .type "tuple_iterator", data := .fields #[.ref l, .int 0 0] }).push { cls := .type "enumerate", data := .fields #[.none, .bool false, .ref s.heap.objs.size, rawInt 0, .none, .none] } }) :=
  .of_wp fun prog w A R s h => by
    obtain ⟨hp, g, d, tk, os⟩ := s; obtain ⟨hl, h⟩ := h
    have hsub := sub_enumerate
    have hL : Heap.IsTuple (Shared.heap ⟨hp, g, d, tk, os⟩) l items := ⟨_, hl, rfl, n, rfl⟩
    wp_walk using wpAny_loadPart' hl
    refine wpAny_stack_any fun st => wpAny_pure ?_
    split
    · rename_i c _ _ _ _ _
      cases (c == Value.type "enumerate")
      · wp_walk using wpAny_loadPart' hl, wpAny_pyIter_tuple hL
        exact ⟨_, rfl, h⟩
      · wp_walk using wpAny_loadPart' hl, wpAny_pyIter_tuple hL
        exact ⟨_, rfl, h⟩
    · wp_walk using wpAny_loadPart' hl, wpAny_pyIter_tuple hL
      exact ⟨_, rfl, h⟩
section
variable {prog : Program} {w : World} {A : Around} {E : Value → Shared → Prop} {s : Shared}
theorem call_enum_sq {k : Bool} {l : Addr} {items : Array Value} {Q : Value → Shared → Prop} (hL : SqOf k s.heap l items)
    (h : ∀ h', IsEnum h' (s.heap.objs.size + 1) s.heap.objs.size 0 .none → ItOf k h' s.heap.objs.size l 0 → (∀ b o, s.heap.get? b = some o → h'.get? b = some o) → Q (.ref (s.heap.objs.size + 1)) { s with heap := h' }) :
    wpAny (model prog w) A (call (.type "enumerate") [.ref l]) Q E s := by
  cases k
  · obtain ⟨⟨c, dct, dt, sl⟩, hl, hc, n, hd⟩ := hL
    replace hc : c = .type "tuple" := hc
    replace hd : dt = .seq items n := hd
    subst hc hd
    refine callType_new F.called_enumerate (by decide) (F.typeCall_enumerate_1 _) (F.newCall_enumerate_1 _) (fun obj => F.args_object_init_2 obj _) F.entry_enumerate_new (enum_new_tup l items n dct sl) ⟨hl, ?_⟩
    have hz : (s.heap.push { cls := .type "tuple_iterator", data := .fields #[.ref l, .int 0 0] }).objs.size = s.heap.objs.size + 1 := Heap.size_push ..
    show _ ∧ _
    rw [hz]
    have he := Heap.get?_push_size (s.heap.push { cls := .type "tuple_iterator", data := .fields #[.ref l, .int 0 0] }) (o := { cls := .type "enumerate", data := .fields #[.none, .bool false, .ref s.heap.objs.size, rawInt 0, .none, .none] }) rfl
    rw [hz] at he
    exact ⟨⟨_, he, rfl⟩, h _ he ⟨_, Heap.get?_push_of_some _ (Heap.get?_push_size _ rfl), rfl, rfl⟩ fun b o x => Heap.get?_push_of_some _ (Heap.get?_push_of_some _ x)⟩
  · exact call_enumerate_list hL fun h' he hi _ hk => h h' he hi hk
end
theorem sq_it {k k' : Bool} {h : Heap} {a it b : Addr} {i : Nat} {items : Array Value} (x : SqOf k h a items) (y : ItOf k' h it b i) : a ≠ it := by
  intro z
  subst z
  cases k <;> cases k' <;> obtain ⟨o, e, c, _⟩ := x <;> obtain ⟨o', e', c', _⟩ := y <;> rw [e] at e' <;> cases e' <;> rw [c] at c' <;> revert c' <;> decide
theorem cls_ne {h : Heap} {a b : Addr} {o u : Obj} {m n : String} (h1 : h.get? a = some o) (h2 : h.get? b = some u) (c1 : o.cls = .type m) (c2 : u.cls = .type n) (d : m ≠ n) : a ≠ b := by
  intro z
  subst z
  rw [h1] at h2
  cases h2
  rw [c1] at c2
  injection c2 with e
  exact d e
theorem ItOf.cls {k : Bool} {h : Heap} {it a : Addr} {i : Nat} (x : ItOf k h it a i) : ∃ o, h.get? it = some o ∧ o.cls = .type (itName k) := by
  cases k <;> obtain ⟨o, e, c, _⟩ := x <;> exact ⟨o, e, c⟩
def sqName (k : Bool) : String := match k with | true => "list" | false => "tuple"
theorem SqOf.cls {k : Bool} {h : Heap} {a : Addr} {items : Array Value} (x : SqOf k h a items) : ∃ o, h.get? a = some o ∧ o.cls = .type (sqName k) := by
  cases k <;> obtain ⟨o, e, c, _⟩ := x <;> exact ⟨o, e, c⟩
/-- a new pair handed out by an iterator, its records turned -/
theorem Inv.handed {X : Cx} {pins : List (Addr × Obj)} {σ : St} {H : Hp} {s : Shared} {h' : Heap} {t' : Nat} {ch : List Addr} {x y : V} {u v : Value} (I : Inv X pins σ H s) (rx : RelV x u) (ry : RelV y v)
    (hT : h'.get? s.heap.objs.size = some { cls := .type "tuple", data := .seq #[u, v] }) (k : ∀ b o, b ∉ ch → s.heap.get? b = some o → h'.get? b = some o) (hf : ∀ b ∈ ch, FpOk X pins H b) (hlt : ∀ b ∈ ch, b < s.heap.objs.size) :
    Inv X pins σ (upd H s.heap.objs.size (.tup [x, y])) { s with heap := h', toks := t' } ∧ (∀ b ∈ ch, upd H s.heap.objs.size (.tup [x, y]) b = none) := by
  have hn : ∀ b ∈ ch, upd H s.heap.objs.size (.tup [x, y]) b = none := fun b hb => by rw [upd_ne (Nat.ne_of_lt (hlt b hb))]; exact (hf b hb).1
  have I1 : Inv X pins σ (upd H s.heap.objs.size (.tup [x, y])) { s with heap := s.heap.push { cls := .type "tuple", data := .seq #[u, v] }, toks := s.toks } :=
    I.laid (fun b o e => Heap.get?_push_of_some _ e) (Nat.le_refl _) ⟨by simp only [List.length_cons, List.length_nil]; rw [sizeLine_eq]; decide, [u, v], .cons rx (.cons ry .nil), ⟨_, Heap.get?_push_size _ rfl, rfl, 0, rfl, rfl⟩⟩
  have I2 := Inv.turnedL (h' := h') (t' := t') (ch := ch) I1 (fun b o hb e => by
    rcases Heap.get?_push_cases e with ⟨rfl, rfl⟩ | e
    · exact hT
    · exact k b o hb e) (fun b hb => by
    obtain ⟨f0, f1, f2, f3, f4, f5⟩ := hf b hb
    exact ⟨hn b hb, f1, f2, f3, f4, f5⟩)
  exact ⟨I2, hn⟩
/-- (i, x) of a list or tuple -/
def Ite (k : Bool) (K : PySem.W.Frag) (a : Addr) : It :=
  ⟨fun i H => ∃ xs x, SqX K k H a xs ∧ xs[i]? = some x, fun i H v H' => ∃ T x, H T = none ∧ v = .ref T ∧ (∀ xs, SqX K k H a xs → xs[i]? = some x) ∧ H' = upd H T (.tup [.int i, x]), fun i H => ∃ xs, SqX K k H a xs ∧ xs.length = i⟩
theorem turn_enum {P : Program} {w : World} {K : PySem.W.Frag} {elts : List Expr} {x1} {pos : Pos} (k : Bool) (a e it : Addr) : Turn P w K (.Tuple elts x1 pos) (Ite k K a) [e, it] e (fun i h => (∃ old, IsEnum h e it i old) ∧ ItOf k h it a i) where
  mem := by simp
  obj := fun i h st b hb => by
    obtain ⟨⟨old, he⟩, hi⟩ := st
    rcases List.mem_cons.mp hb with rfl | hb
    · exact ⟨_, he, fun v z => by cases z⟩
    · have : b = it := by simpa using hb
      subst this
      exact hi.live
  keep := fun i h h' st kk => by
    obtain ⟨⟨old, he⟩, hi⟩ := st
    exact ⟨⟨old, kk e (by simp) _ he⟩, hi.at fun o q => kk it (by simp) o q⟩
  item := by
    intro X hP hw hK hc i pins s σ H E I hf st hg
    subst hP hw hK
    obtain ⟨⟨old, he⟩, hi⟩ := st
    obtain ⟨xs, x, hq, hx⟩ := hg
    obtain ⟨its, rv, p⟩ := I.sq hq
    obtain ⟨u, hu, ru⟩ := rv.get hx
    have nai := sq_it p hi
    obtain ⟨oi, ei, ci⟩ := hi.cls
    obtain ⟨oa, ea, ca⟩ := p.cls
    have nei : e ≠ it := cls_ne he ei rfl ci (by cases k <;> decide)
    have nea : e ≠ a := cls_ne he ea rfl ca (by cases k <;> decide)
    have D := draws_sq (prog := X.prog) (w := X.w) (A := X.A.in1) (I.ok.hd hc) k it a nai its.toArray
    have hlt : i < its.toArray.size := by
      have := (List.getElem?_eq_some_iff.mp hu).1
      simpa using this
    refine wpAny_pyNext_enum_itemD D he ⟨hi, p⟩ hlt nei (by simp [nei, nea]) fun y h' tk hy ho hs' hT hz hk => ?_
    have ey : y = u := by
      have hy' : its[i]? = some y := by simpa using hy
      rw [hu] at hy'
      exact (Option.some.inj hy').symm
    subst ey
    refine ⟨_, rfl, wpAny_letOwnedTupleGo_enum ho fun h2 he2 hs2 => ?_⟩
    have hel : e < s.heap.objs.size := Heap.lt_size he
    have hil : it < s.heap.objs.size := Heap.lt_size ei
    have hT2 : h2.get? s.heap.objs.size = some { cls := .type "tuple", data := .seq #[.int i tk, y] } := hs2.extBut _ _ (Nat.ne_of_gt hel) hT
    obtain ⟨I2, n2⟩ := I.handed (x := .int i) (u := .int i tk) (t' := tk + 1) (ch := [e, it]) ⟨tk, rfl⟩ ru hT2 (fun b o hb q => hs2.extBut b o (fun z => hb (by simp [z])) (hk b o (fun z => hb (by simp [z])) (fun z => hb (by simp [z])) q)) hf
      (fun b hb => by rcases List.mem_cons.mp hb with rfl | hb; exact hel; rw [List.mem_singleton.mp hb]; exact hil)
    refine ⟨.ref s.heap.objs.size, _, I2, rfl, ⟨_, x, I.hok.fresh (Nat.le_refl _), rfl, fun ys hys => by rw [I.sq_inj hys hq]; exact hx, rfl⟩, ⟨⟨_, by simpa using he2⟩, hs'.1.at fun o q => hs2.extBut it o nei.symm q⟩, n2⟩
  done := by
    intro X hP hw hK hc i pins s σ H E I hf st hg
    subst hP hw hK
    obtain ⟨⟨old, he⟩, hi⟩ := st
    obtain ⟨xs, hq, hx⟩ := hg
    obtain ⟨its, rv, p⟩ := I.sq hq
    have nai := sq_it p hi
    have D := draws_sq (prog := X.prog) (w := X.w) (A := X.A.in1) (I.ok.hd hc) k it a nai its.toArray
    have hl : its.toArray.size = i := by rw [← hx, rv.length]; simp
    refine wpAny_pyNext_enum_endD D he ⟨hl ▸ hi, p⟩ fun h' eb => ⟨rfl, I.turnedL (t' := s.toks) (ch := [it]) (fun b o hb q => eb b o (fun z => hb (by simp [z])) q) fun b hb => hf b (by simp at hb ⊢; exact .inr hb)⟩
  self := fun _ _ _ _ _ st h => by
    obtain ⟨⟨old, he⟩, _⟩ := st
    exact wpAny_pyIter_enum he h
section
variable {X : Cx}
inductive iEnumY (k : Bool) (K : PySem.W.Frag) (R : It → Hp → Prop) (vs : List V) (H1 : Hp) : Prop
  | mk : ∀ a, (vs = [.ref a]) → ((∃ xs, SqX K k H1 a xs)) → (R (Ite k K a) H1) → iEnumY k K R vs H1
def iEnum (k : Bool) (K : PySem.W.Frag) (ta : TA) : TI := fun σ H R => ta σ H fun vs H1 => iEnumY k K R vs H1
theorem pi_enum (k : Bool) {a : Expr} {ta : TA} {p pos tpos : Pos} {elts : List Expr} {x1} (hg : Gl X "enumerate") (hm : X.mg "enumerate" = none) (ha : PA X [a] ta) (hs : starEach [a] X.env = [(false, eval a X.env)] := by rfl) :
    PI X (.Tuple elts x1 tpos) (.Call (.Name "enumerate" p) [a] [] pos) (iEnum k X.K ta) := by
  intro pins s σ H R I h
  refine Call_ (ld_blt I hg hm boot_enumerate (PyProof.Rows.callWith_type1 (thn (ha pos pins s σ H _ I h) fun us s1 ⟨vs, H1, I1, r1, q1⟩ => ?_) hs rfl))
  obtain ⟨l, rfl, ⟨xs, hq⟩, q⟩ := q1
  obtain ⟨u, rfl, r⟩ := vals1 r1
  cases r
  obtain ⟨its, rv, pq⟩ := I1.sq hq
  refine call_enum_sq pq fun h' he hi hk => ?_
  refine wpAny_pyIter_enum (s := { s1 with heap := h' }) he ?_
  have f : ∀ b, s1.heap.objs.size ≤ b → FpOk X pins H1 b := fun b hb => I1.fpOk hb (I1.hok.fresh hb)
  refine ⟨_, [s1.heap.objs.size + 1, s1.heap.objs.size], _, _, H1, rfl, I1.kept (t' := s1.toks) hk, turn_enum k l _ _, ⟨⟨_, he⟩, hi⟩, fun b hb => ?_, q⟩
  rcases List.mem_cons.mp hb with rfl | hb
  · exact f _ (by omega)
  · rw [List.mem_singleton.mp hb]; exact f _ (Nat.le_refl _)
end
end L2
set_option Elab.async false
set_option linter.all false
set_option maxRecDepth 100000
set_option maxHeartbeats 4000000
namespace L2
open PySem PySem.Spec PyProof.Rows
section
variable {prog : Program} {w : World} {A : Around} {E : Value → Shared → Prop} {s : Shared} {z TI TO i1 i2 : Addr} {fp1 fp2 : List Addr} {n1 n2 j : Nat} {P1 P2 : Nat → Value → Prop} {S1 S2 : Nat → Heap → Prop} {a b : Value}
end
end L2
set_option Elab.async false
set_option linter.all false
set_option maxRecDepth 100000
set_option maxHeartbeats 4000000
namespace L2
open PySem PySem.Spec PyProof.Rows
section
variable {prog : Program} {w : World} {A : Around} {E : Value → Shared → Prop} {s : Shared}
end
section
variable {X : Cx}
end
end L2
set_option Elab.async false
set_option linter.all false
set_option maxRecDepth 100000
set_option maxHeartbeats 4000000
namespace L2
open PySem PySem.Spec PyProof.Rows
section
variable {X : Cx} {tg iter el : Expr} {ifs : List Expr} {sc : Scope} {pos py spos : Pos} {Nc : List Str} {js : List (Option Nat)} {wi : TI} {i : Nat} {y : Str}
/-- name = [el for tg in iter if ..], the name a local one: it is stored ahead of the block's end -/
theorem ps_lc1x {g : TG} {bd : Addr → TB} (hx : X.xe = fun _ _ => False) (hc : X.calm = true) (hN : X.N.Nodup) (hiN : X.N[i]? = some y) (hy : Loc X.env.scope y) (hi : PI X tg iter wi) (S : CS sc X.env.scope) (cap : capOk js Nc X.N sc.names = true)
    (hg : ∀ C s₂ H₂ fp pins, PG (cxC X Nc sc C s₂ H₂ fp pins) tg g)
    (hb : ∀ C s₂ H₂ fp pins D L, PTl (cxC X Nc sc C s₂ H₂ fp pins) (tailOf ifs (cxC X Nc sc C s₂ H₂ fp pins).env (do let _ ← call (.builtin "list.append") [.ref D, ← eval el (cxC X Nc sc C s₂ H₂ fp pins).env]) L) L (bd D))
    (hs : ∀ x, foldedSetIterable iter X.env x = pure x := by intro _; rfl)
    (hsw : swapsWith (.ListComp el [⟨tg, iter, ifs, 0⟩] sc pos) (some (.Name y py)) spos.line X.env = pure true := by rfl)
    (hf : X.fn y = true ∨ X.env.scope.names.lookup y = some .local := by first | exact .inl rfl | exact .inr rfl | assumption) :
    PS X (.Assign [.Name y py] (.ListComp el [⟨tg, iter, ifs, 0⟩] sc pos) spos) (tAsg (tLC js wi g bd) (gName i)) := by
  intro pins s σ H D0 I h
  have hcl : closureFor sc X.env = pure (clOf sc X.env) := closure_of fun y hy hf => I.ok.has y.1 (.inl (S.free y hy hf))
  rw [exec_Assign_Name_used _ _ _ _ hsw]
  refine wpAny_bind (wpAny_standAt (wpAny_bind ?_))
  show wpAny _ X.A (do let _ ← comprehension (.ListComp el [⟨tg, iter, ifs, 0⟩] sc pos) sc X.env _ (newList []) false (eval iter X.env) (some (assign (.Name y py) X.env))) _ _ s
  refine wpAny_bind (wpAny_mono (wpAny_comprehension_free (use := some (assign (.Name y py) X.env)) (Q := fun _ s' => SP X pins D0 .next s') rfl hs hcl S.kind S.names
    (thn (hi pins s σ H _ I h) fun v s1 h1 => thn h1 fun itv s2 h2 => ?_)) (fun _ s' hq => wpAny_pure (wpAny_pure hq)) fun _ _ e => e)
  obtain ⟨it, fp, tn, J, H2, e, I2, T, st2, f2, hw⟩ := h2
  subst e
  have hlt : ∀ b ∈ fp, b < s2.heap.objs.size := fun b hb => let ⟨o, ho, _⟩ := T.obj _ _ st2 b hb; Heap.lt_size ho
  refine wpAny_newObj_type (wpAny_newFunctionEnv S.nocell (by intro y hy; simp at hy) (fun h₁ hns₁ hsb₁ => ?_) S.kind)
  dsimp only at hns₁ hsb₁ ⊢
  generalize hH2 : s2.heap.push { cls := .type "list", dict := none, data := .seq ([] : List Value).toArray } = G at hns₁ hsb₁ ⊢
  have hCs : G.objs.size = s2.heap.objs.size + 1 := by rw [← hH2, Heap.size_push]
  have hDC : s2.heap.objs.size ≠ G.objs.size := by omega
  have hCle : s2.heap.objs.size ≤ G.objs.size := by omega
  have old : ∀ b o, s2.heap.get? b = some o → h₁.get? b = some o := fun b o e => hsb₁.extBut b o (Nat.ne_of_lt (Nat.lt_of_lt_of_le (Heap.lt_size e) hCle)) (Heap.get?_push_of_some _ (hH2 ▸ Heap.get?_push_of_some _ e))
  have hacc : h₁.get? s2.heap.objs.size = some { cls := .type "list", dict := none, data := .seq ([] : List Value).toArray } := hsb₁.extBut _ _ hDC (Heap.get?_push_of_some _ (hH2 ▸ Heap.get?_push_size _ rfl))
  have new : ObjOk X.prog X.w (upd H2 s2.heap.objs.size (.lst [])) h₁ s2.heap.objs.size (.lst []) := ⟨Nat.zero_le _, [], _, .nil, hacc⟩
  have I4 := inv_comp (js := js) (Nc := Nc) (tk := s2.toks + ([] : List (Str × Value)).length) I2 S f2 hlt cap hCle (Nat.le_refl _) hDC old hns₁ new
  have hn : H2 s2.heap.objs.size = none := I2.fresh
  have f4 : ∀ b ∈ fp, FpOk (cxC X Nc sc G.objs.size s2 H2 fp pins) [] (upd H2 s2.heap.objs.size (.lst [])) b := fun b hb => by
    obtain ⟨h0, h1, h2, h3, h4, h5⟩ := f2 b hb
    refine ⟨?_, Nat.ne_of_lt (Nat.lt_of_lt_of_le (hlt b hb) hCle), fun z => ?_, .inl hb, fun x c z => ?_, fun p hp => ?_⟩
    · rw [upd_ne (Nat.ne_of_lt (hlt b hb))]; exact h0
    · rcases List.mem_cons.mp (I2.stkSub b z) with q | q
      · exact h1 q
      · exact h2 q
    · exact h4 x c (cl_in sc.names [] (fun z => nomatch z) z)
    · rcases List.mem_append.mp hp with z | z
      · exact h5 p z
      · exact absurd z (by simp)
  have st4 : tn 0 h₁ := T.keep _ _ _ st2 fun b hb o e => old b o e
  have loop : codeAny (model X.prog X.w) X.A (.compLoop (.ListComp el [⟨tg, iter, ifs, 0⟩] sc pos) 0 (.ref it) (.ref s2.heap.objs.size) (compEnvC sc (clOf sc X.env) G.objs.size X.env))
      (compPost (model X.prog X.w) X.A X.xe (some (assign (.Name y py) X.env)) (fun _ s' => SP X pins D0 .next s') (.ref s2.heap.objs.size) G.objs.size) { s2 with heap := h₁, toks := s2.toks + ([] : List (Str × Value)).length } := by
    refine comp_loop (X := cxC X Nc sc G.objs.size s2 H2 fp pins) (.inl ⟨el, rfl⟩) hx hc (turn_l1 _ _ _ _ _ _ _ _ _) T (hg _ _ _ _ _) (hb _ _ _ _ _ _ _) I4 st4 f4 (hw _ hn) fun σ' H' s' I' q => ?_
    obtain ⟨m', hm', _⟩ := I'.loc
    have IB : Inv X pins σ H' { s' with heap := s'.heap } := inv_back I2 f2 hCle I' (Heap.SameBut.refl ..)
    have nC : H' G.objs.size = none := I'.free
    have fC : FpOk X pins H' G.objs.size := I2.fpOk hCle nC
    show wpAny _ X.A (assign (.Name y py) X.env (.ref s2.heap.objs.size)) _ _ s'
    refine wpAny_assign_Name (store_ok2 (v := .ref s2.heap.objs.size) IB hN hiN hy rfl (fun s'' IC hsb => ?_) hf)
    obtain ⟨a, sb, ha⟩ := hsb
    have aC : G.objs.size ≠ a := by
      rcases ha with rfl | ha
      · exact fC.2.1
      · exact fun z => fC.2.2.2.2.1 y a ha z.symm
    refine ⟨m', hm'.sameBut sb aC, fun h' hs' => ?_⟩
    exact ⟨_, H', IC.turnedL (t' := s''.toks) (ch := [G.objs.size]) (fun b o hb' e => hs'.extBut b o (fun z => hb' (by simp [z])) e) (fun b hb' => by rw [List.mem_singleton.mp hb']; exact fC), q⟩
  exact comp_start (.inl ⟨el, rfl⟩) rfl rfl loop (T.self _ _ _ _ _ st4 loop)
end
theorem for_enum {k : Bool} {K : PySem.W.Frag} {a : Addr} {xs : List V} {g : TG} {tb : TS} {D : Ends} {σ : St} {H : Hp} (Pv : Nat → St → Hp → Prop) (h0 : Pv 0 σ H) (hl : ∀ i σ H, i ≤ xs.length → Pv i σ H → SqX K k H a xs)
    (hs : ∀ i x T σ H, xs[i]? = some x → H T = none → Pv i σ H → g (.ref T) σ (upd H T (.tup [.int i, x])) fun σ2 H2 => tb { D with nx := Pv (i + 1), ct := Pv (i + 1), bk := D.nx } σ2 H2) (hd : ∀ σ H, Pv xs.length σ H → D.nx σ H) :
    ∃ W : Nat → Nat → St → Hp → Prop, (∃ m, W 0 m σ H) ∧ ∀ i m σ H, W i m σ H →
      ((Ite k K a).stop i H ∧ D.nx σ H) ∨ ((Ite k K a).go i H ∧ ∃ N : St → Hp → Prop, (∀ σ' H', N σ' H' → ∃ m', m' < m ∧ W (i + 1) m' σ' H') ∧ ∀ x H', (Ite k K a).yld i H x H' → g x σ H' fun σ2 H2 => tb { D with nx := N, ct := N, bk := D.nx } σ2 H2) := by
  refine ⟨fun i m σ H => m = xs.length - i ∧ i ≤ xs.length ∧ Pv i σ H, ⟨xs.length, by simp, Nat.zero_le _, h0⟩, ?_⟩
  rintro i m σ H ⟨rfl, hle, p⟩
  have q1 := hl i σ H hle p
  by_cases hi : i < xs.length
  · refine .inr ⟨⟨xs, xs[i], q1, by simp [hi]⟩, Pv (i + 1), fun σ' H' q => ⟨xs.length - (i + 1), by omega, rfl, by omega, q⟩, fun x H' hy => ?_⟩
    obtain ⟨T, x1, nT, rfl, e1, rfl⟩ := hy
    exact hs i x1 T σ H (e1 xs q1) nT p
  · have : i = xs.length := by omega
    subst this
    exact .inl ⟨⟨xs, q1, rfl⟩, hd σ H p⟩
end L2
set_option Elab.async false
set_option linter.all false
set_option maxRecDepth 100000
set_option maxHeartbeats 4000000
namespace L2
open PySem PySem.Spec PyProof.Rows
theorem range_all (bs : List Bool) : (List.range bs.length).all (fun i => bs.getD i false) = bs.all id := by
  rw [Bool.eq_iff_iff, List.all_eq_true, List.all_eq_true]
  constructor
  · intro h b hb
    obtain ⟨i, hi, rfl⟩ := List.mem_iff_getElem.mp hb
    have := h i (List.mem_range.mpr hi)
    simpa [List.getD_eq_getElem?_getD, hi] using this
  · intro h i hi
    have hl : i < bs.length := List.mem_range.mp hi
    have := h bs[i] (List.getElem_mem hl)
    simpa [List.getD_eq_getElem?_getD, hl] using this
theorem vals_bl : ∀ {bs : List Bool} {its : List Value}, Vals (bs.map V.bl) its → its = bs.map Value.bool
  | [], _, r => by cases r; rfl
  | b :: bs, _, r => by
    cases r with
    | cons r1 r2 =>
      cases r1
      rw [vals_bl r2]
      rfl
section
variable {X : Cx}
theorem truth_bl {prog : Program} {w : World} {A : Around} {bs : List Bool} {items : Array Value} (e : items = (bs.map Value.bool).toArray) : TruthOf prog w A (fun i v => items[i]? = some v) (fun i => bs.getD i false) := by
  intro i v s Q E h q
  rw [e] at h
  have h' : (bs.map Value.bool)[i]? = some v := by simpa using h
  rw [List.getElem?_map] at h'
  cases z : bs[i]? with
  | none => rw [z] at h'; cases h'
  | some b =>
    rw [z] at h'
    cases h'
    refine wpAny_truthy_bool ?_
    simpa [List.getD_eq_getElem?_getD, z] using q
inductive call_allLY (K : PySem.W.Frag) (xs : List V) (H : Hp) (Q : VK) : Prop
  | mk : ∀ (a : Addr) (bs : List Bool), (xs = [.ref a]) → (SqL K H a (bs.map V.bl)) → (Q (.bl (bs.all id)) H) → call_allLY K xs H Q
theorem call_allL (hc : X.calm = true) : CallR X (.builtin "all") (call_allLY X.K) := by
  intro pins s σ H xs us Q I r h
  obtain ⟨a, bs, rfl, hS, q⟩ := h
  obtain ⟨u, rfl, r1⟩ := vals1 r
  cases r1
  obtain ⟨its, rv, ht, hz⟩ := I.list hS
  have hl := ht.isList
  have hne : a ≠ s.heap.objs.size := by obtain ⟨o, e, _⟩ := hl; exact Nat.ne_of_lt (Heap.lt_size e)
  have eits := vals_bl rv
  refine call_all_walk (wpAny_pyIter_list hl ⟨_, _, _, _, _, _, _, rfl, Walks.list (A := X.A.in1) (I.ok.hd hc) _ a hne its.toArray, ⟨⟨_, Heap.get?_push_size _ rfl, rfl, rfl⟩, hl.push _⟩, truth_bl (bs := bs) (by rw [eits]), fun h' tk hk => ?_⟩)
  have e : its.toArray.size = bs.length := by rw [eits]; simp
  rw [e, range_all]
  refine ⟨.bl _, H, I.kept fun b o e' => hk b o (fun z => ?_) (Heap.get?_push_of_some _ e'), rfl, q⟩
  rw [List.mem_singleton.mp z] at e'
  exact absurd (Heap.lt_size e') (Nat.lt_irrefl _)
end
end L2
set_option Elab.async false
set_option linter.all false
set_option maxRecDepth 100000
set_option maxHeartbeats 4000000
namespace L2
open PySem PySem.Spec PyProof.Rows
section
variable {X : Cx}
end
mutual
/-- tuples, ints, truths, texts alone -/
def onlyT : PyData → Bool
  | .none | .bool _ | .int _ | .str _ => true
  | .tuple xs => onlyTs xs
  | .list _ | .dict _ => false
def onlyTs : List PyData → Bool
  | [] => true
  | x :: xs => onlyT x && onlyTs xs
end
mutual
theorem reads_no {h : Heap} : ∀ (d : PyData) (u : Value) (as : List Addr), Reads h u d as → onlyT d = true → as = []
  | .none, _, _, r, _ => by cases r; rfl
  | .bool _, _, _, r, _ => by cases r; rfl
  | .int _, _, _, r, _ => by cases r; rfl
  | .str _, _, _, r, _ => by cases r; rfl
  | .tuple xs, _, _, r, e => by
    cases r with
    | tuple h1 h2 h3 h4 => exact reads_nos xs _ _ h4 (by simpa [onlyT] using e)
  | .list _, _, _, _, e => by simp [onlyT] at e
  | .dict _, _, _, _, e => by simp [onlyT] at e
theorem reads_nos {h : Heap} : ∀ (ds : List PyData) (us : List Value) (as : List Addr), ReadsAll h us ds as → onlyTs ds = true → as = []
  | [], _, _, r, _ => by cases r; rfl
  | d :: ds, _, _, r, e => by
    have e' : onlyT d = true ∧ onlyTs ds = true := by simpa [onlyTs] using e
    cases r with
    | cons r1 r2 => rw [reads_no d _ _ r1 e'.1, reads_nos ds _ _ r2 e'.2]; rfl
end
section
variable {X : Cx}
def DtS (X : Cx) (H : Hp) (d : PyData) (v : V) : Prop := ∀ (pins : List (Addr × Obj)) (s : Shared) (σ : St) (u : Value), Inv X pins σ H s → RelV v u → ∃ as, Reads s.heap u d as ∧ sysModules ∉ as
theorem DtS.of {H : Hp} {d : PyData} {v : V} (h : Dt X.K H d v) (o : onlyT d = true) : DtS X H d v := fun pins s σ u I r => by
  obtain ⟨as, q⟩ := Dt.reads I d v u r h
  rw [reads_no d u as q o] at q
  exact ⟨[], q, by simp⟩
theorem DtS.pair {H : Hp} {a : Addr} {d e : PyData} {x y : V} (h : H a = some (.tup [x, y])) (h1 : DtS X H d x) (h2 : DtS X H e y) : DtS X H (.tuple [d, e]) (.ref a) := fun pins s σ u I r => by
  cases r
  obtain ⟨its, rv, ⟨o, e1, e2, n, e3⟩, hz⟩ := I.tuple (SqT.of (K := X.K) h)
  cases rv with
  | cons r1 rr =>
    cases rr with
    | cons r2 rr =>
      cases rr
      obtain ⟨as, q1, w1⟩ := h1 pins s σ _ I r1
      obtain ⟨bs, q2, w2⟩ := h2 pins s σ _ I r2
      refine ⟨_, .tuple e1 e2 e3 (by simpa using ReadsAll.cons q1 (ReadsAll.cons q2 .nil)), ?_⟩
      simp [w1, w2]
/-- a table from tuples of ints to ints -/
def kvD (p : List Int × Int) : PyData × PyData := (.tuple (p.1.map PyData.int), .int p.2)
theorem dt_ints {H : Hp} {P : Program} {w : World} {h : Heap} {b : Addr} {k : List Int} (ok : HOk P w H h) (e : H b = some (.tup (k.map V.int))) : Reads h (.ref b) (.tuple (k.map PyData.int)) [] := by
  obtain ⟨z, its, rv, ⟨o, e1, e2, n, e3, _⟩⟩ := (show ObjOk P w H h b (.tup (k.map V.int)) from ok b _ e)
  refine .tuple e1 e2 e3 ?_
  have : ∀ (k : List Int) (its : List Value), Vals (k.map V.int) its → ReadsAll h its (k.map PyData.int) [] := fun k => by
    induction k with
    | nil => intro its r; cases r; exact .nil
    | cons i k ih =>
      intro its r
      cases r with
      | cons r1 r2 =>
        obtain ⟨t, rfl⟩ := r1
        exact ReadsAll.cons (.int i t) (ih _ r2)
  simpa using this k its rv
def kvV (p : List Int × Int) : List Key × V := (p.1.map Sum.inl, .int p.2)
theorem kv_key (k : List Int) : (k.map (Sum.inl (α := Int) (β := Str))).map kV = k.map V.int := by
  rw [List.map_map]
  rfl
theorem DtS.table {H : Hp} {a : Addr} {ps : List (List Int × Int)} (h : H a = some (.dT (ps.map kvV))) : DtS X H (.dict (ps.map kvD)) (.ref a) := fun pins s σ u I r => by
  cases r
  obtain ⟨z, y, xs, pr, o, es, ep, h1, h2, h3, h4, h5⟩ := (show ObjOk X.prog X.w H s.heap a (.dT (ps.map kvV)) from I.hok a _ h)
  have key : ∀ (ps : List (List Int × Int)) (xs : List (List Key × Addr × Value)), Paired (fun (p : List Key × V) (q : List Key × Addr × Value) => p.1 = q.1 ∧ H q.2.1 = some (.tup (p.1.map kV)) ∧ RelV p.2 q.2.2) (ps.map kvV) xs →
      ReadsAll s.heap ((xs.map (entryOfKey (tupleKind (mixKind X.prog X.w)))).map (·.key)) ((ps.map kvD).map (·.1)) [] ∧ ReadsAll s.heap ((xs.map (entryOfKey (tupleKind (mixKind X.prog X.w)))).map (·.val)) ((ps.map kvD).map (·.2)) [] := fun ps => by
    induction ps with
    | nil => intro xs r; cases r; exact ⟨.nil, .nil⟩
    | cons p ps ih =>
      intro xs r
      cases r with
      | cons r1 r2 =>
        obtain ⟨e1, e2, e3⟩ := r1
        obtain ⟨i1, i2⟩ := ih _ r2
        have e2' := e2
        rw [show (kvV p).1.map kV = p.1.map V.int from kv_key p.1] at e2'
        obtain ⟨t, et⟩ := e3
        have hv : ∀ {q : List Key × Addr × Value}, q.2.2 = Value.int p.2 t → Reads s.heap (entryOfKey (tupleKind (mixKind X.prog X.w)) q).val (.int p.2) [] := fun {q} z => by
          show Reads s.heap q.2.2 (.int p.2) []
          rw [z]; exact .int _ _
        exact ⟨ReadsAll.cons (as := []) (bs := []) (dt_ints I.hok e2') i1, ReadsAll.cons (as := []) (bs := []) (hv et) i2⟩
  obtain ⟨k1, k2⟩ := key ps xs pr
  have hcls : o.cls = .type "dict" := h2.1
  refine ⟨a :: [] ++ [], .dict h1 hcls h3 (by rw [h4]; exact k1) (by rw [h4]; exact k2), ?_⟩
  intro w
  have e : sysModules = a := by simpa using w
  rw [e] at y
  simp at y
end
end L2
set_option Elab.async false
set_option linter.all false
set_option maxRecDepth 100000
set_option maxHeartbeats 4000000
namespace L2
open PySem PySem.Spec PyProof.Rows
section
variable {X : Cx} {tg iter el tg2 iter2 : Expr} {ifs ifs2 : List Expr} {sc : Scope} {pos : Pos} {Nc : List Str} {js : List (Option Nat)} {wi wi2 : TI} {g g2 : TG}
/-- the second clause, within a turn of the first -/
def bFor2 (wi2 : TI) (g2 : TG) (b2 : TB) : TB := fun N σ H => wi2 σ H fun J H1 => tWalk J g2 b2 N σ H1
end
end L2
set_option Elab.async false
set_option linter.all false
set_option maxRecDepth 100000
set_option maxHeartbeats 4000000
namespace L2
open PySem PySem.Spec PyProof.Rows
open AutoSeq1 (wpAny_loadPart')
section
variable {X : Cx}
end
end L2
set_option linter.all false
set_option maxRecDepth 100000
namespace L2
open PySem PySem.Spec PyProof.Rows
theorem sc_mk {N P : List Str} {sc : Scope} (a : sc.kind = .function := by rfl) (b : sc.isCoroutine = false := by rfl) (c : sc.isGenerator = false := by rfl) (d : N.Nodup := by decide +kernel) (e : N.take P.length = P := by rfl)
    (g : ∀ x ∈ P, sc.names.lookup x = some .local ∨ sc.names.lookup x = some .cell := by decide +kernel) (h : ∀ y ∈ sc.names, y.2 ≠ .free := by decide +kernel) : FnScope N P sc := ⟨a, b, c, d, e, g, h⟩
theorem len0 {α : Type} {us : List α} (h : us.length = 0) : us = [] := List.length_eq_zero_iff.mp h
theorem lenS {α : Type} {us : List α} {n : Nat} (h : us.length = n + 1) : ∃ a r, us = a :: r ∧ r.length = n := by
  cases us with
  | nil => exact nomatch h
  | cons a r => exact ⟨a, r, rfl, Nat.succ.inj h⟩
theorem len1 {α : Type} {us : List α} (h : us.length = 1) : ∃ a, us = [a] := by
  obtain ⟨a, r, rfl, g⟩ := lenS h
  exact ⟨a, by rw [len0 g]⟩
theorem len2 {α : Type} {us : List α} (h : us.length = 2) : ∃ a b, us = [a, b] := by
  obtain ⟨a, r, rfl, g⟩ := lenS h
  obtain ⟨b, rfl⟩ := len1 g
  exact ⟨a, b, rfl⟩
theorem len3 {α : Type} {us : List α} (h : us.length = 3) : ∃ a b c, us = [a, b, c] := by
  obtain ⟨a, r, rfl, g⟩ := lenS h
  obtain ⟨b, c, rfl⟩ := len2 g
  exact ⟨a, b, c, rfl⟩
theorem len4 {α : Type} {us : List α} (h : us.length = 4) : ∃ a b c d, us = [a, b, c, d] := by
  obtain ⟨a, r, rfl, g⟩ := lenS h
  obtain ⟨b, c, d, rfl⟩ := len3 g
  exact ⟨a, b, c, d, rfl⟩
theorem len5 {α : Type} {us : List α} (h : us.length = 5) : ∃ a b c d e, us = [a, b, c, d, e] := by
  obtain ⟨a, r, rfl, g⟩ := lenS h
  obtain ⟨b, c, d, e, rfl⟩ := len4 g
  exact ⟨a, b, c, d, e, rfl⟩
section
variable {P : Program} {w : World} {K : PySem.W.Frag} {mg : Str → Option Value} {base : Heap}
theorem hs_of {n : Str} {st : Stmt} {N ps : List Str} {k : Nat} {sp : Sp} (X : ∃ h : Heap, K.In h ∧ h.Ns mainGlobals mg) (d : DfAt K n st) (S : FnScope N ps (defScope st))
    (hbody : ∀ (f : Addr) (cdv : Value) (A : Around) (outer : List Env) (s : Shared) (H : Hp) (vs : List V) (Q : VK) (E : XK), N.Nodup → Room k (A.deeper (envOfC n (defScope st) s.heap.objs.size f cdv)) → sp vs H Q E →
      ∃ t, PSs (cxOf CX0 P w K mg base N n (defScope st) f cdv A outer s H E).nox (defBody st) t ∧ t { nx := fun _ H' => Q .non H', rt := Q } (start N vs) H)
    (len : ∀ vs H Q E, sp vs H Q E → vs.length = ps.length := by intro _ _ _ _ h; first | (cases h; subst_vars; rfl) | (rcases h with h | h <;> cases h <;> subst_vars <;> rfl))
    (b : ∀ (kV doc pm : Value) (an : Option Addr) (cdv ct : Value) (us : List Value), us.length = ps.length → bindArgs (PySem.W.fnOf n n (defArgs st) (defBody st) (defScope st) .none kV doc pm an cdv ct) ⟨us, []⟩ = pure (ps.zip us) := by
      intro _ _ _ _ _ _ us hl; first | (obtain ⟨_, rfl⟩ := len1 hl; rfl) | (obtain ⟨_, _, rfl⟩ := len2 hl; rfl) | (obtain ⟨_, _, _, rfl⟩ := len3 hl; rfl) | (obtain ⟨_, _, _, _, rfl⟩ := len4 hl; rfl) | (obtain ⟨_, _, _, _, _, rfl⟩ := len5 hl; rfl) | (obtain rfl := len0 hl; rfl)) : Own.Has P w K mg base n ps (k + 1) sp := by
  obtain ⟨h, x, g⟩ := X
  exact has_mk x g d (fun f fd F => F.ok S len fun cdv A outer s H vs Q E => hbody f cdv A outer s H vs Q E S.nd) b
end
inductive spLaw (K : PySem.W.Frag) (vs : List V) (H : Hp) (Q : VK) (E : XK) : Prop
  | mk (a : Addr) (ns : List Int) : vs = [.ref a] → SqL K H a (ns.map V.int) → ns.length ≤ 63 → (∀ H', Q (.bl true) H') → spLaw K vs H Q E
structure Cn where
  P : Program
  w : World
  K : PySem.W.Frag
  mg : Str → Option Value
  base : Heap
instance : Nonempty Cn := ⟨⟨default, ⟨fun _ _ => 0, { strHash := fun _ => 0, shareClass := id, mergeTok := id, idOf := fun _ => 0, idOfShared := fun _ _ => 0, followText := fun _ => true, idOfImm := fun _ => 0 }⟩, default, fun _ => none, default⟩⟩
section
variable {X : Cx} {e : Expr} {es : List Expr} {te : TE} {t : TA} {p pos pos' : Pos} {x : Str}
theorem pf {j k : Nat} {ps : List Str} {sp : Sp} (h : Own.Has X.prog X.w X.K X.mg X.base x ps j sp) (hr : Room k X.A) (ha : PA X (e :: es) t) (hj : j ≤ k := by decide) (hg : Gl X x := by rfl)
    (hdb : (x == ("__debug__" : Str)) = false := by decide) (he : starEach (e :: es) X.env = (false, eval e X.env) :: starEach es X.env := by rfl) (hpl : (backTo pos (starEach es X.env)).any (·.1) = false := by rfl) :
    PE X (.Call (.Name x p) (e :: es) [] pos) (tCall sp [] E0 t) := Own.pe_has h (hr.mono hj) hg ha hdb he hpl
theorem pst (i : Nat) (hN : X.N.Nodup) (he : PE X e te) (hi : X.N[i]? = some x := by rfl) (hx : Loc X.env.scope x := by first | exact Or.inl rfl | exact Or.inr rfl) (hs : swapsWith e (some (.Name x pos')) pos.line X.env = pure false := by rfl)
    (hf : X.fn x = true ∨ X.env.scope.names.lookup x = some .local := by first | exact .inl rfl | exact .inr rfl) : PS X (.Assign [.Name x pos'] e pos) (tAsg te (gName i)) := ps_set hN hi hx he hs hf
theorem pgn (i : Nat) (hN : X.N.Nodup) (hi : X.N[i]? = some x := by rfl) (hx : Loc X.env.scope x := by first | exact Or.inl rfl | exact Or.inr rfl) (hf : X.fn x = true ∨ X.env.scope.names.lookup x = some .local := by first | exact .inl rfl | exact .inr rfl) : PG X (.Name x pos) (gName i) := pg_name hN hi hx hf
theorem pfor {tg iter : Expr} {body : List Stmt} {wi : TI} {g : TG} {tb : TS} (hi : PI X tg iter wi) (hg : PG X tg g) (hb : PSs X body tb) (hp : PassesOwn (model X.prog X.w) X.A X.env X.xe := by exact PassesOwn.never) (hc : X.calm = true := by rfl)
    (hs : ∀ x, foldedSetIterable iter X.env x = pure x := by intro _; rfl) : PS X (.For tg iter body [] pos) (tFor wi g tb) := ps_for hp hc hi hg hb hs
variable {a b c d : Expr} {ta tb tc td : TE}
theorem pix {r : R2} (hr : IxR X r) (ha : PE X a ta) (hb : PE X b tb) (hs : PlainIx b := by exact fun _ _ => rfl) : PE X (.Subscript a b pos) (tOp r ta tb) := pe_ix hr ha hb hs
theorem p1 (ha : PE X a ta) (h1 : starEach [a] X.env = (false, eval a X.env) :: starEach [] X.env := by rfl) : PA X [a] (tCons ta tNil) := pa_cons ha pa_nil h1
theorem p2 (ha : PE X a ta) (hb : PE X b tb) (h1 : starEach [a, b] X.env = (false, eval a X.env) :: starEach [b] X.env := by rfl) (h2 : starEach [b] X.env = (false, eval b X.env) :: starEach [] X.env := by rfl) : PA X [a, b] (tCons ta (tCons tb tNil)) := pa_cons ha (pa_cons hb pa_nil h2) h1
theorem nd1 {a : Str} : [a].Nodup := List.nodup_cons.mpr ⟨List.not_mem_nil, List.nodup_nil⟩
theorem nd2 {a b : Str} (h : a ≠ b) : [a, b].Nodup := List.nodup_cons.mpr ⟨fun m => h (List.mem_singleton.mp m), nd1⟩
theorem nd3 {a b c : Str} (h : a ≠ b) (h' : a ≠ c) (h2 : b ≠ c) : [a, b, c].Nodup := List.nodup_cons.mpr ⟨fun m => (List.mem_cons.mp m).elim h fun m => h' (List.mem_singleton.mp m), nd2 h2⟩
/-- a target of a comprehension -/
theorem pgc (i : Nat) (hN : X.N.Nodup := by first | exact nd1 | exact nd2 (by decide) | exact nd3 (by decide) (by decide) (by decide)) (hi : X.N[i]? = some x := by rfl) (hx : Loc X.env.scope x := by first | exact Or.inl rfl | exact Or.inr rfl) (hf : X.fn x = true ∨ X.env.scope.names.lookup x = some .local := by first | exact .inl rfl | exact .inr rfl) : PG X (.Name x pos) (gName i) := pg_name hN hi hx hf
section
variable {o : Expr} {to : TE} {r : V → List V → Hp → VK → Prop} {apos cpos : Pos}
theorem m_list {n : Str} {id : String} (slot : Slot "list" n id) (hty : typeOf (.builtin id) = pure (.type "method_descriptor")) (hm : MtR X id r) (ho : PE X o to) (ha : PA X (e :: es) t)
    (hbase : attributeBase o n X.env (eval o X.env) = eval o X.env := by rfl)
    (hfew : ((backTo cpos (starEach (e :: es) X.env)).all (fun x => !x.1) && (backToKw cpos (keywordEach [] X.env)).all (fun x => x.1.isSome)
      && decide ((e :: es).length + ([] : List Keyword).length + (if ([] : List Keyword).isEmpty then 0 else 1) < 30)) = true := by rfl)
    (hline : (apos.endLine == cpos.line) = true := by rfl) (hs : starEach (e :: es) X.env = (false, eval e X.env) :: starEach es X.env := by rfl) (hplain : (backTo cpos (starEach es X.env)).any (·.1) = false := by rfl) :
    PE X (.Call (.Attribute o n apos) (e :: es) [] cpos) (tBM X.K "list" r to t) := pe_bm PySem.F.plainAttrs_list slot hty hm ho ha hbase hfew hline hs hplain
end
end
theorem snoc {α : Type} {xs : List α} {x y : α} {i : Nat} (h : (xs ++ [x])[i]? = some y) : (i < xs.length ∧ xs[i]? = some y) ∨ (i = xs.length ∧ some x = some y) := by
  rcases Nat.lt_or_ge i xs.length with c | c
  · rw [List.getElem?_append_left c] at h
    exact .inl ⟨c, h⟩
  · have e : i = xs.length := by
      have := (List.getElem?_eq_some_iff.mp h).1
      rw [List.length_append, List.length_singleton] at this
      omega
    rw [e, List.getElem?_concat_length] at h
    exact .inr ⟨e, h⟩
end L2
set_option Elab.async false
set_option linter.all false
set_option maxRecDepth 100000
set_option maxHeartbeats 4000000
namespace L2
open PySem PySem.Spec PyProof.Rows
section
variable {X : Cx} {tg iter kx vx : Expr} {ifs : List Expr} {sc : Scope} {pos : Pos} {Nc : List Str} {js : List (Option Nat)} {wi : TI}
def emitD (kx vx : Expr) (env : Env) (acc : Value) : Sem Unit := do
  let kv ← eval kx env
  let vv ← holding [kv] (eval vx env)
  match acc with
  | .ref d => do
    standAt (have __src := kx.pos; { line := __src.line, col := __src.col, endLine := vx.pos.endLine, endCol := vx.pos.endCol })
    holding [kv, vv] (dictSet d kv vv)
  | _ => unsupported "internal:dictcomp"
theorem turn_d1 (kx vx tg iter : Expr) (ifs : List Expr) (sc : Scope) (pos : Pos) (it acc : Value) (env : Env) :
    compTurn (.DictComp kx vx [⟨tg, iter, ifs, 0⟩] sc pos) 0 it acc env = (standAt iter.pos >>= fun _ => pyNext it >>= fun r => match r with
      | none => pure (.done .next)
      | some v => letOwnedTupleGo tg it v >>= fun _ => assign tg env v >>= fun _ => tailOf ifs env (emitD kx vx env acc) (.compLoop (.DictComp kx vx [⟨tg, iter, ifs, 0⟩] sc pos) 0 it acc env)) := by rfl
/-- {k: v for tg in iter if ..}: bd is what a turn does behind the target's store, for the dict at D -/
def tDC (js : List (Option Nat)) (wi : TI) (g : TG) (bd : Addr → TB) : TE := fun σ H Q => wi σ H fun J H1 => ∀ D, H1 D = none → tWalk J g (bd D) (fun _ H' => Q (.ref D) H') (compSt js σ) (upd H1 D (.dK []))
end
end L2
set_option Elab.async false
set_option linter.all false
set_option maxRecDepth 100000
set_option maxHeartbeats 4000000
namespace L2
open PySem PySem.Spec PyProof.Rows
section
variable {prog : Program} {w : World} {A : Around} {E : Value → Shared → Prop} {s : Shared} {z TI TO i1 i2 : Addr} {fp1 fp2 : List Addr} {n1 n2 j : Nat} {P1 P2 : Nat → Value → Prop} {S1 S2 : Nat → Heap → Prop} {a b : Value}
end
section
variable {X : Cx}
end
end L2
set_option Elab.async false
set_option linter.all false
set_option maxRecDepth 100000
set_option maxHeartbeats 4000000
namespace HT
open PySem PySem.Spec PyProof.Rows
section
variable {prog : Program} {w : World} {A : Around} {E : Value → Shared → Prop} {s : Shared}
theorem fm_all {α : Type} : ∀ ys : List α, (List.range ys.length).filterMap (fun (k : Nat) => ys[k]?) = ys
  | [] => rfl
  | y :: ys => by
    rw [List.length_cons, List.range_succ_eq_map, List.filterMap_cons]
    show y :: ((List.range ys.length).map Nat.succ).filterMap (fun (k : Nat) => (y :: ys)[k]?) = y :: ys
    rw [List.filterMap_map]
    exact congrArg (y :: ·) (fm_all ys)
theorem fm_congr {α β : Type} {f g : α → Option β} : ∀ l : List α, (∀ x ∈ l, f x = g x) → l.filterMap f = l.filterMap g
  | [], _ => rfl
  | x :: l, h => by rw [List.filterMap_cons, List.filterMap_cons, h x (by simp), fm_congr l fun y hy => h y (by simp [hy])]
theorem rev_list {α : Type} (xs : List α) : (List.range xs.length).filterMap (fun (k : Nat) => xs[(((xs.length : Int) - 1) + (k : Int) * (-1)).toNat]?) = xs.reverse := by
  have h := fm_all xs.reverse
  rw [List.length_reverse] at h
  rw [← h]
  refine fm_congr _ fun k hk => ?_
  have hk := List.mem_range.mp hk
  rw [List.getElem?_reverse hk]
  congr 1
  omega
end
end HT
namespace L2
open PySem PySem.Spec PyProof.Rows
section
variable {X : Cx}
end
end L2
set_option Elab.async false
set_option linter.all false
set_option maxRecDepth 100000
set_option maxHeartbeats 4000000
namespace L2
open PySem PySem.Spec PyProof.Rows
section
variable {prog : Program} {w : World} {A : Around} {E : Value → Shared → Prop} {s : Shared}
end
theorem frz_at {P : Program} {w : World} {H : Hp} {h : Heap} {d : Addr} {o : Obj} {es : Array DictEntry} {ep : Nat} {kvs : List (Key × V)} (ok : HOk P w H h) (e : H d = some (.frz o (.dK kvs))) (hd : o.data = .dict es ep) : ∃ vs, KV kvs vs ∧ h.DictAt (mixKind P w) d vs ep ∧ vs.length = es.size := by
  obtain ⟨e1, _, _, vs, rel, o', es', ep', e2, x, hd', k, p, nd⟩ := ok d _ e
  rw [e1] at e2
  cases e2
  rw [hd] at hd'
  injection hd' with z1 z2
  subst z1
  subst z2
  exact ⟨vs, rel, ⟨o, es, e1, x, hd, k, p, nd⟩, by rw [← p.length]; simp⟩
theorem KV.at' {kvs : List (Key × V)} {vs : List (Key × Value)} (r : KV kvs vs) {i : Nat} {kv : Key × V} {p : Key × Value} (h1 : kvs[i]? = some kv) (h2 : vs[i]? = some p) : kv.1 = p.1 ∧ RelV kv.2 p.2 := by
  induction r generalizing i with
  | nil => simp at h1
  | cons h t ih =>
    cases i with
    | zero =>
      simp at h1 h2
      subst h1
      subst h2
      exact h
    | succ i => exact ih (by simpa using h1) (by simpa using h2)
section
variable {X : Cx}
end
end L2
set_option linter.all false
namespace L2
open PySem
section
variable {X : Cx}
end
end L2
set_option linter.all false
set_option maxRecDepth 100000
namespace L2
open PySem PySem.Spec PyProof.Rows
def HoX (k : Bool) (xs : List V) : HO := match k with | true => .lst xs | false => .tup xs
theorem SqX.of {K : PySem.W.Frag} {k : Bool} {H : Hp} {a : Addr} {xs : List V} (h : H a = some (HoX k xs)) : SqX K k H a xs := by
  cases k
  · exact SqT.of h
  · exact SqL.of h
section
variable {X : Cx} {tg : Expr}
end
end L2
set_option Elab.async false
set_option linter.all false
set_option maxRecDepth 100000
set_option maxHeartbeats 4000000
namespace L2
open PySem PySem.Spec PyProof.Rows
section
variable {X : Cx}
inductive rSlS (x : V) (lo : Option Int) (hi : Option Int) (H : Hp) (Q : VK) : Prop
  | mk : ∀ z, (x = .str z) → (z.length ≤ sizeLine) → (Q (.str (Txt.slice z lo hi)) H) → rSlS x lo hi H Q
theorem part_tok {v : Value} {o : Option Int} (p : IsPart v o) : ∃ q : Option (Int × Tok), v = partValue q ∧ q.map (·.1) = o := by
  cases o with
  | none => exact ⟨none, by cases p <;> rfl, rfl⟩
  | some i =>
    cases p
    exact ⟨some (_, _), rfl, rfl⟩
theorem sl_str : SlR X rSlS := by
  intro pins s σ H x v vl vu lo hi sl Q I rx hs pl pu h
  obtain ⟨z, rfl, hz, q⟩ := h
  obtain ⟨t, rfl⟩ := rx
  obtain ⟨ql, rfl, rfl⟩ := part_tok pl
  obtain ⟨qu, rfl, rfl⟩ := part_tok pu
  refine ⟨"str", _, F.slot_str_getitem.lookup, typeIs_str _ _ _, ?_⟩
  refine wpAny_getItem_str_slice (l := ql) (u := qu) (st := none) hs rfl (post_val_or_str ⟨?_, fun t' k => ⟨.str _, H, I.tok _, ⟨_, rfl⟩, ?_⟩⟩)
  · exact Nat.le_trans (Txt.slice_le z _ _) hz
  · exact q
theorem strs_of : ∀ {zs : List Str} {its : List Value}, Vals (zs.map V.str) its → ∃ l : List (Str × Tok), its = strValues l ∧ l.map (·.1) = zs
  | [], _, r => by cases r; exact ⟨[], rfl, rfl⟩
  | z :: zs, _, r => by
    cases r with
    | cons r1 r2 =>
      obtain ⟨t, rfl⟩ := r1
      obtain ⟨l, rfl, e⟩ := strs_of r2
      exact ⟨(z, t) :: l, rfl, by rw [List.map_cons, e]⟩
theorem vals_strs : ∀ (l : List (Str × Tok)), Vals ((l.map (·.1)).map V.str) (strValues l)
  | [] => .nil
  | (_, t) :: l => .cons ⟨t, rfl⟩ (vals_strs l)
inductive rJoin (K : PySem.W.Frag) (x : V) (vs : List V) (H : Hp) (Q : VK) : Prop
  | mk : ∀ z a zs, (x = .str z) → (vs = [.ref a]) → (SqL K H a (zs.map V.str)) → (JoinOk z zs = true) → (Q (.str (Txt.join z zs)) H) → rJoin K x vs H Q
theorem mt_join : MtM X "str.join" (rJoin X.K) := by
  intro pins s σ H x vs v us Q I rx rv h
  obtain ⟨z, a, zs, rfl, rfl, hS, hj, q⟩ := h
  obtain ⟨t, rfl⟩ := rx
  obtain ⟨u, rfl, ru⟩ := rv.one
  cases ru
  obtain ⟨its, r, ht, hz⟩ := I.list hS
  obtain ⟨l, rfl, e⟩ := strs_of r
  exact SC.join ht.isList e hj fun t' k => ⟨.str _, H, I.tok _, ⟨_, rfl⟩, q⟩
inductive rSplit (x : V) (vs : List V) (H : Hp) (Q : VK) : Prop
  | mk : ∀ z y, (x = .str z) → (vs = [.str y]) → (0 < y.length) → (z.length ≤ sizeLine) → ((Builtin.Str.partsBetween z (Builtin.Str.occurrences z y 0 z.length (z.length + 1)) y.length).length ≤ sizeLine) → ((Txt.split z y).length ≤ sizeLine) →
      (∀ p, H p = none → Q (.ref p) (upd H p (.lst ((Txt.split z y).map V.str)))) → rSplit x vs H Q
theorem mt_split : MtM X "str.split" rSplit := by
  intro pins s σ H x vs v us Q I rx rv h
  obtain ⟨z, y, rfl, rfl, hy, hz, hp, hs, q⟩ := h
  obtain ⟨t, rfl⟩ := rx
  obtain ⟨u, rfl, t', rfl⟩ := rv.one
  have fin : ∀ (l : List (Str × Tok)) (k : Nat), l.map (·.1) = Txt.split z y → EP X pins σ Q (.ref s.heap.objs.size) { s with heap := s.heap.push { cls := .type "list", data := .seq (strValues l).toArray }, toks := k } := fun l k e => by
    refine ⟨.ref s.heap.objs.size, _, I.lnew (t' := k) (ys := (Txt.split z y).map V.str) (e ▸ vals_strs l) (by rw [List.length_map]; exact hs), rfl, q _ I.fresh⟩
  have hy0 : (y.length == 0) = false := by
    cases e : y.length with
    | zero => omega
    | succ n => rfl
  cases h1 : (decide (z.length < y.length) || decide (Builtin.Str.strKind z < Builtin.Str.strKind y))
  · cases hf : (Builtin.Str.occurrences z y 0 z.length (z.length + 1)).isEmpty
    · refine call_meets F.slot_str_split (typeIs_str _ _ _) F.entry_str_split (F.args_str_split_2 _ _) (meets_str_split_sep z y t t' h1 hy0 hf hz hp) ?_
      show wants _ _ _ { s with toks := _, heap := s.heap.push { cls := .type "list", data := .seq (strsFrom s.toks (Builtin.Str.partsBetween z (Builtin.Str.occurrences z y 0 z.length (z.length + 1)) y.length)).toArray } }
      rw [strsFrom_eq]
      exact fin (numbered s.toks _) _ ((numbered_texts _ _).trans ((if_neg (ne_true_of_eq_false h1)).trans (if_neg (ne_true_of_eq_false hf))).symm)
    · exact call_meets F.slot_str_split (typeIs_str _ _ _) F.entry_str_split (F.args_str_split_2 _ _) (meets_str_split_not_found z y t t' h1 hy0 hf) (fin [(z, t)] s.toks ((if_neg (ne_true_of_eq_false h1)).trans (if_pos hf)).symm)
  · exact call_meets F.slot_str_split (typeIs_str _ _ _) F.entry_str_split (F.args_str_split_2 _ _) (meets_str_split_cannot_occur z y t t' h1) (fin [(z, t)] s.toks (if_pos h1).symm)
end
def Asc (z : Str) : Prop := (z.cps.all fun c => decide (c < 128)) = true
def Its (z : Str) : It := ⟨fun i _ => i < z.cps.size, fun i H x H' => H' = H ∧ ∃ c, z.cps[i]? = some c ∧ x = .str ⟨#[c]⟩, fun i _ => z.cps.size ≤ i⟩
theorem turn_str {P : Program} {w : World} {K : PySem.W.Frag} {tg : Expr} (it : Addr) (z : Str) (t : Tok) : Turn P w K tg (Its z) [it] it (fun i h => i ≤ z.cps.size ∧ h.IsStrIter it "str_ascii_iterator" z t i) where
  mem := by simp
  obj := fun i h st b hb => by
    have e : b = it := by simpa using hb
    subst e
    obtain ⟨_, o, e1, e2, e3⟩ := st
    exact ⟨o, e1, fun v z => by rw [e3] at z; cases z⟩
  keep := fun i h h' st k => let ⟨l, o, ho, r⟩ := st; ⟨l, o, k it (by simp) o ho, r⟩
  item := by
    intro X hP hw hK hc i pins s σ H E I hf st hg
    subst hP hw hK
    obtain ⟨f0, f1, f2, f3, f4, f5⟩ := hf it (by simp)
    refine (Walks.strAscii (prog := X.prog) (w := X.w) (I.ok.hd hc) it z t).item i s _ _ hg st.2 fun v h' tk hv st' kk => ?_
    obtain ⟨c, u, hc1, rfl⟩ := hv
    have I1 : Inv X pins σ H { s with heap := h', toks := tk } := I.turned (fun b o hb e => kk b o (by simpa using hb) e) f0 f1 f3 f4 f5
    obtain ⟨o, e1, e2, e3⟩ := id st'
    exact ⟨_, rfl, go_of (s := { s with heap := h', toks := tk }) (n := "str_ascii_iterator") e1 e2 e3 (by decide) ⟨.str ⟨#[c]⟩, H, I1, ⟨u, rfl⟩, ⟨rfl, c, hc1, rfl⟩, ⟨hg, st'⟩, fun b hb => (hf b hb).1⟩⟩
  done := by
    intro X hP hw hK hc i pins s σ H E I hf st hg
    subst hP hw hK
    obtain ⟨f0, f1, f2, f3, f4, f5⟩ := hf it (by simp)
    have e : i = z.cps.size := Nat.le_antisymm st.1 hg
    subst e
    refine (Walks.strAscii (prog := X.prog) (w := X.w) (I.ok.hd hc) it z t).done s _ _ st.2 fun h' tk kk => ⟨rfl, I.turned (t' := tk) (fun b o hb e => kk b o (by simpa using hb) e) f0 f1 f3 f4 f5⟩
  self := fun _ _ _ _ _ st h => wpAny_pyIter_striter_ascii st.2 h
section
variable {X : Cx} {tg : Expr}
inductive iStrY (R : It → Hp → Prop) (x : V) (H1 : Hp) : Prop
  | mk : ∀ z, (x = .str z) → (Asc z) → (R (Its z) H1) → iStrY R x H1
def iStr (tl : TE) : TI := fun σ H R => tl σ H fun x H1 => iStrY R x H1
theorem pi_str {l : Expr} {tl : TE} (hl : PE X l tl) : PI X tg l (iStr tl) := by
  intro pins s σ H R I h
  refine thn (hl pins s σ H _ I h) fun v s1 ⟨x, H1, I1, r1, q1⟩ => ?_
  obtain ⟨z, e, ha, q⟩ := q1
  subst e
  obtain ⟨t, rfl⟩ := r1
  refine wpAny_pyIter_ascii ha ?_
  refine ⟨s1.heap.objs.size, [s1.heap.objs.size], _, _, H1, rfl, I1.kept (t' := s1.toks) fun b o e => Heap.get?_push_of_some _ e, turn_str _ z t, ⟨Nat.zero_le _, _, Heap.get?_push_size _ rfl, rfl, rfl⟩, fun b hb => ?_, q⟩
  have e : b = s1.heap.objs.size := by simpa using hb
  subst e
  exact I1.fpOk (Nat.le_refl _) (I1.hok.fresh (Nat.le_refl _))
end
theorem walk_str {z : Str} {g : TG} {b : TB} {N0 : St → Hp → Prop} {σ : St} {H : Hp} (Pv : Nat → St → Hp → Prop) (h0 : Pv 0 σ H)
    (hs : ∀ i c σ H, z.cps[i]? = some c → Pv i σ H → g (.str ⟨#[c]⟩) σ H fun σ2 H2 => b (Pv (i + 1)) σ2 H2) (hd : ∀ σ H, Pv z.cps.size σ H → N0 σ H) : tWalk (Its z) g b N0 σ H := by
  refine ⟨fun i m σ H => m = z.cps.size - i ∧ i ≤ z.cps.size ∧ Pv i σ H, ⟨z.cps.size, by simp, Nat.zero_le _, h0⟩, ?_⟩
  rintro i m σ H ⟨rfl, hle, p⟩
  by_cases hi : i < z.cps.size
  · refine .inr ⟨hi, Pv (i + 1), fun σ' H' q => ⟨z.cps.size - (i + 1), by omega, rfl, by omega, q⟩, fun x H' hy => ?_⟩
    obtain ⟨rfl, c, hc, rfl⟩ := hy
    exact hs i c σ _ hc p
  · have : i = z.cps.size := by omega
    subst this
    exact .inl ⟨Nat.le_refl _, hd σ H p⟩
def Itd (lo : Int) (n : Nat) : It := ⟨fun i _ => i < n, fun i H x H' => H' = H ∧ x = .int (lo - i), fun i _ => n ≤ i⟩
theorem turn_down {P : Program} {w : World} {K : PySem.W.Frag} {tg : Expr} (it : Addr) (lo : Int) (n : Nat) : Turn P w K tg (Itd lo n) [it] it (fun i h => IsRangeIter h it (lo + (i : Nat) * (-1)) ((n : Int) - (i : Nat)) (-1)) where
  mem := by simp
  obj := fun i h st b hb => by
    have e : b = it := by simpa using hb
    subst e
    exact ⟨_, st, fun v z => by
      have z' : Data.fields _ = Data.cell v := z
      cases z'⟩
  keep := fun i h h' st k => k it (by simp) _ st
  item := by
    intro X hP hw hK hc i pins s σ H E I hf st hg
    subst hP hw hK
    obtain ⟨f0, f1, f2, f3, f4, f5⟩ := hf it (by simp)
    have W := Walks.range (prog := X.prog) (w := X.w) (I.ok.hd hc) it lo (-1) n
    refine W.item i s _ _ hg st fun v h' tk hv st' kk => ?_
    obtain ⟨t, rfl⟩ := hv
    have I1 : Inv X pins σ H { s with heap := h', toks := tk } := I.turned (fun b o hb e => kk b o (by simpa using hb) e) f0 f1 f3 f4 f5
    refine ⟨_, rfl, go_of (s := { s with heap := h', toks := tk }) (n := "range_iterator") st' rfl rfl (by decide) ⟨.int (lo - i), H, I1, ⟨t, ?_⟩, ⟨rfl, rfl⟩, st', fun b hb => (hf b hb).1⟩⟩
    rw [Int.mul_neg, Int.mul_one, Int.sub_eq_add_neg]
  done := by
    intro X hP hw hK hc i pins s σ H E I hf st hg
    subst hP hw hK
    obtain ⟨f0, f1, f2, f3, f4, f5⟩ := hf it (by simp)
    exact wpAny_pyNext_range_end (I.ok.hd hc) st (by have : n ≤ i := hg; omega) fun h' eb => ⟨rfl, I.turned (t' := s.toks) (fun b o hb e => eb b o hb e) f0 f1 f3 f4 f5⟩
  self := fun _ _ _ _ _ st h => wpAny_pyIter_rangeiter st h
section
variable {X : Cx} {tg : Expr}
inductive iRng3Y (R : It → Hp → Prop) (vs : List V) (H1 : Hp) : Prop
  | mk : ∀ (i j : Int), (vs = [.int i, .int j, .int (-1)]) → (0 ≤ i + 1 ∧ i < 1000 ∧ j = -1) → (R (Itd i (i + 1).toNat) H1) → iRng3Y R vs H1
def iRng3 (ta : TA) : TI := fun σ H R => ta σ H fun vs H1 => iRng3Y R vs H1
theorem small_down {i : Int} (h0 : 0 ≤ i + 1) (h1 : i < 1000) : Builtin.Range.small i (-1) (-1) = true := by
  have e : Builtin.Range.rangeSize i (-1) (-1) = i + 1 := by
    unfold Builtin.Range.rangeSize
    simp
    omega
  have f : ∀ j : Int, -2 < j → j < 2000 → Builtin.Range.rangeFitsLong j = true := fun j a b => by
    unfold Builtin.Range.rangeFitsLong
    simp
    omega
  unfold Builtin.Range.small
  rw [e, f i (by omega) (by omega), f (-1) (by decide) (by decide), f (i + 1) (by omega) (by omega)]
  simp
  exact .inr (f _ (by decide) (by decide))
theorem size_down {i : Int} (h0 : 0 ≤ i + 1) : Builtin.Range.rangeSize i (-1) (-1) = i + 1 := by
  unfold Builtin.Range.rangeSize
  simp
  omega
theorem pi_range3 {a b c : Expr} {ta : TA} {p pos : Pos} (hg : Gl X "range") (hm : X.mg "range" = none) (ha : PA X [a, b, c] ta) (hs : starEach [a, b, c] X.env = [(false, eval a X.env), (false, eval b X.env), (false, eval c X.env)] := by rfl) (hs2 : starEach [b, c] X.env = [(false, eval b X.env), (false, eval c X.env)] := by rfl) :
    PI X tg (.Call (.Name "range" p) [a, b, c] [] pos) (iRng3 ta) := by
  intro pins s σ H R I h
  refine Call_ (ld_blt I hg hm boot_range (PyProof.Rows.callWith_type1 (thn (ha pos pins s σ H _ I h) fun us s1 ⟨vs, H1, I1, r1, q1⟩ => ?_) (by rw [hs, hs2]) (by rw [hs2]; rfl)))
  obtain ⟨i, j, e, ⟨h0, h1, hj⟩, q⟩ := q1
  subst e
  subst hj
  cases r1 with
  | cons r rr =>
    cases rr with
    | cons r' rr =>
      cases rr with
      | cons r'' rr =>
        cases rr
        obtain ⟨t, rfl⟩ := r
        obtain ⟨t', rfl⟩ := r'
        obtain ⟨t'', rfl⟩ := r''
        refine call_range_3 (by decide) ?_ (.inl (PyProof.noPylong_small (by omega)))
        refine wpAny_pyIter_range (IsRange.new ..) (small_down h0 h1) ?_
        have I2 : Inv X pins σ H1 { s1 with heap := s1.heap.push { cls := .type "range", data := .fields #[.int i t, .int (-1) t', .int (-1) t''] }, toks := s1.toks } := I1.kept fun b o e => Heap.get?_push_of_some _ e
        refine ⟨(s1.heap.push { cls := .type "range", data := .fields #[.int i t, .int (-1) t', .int (-1) t''] }).objs.size, [(s1.heap.push { cls := .type "range", data := .fields #[.int i t, .int (-1) t', .int (-1) t''] }).objs.size], _, _, H1, rfl,
          I2.kept (t' := s1.toks) fun b o e => Heap.get?_push_of_some _ e, turn_down _ i (i + 1).toNat, ?_, fun b hb => ?_, q⟩
        · have e1 : i + ((0 : Nat) : Int) * (-1) = i := by simp
          have e2 : (((i + 1).toNat : Nat) : Int) - ((0 : Nat) : Int) = Builtin.Range.rangeSize i (-1) (-1) := by rw [size_down h0]; omega
          show IsRangeIter _ _ (i + ((0 : Nat) : Int) * (-1)) ((((i + 1).toNat : Nat) : Int) - ((0 : Nat) : Int)) (-1)
          rw [e1, e2]
          exact Heap.get?_push_size _ rfl
        · have e : b = (s1.heap.push { cls := .type "range", data := .fields #[.int i t, .int (-1) t', .int (-1) t''] }).objs.size := by simpa using hb
          subst e
          exact I2.fpOk (Nat.le_refl _) (I2.hok.fresh (Nat.le_refl _))
end
theorem walk_down {lo : Int} {n : Nat} {g : TG} {b : TB} {N0 : St → Hp → Prop} {σ : St} {H : Hp} (Pv : Nat → St → Hp → Prop) (h0 : Pv 0 σ H)
    (hs : ∀ i σ H, i < n → Pv i σ H → g (.int (lo - i)) σ H fun σ2 H2 => b (Pv (i + 1)) σ2 H2) (hd : ∀ σ H, Pv n σ H → N0 σ H) : tWalk (Itd lo n) g b N0 σ H := by
  refine ⟨fun i m σ H => m = n - i ∧ i ≤ n ∧ Pv i σ H, ⟨n, by simp, Nat.zero_le _, h0⟩, ?_⟩
  rintro i m σ H ⟨rfl, hle, p⟩
  by_cases hi : i < n
  · refine .inr ⟨hi, Pv (i + 1), fun σ' H' q => ⟨n - (i + 1), by omega, rfl, by omega, q⟩, fun x H' hy => ?_⟩
    obtain ⟨rfl, rfl⟩ := hy
    exact hs i σ _ hi p
  · have : i = n := by omega
    subst this
    exact .inl ⟨Nat.le_refl _, hd σ H p⟩
end L2
set_option Elab.async false
set_option linter.all false
set_option maxRecDepth 100000
set_option maxHeartbeats 4000000
namespace L2
open PySem PySem.Spec PyProof.Rows
def Ites (z : Str) : It :=
  ⟨fun i _ => i < z.cps.size, fun i H v H' => ∃ T c, H T = none ∧ v = .ref T ∧ z.cps[i]? = some c ∧ H' = upd H T (.tup [.int i, .str ⟨#[c]⟩]), fun i _ => z.cps.size ≤ i⟩
theorem turn_enumS {P : Program} {w : World} {K : PySem.W.Frag} {elts : List Expr} {x1} {pos : Pos} (z : Str) (t : Tok) (e it : Addr) : Turn P w K (.Tuple elts x1 pos) (Ites z) [e, it] e (fun i h => i ≤ z.cps.size ∧ (∃ old, IsEnum h e it i old) ∧ h.IsStrIter it "str_ascii_iterator" z t i) where
  mem := by simp
  obj := fun i h st b hb => by
    obtain ⟨_, ⟨old, he⟩, o, e1, e2, e3⟩ := st
    rcases List.mem_cons.mp hb with rfl | hb
    · exact ⟨_, he, fun v z => by cases z⟩
    · have : b = it := by simpa using hb
      subst this
      exact ⟨o, e1, fun v z => by rw [e3] at z; cases z⟩
  keep := fun i h h' st kk => by
    obtain ⟨l, ⟨old, he⟩, o, ho, r⟩ := st
    exact ⟨l, ⟨old, kk e (by simp) _ he⟩, o, kk it (by simp) o ho, r⟩
  item := by
    intro X hP hw hK hc i pins s σ H E I hf st hg
    subst hP hw hK
    obtain ⟨hle, ⟨old, he⟩, hi⟩ := st
    obtain ⟨oi, ei, ci, di⟩ := id hi
    have nei : e ≠ it := cls_ne he ei rfl ci (by decide)
    have D := Draws.strAscii (prog := X.prog) (w := X.w) (A := X.A.in1) (I.ok.hd hc) it z t
    refine wpAny_pyNext_enum_itemD D he hi hg nei (by simp [nei]) fun y h' tk hy ho hs' hT hz hk => ?_
    obtain ⟨c, u, hc1, rfl⟩ := hy
    refine ⟨_, rfl, wpAny_letOwnedTupleGo_enum ho fun h2 he2 hs2 => ?_⟩
    have hel : e < s.heap.objs.size := Heap.lt_size he
    have hil : it < s.heap.objs.size := Heap.lt_size ei
    have hT2 : h2.get? s.heap.objs.size = some { cls := .type "tuple", data := .seq #[.int i tk, .str ⟨#[c]⟩ u] } := hs2.extBut _ _ (Nat.ne_of_gt hel) hT
    obtain ⟨I2, n2⟩ := I.handed (x := .int i) (y := .str ⟨#[c]⟩) (u := .int i tk) (t' := tk + 1) (ch := [e, it]) ⟨tk, rfl⟩ ⟨u, rfl⟩ hT2 (fun b o hb q => hs2.extBut b o (fun z => hb (by simp [z])) (hk b o (fun z => hb (by simp [z])) (fun z => hb (by simp [z])) q)) hf
      (fun b hb => by rcases List.mem_cons.mp hb with rfl | hb; exact hel; rw [List.mem_singleton.mp hb]; exact hil)
    refine ⟨.ref s.heap.objs.size, _, I2, rfl, ⟨_, c, I.hok.fresh (Nat.le_refl _), rfl, hc1, rfl⟩, ⟨hg, ⟨_, by simpa using he2⟩, ?_⟩, n2⟩
    obtain ⟨o, ho, r⟩ := hs'
    exact ⟨o, hs2.extBut it o nei.symm ho, r⟩
  done := by
    intro X hP hw hK hc i pins s σ H E I hf st hg
    subst hP hw hK
    obtain ⟨hle, ⟨old, he⟩, hi⟩ := st
    have D := Draws.strAscii (prog := X.prog) (w := X.w) (A := X.A.in1) (I.ok.hd hc) it z t
    have e' : i = z.cps.size := Nat.le_antisymm hle hg
    subst e'
    refine wpAny_pyNext_enum_endD D he hi fun h' eb => ⟨rfl, I.turnedL (t' := s.toks) (ch := [it]) (fun b o hb q => eb b o (fun z => hb (by simp [z])) q) fun b hb => hf b (by simp at hb ⊢; exact .inr hb)⟩
  self := fun _ _ _ _ _ st h => by
    obtain ⟨_, ⟨old, he⟩, _⟩ := st
    exact wpAny_pyIter_enum he h
section
variable {X : Cx}
inductive iEnumSY (R : It → Hp → Prop) (vs : List V) (H1 : Hp) : Prop
  | mk : ∀ z, (vs = [.str z]) → (Asc z) → (R (Ites z) H1) → iEnumSY R vs H1
def iEnumS (ta : TA) : TI := fun σ H R => ta σ H fun vs H1 => iEnumSY R vs H1
theorem pi_enumS {a : Expr} {ta : TA} {p pos tpos : Pos} {elts : List Expr} {x1} (hg : Gl X "enumerate") (hm : X.mg "enumerate" = none) (ha : PA X [a] ta) (hs : starEach [a] X.env = [(false, eval a X.env)] := by rfl) :
    PI X (.Tuple elts x1 tpos) (.Call (.Name "enumerate" p) [a] [] pos) (iEnumS ta) := by
  intro pins s σ H R I h
  refine Call_ (ld_blt I hg hm boot_enumerate (PyProof.Rows.callWith_type1 (thn (ha pos pins s σ H _ I h) fun us s1 ⟨vs, H1, I1, r1, q1⟩ => ?_) hs rfl))
  obtain ⟨z, rfl, hz, q⟩ := q1
  obtain ⟨u, rfl, t, rfl⟩ := vals1 r1
  refine call_enumerate_str fun h' he hi _ hk => ?_
  have et : strIterType z = "str_ascii_iterator" := if_pos hz
  rw [et] at hi
  refine wpAny_pyIter_enum (s := { s1 with heap := h' }) he ?_
  have f : ∀ b, s1.heap.objs.size ≤ b → FpOk X pins H1 b := fun b hb => I1.fpOk hb (I1.hok.fresh hb)
  refine ⟨_, [s1.heap.objs.size + 1, s1.heap.objs.size], _, _, H1, rfl, I1.kept (t' := s1.toks) hk, turn_enumS z t _ _, ⟨Nat.zero_le _, ⟨_, he⟩, hi⟩, fun b hb => ?_, q⟩
  rcases List.mem_cons.mp hb with rfl | hb
  · exact f _ (by omega)
  · rw [List.mem_singleton.mp hb]; exact f _ (Nat.le_refl _)
end
theorem walk_enumS {z : Str} {g : TG} {b : TB} {N0 : St → Hp → Prop} {σ : St} {H : Hp} (Pv : Nat → St → Hp → Prop) (h0 : Pv 0 σ H)
    (hs : ∀ i c T σ H, z.cps[i]? = some c → H T = none → Pv i σ H → g (.ref T) σ (upd H T (.tup [.int i, .str ⟨#[c]⟩])) fun σ2 H2 => b (Pv (i + 1)) σ2 H2) (hd : ∀ σ H, Pv z.cps.size σ H → N0 σ H) : tWalk (Ites z) g b N0 σ H := by
  refine ⟨fun i m σ H => m = z.cps.size - i ∧ i ≤ z.cps.size ∧ Pv i σ H, ⟨z.cps.size, by simp, Nat.zero_le _, h0⟩, ?_⟩
  rintro i m σ H ⟨rfl, hle, p⟩
  by_cases hi : i < z.cps.size
  · refine .inr ⟨hi, Pv (i + 1), fun σ' H' q => ⟨z.cps.size - (i + 1), by omega, rfl, by omega, q⟩, fun x H' hy => ?_⟩
    obtain ⟨T, c, nT, rfl, hc, rfl⟩ := hy
    exact hs i c T σ H hc nT p
  · have : i = z.cps.size := by omega
    subst this
    exact .inl ⟨Nat.le_refl _, hd σ H p⟩
def Itv (d : Addr) (o : Obj) : It :=
  ⟨fun i H => ∃ kvs kv, H d = some (.frz o (.dK kvs)) ∧ kvs[i]? = some kv, fun i H v H' => H' = H ∧ ∀ kvs, H d = some (.frz o (.dK kvs)) → ∃ kv, kvs[i]? = some kv ∧ v = kv.2, fun i H => ∃ kvs, H d = some (.frz o (.dK kvs)) ∧ kvs.length = i⟩
theorem turn_values {P : Program} {w : World} {K : PySem.W.Frag} {tg : Expr} (d it : Addr) (o : Obj) {es : Array DictEntry} {ep : Nat} (hd : o.data = .dict es ep) : Turn P w K tg (Itv d o) [it] it (fun i h => h.IsValIter it d i es.size ep) where
  mem := by simp
  obj := fun i h st b hb => by
    obtain ⟨o, e1, e2, e3⟩ := st
    rw [List.mem_singleton.mp hb]
    exact ⟨_, e1, fun v z => by rw [e3] at z; cases z⟩
  keep := fun i h h' st kk => by
    obtain ⟨o, e1, r⟩ := st
    exact ⟨o, kk it (by simp) _ e1, r⟩
  item := by
    intro X hP hw hK hc i pins s σ H E I hf st hg
    subst hP hw hK
    obtain ⟨f0, f1, f2, f3, f4, f5⟩ := hf it (by simp)
    obtain ⟨kvs, kv, hH, hx⟩ := hg
    obtain ⟨vs, rel, dd, lv⟩ := frz_at I.hok hH hd
    have hi : i < kvs.length := (List.getElem?_eq_some_iff.mp hx).1
    obtain ⟨⟨k', u⟩, hu⟩ : ∃ p, vs[i]? = some p := ⟨vs[i]'(by rw [← rel.length]; exact hi), List.getElem?_eq_getElem _⟩
    have both := rel.at' hx hu
    rw [← lv] at st
    refine wpAny_pyNext_values_item st dd hu fun h' hi' hs' => ?_
    have I1 : Inv X pins σ H { s with heap := h', toks := s.toks } := I.turned (fun b o hb e => hs'.extBut b o hb e) f0 f1 f3 f4 f5
    obtain ⟨oi, e1, e2, e3⟩ := id hi'
    refine ⟨_, rfl, go_of (s := { s with heap := h' }) (n := "dict_valueiterator") e1 e2 e3 (by decide) ⟨kv.2, H, I1, both.2, ⟨rfl, fun ks hks => ?_⟩, by rw [← lv]; exact hi', fun b hb => (hf b hb).1⟩⟩
    rw [hH] at hks
    cases hks
    exact ⟨kv, hx, rfl⟩
  done := by
    intro X hP hw hK hc i pins s σ H E I hf st hg
    subst hP hw hK
    obtain ⟨f0, f1, f2, f3, f4, f5⟩ := hf it (by simp)
    obtain ⟨kvs, hH, hl⟩ := hg
    obtain ⟨vs, rel, dd, lv⟩ := frz_at I.hok hH hd
    rw [← lv] at st
    refine wpAny_pyNext_values_end (I.ok.hd hc) st dd (List.getElem?_eq_none (by rw [← rel.length, hl]; exact Nat.le_refl _)) fun h' eb => ⟨rfl, I.turned (t' := s.toks) (fun b o hb e => eb b o hb e) f0 f1 f3 f4 f5⟩
  self := fun _ _ _ _ _ st h => by
    exact wpAny_pyIter_valiter st h
section
variable {X : Cx} {tg : Expr}
inductive iValsY (R : It → Hp → Prop) (x : V) (H1 : Hp) : Prop
  | mk : ∀ d kvs, (x = .ref d) → (((H1 d = some (.dK kvs) ∧ ∀ o, R (Itv d o) (upd H1 d (.frz o (.dK kvs)))) ∨ ∃ o, H1 d = some (.frz o (.dK kvs)) ∧ R (Itv d o) H1)) → iValsY R x H1
def iVals (td : TE) : TI := fun σ H R => td σ H fun x H1 => iValsY R x H1
theorem pi_values {o : Expr} {td : TE} {apos cpos : Pos} (ho : PE X o td)
    (hbase : attributeBase o "values" X.env (eval o X.env) = eval o X.env := by rfl) (hline : (apos.endLine == cpos.line) = true := by rfl) : PI X tg (.Call (.Attribute o "values" apos) [] [] cpos) (iVals td) := by
  intro pins s σ H R I h
  refine wpAny_Call_method0_late hbase hline (thn (ho pins s σ H _ I h) fun v s1 ⟨x, H1, I1, r1, d, kvs, ex, q1⟩ => ?_)
  subst ex
  obtain rfl : v = Value.ref d := r1
  have fr : ∃ ob H2, Inv X pins σ H2 s1 ∧ H2 d = some (.frz ob (.dK kvs)) ∧ R (Itv d ob) H2 := by
    rcases q1 with ⟨e, q⟩ | ⟨ob, e, q⟩
    · obtain ⟨z, hd, vs, rel, dd⟩ := dk_of I1.hok e
      obtain ⟨ob, es, ep, h1, r⟩ := id dd
      exact ⟨ob, _, d_write (t' := s1.toks) (ob := .frz ob (.dK kvs)) I1 (by rw [e]; exact True.intro) ⟨rfl, fun _ _ => rfl⟩ ⟨ob, h1⟩ ⟨h1, z, hd, vs, rel, dd⟩, upd_same, q ob⟩
    · exact ⟨ob, H1, I1, e, q⟩
  obtain ⟨ob, H2, I2, e2, hR⟩ := fr
  obtain ⟨h1, z, hd, vs0, rel0, dd0⟩ := I2.hok d _ e2
  obtain ⟨ob', es, ep, h1', ex', hdat, _⟩ := id dd0
  rw [h1] at h1'
  cases h1'
  obtain ⟨vs, rel, dd, lv⟩ := frz_at I2.hok e2 hdat
  have hT := dd.dictOf.typeIs (s := s1)
  refine ⟨"dict", "dict.values", F.plainAttrs_dict, F.slot_dict_values, F.type_dict_values, hT, fun b q => ?_, ?_⟩
  · cases q
    exact ⟨ob, h1, ex'.2.1⟩
  refine Calls.callWith_builtin rfl (PySem.evalArgs_none (call_meetsIn F.slot_dict_values hT F.entry_dict_values (F.args_dict_values_1 _) (meets_dict_values (mixKind X.prog X.w) d hd) ⟨⟨vs, dd.dictOf⟩, ?_⟩))
  refine wpAny_pyIter_values (knd := mixKind X.prog X.w) (v := s1.heap.objs.size) (d := d) (kvs := vs) (ep := ep) ⟨_, Heap.get?_push_size _ rfl, rfl, rfl⟩ (dd.push _) ?_
  have hk : ∀ b u, s1.heap.get? b = some u → ((s1.heap.push { cls := .type "dict_values", data := .fields #[.ref d] }).push { cls := .type "dict_valueiterator", data := .fields #[.ref d, .int 0 0, .int vs.length 0, .int ep 0] }).get? b = some u := fun b u e => Heap.get?_push_of_some _ (Heap.get?_push_of_some _ e)
  have hz : (s1.heap.push { cls := .type "dict_values", data := .fields #[.ref d] }).objs.size = s1.heap.objs.size + 1 := Heap.size_push ..
  refine ⟨_, [(s1.heap.push { cls := .type "dict_values", data := .fields #[.ref d] }).objs.size], _, _, H2, rfl, I2.kept (t' := s1.toks) hk, turn_values d _ ob hdat, ?_, fun b hb => ?_, hR⟩
  · rw [← lv]
    exact ⟨_, Heap.get?_push_size _ rfl, rfl, rfl⟩
  · rw [List.mem_singleton.mp hb, hz]
    exact I2.fpOk (by omega) (I2.hok.fresh (by omega))
end
theorem walk_values {d : Addr} {o : Obj} {kvs : List (Key × V)} {g : TG} {bd : TB} {N0 : St → Hp → Prop} {σ : St} {H : Hp} (Pv : Nat → St → Hp → Prop) (h0 : Pv 0 σ H) (hl : ∀ i σ H, i ≤ kvs.length → Pv i σ H → H d = some (.frz o (.dK kvs)))
    (hs : ∀ i kv σ H, kvs[i]? = some kv → Pv i σ H → g kv.2 σ H fun σ2 H2 => bd (Pv (i + 1)) σ2 H2) (hd : ∀ σ H, Pv kvs.length σ H → N0 σ H) : tWalk (Itv d o) g bd N0 σ H := by
  refine ⟨fun i m σ H => m = kvs.length - i ∧ i ≤ kvs.length ∧ Pv i σ H, ⟨kvs.length, by simp, Nat.zero_le _, h0⟩, ?_⟩
  rintro i m σ H ⟨rfl, hle, p⟩
  have q1 := hl i σ H hle p
  by_cases hi : i < kvs.length
  · refine .inr ⟨⟨kvs, kvs[i], q1, by simp [hi]⟩, Pv (i + 1), fun σ' H' q => ⟨kvs.length - (i + 1), by omega, rfl, by omega, q⟩, fun x H' hy => ?_⟩
    obtain ⟨rfl, e1⟩ := hy
    obtain ⟨kv, hk, rfl⟩ := e1 kvs q1
    exact hs i kv σ _ hk p
  · have : i = kvs.length := by omega
    subst this
    exact .inl ⟨⟨kvs, q1, rfl⟩, hd σ H p⟩
end L2
set_option linter.all false
namespace Txs
open PySem PySem.Builtin PySem.Builtin.Str PySem.StrLaws
/-- a text of these signs -/
def tx (l : List Nat) : Str := ⟨l.toArray⟩
theorem tx_list (z : Str) : tx z.cps.toList = z := by
  cases z
  simp [tx]
theorem tx_inj {a b : List Nat} (h : tx a = tx b) : a = b := by
  have := congrArg (fun z : Str => z.cps.toList) h
  simpa [tx] using this
theorem tx_len (l : List Nat) : (tx l).length = l.length := by simp [tx, Str.length]
theorem tx_size (l : List Nat) : (tx l).cps.size = l.length := by simp [tx]
theorem tx_at (l : List Nat) (i : Nat) : (tx l).cps[i]? = l[i]? := by simp [tx]
theorem tx_app (a b : List Nat) : tx a ++ tx b = tx (a ++ b) := by
  apply Str.ext'
  simp [tx, Str.cps_append]
theorem join_nil : ∀ zs : List (List Nat), Txt.join (tx []) (zs.map tx) = tx zs.flatten := by
  have h : ∀ zs : List (List Nat), Str.join (tx []) (zs.map tx) = tx zs.flatten := by
    intro zs
    induction zs with
    | nil => rfl
    | cons a r ih =>
      cases r with
      | nil => simp [Str.join]
      | cons b r =>
        show tx a ++ tx [] ++ Str.join (tx []) ((b :: r).map tx) = _
        rw [ih, tx_app, tx_app]
        simp
  intro zs
  show glued _ _ = _
  rw [glued_eq_join, h]
theorem joinOk_of {z : Str} {zs : List Str} {B : Nat} (hB : ∀ y ∈ zs, y.length ≤ B) (h : zs.length * B + zs.length * z.length ≤ 16777216) : JoinOk z zs = true := by
  unfold JoinOk
  rw [joinFits hB h]
  rfl
theorem at_one (l : List Nat) (c i : Nat) : At (tx l) (tx [c]) l.length i ↔ l[i]? = some c := by
  unfold At
  rw [subAt_eq, tx_len]
  have e0 : (tx l).cps.toList = l := by simp [tx]
  have e1 : (tx [c]).cps.toList = [c] := by simp [tx]
  rw [e0, e1]
  constructor
  · rintro ⟨h1, h2⟩
    have e := eq_of_beq h2
    have hl : i < l.length := h1
    rw [List.getElem?_eq_getElem hl]
    rw [List.drop_eq_getElem_cons hl] at e
    have e : [l[i]] = [c] := e
    injection e with e
    rw [e]
  · intro h
    have hl := (List.getElem?_eq_some_iff.mp h).1
    refine ⟨hl, ?_⟩
    rw [List.drop_eq_getElem_cons hl]
    rw [List.getElem?_eq_getElem hl] at h
    show ([l[i]] == [c]) = true
    rw [Option.some.inj h]
    exact beq_self_eq_true _
/-- where c stands, from i on -/
def plc (c : Nat) : Nat → List Nat → List Nat
  | _, [] => []
  | i, a :: r => if a = c then i :: plc c (i + 1) r else plc c (i + 1) r
theorem occ_run (l : List Nat) (c limit : Nat) : ∀ (k i : Nat) (acc : Array Nat) (free : Nat), i + k = l.length + 1 → free ≤ i → acc.size + (l.length - i) < limit →
    (forIn (List.range' i k) (acc, free) (occBody (tx l) (tx [c]) l.length limit)).run.fst.toList = acc.toList ++ plc c i (l.drop i)
  | 0, i, acc, free, h, _, _ => by
    have : l.drop i = [] := List.drop_eq_nil_of_le (by omega)
    rw [this]
    show acc.toList = _
    simp [plc]
  | k + 1, i, acc, free, h, hf, hl => by
    rw [List.range'_succ, List.forIn_cons]
    unfold occBody
    by_cases hi : i < l.length
    · rw [List.drop_eq_getElem_cons hi]
      by_cases hc : l[i] = c
      · have ha : At (tx l) (tx [c]) l.length i := (at_one l c i).mpr (by rw [List.getElem?_eq_getElem hi, hc])
        rw [if_pos ⟨⟨⟨by show acc.size < limit; omega, hf⟩, ha.1⟩, ha.2⟩]
        have ih := occ_run l c limit k (i + 1) (acc.push i) (i + 1) (by omega) (Nat.le_refl _) (by rw [Array.size_push]; omega)
        have e1 : i + (tx [c]).length = i + 1 := by rw [tx_len]; rfl
        show (forIn (List.range' (i + 1) k) (acc.push i, i + (tx [c]).length) (occBody (tx l) (tx [c]) l.length limit)).run.fst.toList = _
        rw [e1, ih, plc, if_pos hc]
        simp
      · have ha : ¬ At (tx l) (tx [c]) l.length i := fun z => hc (by have := (at_one l c i).mp z; rw [List.getElem?_eq_getElem hi] at this; exact Option.some.inj this)
        rw [if_neg fun z => ha ⟨z.1.2, z.2⟩]
        have ih := occ_run l c limit k (i + 1) acc free (by omega) (by omega) (by omega)
        show (forIn (List.range' (i + 1) k) (acc, free) (occBody (tx l) (tx [c]) l.length limit)).run.fst.toList = _
        rw [ih]
        rw [plc, if_neg hc]
    · have ha : ¬ At (tx l) (tx [c]) l.length i := fun z => by
        have := (at_one l c i).mp z
        rw [List.getElem?_eq_none (by omega)] at this
        cases this
      rw [if_neg fun z => ha ⟨z.1.2, z.2⟩]
      have ih := occ_run l c limit k (i + 1) acc free (by omega) (by omega) (by omega)
      show (forIn (List.range' (i + 1) k) (acc, free) (occBody (tx l) (tx [c]) l.length limit)).run.fst.toList = _
      rw [ih, List.drop_eq_nil_of_le (by omega), List.drop_eq_nil_of_le (by omega)]
      rfl
theorem occ_one (l : List Nat) (c : Nat) : occurrences (tx l) (tx [c]) 0 (tx l).length ((tx l).length + 1) = plc c 0 l := by
  rw [occ_eq, tx_len]
  have := occ_run l c (l.length + 1) (l.length + 1) 0 #[] 0 (by omega) (Nat.le_refl _) (by simp)
  rw [show l.length + 1 - 0 = l.length + 1 from rfl, this]
  simp
/-- the parts between the c's -/
def spl (c : Nat) : List Nat → List (List Nat)
  | [] => [[]]
  | a :: r => if a = c then [] :: spl c r else match spl c r with
    | [] => [[a]]
    | p :: q => (a :: p) :: q
theorem spl_ne (c : Nat) : ∀ l, ∃ p q, spl c l = p :: q
  | [] => ⟨_, _, rfl⟩
  | a :: r => by
    unfold spl
    split
    · exact ⟨_, _, rfl⟩
    · obtain ⟨p, q, e⟩ := spl_ne c r
      rw [e]
      exact ⟨_, _, rfl⟩
theorem sub_tx (l : List Nat) (a b : Nat) : strSub (tx l) a b = tx ((l.drop a).take (b - a)) := by
  apply Str.ext'
  apply Array.toList_inj.mp
  rw [strSub_toList]
  simp [tx]
theorem parts_spl (l : List Nat) (c : Nat) : ∀ (r : List Nat) (a i : Nat), a ≤ i → l.drop i = r → i + r.length = l.length →
    ∃ p q, spl c r = p :: q ∧ partsFrom (tx l) 1 a (plc c i r) = tx ((l.drop a).take (i - a) ++ p) :: q.map tx
  | [], a, i, h, hd, hl => by
    refine ⟨[], [], rfl, ?_⟩
    have : i = l.length := by simpa using hl
    subst this
    show [strSub (tx l) a (tx l).length] = _
    rw [sub_tx, tx_len]
    simp
  | x :: r, a, i, h, hd, hl => by
    have hi : i < l.length := by simp at hl; omega
    have hx : l[i] = x ∧ l.drop (i + 1) = r := by
      rw [List.drop_eq_getElem_cons hi] at hd
      injection hd with h1 h2
      exact ⟨h1, h2⟩
    have hl' : i + 1 + r.length = l.length := by simp at hl; omega
    unfold plc spl
    by_cases hc : x = c
    · rw [if_pos hc, if_pos hc]
      obtain ⟨p, q, e, e2⟩ := parts_spl l c r (i + 1) (i + 1) (Nat.le_refl _) hx.2 hl'
      refine ⟨[], p :: q, by rw [e], ?_⟩
      show strSub (tx l) a i :: partsFrom (tx l) 1 (i + 1) (plc c (i + 1) r) = _
      rw [e2, sub_tx]
      simp
    · rw [if_neg hc, if_neg hc]
      obtain ⟨p, q, e, e2⟩ := parts_spl l c r a (i + 1) (by omega) hx.2 hl'
      rw [e]
      refine ⟨x :: p, q, rfl, ?_⟩
      rw [e2]
      have z : (l.drop a).take (i + 1 - a) ++ p = (l.drop a).take (i - a) ++ x :: p := by
        have : i + 1 - a = (i - a) + 1 := by omega
        rw [this, List.take_add_one, List.getElem?_drop, show a + (i - a) = i by omega, List.getElem?_eq_getElem hi, hx.1]
        simp
      rw [z]
theorem plc_nil (c : Nat) : ∀ (l : List Nat) (i : Nat), plc c i l = [] → spl c l = [l]
  | [], _, _ => rfl
  | a :: r, i, h => by
    unfold plc at h
    unfold spl
    split at h
    · cases h
    · rename_i n
      rw [if_neg n, plc_nil c r (i + 1) h]
theorem kind_ascii {l : List Nat} (h : ∀ c ∈ l, c < 128) : PySem.Builtin.Str.strKind (tx l) = 1 := by
  unfold PySem.Builtin.Str.strKind
  rw [if_pos]
  rw [Array.all_eq_true]
  intro i hi
  have hi' : i < l.length := by simpa [tx] using hi
  have : (tx l).cps[i] ∈ l := by simp [tx]
  have := h _ this
  simp only [decide_eq_true_eq]
  omega
theorem split_one {l : List Nat} {c : Nat} (ha : ∀ x ∈ l, x < 128) (hc : c < 128) : Txt.split (tx l) (tx [c]) = (spl c l).map tx := by
  unfold Txt.split
  by_cases h0 : l = []
  · subst h0
    rw [if_pos (by simp [tx_len])]
    rfl
  · have hl : 0 < l.length := List.length_pos_iff.mpr h0
    have k1 := kind_ascii ha
    have k2 : PySem.Builtin.Str.strKind (tx [c]) = 1 := kind_ascii (by intro x hx; rw [List.mem_singleton.mp hx]; exact hc)
    rw [if_neg (by rw [k1, k2, tx_len, tx_len]; simp; omega), occ_one]
    split
    · rename_i h
      rw [plc_nil c l 0 (List.isEmpty_iff.mp h)]
      rfl
    · rw [partsBetween_eq]
      obtain ⟨p, q, e, e2⟩ := parts_spl l c l 0 0 (Nat.le_refl _) rfl (by simp)
      rw [e, show (tx [c]).length = 1 from tx_len _, e2]
      rfl
theorem parts_len (l : List Nat) (c : Nat) : (partsBetween (tx l) (occurrences (tx l) (tx [c]) 0 (tx l).length ((tx l).length + 1)) (tx [c]).length).length = (spl c l).length := by
  rw [occ_one, partsBetween_eq]
  obtain ⟨p, q, e, e2⟩ := parts_spl l c l 0 0 (Nat.le_refl _) rfl (by simp)
  rw [e, show (tx [c]).length = 1 from tx_len _, e2]
  simp
theorem spl_len (c : Nat) : ∀ l, (spl c l).length ≤ l.length + 1
  | [] => by simp [spl]
  | a :: r => by
    have := spl_len c r
    unfold spl
    split
    · simp only [List.length_cons]
      omega
    · obtain ⟨p, q, e⟩ := spl_ne c r
      rw [e] at this ⊢
      simp only [List.length_cons] at this ⊢
      omega
theorem spl_line (c : Nat) : ∀ (a r : List Nat), c ∉ a → spl c (a ++ c :: r) = a :: spl c r
  | [], r, _ => by
    show (if c = c then [] :: spl c r else _) = _
    rw [if_pos rfl]
  | x :: a, r, h => by
    have hx : ¬ x = c := fun z => h (z ▸ List.mem_cons_self)
    show (if x = c then [] :: spl c (a ++ c :: r) else match spl c (a ++ c :: r) with | [] => [[x]] | p :: q => (x :: p) :: q) = _
    rw [if_neg hx, spl_line c a r fun z => h (List.mem_cons_of_mem _ z)]
/-- lines, each with its c behind it -/
theorem spl_lines (c : Nat) : ∀ (ls : List (List Nat)), (∀ l ∈ ls, c ∉ l) → spl c (ls.map (· ++ [c])).flatten = ls ++ [[]]
  | [], _ => rfl
  | a :: r, h => by
    rw [List.map_cons, List.flatten_cons, List.append_assoc]
    show spl c (a ++ c :: (r.map (· ++ [c])).flatten) = _
    rw [spl_line c a _ (h a List.mem_cons_self), spl_lines c r fun l hl => h l (List.mem_cons_of_mem _ hl)]
    rfl
theorem in_one (l : List Nat) (c : Nat) : (!(occurrences (tx l) (tx [c]) 0 (tx l).length 1).isEmpty) = decide (c ∈ l) := by
  rw [occ_eq, tx_len]
  have h := occ_first (tx l) (tx [c]) l.length 1 (Nat.le_refl _) (List.range' 0 (l.length + 1 - 0)) 0 (fun i _ => Nat.zero_le _)
  rcases h with ⟨h0, hn⟩ | ⟨pre, a, post, e, h0, hb, hn⟩
  · rw [h0]
    simp only [List.isEmpty_nil, Bool.not_true]
    symm
    rw [decide_eq_false_iff_not]
    intro hc
    obtain ⟨i, hi, e⟩ := List.getElem_of_mem hc
    refine hn i ?_ ((at_one l c i).mpr (by rw [List.getElem?_eq_getElem hi, e]))
    rw [List.mem_range'_1]
    omega
  · have hc : c ∈ l := List.mem_of_getElem? ((at_one l c a).mp hb)
    rw [decide_eq_true hc]
    generalize forIn (m := Id) (List.range' 0 (l.length + 1 - 0)) ((#[] : Array Nat), 0) (occBody (tx l) (tx [c]) l.length 1) = Z at h0 ⊢
    have : Z.run.fst.toList ≠ [] := by
      intro z
      have : Z.run.fst = #[] := by
        apply Array.toList_inj.mp
        rw [z]
      rw [this] at h0
      cases h0
    cases hz : Z.run.fst.toList with
    | nil => exact absurd hz this
    | cons a b => rfl
theorem slice_to (l : List Nat) {n : Nat} (h : n ≤ l.length) : Txt.slice (tx l) none (some (n : Int)) = tx (l.take n) := by
  have := sliceText_to (x := tx l) (j := (n : Int)) ⟨by omega, by simp [tx]; exact h⟩
  rw [show Txt.slice (tx l) none (some (n : Int)) = sliceText (tx l) none (some (n : Int)) from rfl, this]
  simp [tx]
end Txs
set_option linter.all false
namespace L2
open PySem PySem.Spec PyProof.Rows
theorem se_tup {a : List Expr} {b} {p : Pos} {es : List Expr} {env : Env} : starEach (.Tuple a b p :: es) env = (false, eval (.Tuple a b p) env) :: starEach es env := by rfl
@[irreducible] def PAi (X : Cx) (es : List Expr) (t : TA) : Prop := PA X es t
@[irreducible] def PSi (X : Cx) (st : Stmt) (t : TS) : Prop := PS X st t
@[irreducible] def PSsi (X : Cx) (l : List Stmt) (t : TS) : Prop := PSs X l t
theorem pai_of {X : Cx} {es : List Expr} {t : TA} : PAi X es t = PA X es t := by unfold PAi; rfl
theorem psi_of {X : Cx} {st : Stmt} {t : TS} : PSi X st t = PS X st t := by unfold PSi; rfl
theorem pssi_of {X : Cx} {l : List Stmt} {t : TS} : PSsi X l t = PSs X l t := by unfold PSsi; rfl
section
variable {X : Cx} {es : List Expr} {t : TA}
theorem pai_nil : PAi X [] tNil := by
  rw [pai_of]
  exact pa_nil
theorem pai_two {a b : Int} {k k' k'' p p' p''} (hr : PAi X es t) : PAi X (.Tuple [.Constant (.int a) k p, .Constant (.int b) k' p'] k'' p'' :: es) (tCons (tTup (tCons (tC (.int a)) (tCons (tC (.int b)) tNil))) t) := by
  rw [pai_of] at hr ⊢
  exact pa_cons (pe_tup (p2 pe_int pe_int)) hr se_tup
theorem psi_pick {tg idx : Expr} {ti : TE} {g : TG} {p p' pos : Pos} (ha : PAi X es t) (hi : PE X idx ti) (hg : PG X tg g) (hx : PlainIx idx := by exact fun _ _ => rfl) (hs : swapsWithSole [tg] (.Subscript (.List es p) idx p') pos.line X.env = pure false := by rfl)
    (hw : swappedStores [tg] (.Subscript (.List es p) idx p') X.env = pure none := by rfl) (h1 : (assignEach [tg] X.env).map (·.2) = [assign tg X.env] := by rfl) : PSi X (.Assign [tg] (.Subscript (.List es p) idx p') pos) (tAsg (tOp (rIxL X.K) (tLst t) ti) g) := by
  rw [pai_of] at ha
  rw [psi_of]
  exact ps_asg (pe_ix ix_list (pe_lst ha) hi hx) hg hs hw h1
theorem pssi_cons {st : Stmt} {rest : List Stmt} {t u : TS} (h : PSi X st t) (hr : PSs X rest u) : PSsi X (st :: rest) (tSeq t u) := by
  rw [psi_of] at h
  rw [pssi_of]
  exact pss_cons h hr
end
section
variable {P : Program} {w : World} {K : PySem.W.Frag} {mg : Str → Option Value} {base : Heap}
theorem hs_ofI {n : Str} {st : Stmt} {N ps : List Str} {k : Nat} {sp : Sp} (X : ∃ h : Heap, K.In h ∧ h.Ns mainGlobals mg) (d : DfAt K n st) (S : FnScope N ps (defScope st))
    (hbody : ∀ (f : Addr) (cdv : Value) (A : Around) (outer : List Env) (s : Shared) (H : Hp) (vs : List V) (Q : VK) (E : XK), N.Nodup → Room k (A.deeper (envOfC n (defScope st) s.heap.objs.size f cdv)) → sp vs H Q E →
      ∃ t, PSsi (cxOf CX0 P w K mg base N n (defScope st) f cdv A outer s H E).nox (defBody st) t ∧ t { nx := fun _ H' => Q .non H', rt := Q } (start N vs) H)
    (len : ∀ vs H Q E, sp vs H Q E → vs.length = ps.length)
    (b : ∀ (kV doc pm : Value) (an : Option Addr) (cdv ct : Value) (us : List Value), us.length = ps.length → bindArgs (PySem.W.fnOf n n (defArgs st) (defBody st) (defScope st) .none kV doc pm an cdv ct) ⟨us, []⟩ = pure (ps.zip us)) : Own.Has P w K mg base n ps (k + 1) sp :=
  hs_of X d S (fun f cdv A outer s H vs Q E nN hr h => by
    obtain ⟨t, h1, h2⟩ := hbody f cdv A outer s H vs Q E nN hr h
    rw [pssi_of] at h1
    exact ⟨t, h1, h2⟩) len b
end
section
variable {X : Cx}
inductive call_lenDY (xs : List V) (H : Hp) (Q : VK) : Prop
  | mk : ∀ d kvs, (xs = [.ref d]) → (Rd H d (.dK kvs)) → (Q (.int (kvs.length : Nat)) H) → call_lenDY xs H Q
theorem call_lenD : CallR X (.builtin "len") call_lenDY := by
  intro pins s σ H xs us Q I r h
  obtain ⟨d, kvs, rfl, e, q⟩ := h
  obtain ⟨u, rfl, rx⟩ := vals1 r
  cases rx
  exact d_len I e fun t s' I' => ⟨.int (kvs.length : Nat), H, I', ⟨t, rfl⟩, q⟩
end
end L2
set_option linter.all false
namespace L2
open PySem
def CnAt (K : PySem.W.Frag) (n : Str) (xs : List Int) : Prop := ∃ (f : Addr) (od : Option Addr) (its : Array Value) (c : Nat) (osl : Array (Option Value)), PySem.W.nsIn K mainGlobals n = some (some (.ref f)) ∧ K.lookup f = some ⟨.type "tuple", od, .seq its c, osl⟩ ∧ its.toList.map absV = xs.map fun x => some (V.int x)
theorem cn_mk {K : PySem.W.Frag} {n : Str} {xs : List Int} {f : Addr} {od : Option Addr} {its : Array Value} {c : Nat} {osl : Array (Option Value)} (a : PySem.W.nsIn K mainGlobals n = some (some (.ref f))) (l : K.lookup f = some ⟨.type "tuple", od, .seq its c, osl⟩) (v : its.toList.map absV = xs.map fun x => some (V.int x)) : CnAt K n xs := ⟨f, od, its, c, osl, a, l, v⟩
def CvAt (K : PySem.W.Frag) (n : Str) (v : V) : Prop := ∃ u : Value, PySem.W.nsIn K mainGlobals n = some (some u) ∧ absV u = some v
theorem cv_mk {K : PySem.W.Frag} {n : Str} {v : V} {u : Value} (a : PySem.W.nsIn K mainGlobals n = some (some u)) (e : absV u = some v) : CvAt K n v := ⟨u, a, e⟩
theorem cv_of {K : PySem.W.Frag} {mg : Str → Option Value} {n : Str} {v : V} (X : ∃ h : Heap, K.In h ∧ h.Ns mainGlobals mg) (h : CvAt K n v) : ∃ u, mg n = some u ∧ RelV v u := by
  obtain ⟨hp, x, g⟩ := X
  obtain ⟨u, a, e⟩ := h
  refine ⟨u, PySem.W.mg_of x g a, ?_⟩
  cases u <;> simp [absV] at e <;> subst e <;> first | exact ⟨_, rfl⟩ | rfl
end L2
set_option Elab.async false
set_option linter.all false
set_option maxRecDepth 100000
set_option maxHeartbeats 4000000
namespace Hsh
set_option autoImplicit false
open PySem PySem.Spec PyProof.Rows
/-- the hash of a pair, brought above nought -/
def hp (p q : Nat) : Nat := (reduceHash (Builtin.Tuple.tupleHashOf [hashInt (p : Int), hashInt (q : Int)]) + 2 ^ 63).toNat
def all : List Nat := (List.range 1764).map fun i => hp (i / 42) (i % 42)
end Hsh
set_option Elab.async false
set_option linter.all false
set_option maxRecDepth 100000
set_option maxHeartbeats 4000000
namespace Dct
set_option autoImplicit false
open PySem PySem.Spec PyProof.Rows
section
variable {prog : Program} {w : World} {A : Around} {E : Value → Shared → Prop} {s : Shared} {κ : Type} [DecidableEq κ] {kd : KeyKind prog w κ}
end
end Dct
set_option Elab.async false
set_option linter.all false
set_option maxRecDepth 100000
set_option maxHeartbeats 4000000
namespace Dcl
open PySem PySem.Spec PyProof.Rows L2
section
variable {prog : Program} {w : World} {A : Around} {E : Value → Shared → Prop} {s : Shared}
end
section
variable {X : Cx} {pins : List (Addr × Obj)} {σ : L2.St} {A : Around} {R : Result → Shared → Prop}
end
end Dcl
set_option Elab.async false
set_option linter.all false
set_option maxRecDepth 100000
set_option maxHeartbeats 4000000
namespace Dcl
open PySem PySem.Spec PyProof.Rows L2
section
variable {prog : Program} {w : World} {A : Around} {E : Value → Shared → Prop} {s : Shared}
end
end Dcl
set_option Elab.async false
set_option linter.all false
set_option maxRecDepth 100000
set_option maxHeartbeats 4000000
namespace Dcl
open PySem PySem.Spec PyProof.Rows L2
section
variable {prog : Program} {w : World} {A : Around} {E : Value → Shared → Prop} {s : Shared} {z TI TO i1 i2 T : Addr} {fp1 fp2 : List Addr} {n1 n2 j : Nat} {P1 P2 : Nat → Value → Prop} {S1 S2 : Nat → Heap → Prop} {f1 : Bool}
end
end Dcl
set_option Elab.async false
set_option linter.all false
set_option maxRecDepth 100000
set_option maxHeartbeats 4000000
namespace Dcl
open PySem PySem.Spec PyProof.Rows L2
section
variable {prog : Program} {w : World} {A : Around} {E : Value → Shared → Prop} {s : Shared} {a b z TI TO i1 i2 : Addr} {j : Nat} {xs ys : Array Value}
end
section
variable {X : Cx} {pins : List (Addr × Obj)} {σ : L2.St} {A : Around} {R : Result → Shared → Prop}
end
section
variable {X : Cx}
end
end Dcl
set_option linter.all false
namespace Dcl
open PySem L2
/-- a number as a key -/
def kn (n : Nat) : Key := .inl (n : Int)
section
variable {ps : List (Key × V)}
theorem val_mem (nd : (ps.map (·.1)).Nodup) {k : Key} {v : V} (m : (k, v) ∈ ps) : valV ps k = some v := by
  induction ps with
  | nil => cases m
  | cons p r ih =>
    rw [List.map_cons, List.nodup_cons] at nd
    by_cases e : p.1 = k
    · rw [valV_pos e]
      rcases List.mem_cons.mp m with z | z
      · rw [← z]
      · exact absurd (List.mem_map.mpr ⟨_, z, rfl⟩) (e ▸ nd.1)
    · rw [valV_neg e]
      rcases List.mem_cons.mp m with z | z
      · exact absurd (by rw [← z]) e
      · exact ih nd.2 z
theorem val_none {k : Key} (h : k ∉ ps.map (·.1)) : valV ps k = none := by
  induction ps with
  | nil => rfl
  | cons p r ih =>
    rw [List.map_cons, List.mem_cons, not_or] at h
    rw [valV_neg (fun z => h.1 z.symm)]
    exact ih h.2
end
end Dcl
set_option linter.all false
set_option Elab.async false
namespace Pic
open PySem Txs
def SG : List Nat := [97, 98, 99, 100, 101, 102, 103, 104, 105, 106, 107, 108, 109, 110, 111, 112, 113, 114, 115, 116, 117, 118, 119, 120, 121, 122, 65, 66, 67, 68, 69, 70, 71, 72, 73, 74, 75, 76, 77, 78]
theorem sg_str : ("abcdefghijklmnopqrstuvwxyzABCDEFGHIJKLMN" : Str) = tx SG := by decide +kernel
theorem sg_nd : SG.Nodup := by decide
theorem sg_len : SG.length = 40 := rfl
theorem sg_at {i : Nat} (h : i < 40) : SG[i]? = some (SG.getD i 0) := by
  rw [List.getD_eq_getElem?_getD, List.getElem?_eq_getElem (by rw [sg_len]; exact h)]
  rfl
theorem sg_mem {i : Nat} (h : i < 40) : SG.getD i 0 ∈ SG := List.mem_of_getElem? (sg_at h)
theorem sg_inj {i j : Nat} (hi : i < 40) (hj : j < 40) (h : SG.getD i 0 = SG.getD j 0) : i = j := by
  have a := sg_at hi
  have b := sg_at hj
  rw [h, ← b] at a
  have := (List.getElem?_inj (by rw [sg_len]; exact hi) sg_nd).mp a
  exact this
theorem sg_lt {c : Nat} (h : c ∈ SG) : c < 128 ∧ c ≠ 10 ∧ c ≠ 46 := by
  revert c
  decide
abbrev Pl := List (Nat × Nat)
def cell (ps : Pl) (x y : Nat) : Nat := if (x, y) ∈ ps then SG.getD (ps.idxOf (x, y)) 0 else 46
theorem cell_miss {ps : Pl} {x y : Nat} (h : (x, y) ∉ ps) : cell ps x y = 46 := if_neg h
theorem idx_at {ps : Pl} (nd : ps.Nodup) {i : Nat} {a : Nat × Nat} (h : ps[i]? = some a) : ps.idxOf a = i := by
  obtain ⟨hi, e⟩ := List.getElem?_eq_some_iff.mp h
  subst e
  exact List.Nodup.idxOf_getElem nd i hi
theorem cell_at {ps : Pl} (nd : ps.Nodup) {i x y : Nat} (h : ps[i]? = some (x, y)) : cell ps x y = SG.getD i 0 := by
  unfold cell
  rw [if_pos (List.mem_of_getElem? h), idx_at nd h]
theorem nd_take {ps : Pl} (nd : ps.Nodup) (i : Nat) : (ps.take i).Nodup := nd.sublist (List.take_sublist i ps)
theorem take_at {ps : Pl} {i j : Nat} (h : j < i) : (ps.take i)[j]? = ps[j]? := List.getElem?_take_of_lt h
theorem cell_step {ps : Pl} (nd : ps.Nodup) {i : Nat} {a : Nat × Nat} (h : ps[i]? = some a) (x y : Nat) : cell (ps.take (i + 1)) x y = if (x, y) = a then SG.getD i 0 else cell (ps.take i) x y := by
  have e : ps.take (i + 1) = ps.take i ++ [a] := by rw [List.take_add_one, h]; rfl
  split
  · rename_i z
    have e2 : (ps.take (i + 1))[i]? = some (x, y) := by rw [take_at (by omega), h, z]
    exact cell_at (nd_take nd _) e2
  · rename_i z
    unfold cell
    rw [e]
    by_cases m : (x, y) ∈ ps.take i
    · rw [if_pos (List.mem_append_left _ m), if_pos m, List.idxOf_append, if_pos m]
    · rw [if_neg (by simp only [List.mem_append, List.mem_singleton, not_or]; exact ⟨m, z⟩), if_neg m]
theorem cell_cases (ps : Pl) (nd : ps.Nodup) (x y : Nat) : ((x, y) ∉ ps ∧ cell ps x y = 46) ∨ ∃ i, ps[i]? = some (x, y) ∧ cell ps x y = SG.getD i 0 := by
  by_cases m : (x, y) ∈ ps
  · obtain ⟨i, hi, e⟩ := List.getElem_of_mem m
    have : ps[i]? = some (x, y) := by rw [List.getElem?_eq_getElem hi, e]
    exact .inr ⟨i, this, cell_at nd this⟩
  · exact .inl ⟨m, cell_miss m⟩
/-- the places of a picture -/
structure Ok (ps : Pl) : Prop where
  nd : ps.Nodup
  few : ps.length ≤ 40
  lo : 3 ≤ ps.length
  x : ∀ p ∈ ps, p.1 ≤ 76
  y : ∀ p ∈ ps, p.2 ≤ 40
theorem cell_ok {ps : Pl} (o : Ok ps) (x y : Nat) : cell ps x y < 128 ∧ cell ps x y ≠ 10 := by
  rcases cell_cases ps o.nd x y with ⟨_, e⟩ | ⟨i, h, e⟩
  · rw [e]; decide
  · have hi := (List.getElem?_eq_some_iff.mp h).1
    have := o.few
    have := sg_lt (sg_mem (i := i) (by omega))
    rw [e]
    exact ⟨this.1, this.2.1⟩
/-- the greatest of both -/
structure Bx (ps : Pl) (W h : Nat) : Prop where
  xm : ∃ p ∈ ps, p.1 = W
  xl : ∀ p ∈ ps, p.1 ≤ W
  ym : ∃ p ∈ ps, p.2 = h
  yl : ∀ p ∈ ps, p.2 ≤ h
theorem Bx.uniq {ps : Pl} {W h W' h' : Nat} (a : Bx ps W h) (b : Bx ps W' h') : W = W' ∧ h = h' := by
  obtain ⟨p, hp, rfl⟩ := a.xm
  obtain ⟨q, hq, rfl⟩ := b.xm
  obtain ⟨r, hr, rfl⟩ := a.ym
  obtain ⟨t, ht, rfl⟩ := b.ym
  have := a.xl _ hq
  have := b.xl _ hp
  have := a.yl _ ht
  have := b.yl _ hr
  omega
theorem Bx.le {ps : Pl} {W h : Nat} (o : Ok ps) (a : Bx ps W h) : W ≤ 76 ∧ h ≤ 40 := by
  obtain ⟨p, hp, rfl⟩ := a.xm
  obtain ⟨r, hr, rfl⟩ := a.ym
  exact ⟨o.x _ hp, o.y _ hr⟩
def line (ps : Pl) (W y : Nat) : List Nat := (List.range (W + 1)).map fun x => cell ps x y
def lines (ps : Pl) (W h : Nat) : List (List Nat) := (List.range (h + 1)).map fun i => line ps W (h - i)
def pic (ps : Pl) (W h : Nat) : List Nat := ((lines ps W h).map (· ++ [10])).flatten
theorem line_len (ps : Pl) (W y : Nat) : (line ps W y).length = W + 1 := by simp [line]
theorem lines_len (ps : Pl) (W h : Nat) : (lines ps W h).length = h + 1 := by simp [lines]
theorem line_at {ps : Pl} {W y x : Nat} (h : x < W + 1) : (line ps W y)[x]? = some (cell ps x y) := by
  unfold line
  rw [List.getElem?_map, List.getElem?_range h]
  rfl
theorem lines_at {ps : Pl} {W h i : Nat} (hi : i < h + 1) : (lines ps W h)[i]? = some (line ps W (h - i)) := by
  unfold lines
  rw [List.getElem?_map, List.getElem?_range hi]
  rfl
theorem lines_rev {ps : Pl} {W h y : Nat} (hy : y < h + 1) : (lines ps W h).reverse[y]? = some (line ps W y) := by
  rw [List.getElem?_reverse (by rw [lines_len]; exact hy), lines_len, lines_at (by omega)]
  congr 2
  omega
theorem line_ok {ps : Pl} (o : Ok ps) {W y : Nat} : ∀ c ∈ line ps W y, c < 128 ∧ c ≠ 10 := by
  intro c hc
  obtain ⟨x, _, rfl⟩ := List.mem_map.mp hc
  exact cell_ok o x y
theorem pic_spl {ps : Pl} (o : Ok ps) (W h : Nat) : spl 10 (pic ps W h) = lines ps W h ++ [[]] := by
  refine spl_lines 10 _ fun l hl z => ?_
  obtain ⟨i, _, rfl⟩ := List.mem_map.mp hl
  exact (line_ok o 10 z).2 rfl
theorem flat_len (k : Nat) : ∀ ls : List (List Nat), (∀ l ∈ ls, l.length = k) → ls.flatten.length = ls.length * k
  | [], _ => by simp
  | a :: r, h => by
    rw [List.flatten_cons, List.length_append, h a List.mem_cons_self, flat_len k r fun l hl => h l (List.mem_cons_of_mem _ hl), List.length_cons, Nat.succ_mul]
    omega
theorem pic_len (ps : Pl) (W h : Nat) : (pic ps W h).length = (h + 1) * (W + 2) := by
  unfold pic
  rw [flat_len (W + 2), List.length_map, lines_len]
  intro l hl
  obtain ⟨m, hm, rfl⟩ := List.mem_map.mp hl
  obtain ⟨i, _, rfl⟩ := List.mem_map.mp hm
  rw [List.length_append, line_len]
  rfl
/-- the places read, row by row, up to (x, y) -/
structure Scan (ps : Pl) (y x : Nat) (D : List Nat) : Prop where
  nd : D.Nodup
  mem : ∀ p, p ∈ D ↔ ∃ a b, ps[p]? = some (a, b) ∧ (b < y ∨ b = y ∧ a < x)
theorem Scan.start (ps : Pl) : Scan ps 0 0 [] := ⟨List.nodup_nil, fun p => ⟨fun z => (nomatch z), fun ⟨_, _, _, z⟩ => by omega⟩⟩
theorem Scan.hit {ps : Pl} (nd : ps.Nodup) {y x : Nat} {D : List Nat} (s : Scan ps y x D) {p : Nat} (h : ps[p]? = some (x, y)) : p ∉ D ∧ Scan ps y (x + 1) (D ++ [p]) := by
  have n : p ∉ D := fun z => by
    obtain ⟨a, b, e, c⟩ := (s.mem p).mp z
    rw [h] at e
    cases e
    omega
  refine ⟨n, ?_, fun q => ?_⟩
  · rw [List.nodup_append]
    exact ⟨s.nd, by simp, fun a ha b hb z => n (by rw [List.mem_singleton] at hb; rw [← hb, ← z]; exact ha)⟩
  · rw [List.mem_append, List.mem_singleton, s.mem]
    constructor
    · rintro (⟨a, b, e, c⟩ | rfl)
      · exact ⟨a, b, e, by omega⟩
      · exact ⟨x, y, h, by omega⟩
    · rintro ⟨a, b, e, c⟩
      by_cases z : b = y ∧ a = x
      · obtain ⟨rfl, rfl⟩ := z
        right
        rw [← idx_at nd e, ← idx_at nd h]
      · left
        exact ⟨a, b, e, by omega⟩
theorem Scan.row {ps : Pl} {y W : Nat} {D : List Nat} (s : Scan ps y (W + 1) D) (h : ∀ p ∈ ps, p.1 ≤ W) : Scan ps (y + 1) 0 D := by
  refine ⟨s.nd, fun q => ?_⟩
  rw [s.mem]
  constructor
  · rintro ⟨a, b, e, c⟩
    exact ⟨a, b, e, by omega⟩
  · rintro ⟨a, b, e, c⟩
    have : a ≤ W := h _ (List.mem_of_getElem? e)
    exact ⟨a, b, e, by omega⟩
theorem Scan.end {ps : Pl} {h : Nat} {D : List Nat} (s : Scan ps (h + 1) 0 D) (hl : ∀ p ∈ ps, p.2 ≤ h) : D.Perm (List.range ps.length) := by
  refine (List.perm_ext_iff_of_nodup s.nd List.nodup_range).mpr fun p => ?_
  rw [s.mem, List.mem_range]
  constructor
  · rintro ⟨a, b, e, _⟩
    exact (List.getElem?_eq_some_iff.mp e).1
  · intro hp
    refine ⟨ps[p].1, ps[p].2, List.getElem?_eq_getElem hp, ?_⟩
    have := hl _ (List.getElem_mem hp)
    omega
end Pic
set_option linter.all false
set_option Elab.async false
namespace Pic
def code (h : Nat) (p : Nat × Nat) : Nat := p.1 * (h + 1) + p.2
/-- a free place's code -/
theorem free {W h : Nat} {ps : Pl} (few : ps.length < (W + 1) * (h + 1)) : ∃ f, f < (W + 1) * (h + 1) ∧ ∀ p ∈ ps, code h p ≠ f := by
  refine Classical.byContradiction fun n => ?_
  have all : List.range ((W + 1) * (h + 1)) ⊆ ps.map (code h) := fun c hc => by
    refine Classical.byContradiction fun m => n ⟨c, List.mem_range.mp hc, fun p hp e => m (List.mem_map.mpr ⟨p, hp, e⟩)⟩
  have := List.Nodup.length_le_of_subset List.nodup_range all
  rw [List.length_range, List.length_map] at this
  omega
end Pic
set_option Elab.async false
set_option linter.all false
set_option maxRecDepth 100000
set_option maxHeartbeats 4000000
namespace L2
open PySem PySem.Spec PyProof.Rows
theorem walk_enum {k : Bool} {K : PySem.W.Frag} {a : Addr} {xs : List V} {g : TG} {b : TB} {N0 : St → Hp → Prop} {σ : St} {H : Hp} (Pv : Nat → St → Hp → Prop) (h0 : Pv 0 σ H) (hl : ∀ i σ H, i ≤ xs.length → Pv i σ H → SqX K k H a xs)
    (hs : ∀ i x T σ H, xs[i]? = some x → H T = none → Pv i σ H → g (.ref T) σ (upd H T (.tup [.int i, x])) fun σ2 H2 => b (Pv (i + 1)) σ2 H2) (hd : ∀ σ H, Pv xs.length σ H → N0 σ H) : tWalk (Ite k K a) g b N0 σ H := by
  refine ⟨fun i m σ H => m = xs.length - i ∧ i ≤ xs.length ∧ Pv i σ H, ⟨xs.length, by simp, Nat.zero_le _, h0⟩, ?_⟩
  rintro i m σ H ⟨rfl, hle, p⟩
  have q1 := hl i σ H hle p
  rcases Nat.lt_or_ge i xs.length with hi | hi
  · refine .inr ⟨⟨xs, xs[i], q1, by simp [hi]⟩, Pv (i + 1), fun σ' H' q => ⟨xs.length - (i + 1), by omega, rfl, by omega, q⟩, fun x H' hy => ?_⟩
    obtain ⟨T, x1, nT, rfl, e1, rfl⟩ := hy
    exact hs i x1 T σ H (e1 xs q1) nT p
  · obtain rfl : i = xs.length := by omega
    exact .inl ⟨⟨xs, q1, rfl⟩, hd σ H p⟩
end L2
set_option Elab.async false
set_option linter.all false
set_option maxRecDepth 100000
set_option maxHeartbeats 4000000
namespace Dct
set_option autoImplicit false
open PySem PySem.Spec PyProof.Rows
end Dct
namespace L2
open PySem PySem.Spec PyProof.Rows
section
variable {X : Cx} {pins : List (Addr × Obj)} {σ : St} {H : Hp} {s : Shared} {a : Addr} {y v : V} {u r : Value} {o : Option V} {A : Around} {E : Value → Shared → Prop}
/-- what a display and a comprehension do: as d[y] = v -/
theorem d_dictSet {H' : Hp} {Q : Unit → Shared → Prop} (hu : A.units < cLine) (I : Inv X pins σ H s) (g : DPut H a y v H') (ry : RelV y u) (rv : RelV v r) (h : ∀ s', Inv X pins σ H' s' → Q () s') :
    wpAny (model X.prog X.w) A (dictSet a u r) Q E s := by
  rcases g with ⟨kvs, k, e, ey, l, eH⟩ | ⟨kvs, k, b, e, ey, eb, l, eH⟩
  · subst ey eH
    obtain ⟨z, hd, vs, rel, dd⟩ := dk_of I.hok e
    refine wpAny_dictSet_pairs (hsz := by rw [← rel.length]; exact z) (kV_is ry) dd fun h' dd' hs => h _ ?_
    exact d_write I (by rw [e]; exact True.intro) hs (let ⟨q, _, _, hq, _⟩ := dd'; ⟨q, hq⟩) (dk_new (by have := length_putK kvs k v; omega) hd (rel.put k rv) dd')
  · subst ey eH
    cases (show u = Value.ref b from ry)
    obtain ⟨z, hd, xs, rel, dd⟩ := dt_of I.hok e
    refine wpAny_dictSet_heap (hsz := by rw [← Paired.length rel]; exact z) hu (key_of I.hok eb) dd fun h' dd' hs => h _ ?_
    obtain ⟨q, es, ep, hq, h2, h3, h4, _, h5⟩ := dd'
    refine d_write I (by rw [e]; exact True.intro) hs ⟨q, hq⟩ ⟨by have := length_putK kvs k v; omega, hd, _, (rel.put k eb rv).keeps fun c ys ec => ?_, q, es, ep, hq, h2, h3, h4, h5⟩
    rw [upd_ne (ne_of ec e (fun z => nomatch z))]
    exact ec
end
/-- the pair into the dict at D -/
def bDPut (D : Addr) (tk tv : TE) : TB := fun N σ H => tk σ H fun y H1 => tv σ H1 fun v H2 => ∃ H3, DPut H2 D y v H3 ∧ N σ H3
theorem pb_dput {X : Cx} {kx vx : Expr} {tk tv : TE} {D : Addr} (hu : X.A.units + 1 < cLine) (hk : PE X kx tk) (hv : PE X vx tv) : PBd X (emitD kx vx X.env (.ref D)) (bDPut D tk tv) := by
  intro pins s σ H N I h
  unfold emitD
  refine wpAny_bind (thn (hk pins s σ H _ I h) fun ku s1 ⟨y, H1, I1, r1, q1⟩ => ?_)
  refine wpAny_bind (wpAny_holding (thn (hv pins s1 σ H1 _ I1 q1) fun vu s2 ⟨x, H2, I2, r2, H3, g, q2⟩ => ?_))
  exact wpAny_bind (wpAny_standAt (wpAny_holding (d_dictSet (by omega) I2 g r1 r2 fun s3 I3 => ⟨σ, H3, I3, q2⟩)))
section
variable {X : Cx} {tg iter kx vx : Expr} {ifs : List Expr} {sc : Scope} {pos : Pos} {Nc : List Str} {js : List (Option Nat)} {wi : TI}
/-- as tDC, for keys that are tuples -/
def tDCt (js : List (Option Nat)) (wi : TI) (g : TG) (bd : Addr → TB) : TE := fun σ H Q => wi σ H fun J H1 => ∀ D, H1 D = none → tWalk J g (bd D) (fun _ H' => Q (.ref D) H') (compSt js σ) (upd H1 D (.dT []))
theorem pe_dc1t {g : TG} {bd : Addr → TB} (hx : X.xe = fun _ _ => False) (hc : X.calm = true) (hi : PI X tg iter wi) (S : CS sc X.env.scope) (cap : capOk js Nc X.N sc.names = true)
    (hg : ∀ C s₂ H₂ fp pins, PG (cxC X Nc sc C s₂ H₂ fp pins) tg g)
    (hb : ∀ C s₂ H₂ fp pins D L, PTl (cxC X Nc sc C s₂ H₂ fp pins) (tailOf ifs (cxC X Nc sc C s₂ H₂ fp pins).env (emitD kx vx (cxC X Nc sc C s₂ H₂ fp pins).env (.ref D)) L) L (bd D))
    (hs : ∀ x, foldedSetIterable iter X.env x = pure x := by intro _; rfl) :
    PE X (.DictComp kx vx [⟨tg, iter, ifs, 0⟩] sc pos) (tDCt js wi g bd) := by
  intro pins s σ H Q I h
  rw [arm_eval_DictComp]
  have hcl : closureFor sc X.env = pure (clOf sc X.env) := closure_of fun y hy hf => I.ok.has y.1 (.inl (S.free y hy hf))
  refine wpAny_comprehension_free (use := none) rfl hs hcl S.kind S.names (thn (hi pins s σ H _ I h) fun v s1 h1 => thn h1 fun itv s2 h2 => ?_)
  obtain ⟨it, fp, tn, J, H2, e, I2, T, st2, f2, hw⟩ := h2
  subst e
  have hlt : ∀ b ∈ fp, b < s2.heap.objs.size := fun b hb => let ⟨o, ho, _⟩ := T.obj _ _ st2 b hb; Heap.lt_size ho
  refine wpAny_newObj_type (wpAny_newFunctionEnv S.nocell (by intro y hy; simp at hy) (fun h₁ hns₁ hsb₁ => ?_) S.kind)
  dsimp only at hns₁ hsb₁ ⊢
  generalize hH2 : s2.heap.push { cls := .type "dict", dict := none, data := .dict #[] } = G at hns₁ hsb₁ ⊢
  have hCs : G.objs.size = s2.heap.objs.size + 1 := by rw [← hH2, Heap.size_push]
  have hDC : s2.heap.objs.size ≠ G.objs.size := by omega
  have hCle : s2.heap.objs.size ≤ G.objs.size := by omega
  have old : ∀ b o, s2.heap.get? b = some o → h₁.get? b = some o := fun b o e => hsb₁.extBut b o (Nat.ne_of_lt (Nat.lt_of_lt_of_le (Heap.lt_size e) hCle)) (Heap.get?_push_of_some _ (hH2 ▸ Heap.get?_push_of_some _ e))
  have hacc : h₁.get? s2.heap.objs.size = some { cls := .type "dict", dict := none, data := .dict #[] } := hsb₁.extBut _ _ hDC (Heap.get?_push_of_some _ (hH2 ▸ Heap.get?_push_size _ rfl))
  have new : ObjOk X.prog X.w (upd H2 s2.heap.objs.size (.dT [])) h₁ s2.heap.objs.size (.dT []) := by
    exact ⟨Nat.zero_le _, beq_eq_false_iff_ne.mpr (Ne.symm (Nat.ne_of_lt I2.big)), [], .nil, _, _, _, hacc, ⟨rfl, rfl, rfl⟩, rfl, rfl, List.nodup_nil⟩
  have I4 := inv_comp (js := js) (Nc := Nc) (tk := s2.toks + ([] : List (Str × Value)).length) I2 S f2 hlt cap hCle (Nat.le_refl _) hDC old hns₁ new
  have hn : H2 s2.heap.objs.size = none := I2.fresh
  have f4 : ∀ b ∈ fp, FpOk (cxC X Nc sc G.objs.size s2 H2 fp pins) [] (upd H2 s2.heap.objs.size (.dT [])) b := fun b hb => by
    obtain ⟨h0, h1, h2, h3, h4, h5⟩ := f2 b hb
    refine ⟨?_, Nat.ne_of_lt (Nat.lt_of_lt_of_le (hlt b hb) hCle), fun z => ?_, .inl hb, fun x c z => ?_, fun p hp => ?_⟩
    · rw [upd_ne (Nat.ne_of_lt (hlt b hb))]; exact h0
    · rcases List.mem_cons.mp (I2.stkSub b z) with q | q
      · exact h1 q
      · exact h2 q
    · exact h4 x c (cl_in sc.names [] (fun z => nomatch z) z)
    · rcases List.mem_append.mp hp with z | z
      · exact h5 p z
      · exact absurd z (by simp)
  have st4 : tn 0 h₁ := T.keep _ _ _ st2 fun b hb o e => old b o e
  have loop : codeAny (model X.prog X.w) X.A (.compLoop (.DictComp kx vx [⟨tg, iter, ifs, 0⟩] sc pos) 0 (.ref it) (.ref s2.heap.objs.size) (compEnvC sc (clOf sc X.env) G.objs.size X.env))
      (compPost (model X.prog X.w) X.A X.xe none (EP X pins σ Q) (.ref s2.heap.objs.size) G.objs.size) { s2 with heap := h₁, toks := s2.toks + ([] : List (Str × Value)).length } := by
    refine comp_loop (X := cxC X Nc sc G.objs.size s2 H2 fp pins) (.inr ⟨kx, vx, rfl⟩) hx hc (turn_d1 _ _ _ _ _ _ _ _ _ _) T (hg _ _ _ _ _) (hb _ _ _ _ _ _ _) I4 st4 f4 (hw _ hn) fun σ' H' s' I' q => ?_
    obtain ⟨m', hm', _⟩ := I'.loc
    exact ⟨m', hm', fun h' hs' => ⟨.ref s2.heap.objs.size, H', inv_back I2 f2 hCle I' hs', rfl, q⟩⟩
  exact comp_start (.inr ⟨kx, vx, rfl⟩) rfl rfl loop (T.self _ _ _ _ _ st4 loop)
end
end L2
set_option linter.all false
set_option maxRecDepth 100000
namespace HT
open PySem PySem.Spec PyProof.Rows
section
variable {M : Model} {A : Around} {E : Value → Shared → Prop} {s : Shared}
/-- the frame of a comprehension that has cells of its own -/
theorem nfe_own {scope : Scope} {globals : Addr} {closure : List (Str × Addr)} {qual : Str} {func : Option Addr} {code : Value} {outer : Env} {builtins : Addr} {Q : Env → Shared → Prop}
    (hQ : Q (newEnv scope s.heap.objs.size globals (cellsFrom (s.heap.objs.size + 1) scope.names closure) qual func code (some outer) builtins)
      { s with heap := pushCells (s.heap.push { cls := .type "dict", data := .dict #[] }) scope.names }) :
    wpAny M A (newFunctionEnv scope globals closure [] qual func code (some outer) builtins) Q E s := by
  simp only [newFunctionEnv, Option.isSome_some, if_true]
  refine wpAny_bind (wpAny_alloc ?_)
  refine wpAny_bind (wpAny_layCells _ (fun name kind cells => by cases hkc : kind == NameKind.cell <;> simp [hkc]) _ _ _ _ ?_)
  rw [show ({ s with heap := s.heap.push { cls := .type "dict", data := .dict #[] } } : Shared).heap.objs.size = s.heap.objs.size + 1 from Heap.size_push ..]
  refine wpAny_bind (wpAny_pure (wpAny_pure ?_))
  exact hQ
end
end HT
set_option linter.all false
set_option maxRecDepth 100000
namespace HT
open PySem PySem.Spec PyProof.Rows
/-- a name's cell is a new one, if it is the block's own, else the one that it was -/
theorem cells_of : ∀ (names : List (Str × NameKind)) (lo : Nat) (acc : List (Str × Addr)) (x : Str) (c : Addr), (cellsFrom lo names acc).lookup x = some c → (lo ≤ c ∧ (x, NameKind.cell) ∈ names) ∨ acc.lookup x = some c
  | [], _, _, _, _, h => .inr h
  | (n, k) :: r, lo, acc, x, c, h => by
    unfold cellsFrom at h
    split at h
    · rename_i hk
      have hk : k = .cell := by simpa using hk
      rcases cells_of r (lo + 1) _ x c h with ⟨a, b⟩ | b
      · exact .inl ⟨by omega, List.mem_cons_of_mem _ b⟩
      · rw [List.lookup_cons] at b
        cases e : x == n with
        | true =>
          rw [e] at b
          cases b
          rw [beq_iff_eq.mp e, hk]
          exact .inl ⟨Nat.le_refl _, List.mem_cons_self⟩
        | false =>
          rw [e] at b
          exact .inr b
    · rcases cells_of r lo acc x c h with ⟨a, b⟩ | b
      · exact .inl ⟨a, List.mem_cons_of_mem _ b⟩
      · exact .inr b
/-- one that is none of the block's own stays -/
theorem cells_keep : ∀ (names : List (Str × NameKind)) (lo : Nat) (acc : List (Str × Addr)) (x : Str), (x, NameKind.cell) ∉ names → (cellsFrom lo names acc).lookup x = acc.lookup x
  | [], _, _, _, _ => rfl
  | (n, k) :: r, lo, acc, x, h => by
    have hr : (x, NameKind.cell) ∉ r := fun z => h (List.mem_cons_of_mem _ z)
    unfold cellsFrom
    split
    · rename_i hk
      have hk : k = .cell := by simpa using hk
      rw [cells_keep r _ _ x hr, List.lookup_cons]
      cases e : x == n with
      | true =>
        rw [beq_iff_eq.mp e, hk] at h
        exact absurd List.mem_cons_self h
      | false => rfl
    · exact cells_keep r _ _ x hr
/-- each of the block's own has one -/
theorem cells_has : ∀ (names : List (Str × NameKind)) (lo : Nat) (acc : List (Str × Addr)) (x : Str), (x, NameKind.cell) ∈ names ∨ (∃ c, acc.lookup x = some c) → ∃ c, (cellsFrom lo names acc).lookup x = some c
  | [], _, _, _, h => h.elim (fun z => nomatch z) id
  | (n, k) :: r, lo, acc, x, h => by
    unfold cellsFrom
    split
    · refine cells_has r _ _ x ?_
      by_cases e : x = n
      · subst e
        exact .inr ⟨lo, by rw [List.lookup_cons]; simp⟩
      · rcases h with h | ⟨c, h⟩
        · rcases List.mem_cons.mp h with z | z
          · exact absurd (congrArg Prod.fst z) e
          · exact .inl z
        · refine .inr ⟨c, ?_⟩
          rw [List.lookup_cons, show (x == n) = false by simpa using e]
          exact h
    · rename_i hk
      refine cells_has r _ _ x ?_
      rcases h with h | h
      · rcases List.mem_cons.mp h with z | z
        · have z2 : NameKind.cell = k := congrArg Prod.snd z
          exact absurd (by rw [← z2]; rfl) hk
        · exact .inl z
      · exact .inr h
/-- two names have two cells -/
theorem cells_inj : ∀ (names : List (Str × NameKind)) (lo : Nat) (acc : List (Str × Addr)), (∀ x c, acc.lookup x = some c → c < lo) → (∀ x y c, acc.lookup x = some c → acc.lookup y = some c → x = y) →
    ∀ x y c, (cellsFrom lo names acc).lookup x = some c → (cellsFrom lo names acc).lookup y = some c → x = y
  | [], _, _, _, h, x, y, c, e1, e2 => h x y c e1 e2
  | (n, k) :: r, lo, acc, hl, h, x, y, c, e1, e2 => by
    unfold cellsFrom at e1 e2
    split at e1
    · rename_i hk
      rw [if_pos hk] at e2
      have look : ∀ z d, ((n, lo) :: acc).lookup z = some d → (z = n ∧ d = lo) ∨ (z ≠ n ∧ acc.lookup z = some d) := fun z d q => by
        rw [List.lookup_cons] at q
        cases e : z == n with
        | true =>
          rw [e] at q
          cases q
          exact .inl ⟨beq_iff_eq.mp e, rfl⟩
        | false =>
          rw [e] at q
          exact .inr ⟨by simpa using e, q⟩
      refine cells_inj r (lo + 1) ((n, lo) :: acc) (fun z d q => ?_) (fun z z' d q q' => ?_) x y c e1 e2
      · rcases look z d q with ⟨_, b⟩ | ⟨_, b⟩
        · rw [b]; exact Nat.lt_succ_self _
        · exact Nat.lt_succ_of_lt (hl z d b)
      · rcases look z d q with ⟨a, b⟩ | ⟨a, b⟩ <;> rcases look z' d q' with ⟨a', b'⟩ | ⟨a', b'⟩
        · rw [a, a']
        · exact absurd (hl z' d b') (by rw [b]; exact Nat.lt_irrefl _)
        · exact absurd (hl z d b) (by rw [b']; exact Nat.lt_irrefl _)
        · exact h z z' d b b'
    · rename_i hk
      rw [if_neg hk] at e2
      exact cells_inj r lo acc hl h x y c e1 e2
end HT
set_option linter.all false
set_option maxRecDepth 100000
set_option maxHeartbeats 4000000
namespace HT
open PySem PySem.Spec PyProof.Rows
/-- the cell of one of the block's own is new -/
theorem cells_own : ∀ (names : List (Str × NameKind)) (lo : Nat) (acc : List (Str × Addr)) (x : Str) (c : Addr), (x, NameKind.cell) ∈ names → (cellsFrom lo names acc).lookup x = some c → lo ≤ c
  | (n, k) :: r, lo, acc, x, c, m, h => by
    unfold cellsFrom at h
    by_cases mr : (x, NameKind.cell) ∈ r
    · split at h
      · exact Nat.le_of_succ_le (cells_own r (lo + 1) _ x c mr h)
      · exact cells_own r lo acc x c mr h
    · rcases List.mem_cons.mp m with z | z
      · injection z with z1 z2
        subst z1 z2
        rw [if_pos (by rfl), cells_keep r _ _ x mr, List.lookup_cons] at h
        simp at h
        exact Nat.le_of_eq h
      · exact absurd z mr
end HT
namespace L2
open PySem PySem.Spec PyProof.Rows
/-- a comprehension's scope, perhaps with cells of its own -/
structure CS2 (sc S0 : Scope) : Prop where
  kind : sc.kind = .function
  names : ∀ y ∈ sc.names, y.2 = .local → sc.names.lookup y.1 = some .local
  own : ∀ y ∈ sc.names, y.2 = .cell → sc.names.lookup y.1 = some .cell
  nof : ∀ x, sc.names.lookup x = some .free → (x, NameKind.cell) ∉ sc.names
  free : ∀ y ∈ sc.names, y.2 = .free → S0.names.lookup y.1 = some .cell
def cxD (X : Cx) (Nc : List Str) (sc : Scope) (C : Addr) (s₂ : Shared) (H₂ : Hp) (fp : List Addr) (pins : List (Addr × Obj)) : Cx :=
  { X with N := Nc, s₀ := s₂, H₀ := H₂, env := compEnvC sc (cellsFrom (C + 1) sc.names (clOf sc X.env)) C X.env, outer := X.stack, ex := fp, fn := fun x => decide ((x, NameKind.cell) ∈ sc.names), pn := X.pn ++ pins }
section
variable {X : Cx} {pins : List (Addr × Obj)} {σ : St} {H : Hp} {s : Shared} {sc : Scope} {Nc : List Str} {js : List (Option Nat)} {fp : List Addr}
theorem ok_comp2 (I : Inv X pins σ H s) (S : CS2 sc X.env.scope) (f : ∀ b ∈ fp, FpOk X pins H b) (hlt : ∀ b ∈ fp, b < s.heap.objs.size) {C : Addr} (hC : s.heap.objs.size ≤ C) : (cxD X Nc sc C s H fp pins).Ok := by
  have inX : ∀ x c, (clOf sc X.env).lookup x = some c → X.env.cells.lookup x = some c := fun x c e => cl_in sc.names [] (fun z => nomatch z) e
  have low : ∀ x c, (clOf sc X.env).lookup x = some c → c < C + 1 := fun x c e => by
    obtain ⟨v, ic⟩ := I.cell x c (inX x c e)
    exact Nat.lt_succ_of_lt (Nat.lt_of_lt_of_le ic.lt hC)
  refine ⟨I.ok.mod, S.kind, I.ok.glob, I.ok.blt, hC, HT.cells_inj sc.names (C + 1) _ low fun x y c e1 e2 => I.ok.inj x y c (inX x c e1) (inX y c e2), fun x hx => ?_, fun x c z e => ?_, I.ok.hd, I.ok.frames, .inl rfl, fun b hb => ⟨?_, fun x c e => ?_⟩, I.bs, Nat.le_trans I.ok.bsz I.sz, fun b o e hb => ?_, fun b hb hs => ?_, I.stack, I.stkFree⟩
  · have hx' : (sc.names.map (relOne X.env)).lookup x = some .cell ∨ (sc.names.map (relOne X.env)).lookup x = some .free := hx
    rw [rel_look] at hx'
    refine HT.cells_has sc.names (C + 1) _ x ?_
    cases e : sc.names.lookup x with
    | none => rw [e] at hx'; rcases hx' with z | z <;> cases z
    | some k =>
      rw [e] at hx'
      have m : (x, k) ∈ sc.names := PySem.mem_of_lookup e
      have kf : k = .free ∨ k = .cell := by
        unfold relOne at hx'
        by_cases hk : (k == NameKind.free) = true
        · exact .inl (by simpa using hk)
        · have hk' : (k == NameKind.free) = false := by simpa using hk
          simp only [hk', Bool.false_and, Option.map_some] at hx'
          rcases hx' with z | z
          · exact .inr (by simpa using z)
          · exact .inl (by simpa using z)
      rcases kf with rfl | rfl
      · have hx2 := S.free _ m rfl
        obtain ⟨c, hc⟩ := I.ok.has x (.inl hx2)
        exact .inr (cl_has sc.names [] ⟨c, hc⟩ (.inr m))
      · exact .inl m
  · exact Nat.le_trans hC (Nat.le_of_succ_le (HT.cells_own sc.names (C + 1) _ x c (of_decide_eq_true z) e))
  · exact Nat.ne_of_lt (Nat.lt_of_lt_of_le (hlt b hb) hC)
  · rcases HT.cells_of sc.names (C + 1) _ x c e with ⟨a, _⟩ | q
    · exact (Nat.ne_of_lt (Nat.lt_of_lt_of_le (hlt b hb) (Nat.le_trans hC (Nat.le_of_succ_le a)))).symm
    · exact (f b hb).2.2.2.2.1 x c (inX x c q)
  · obtain ⟨h0, h1, h2, h3, h4, h5⟩ := f b hb
    rcases h3 with z | z
    · exact I.ok.noex b o e z
    · exact absurd (Nat.lt_of_lt_of_le (Heap.lt_size (I.ok.bs b o e).1) z) (Nat.lt_irrefl _)
  · obtain ⟨h0, h1, h2, h3, h4, h5⟩ := f b hb
    rcases List.mem_cons.mp (I.stkSub b hs) with z | z
    · exact h1 z
    · exact h2 z
end
end L2
set_option linter.all false
set_option maxRecDepth 100000
set_option maxHeartbeats 4000000
namespace L2
open PySem PySem.Spec PyProof.Rows
section
variable {X : Cx} {pins : List (Addr × Obj)} {σ : St} {H : Hp} {s : Shared} {sc : Scope} {Nc : List Str} {js : List (Option Nat)} {fp : List Addr}
/-- the block begins: h₁ is the heap with the new object at D (tracked as o) and the block's names at C -/
theorem inv_comp2 (I : Inv X pins σ H s) (S : CS2 sc X.env.scope) (f : ∀ b ∈ fp, FpOk X pins H b) (hlt : ∀ b ∈ fp, b < s.heap.objs.size) (cap : capOk js Nc X.N sc.names = true) {C D : Addr} {o : HO} {h₁ : Heap} {m : Str → Option Value} {tk : Nat}
    (hC : s.heap.objs.size ≤ C) (hD : s.heap.objs.size ≤ D) (hDC : D < C) (hcl : ∀ x c, (x, NameKind.cell) ∈ sc.names → (cellsFrom (C + 1) sc.names (clOf sc X.env)).lookup x = some c → h₁.IsCell c none) (hk : ∀ b ob, s.heap.get? b = some ob → h₁.get? b = some ob) (hns : h₁.Ns C m) (new : ObjOk X.prog X.w (upd H D o) h₁ D o) :
    Inv (cxD X Nc sc C s H fp pins) [] (compSt js σ) (upd H D o) { s with heap := h₁, toks := tk } := by
  have inX : ∀ x c, (clOf sc X.env).lookup x = some c → X.env.cells.lookup x = some c := fun x c e => cl_in sc.names [] (fun z => nomatch z) e
  have fresh : ∀ a, s.heap.objs.size ≤ a → H a = none := fun a ha => I.hok.fresh ha
  obtain ⟨cl, cp⟩ := cap_of cap
  refine ⟨ok_comp2 I S f hlt hC, rfl, I.bare, Un.laid hk hD (fresh D hD), ⟨m, hns, fun i x v e1 e2 e3 => ?_⟩, fun x c e => ?_, ?_, fun x c e => ?_, fun p hp => ?_, I.hok.laid hk hD new, ?_⟩
  · -- a name of the frame's
    unfold compSt at e2
    rw [List.getElem?_map] at e2
    cases ej : js[i]? with
    | none => rw [ej] at e2; cases e2
    | some oj =>
      rw [ej] at e2
      cases oj with
      | none => cases e2
      | some j =>
        obtain ⟨hN, hfree⟩ := cp i j x ej e1
        have hv : σ[j]? = some (some v) := by
          simp only [Option.map_some, Option.bind_some, Option.some.injEq] at e2
          cases e : σ[j]? with
          | none => rw [e] at e2; cases e2
          | some w => rw [e] at e2; exact congrArg some e2
        have kc : X.env.kindOf x = some .cell := S.free _ (PySem.mem_of_lookup hfree) rfl
        obtain ⟨m', hn', hl⟩ := I.loc
        obtain ⟨u, r, lk⟩ := hl j x v hN hv (.inr (.inl kc))
        refine ⟨u, r, .inr ⟨.inl ?_, ?_⟩⟩
        · show (sc.names.map (relOne X.env)).lookup x = some .cell
          rw [rel_look, hfree]
          unfold relOne
          simp [I.ok.kind, kc]
        · rcases lk with ⟨z, _⟩ | ⟨_, c, hc, ic⟩
          · rw [kc] at z; cases z
          · obtain ⟨c', hc'⟩ := cl_has sc.names [] ⟨c, hc⟩ (.inr (PySem.mem_of_lookup hfree))
            have : c' = c := Option.some.inj ((inX x c' hc').symm.trans hc)
            subst this
            exact ⟨c', by show (cellsFrom (C + 1) sc.names (clOf sc X.env)).lookup x = some c'; rw [HT.cells_keep _ _ _ x (S.nof x hfree)]; exact hc', ic.keeps hk⟩
  · by_cases own : (x, NameKind.cell) ∈ sc.names
    · exact ⟨none, hcl x c own e⟩
    · have e' : (clOf sc X.env).lookup x = some c := by rw [← HT.cells_keep sc.names (C + 1) _ x own]; exact e
      obtain ⟨v, ic⟩ := I.cell x c (inX x c e')
      exact ⟨v, ic.keeps hk⟩
  · show upd H D o C = none
    rw [upd_ne (Nat.ne_of_lt hDC).symm]
    exact fresh C hC
  · by_cases own : (x, NameKind.cell) ∈ sc.names
    · have lo := HT.cells_own sc.names (C + 1) _ x c own e
      show upd H D o c = none
      rw [upd_ne (Nat.ne_of_lt (Nat.lt_trans hDC (Nat.lt_of_succ_le lo))).symm]
      exact fresh c (Nat.le_trans hC (Nat.le_of_succ_le lo))
    · have e' : (clOf sc X.env).lookup x = some c := by rw [← HT.cells_keep sc.names (C + 1) _ x own]; exact e
      have q := inX x c e'
      obtain ⟨v, ic⟩ := I.cell x c q
      show upd H D o c = none
      rw [upd_ne (Nat.ne_of_lt (Nat.lt_of_lt_of_le ic.lt hD))]
      exact I.freeC x c q
  · have hp' : p ∈ X.pn ++ pins := by
      rcases List.mem_append.mp hp with z | z
      · exact z
      · exact absurd z (by simp)
    obtain ⟨a1, a2, a3, a4, a5⟩ := I.pin p hp'
    have lt := Heap.lt_size a1
    refine ⟨hk _ _ a1, ?_, Nat.ne_of_lt (Nat.lt_of_lt_of_le lt hC), fun z => ?_, a5⟩
    · rw [upd_ne (Nat.ne_of_lt (Nat.lt_of_lt_of_le lt hD))]
      exact a2
    · rcases List.mem_cons.mp (I.stkSub _ z) with z | z
      · exact a3 z
      · exact a4 z
  · unfold compSt
    rw [List.length_map]
    exact cl
/-- the block ends: its names are let go (h' is as h but at C) -/
theorem inv_back2 {C : Addr} {σ' : St} {H' : Hp} {s' : Shared} {h' : Heap} (I : Inv X pins σ H s) (f : ∀ b ∈ fp, FpOk X pins H b) (hC : s.heap.objs.size ≤ C) (J : Inv (cxD X Nc sc C s H fp pins) [] σ' H' s') (hs : Heap.SameBut C s'.heap h') :
    Inv X pins σ H' { s' with heap := h' } := by
  have u := J.base
  have nC : H' C = none := J.free
  have stay : ∀ b ob, b ≠ C → s'.heap.get? b = some ob → h'.get? b = some ob := fun b ob hb e => hs.extBut b ob hb e
  have neC : ∀ b ob, s.heap.get? b = some ob → b ≠ C := fun b ob e => Nat.ne_of_lt (Nat.lt_of_lt_of_le (Heap.lt_size e) hC)
  refine I.call' (ch := fp) J.os ?_ (fun b v e => ?_) J.bare fun b hb => ⟨(f b hb).2.2.2.1, (f b hb).2.1, (f b hb).2.2.2.2.1, (f b hb).2.2.2.2.2⟩
  · refine ⟨fun b ob e n h1 h2 => stay b ob (neC b ob e) (u.keep b ob e n h1 h2), fun b ob e n h1 h2 => ?_, u.free, fun b ob e h2 => ?_, u.tups, u.frzs, u.tbls⟩
    · obtain ⟨sl, q⟩ := u.slot b ob e n h1 h2
      exact ⟨sl, stay b _ (neC b ob e) q⟩
    · obtain ⟨o', q⟩ := u.there b ob e h2
      exact ⟨o', stay b _ (neC b ob e) q⟩
  · have nb : ∀ c w, H' c = some w → c ≠ C := fun c w e z => by rw [z, nC] at e; cases e
    refine (J.hok b v e).stay (fun c w hc q => stay c w ?_ q) (fun _ q => q) fun _ _ q => q
    rcases hc with z | z
    · rw [z]; exact nb b v e
    · exact nb c _ z
end
end L2
set_option Elab.async false
set_option linter.all false
set_option maxRecDepth 100000
set_option maxHeartbeats 4000000
namespace HT
open PySem PySem.Spec PyProof.Rows
/-- the block's own cells hold nothing yet -/
theorem cells_none : ∀ (names : List (Str × NameKind)) (h : Heap) (acc : List (Str × Addr)) (x : Str) (c : Addr), (x, NameKind.cell) ∈ names → (cellsFrom h.objs.size names acc).lookup x = some c → (pushCells h names).IsCell c none := by
  intro names
  induction names with
  | nil => intro h acc x c m; cases m
  | cons p r ih =>
    obtain ⟨n, k⟩ := p
    intro h acc x c m e
    unfold cellsFrom at e
    unfold pushCells
    by_cases mr : (x, NameKind.cell) ∈ r
    · split at e
      · rename_i hk
        rw [if_pos hk]
        refine ih _ ((n, h.objs.size) :: acc) x c mr ?_
        rw [Heap.size_push]
        exact e
      · rename_i hk
        rw [if_neg hk]
        exact ih _ _ x c mr e
    · rcases List.mem_cons.mp m with z | z
      · injection z with z1 z2
        subst z1 z2
        rw [if_pos (by rfl), cells_keep r _ _ x mr, List.lookup_cons] at e
        simp at e
        subst e
        rw [if_pos (by rfl)]
        have q : (h.push { cls := .type "cell", data := .cell none }).IsCell h.objs.size none := by
          first
            | exact ⟨_, Heap.get?_push_size _ rfl, rfl⟩
            | exact ⟨_, Heap.get?_push_size _ rfl⟩
            | exact Heap.get?_push_size _ rfl
        exact q.keeps fun b o hb => pushCells_keeps r _ b o hb
      · exact absurd z mr
end HT
namespace L2
open PySem PySem.Spec PyProof.Rows
section
variable {X : Cx} {e tg iter el : Expr} {ifs : List Expr} {gens rest : List Comprehension} {sc : Scope} {pos : Pos} {Nc : List Str} {js : List (Option Nat)} {wi : TI}
end
end L2
set_option linter.all false
set_option maxRecDepth 100000
set_option maxHeartbeats 4000000
namespace L2
open PySem PySem.Spec PyProof.Rows
def csOk2 (sc S0 : Scope) : Bool := (sc.names.all fun y => (y.2 != .local || sc.names.lookup y.1 == some .local) && (y.2 != .cell || sc.names.lookup y.1 == some .cell) && (y.2 != .free || S0.names.lookup y.1 == some .cell))
theorem CS2.of {sc S0 : Scope} (k : sc.kind = .function) (h : csOk2 sc S0 = true) : CS2 sc S0 := by
  have q : ∀ y ∈ sc.names, _ := List.all_eq_true.mp h
  have own : ∀ y ∈ sc.names, y.2 = .cell → sc.names.lookup y.1 = some .cell := fun y hy e => by
    have z := q y hy
    rw [Bool.and_eq_true, Bool.and_eq_true] at z
    obtain ⟨⟨z1, z2⟩, z3⟩ := z
    rw [e] at z2
    simpa using z2
  refine ⟨k, fun y hy e => ?_, own, fun x e m => ?_, fun y hy e => ?_⟩
  · have z := q y hy
    rw [Bool.and_eq_true, Bool.and_eq_true] at z
    obtain ⟨⟨z1, z2⟩, z3⟩ := z
    rw [e] at z1; simpa using z1
  · have := own _ m rfl
    rw [e] at this
    cases this
  · have z := q y hy
    rw [Bool.and_eq_true, Bool.and_eq_true] at z
    obtain ⟨⟨z1, z2⟩, z3⟩ := z
    rw [e] at z3; simpa using z3
end L2
set_option Elab.async false
set_option linter.all false
set_option maxRecDepth 100000
set_option maxHeartbeats 4000000
namespace L2
open PySem PySem.Spec PyProof.Rows
section
variable {X : Cx} {tg iter el : Expr} {ifs : List Expr} {sc : Scope} {pos py spos : Pos} {Nc : List Str} {js : List (Option Nat)} {wi : TI} {i : Nat} {y : Str}
/-- as ps_lc1x: the block may have cells of its own -/
theorem ps_lc1y {g : TG} {bd : Addr → TB} (hx : X.xe = fun _ _ => False) (hc : X.calm = true) (hN : X.N.Nodup) (hiN : X.N[i]? = some y) (hy : Loc X.env.scope y) (hi : PI X tg iter wi) (S : CS2 sc X.env.scope) (cap : capOk js Nc X.N sc.names = true)
    (hg : ∀ C s₂ H₂ fp pins, PG (cxD X Nc sc C s₂ H₂ fp pins) tg g)
    (hb : ∀ C s₂ H₂ fp pins D L, PTl (cxD X Nc sc C s₂ H₂ fp pins) (tailOf ifs (cxD X Nc sc C s₂ H₂ fp pins).env (do let _ ← call (.builtin "list.append") [.ref D, ← eval el (cxD X Nc sc C s₂ H₂ fp pins).env]) L) L (bd D))
    (hs : ∀ x, foldedSetIterable iter X.env x = pure x := by intro _; rfl)
    (hsw : swapsWith (.ListComp el [⟨tg, iter, ifs, 0⟩] sc pos) (some (.Name y py)) spos.line X.env = pure true := by rfl)
    (hf : X.fn y = true ∨ X.env.scope.names.lookup y = some .local := by first | exact .inl rfl | exact .inr rfl | assumption) :
    PS X (.Assign [.Name y py] (.ListComp el [⟨tg, iter, ifs, 0⟩] sc pos) spos) (tAsg (tLC js wi g bd) (gName i)) := by
  intro pins s σ H D0 I h
  have hcl : closureFor sc X.env = pure (clOf sc X.env) := closure_of fun y hy hf => I.ok.has y.1 (.inl (S.free y hy hf))
  rw [exec_Assign_Name_used _ _ _ _ hsw]
  refine wpAny_bind (wpAny_standAt (wpAny_bind ?_))
  show wpAny _ X.A (do let _ ← comprehension (.ListComp el [⟨tg, iter, ifs, 0⟩] sc pos) sc X.env _ (newList []) false (eval iter X.env) (some (assign (.Name y py) X.env))) _ _ s
  refine wpAny_bind (wpAny_mono (wpAny_comprehension_free (use := some (assign (.Name y py) X.env)) (Q := fun _ s' => SP X pins D0 .next s') rfl hs hcl S.kind S.names
    (thn (hi pins s σ H _ I h) fun v s1 h1 => thn h1 fun itv s2 h2 => ?_)) (fun _ s' hq => wpAny_pure (wpAny_pure hq)) fun _ _ e => e)
  obtain ⟨it, fp, tn, J, H2, e, I2, T, st2, f2, hw⟩ := h2
  subst e
  have hlt : ∀ b ∈ fp, b < s2.heap.objs.size := fun b hb => let ⟨o, ho, _⟩ := T.obj _ _ st2 b hb; Heap.lt_size ho
  refine wpAny_newObj_type (HT.nfe_own ?_)
  dsimp only
  generalize hH2 : s2.heap.push { cls := .type "list", dict := none, data := .seq ([] : List Value).toArray } = G
  have hCs : G.objs.size = s2.heap.objs.size + 1 := by rw [← hH2, Heap.size_push]
  have hDC : s2.heap.objs.size < G.objs.size := by omega
  have hCle : s2.heap.objs.size ≤ G.objs.size := by omega
  generalize hh₁ : pushCells (G.push { cls := .type "dict", data := .dict #[] }) sc.names = h₁
  have old : ∀ b o, s2.heap.get? b = some o → h₁.get? b = some o := fun b o e => hh₁ ▸ pushCells_keeps sc.names _ b o (Heap.get?_push_of_some _ (hH2 ▸ Heap.get?_push_of_some _ e))
  have hacc : h₁.get? s2.heap.objs.size = some { cls := .type "list", dict := none, data := .seq ([] : List Value).toArray } := hh₁ ▸ pushCells_keeps sc.names _ _ _ (Heap.get?_push_of_some _ (hH2 ▸ Heap.get?_push_size _ rfl))
  have hns₁ : h₁.Ns G.objs.size fun _ => none := by
    obtain ⟨o, es, k, a, b⟩ := Heap.Ns.new G (.type "dict")
    exact ⟨o, es, k, hh₁ ▸ pushCells_keeps sc.names _ _ _ a, b⟩
  have hcl₁ : ∀ x c, (x, NameKind.cell) ∈ sc.names → (cellsFrom (G.objs.size + 1) sc.names (clOf sc X.env)).lookup x = some c → h₁.IsCell c none := fun x c m e => by
    rw [← hh₁]
    refine HT.cells_none sc.names _ (clOf sc X.env) x c m ?_
    rw [Heap.size_push]
    exact e
  have new : ObjOk X.prog X.w (upd H2 s2.heap.objs.size (.lst [])) h₁ s2.heap.objs.size (.lst []) := ⟨Nat.zero_le _, [], _, .nil, hacc⟩
  have I4 := inv_comp2 (js := js) (Nc := Nc) (tk := s2.toks) I2 S f2 hlt cap hCle (Nat.le_refl _) hDC hcl₁ old hns₁ new
  have hn : H2 s2.heap.objs.size = none := I2.fresh
  have f4 : ∀ b ∈ fp, FpOk (cxD X Nc sc G.objs.size s2 H2 fp pins) [] (upd H2 s2.heap.objs.size (.lst [])) b := fun b hb => by
    obtain ⟨h0, h1, h2, h3, h4, h5⟩ := f2 b hb
    refine ⟨?_, Nat.ne_of_lt (Nat.lt_of_lt_of_le (hlt b hb) hCle), fun z => ?_, .inl hb, fun x c z => ?_, fun p hp => ?_⟩
    · rw [upd_ne (Nat.ne_of_lt (hlt b hb))]; exact h0
    · rcases List.mem_cons.mp (I2.stkSub b z) with q | q
      · exact h1 q
      · exact h2 q
    · rcases HT.cells_of sc.names (G.objs.size + 1) _ x c z with ⟨a, _⟩ | q
      · exact (Nat.ne_of_lt (Nat.lt_of_lt_of_le (hlt b hb) (Nat.le_trans hCle (Nat.le_of_succ_le a)))).symm
      · exact h4 x c (cl_in sc.names [] (fun z => nomatch z) q)
    · rcases List.mem_append.mp hp with z | z
      · exact h5 p z
      · exact absurd z (by simp)
  have st4 : tn 0 h₁ := T.keep _ _ _ st2 fun b hb o e => old b o e
  have loop : codeAny (model X.prog X.w) X.A (.compLoop (.ListComp el [⟨tg, iter, ifs, 0⟩] sc pos) 0 (.ref it) (.ref s2.heap.objs.size) (compEnvC sc (cellsFrom (G.objs.size + 1) sc.names (clOf sc X.env)) G.objs.size X.env))
      (compPost (model X.prog X.w) X.A X.xe (some (assign (.Name y py) X.env)) (fun _ s' => SP X pins D0 .next s') (.ref s2.heap.objs.size) G.objs.size) { s2 with heap := h₁, toks := s2.toks } := by
    refine comp_loop (X := cxD X Nc sc G.objs.size s2 H2 fp pins) (.inl ⟨el, rfl⟩) hx hc (turn_l1 _ _ _ _ _ _ _ _ _) T (hg _ _ _ _ _) (hb _ _ _ _ _ _ _) I4 st4 f4 (hw _ hn) fun σ' H' s' I' q => ?_
    obtain ⟨m', hm', _⟩ := I'.loc
    have IB : Inv X pins σ H' { s' with heap := s'.heap } := inv_back2 I2 f2 hCle I' (Heap.SameBut.refl ..)
    have nC : H' G.objs.size = none := I'.free
    have fC : FpOk X pins H' G.objs.size := I2.fpOk hCle nC
    show wpAny _ X.A (assign (.Name y py) X.env (.ref s2.heap.objs.size)) _ _ s'
    refine wpAny_assign_Name (store_ok2 (v := .ref s2.heap.objs.size) IB hN hiN hy rfl (fun s'' IC hsb => ?_) hf)
    obtain ⟨a, sb, ha⟩ := hsb
    have aC : G.objs.size ≠ a := by
      rcases ha with rfl | ha
      · exact fC.2.1
      · exact fun z => fC.2.2.2.2.1 y a ha z.symm
    refine ⟨m', hm'.sameBut sb aC, fun h' hs' => ?_⟩
    exact ⟨_, H', IC.turnedL (t' := s''.toks) (ch := [G.objs.size]) (fun b o hb' e => hs'.extBut b o (fun z => hb' (by simp [z])) e) (fun b hb' => by rw [List.mem_singleton.mp hb']; exact fC), q⟩
  exact comp_start (.inl ⟨el, rfl⟩) rfl rfl loop (T.self _ _ _ _ _ st4 loop)
end
end L2
set_option Elab.async false
set_option linter.all false
set_option maxRecDepth 100000
set_option maxHeartbeats 4000000
namespace L2
open PySem PySem.Spec PyProof.Rows
theorem turn_d20 (kx vx tg iter tg2 iter2 : Expr) (ifs ifs2 : List Expr) (sc : Scope) (pos : Pos) (it acc : Value) (env : Env) :
    compTurn (.DictComp kx vx [⟨tg, iter, ifs, 0⟩, ⟨tg2, iter2, ifs2, 0⟩] sc pos) 0 it acc env = (standAt iter.pos >>= fun _ => pyNext it >>= fun r => match r with
      | none => pure (.done .next)
      | some v => letOwnedTupleGo tg it v >>= fun _ => assign tg env v >>= fun _ => tail2 ifs env iter2 (fun i => .compStart (.DictComp kx vx [⟨tg, iter, ifs, 0⟩, ⟨tg2, iter2, ifs2, 0⟩] sc pos) 1 i acc env) (.compLoop (.DictComp kx vx [⟨tg, iter, ifs, 0⟩, ⟨tg2, iter2, ifs2, 0⟩] sc pos) 0 it acc env)) := by rfl
theorem turn_d21 (kx vx tg iter tg2 iter2 : Expr) (ifs ifs2 : List Expr) (sc : Scope) (pos : Pos) (it acc : Value) (env : Env) :
    compTurn (.DictComp kx vx [⟨tg, iter, ifs, 0⟩, ⟨tg2, iter2, ifs2, 0⟩] sc pos) 1 it acc env = (standAt iter2.pos >>= fun _ => pyNext it >>= fun r => match r with
      | none => pure (.done .next)
      | some v => letOwnedTupleGo tg2 it v >>= fun _ => assign tg2 env v >>= fun _ => tailOf ifs2 env (emitD kx vx env acc) (.compLoop (.DictComp kx vx [⟨tg, iter, ifs, 0⟩, ⟨tg2, iter2, ifs2, 0⟩] sc pos) 1 it acc env)) := by rfl
section
variable {X : Cx} {tg iter kx vx tg2 iter2 : Expr} {ifs ifs2 : List Expr} {sc : Scope} {pos : Pos} {Nc : List Str} {js : List (Option Nat)} {wi wi2 : TI} {g g2 : TG}
theorem pt_tail2d {D : Addr} {b2 : TB} {L : Code} {e : Expr} (ee : e = .DictComp kx vx [⟨tg, iter, [], 0⟩, ⟨tg2, iter2, ifs2, 0⟩] sc pos) (hx : X.xe = fun _ _ => False) (hc : X.calm = true) (hi : PI X tg2 iter2 wi2) (hg : PG X tg2 g2)
    (hb : ∀ L, PTl X (tailOf ifs2 X.env (emitD kx vx X.env (.ref D)) L) L b2) (hs : ∀ x, foldedSetIterable iter2 X.env x = pure x) :
    PTl X (tail2 [] X.env iter2 (fun i => .compStart e 1 i (.ref D) X.env) L) L (bFor2 wi2 g2 b2) := by
  subst ee
  intro pins s σ H N I h
  unfold tail2
  refine wpAny_bind (wpAny_tests_nil ?_)
  show wpAny _ _ (eval iter2 X.env >>= _) _ _ s
  refine wpAny_bind (thn (hi pins s σ H _ I h) fun v s1 h1 => ?_)
  refine wpAny_bind (wpAny_standAt (wpAny_bind (wpAny_of_eq (hs v) (wpAny_bind (wpAny_holding (thn h1 fun itv s2 h2 => ?_))))))
  obtain ⟨it, fp, tn, J, H2, e, I2, T, st2, f2, hw⟩ := h2
  subst e
  refine wpAny_bind (wpAny_runOwn ?_)
  have loop : codeAny (model X.prog X.w) X.A (.compLoop (.DictComp kx vx [⟨tg, iter, [], 0⟩, ⟨tg2, iter2, ifs2, 0⟩] sc pos) 1 (.ref it) (.ref D) X.env)
      (fun r s' => match r with | .ok _ => wpAny (model X.prog X.w) X.A (again L) (fun fin s' => fin = .again L ∧ ∃ σ' H', Inv X pins σ' H' s' ∧ N σ' H') X.xe s' | .error e => cameBackBy (model X.prog X.w) X.A X.env X.xe e s') s2 :=
    comp_loop (.inr ⟨kx, vx, rfl⟩) hx hc (turn_d21 _ _ _ _ _ _ _ _ _ _ _ _ _) T hg (hb _) I2 st2 f2 hw fun σ' H' s' I' q => wpAny_pure ⟨rfl, σ', H', I', q⟩
  exact comp_start (.inr ⟨kx, vx, rfl⟩) rfl rfl loop (T.self _ _ _ _ _ st2 loop)
theorem pe_dc2x {g : TG} {bd : Addr → TB} (hx : X.xe = fun _ _ => False) (hc : X.calm = true) (hi : PI X tg iter wi) (S : CS sc X.env.scope) (cap : capOk js Nc X.N sc.names = true)
    (hg : ∀ C s₂ H₂ fp pins, PG (cxC X Nc sc C s₂ H₂ fp pins) tg g)
    (hi2 : ∀ C s₂ H₂ fp pins, PI (cxC X Nc sc C s₂ H₂ fp pins) tg2 iter2 wi2) (hg2 : ∀ C s₂ H₂ fp pins, PG (cxC X Nc sc C s₂ H₂ fp pins) tg2 g2)
    (hb : ∀ C s₂ H₂ fp pins D L, PTl (cxC X Nc sc C s₂ H₂ fp pins) (tailOf ifs2 (cxC X Nc sc C s₂ H₂ fp pins).env (emitD kx vx (cxC X Nc sc C s₂ H₂ fp pins).env (.ref D)) L) L (bd D))
    (hs : ∀ x, foldedSetIterable iter X.env x = pure x := by intro _; rfl) (hs2 : ∀ C s₂ H₂ fp pins x, foldedSetIterable iter2 (cxC X Nc sc C s₂ H₂ fp pins).env x = pure x := by intro _ _ _ _ _ _; rfl) :
    PE X (.DictComp kx vx [⟨tg, iter, [], 0⟩, ⟨tg2, iter2, ifs2, 0⟩] sc pos) (tDC js wi g fun D => bFor2 wi2 g2 (bd D)) := by
  intro pins s σ H Q I h
  rw [arm_eval_DictComp]
  have hcl : closureFor sc X.env = pure (clOf sc X.env) := closure_of fun y hy hf => I.ok.has y.1 (.inl (S.free y hy hf))
  refine wpAny_comprehension_free (use := none) rfl hs hcl S.kind S.names (thn (hi pins s σ H _ I h) fun v s1 h1 => thn h1 fun itv s2 h2 => ?_)
  obtain ⟨it, fp, tn, J, H2, e, I2, T, st2, f2, hw⟩ := h2
  subst e
  have hlt : ∀ b ∈ fp, b < s2.heap.objs.size := fun b hb => let ⟨o, ho, _⟩ := T.obj _ _ st2 b hb; Heap.lt_size ho
  refine wpAny_newObj_type (wpAny_newFunctionEnv S.nocell (by intro y hy; simp at hy) (fun h₁ hns₁ hsb₁ => ?_) S.kind)
  dsimp only at hns₁ hsb₁ ⊢
  generalize hH2 : s2.heap.push { cls := .type "dict", dict := none, data := .dict #[] } = G at hns₁ hsb₁ ⊢
  have hCs : G.objs.size = s2.heap.objs.size + 1 := by rw [← hH2, Heap.size_push]
  have hDC : s2.heap.objs.size ≠ G.objs.size := by omega
  have hCle : s2.heap.objs.size ≤ G.objs.size := by omega
  have old : ∀ b o, s2.heap.get? b = some o → h₁.get? b = some o := fun b o e => hsb₁.extBut b o (Nat.ne_of_lt (Nat.lt_of_lt_of_le (Heap.lt_size e) hCle)) (Heap.get?_push_of_some _ (hH2 ▸ Heap.get?_push_of_some _ e))
  have hacc : h₁.get? s2.heap.objs.size = some { cls := .type "dict", dict := none, data := .dict #[] } := hsb₁.extBut _ _ hDC (Heap.get?_push_of_some _ (hH2 ▸ Heap.get?_push_size _ rfl))
  have new : ObjOk X.prog X.w (upd H2 s2.heap.objs.size (.dK [])) h₁ s2.heap.objs.size (.dK []) := by
    refine ⟨Nat.zero_le _, beq_eq_false_iff_ne.mpr (Ne.symm (Nat.ne_of_lt I2.big)), [], .nil, ?_⟩
    obtain ⟨o, es, ep, h1, rest⟩ := Heap.DictOf.new (knd := mixKind X.prog X.w) s2.heap
    have h2 : (s2.heap.push { cls := .type "dict", dict := none, data := .dict #[] }).get? s2.heap.objs.size = some { cls := .type "dict", dict := none, data := .dict #[] } := Heap.get?_push_size _ rfl
    have h3 := h1.symm.trans h2
    exact ⟨o, es, ep, hacc.trans h3.symm, rest⟩
  have I4 := inv_comp (js := js) (Nc := Nc) (tk := s2.toks + ([] : List (Str × Value)).length) I2 S f2 hlt cap hCle (Nat.le_refl _) hDC old hns₁ new
  have hn : H2 s2.heap.objs.size = none := I2.fresh
  have f4 : ∀ b ∈ fp, FpOk (cxC X Nc sc G.objs.size s2 H2 fp pins) [] (upd H2 s2.heap.objs.size (.dK [])) b := fun b hb => by
    obtain ⟨h0, h1, h2, h3, h4, h5⟩ := f2 b hb
    refine ⟨?_, Nat.ne_of_lt (Nat.lt_of_lt_of_le (hlt b hb) hCle), fun z => ?_, .inl hb, fun x c z => ?_, fun p hp => ?_⟩
    · rw [upd_ne (Nat.ne_of_lt (hlt b hb))]; exact h0
    · rcases List.mem_cons.mp (I2.stkSub b z) with q | q
      · exact h1 q
      · exact h2 q
    · exact h4 x c (cl_in sc.names [] (fun z => nomatch z) z)
    · rcases List.mem_append.mp hp with z | z
      · exact h5 p z
      · exact absurd z (by simp)
  have st4 : tn 0 h₁ := T.keep _ _ _ st2 fun b hb o e => old b o e
  have loop : codeAny (model X.prog X.w) X.A (.compLoop (.DictComp kx vx [⟨tg, iter, [], 0⟩, ⟨tg2, iter2, ifs2, 0⟩] sc pos) 0 (.ref it) (.ref s2.heap.objs.size) (compEnvC sc (clOf sc X.env) G.objs.size X.env))
      (compPost (model X.prog X.w) X.A X.xe none (EP X pins σ Q) (.ref s2.heap.objs.size) G.objs.size) { s2 with heap := h₁, toks := s2.toks + ([] : List (Str × Value)).length } := by
    refine comp_loop (X := cxC X Nc sc G.objs.size s2 H2 fp pins) (.inr ⟨kx, vx, rfl⟩) hx hc (turn_d20 _ _ _ _ _ _ _ _ _ _ _ _ _) T (hg _ _ _ _ _)
      (pt_tail2d (X := cxC X Nc sc G.objs.size s2 H2 fp pins) rfl hx hc (hi2 _ _ _ _ _) (hg2 _ _ _ _ _) (fun L => hb _ _ _ _ _ _ L) (hs2 _ _ _ _ _)) I4 st4 f4 (hw _ hn) fun σ' H' s' I' q => ?_
    obtain ⟨m', hm', _⟩ := I'.loc
    exact ⟨m', hm', fun h' hs' => ⟨.ref s2.heap.objs.size, H', inv_back I2 f2 hCle I' hs', rfl, q⟩⟩
  exact comp_start (.inr ⟨kx, vx, rfl⟩) rfl rfl loop (T.self _ _ _ _ _ st4 loop)
end
end L2
set_option Elab.async false
set_option linter.all false
set_option maxRecDepth 100000
set_option maxHeartbeats 4000000
namespace HT
open PySem PySem.Spec PyProof.Rows
theorem pick_rev (its : List Value) : slicePick its.toArray none none (some (-1)) = its.reverse.toArray := by
  unfold slicePick
  have h1 : (sliceBounds none none (some (-1)) its.toArray.size).1 = (its.length : Int) - 1 := by simp [sliceBounds]
  have h2 : (sliceBounds none none (some (-1)) its.toArray.size).2.1 = -1 := by simp [sliceBounds]
  have h3 : (sliceBounds none none (some (-1)) its.toArray.size).2.2 = -1 := by simp [sliceBounds]
  rw [h1, h2, h3]
  unfold sliceRange
  dsimp only
  have hc : (if (-1 : Int) > 0 then if (its.length : Int) - 1 < -1 then (-1 - ((its.length : Int) - 1) + -1 - 1) / -1 else 0 else if (its.length : Int) - 1 > -1 then ((its.length : Int) - 1 - -1 - -1 - 1) / - -1 else 0).toNat = its.length := by
    rw [if_neg (by decide)]
    split
    · simp only [Int.neg_neg, Int.ediv_one]
      omega
    · omega
  rw [hc, List.filterMap_map]
  congr 1
  rw [← rev_list its]
  refine fm_congr _ fun k hk => ?_
  show its.toArray[((its.length : Int) - 1 + -1 * (k : Int)).toNat]? = _
  rw [List.getElem?_toArray]
  congr 2
  omega
end HT
namespace L2
open PySem PySem.Spec PyProof.Rows
section
variable {X : Cx}
/-- xs[::-1] of a list: a new list -/
inductive tRevLY (Q : VK) (x : V) (o : Option Int) (H2 : Hp) : Prop
  | mk : ∀ a xs, (x = .ref a) → (o = some (-1)) → (H2 a = some (.lst xs)) → (∀ p, H2 p = none → Q (.ref p) (upd H2 p (.lst xs.reverse))) → tRevLY Q x o H2
def tRevL (K : PySem.W.Frag) (te : TE) (ts : TO) : TE := fun σ H Q => te σ H fun x H1 => ts σ H1 fun o H2 => tRevLY Q x o H2
theorem pe_revL {e st : Expr} {te : TE} {ts : TO} {p2 pos : Pos} (he : PE X e te) (hs : PO X (some st) ts) : PE X (.Subscript e (.Slice none none (some st) p2) pos) (tRevL X.K te ts) := by
  intro pins s σ H Q I h
  refine Subscript_ (thn (he pins s σ H _ I h) fun v s1 ⟨x, H1, I1, r1, q1⟩ => ?_)
  refine wpAny_Slice ?_
  rw [evalPart_none]
  refine wpAny_pure ?_
  refine wpAny_pure (thn (hs pins s1 σ H1 _ I1 q1) fun vt s3 ⟨o, H3, I3, pu, q3⟩ => ?_)
  obtain ⟨a, xs, rfl, rfl, ha, q⟩ := q3
  cases r1
  cases pu with
  | int i tk =>
    have I4 : Inv X pins σ H3 { s3 with heap := s3.heap.push { cls := .type "slice", data := .fields #[.none, .none, .int (-1) tk] } } := I3.kept (t' := s3.toks) fun b ob q => Heap.get?_push_of_some _ q
    obtain ⟨its, r, ht, hz⟩ := I4.list (SqL.of (K := X.K) ha)
    have hl := r.length
    show wpAny (model X.prog X.w) X.A (subscriptTail e (.Slice none none (some st) p2) (.ref a) (.ref s3.heap.objs.size)) (EP X pins σ Q) X.xe { s3 with heap := s3.heap.push { cls := .type "slice", data := .fields #[.none, .none, .int (-1) tk] } }
    refine tail_any (ops := [.ref a, .ref s3.heap.objs.size]) ht.isList.typeIs slot_list_getitem.lookup ?_ (by with_unfolding_all rfl)
    refine wpAny_getItem_list_slice (lo := none) (hi := none) (st := some (-1)) ht.isList (Heap.IsSliceOf.new ..) .none .none (.int _ _) (by simp) ?_ (by rw [List.size_toArray] <;> omega)
    rw [HT.pick_rev]
    refine ⟨.ref _, _, I4.laid (t' := s3.toks) (o := .lst xs.reverse) (fun b ob q => Heap.get?_push_of_some _ q) (Nat.le_refl _) ?_, rfl, q _ (I4.hok.fresh (Nat.le_refl _))⟩
    exact ⟨by rw [List.length_reverse]; exact hz, its.reverse, 0, r.reverse, Heap.get?_push_size _ rfl⟩
end
end L2
set_option Elab.async false
set_option linter.all false
set_option maxRecDepth 100000
set_option maxHeartbeats 4000000
namespace L2
open PySem PySem.Spec PyProof.Rows
section
variable {X : Cx}
end
end L2
set_option linter.all false
namespace Cyc
def Adj : List Nat → Nat → Nat → Prop
  | x :: y :: r, a, b => (a = x ∧ b = y) ∨ Adj (y :: r) a b
  | _, _, _ => False
def Nx (row : List Nat) (a b : Nat) : Prop := Adj (row ++ row.head?.toList) a b
end Cyc
set_option linter.all false
set_option maxHeartbeats 1000000
namespace Tri
open Cyc
abbrev Rows := List (List Nat)
/-- in the row of q, b comes right behind a -/
def R (L : Rows) (q a b : Nat) : Prop := ∃ row, L[q]? = some row ∧ Nx row a b
/-- b stands in the row of a -/
def E (L : Rows) (a b : Nat) : Prop := ∃ row, L[a]? = some row ∧ b ∈ row
inductive Reach (L : Rows) : Nat → Nat → Prop
  | here (a : Nat) : Reach L a a
  | more {a b c : Nat} : Reach L a b → E L b c → Reach L a c
theorem Reach.trans {L : Rows} {a b c : Nat} (h : Reach L a b) (h' : Reach L b c) : Reach L a c := by
  induction h' with
  | here => exact h
  | more _ e ih => exact .more ih e
theorem Reach.by {L L' : Rows} (h : ∀ a b, E L a b → Reach L' a b) {a b : Nat} (r : Reach L a b) : Reach L' a b := by
  induction r with
  | here => exact .here _
  | more _ e ih => exact ih.trans (h _ _ e)
section
variable {L : Rows} {p q r : Nat} {rp rq rr : List Nat}
end
end Tri
set_option linter.all false
set_option maxHeartbeats 1000000
namespace Tri
open Cyc
section
variable {L : Rows} {p q r s : Nat} {rp rq rr rs : List Nat}
end
end Tri
set_option linter.all false
namespace Tri
open Cyc
end Tri
set_option linter.all false
set_option maxHeartbeats 1000000
namespace Rnd
open Cyc Tri
section
variable {α : Type} [DecidableEq α]
def it (f : α → α) : Nat → α → α
  | 0, x => x
  | n + 1, x => f (it f n x)
theorem it_add (f : α → α) (m n : Nat) (x : α) : it f (m + n) x = it f m (it f n x) := by
  induction m with
  | zero => rw [Nat.zero_add]; rfl
  | succ m ih => rw [Nat.succ_add]; show f _ = f _; rw [ih]
structure Perm (f : α → α) (S : List α) : Prop where
  to : ∀ x, x ∈ S → f x ∈ S
  one : ∀ x y, x ∈ S → y ∈ S → f x = f y → x = y
theorem Perm.it {f : α → α} {S : List α} (h : Perm f S) (n : Nat) {x : α} (hx : x ∈ S) : it f n x ∈ S := by
  induction n with
  | zero => exact hx
  | succ n ih => exact h.to _ ih
theorem Perm.back {f : α → α} {S : List α} (h : Perm f S) (n : Nat) {x y : α} (hx : x ∈ S) (hy : y ∈ S) (e : Rnd.it f n x = Rnd.it f n y) : x = y := by
  induction n with
  | zero => exact e
  | succ n ih => exact ih (h.one _ _ (h.it n hx) (h.it n hy) e)
theorem map_nodup {f : Nat → α} : ∀ (n : Nat), (∀ i j, i < j → j < n → f i ≠ f j) → ((List.range n).map f).Nodup
  | 0, _ => by simp
  | n + 1, h => by
    rw [List.range_succ, List.map_append, List.nodup_append]
    refine ⟨map_nodup n fun i j a b => h i j a (by omega), by simp, fun a ha b hb => ?_⟩
    obtain ⟨i, hi, rfl⟩ := List.mem_map.mp ha
    have : b = f n := by simpa using hb
    subst this
    exact h i n (List.mem_range.mp hi) (by omega)
/-- it comes back, after as many turns at most as there are -/
theorem Perm.comes {f : α → α} {S : List α} (h : Perm f S) {x : α} (hx : x ∈ S) : ∃ k, 0 < k ∧ k ≤ S.length ∧ Rnd.it f k x = x ∧ ∀ j, 0 < j → j < k → Rnd.it f j x ≠ x := by
  have some : ∃ k, 0 < k ∧ k ≤ S.length ∧ Rnd.it f k x = x := by
    refine Classical.byContradiction fun no => ?_
    have nd : ((List.range (S.length + 1)).map fun i => Rnd.it f i x).Nodup := map_nodup _ fun i j hij hj e => by
      refine no ⟨j - i, by omega, by omega, ?_⟩
      have e2 : Rnd.it f i (Rnd.it f (j - i) x) = Rnd.it f i x := by
        rw [← it_add, show i + (j - i) = j by omega]; exact e.symm
      exact h.back i (h.it _ hx) hx e2
    have le := List.Nodup.length_le_of_subset nd (l₂ := S) fun y hy => by
      obtain ⟨i, _, rfl⟩ := List.mem_map.mp hy
      exact h.it i hx
    rw [List.length_map, List.length_range] at le
    omega
  obtain ⟨k0, p0, l0, e0⟩ := some
  have least : ∀ n, (∃ k, 0 < k ∧ k ≤ n ∧ Rnd.it f k x = x) → ∃ k, 0 < k ∧ k ≤ n ∧ Rnd.it f k x = x ∧ ∀ j, 0 < j → j < k → Rnd.it f j x ≠ x := fun n => by
    induction n with
    | zero => rintro ⟨k, a, b, _⟩; omega
    | succ n ih =>
      intro hk
      by_cases c : ∃ k, 0 < k ∧ k ≤ n ∧ Rnd.it f k x = x
      · obtain ⟨k, a, b, e, m⟩ := ih c
        exact ⟨k, a, by omega, e, m⟩
      · obtain ⟨k, a, b, e⟩ := hk
        refine ⟨k, a, b, e, fun j j0 jk ej => c ⟨j, j0, by omega, ej⟩⟩
  exact least S.length ⟨k0, p0, l0, e0⟩
end
end Rnd
set_option Elab.async false
set_option linter.all false
set_option maxRecDepth 100000
set_option maxHeartbeats 4000000
namespace Ex
open PySem
section
variable {prog : Program} {w : World} {A : Around} {E : Value → Shared → Prop} {h : Heap} {g : Array GenState} {d : Drawn} {t : Nat} {os : OsState} {M : Model}
variable {nm q : Str} {C N : Addr} {bs bm bmB : List Value} {hdct : Bool} {sn : List Str} {sub : List Value} {ab : Bool} {col : Option Bool} {dd : Option Addr} {k0 k1 k2 k3 k5 : Option Value} {B newId initId : String}
/-- the classes above: the base is among them, two others are not -/
structure Up (B : String) (bm : List Value) : Prop where
  b : bm.contains (.type B) = true
  a : bm.contains (.type "AttributeError") = false
  n : bm.contains (.type "NameError") = false
theorem check_new (F : ExcBaseFacts B newId initId bmB) (U : Up B bm) {rest : List Value} {Q : Unit → Shared → Prop} (hC : h.get? C = some (excClassObj nm q C N bs bm hdct sn sub ab col dd k0 k1 k2 k3 k5 newId))
    (hq : Q () ⟨h, g, d, t, os⟩) : wpAny M A (checkBuiltinCall newId ⟨.ref C :: rest, []⟩) Q E ⟨h, g, d, t, os⟩ := by
  have c1 : (Value.ref C :: bm).contains (.type B) = true := by rw [List.contains_cons, U.b, Bool.or_true]
  have c2 := F.noStar
  simp only [checkBuiltinCall, F.newKind, F.newSplit, F.newRow]
  repeat (first | refine wpAny_loadPart_at hC ?_ | (refine wpAny_isSubtype_exc hC ?_; rw [c1]) | refine wpAny_staticBase_exc hC ?_ | refine wpAny_madeBy_exc hC ?_ | simp only [bne_self_eq_false, Bool.false_eq_true, if_false] | wp_step)
  exact hq
theorem exc_new (F : ExcBaseFacts B newId initId bmB) (U : Up B bm) {rest : List Value} {R : Result → Shared → Prop} (hC : h.get? C = some (excClassObj nm q C N bs bm hdct sn sub ab col dd k0 k1 k2 k3 k5 newId)) (hrest : rest.length ≤ sizeLine)
    (hq : R (.ok (.ret (.ref (h.objs.size + 1)))) ⟨(h.push { cls := .type "tuple", data := .seq rest.toArray }).push { cls := .ref C, data := .fields #[.ref h.objs.size, .none, .none, .none, .bool false, .none] }, g, d, t, os⟩) :
    codeAny (model prog w) A (.builtin newId ⟨.ref C :: rest, []⟩) R ⟨h, g, d, t, os⟩ := by
  have e0 := F.ends
  have e1 : (Value.ref C :: bm).contains (.type B) = true := by rw [List.contains_cons, U.b, Bool.or_true]
  have e2 : (Value.ref C :: bm).contains (.type "AttributeError") = false := by rw [List.contains_cons, U.a]; rfl
  have e3 : (Value.ref C :: bm).contains (.type "NameError") = false := by rw [List.contains_cons, U.n]; rfl
  refine codeAny_builtinAt F.entry ?_
  unfold Builtin.«BaseException.__new__»
  refine wpAt_bind ?_
  show wpAt _ _ _ (stack >>= fun _ => _) _ _ _
  refine wpAt_bind (wpAt_stack fun p below => wpAt_of_wpAny ?_)
  wp_walk
  refine wpAt_of_wpAny ?_
  rw [F.owner]
  repeat (first | with_reducible refine wpAny_madeHere_exc F.canon hC ?_ | with_reducible refine wpAny_loadPart_at hC ?_ | (with_reducible refine wpAny_isSubtype_exc hC ?_; first | rw [e1] | rw [e2] | rw [e3]) | wp_step)
  show R _ _
  rw [Heap.size_push]
  exact hq
end
end Ex
set_option Elab.async false
set_option linter.all false
set_option maxRecDepth 100000
set_option maxHeartbeats 4000000
namespace Ex
open PySem
/-- what leaving a frame makes of the heap -/
structure Aft (l : List Env) (e T : Addr) (oe : Obj) (h h' : Heap) : Prop where
  k : ∀ b o, b ≠ e → b ∉ l.filterMap (·.frame) → h.get? b = some o → h'.get? b = some o
  f : ∀ b o, b ≠ e → h.get? b = some o → ∃ sl, h'.get? b = some { o with slots := sl }
  e : h'.get? e = some (oe.mapFields (·.setIfInBounds 1 (.ref T)))
  n : h.objs.size ≤ T
  t : ∃ oT ts, h'.get? T = some oT ∧ oT.data = .fields ts ∧ ts[3]? = some .none
section
variable {M : Model} {A : Around} {E : Value → Shared → Prop} {s : Shared}
theorem entry {base : Heap} {env : Env} {outer : List Env} {L e : Addr} {oe : Obj} {vs : Array Value} {head : Value} {hadNext : Bool} {Q : Unit → Shared → Prop}
    (hfr : A.frames = some (env :: outer)) (hl : s.heap.FunFrames base (env :: outer)) (hf : env.frame = some L) (he : s.heap.get? e = some oe) (hd : oe.data = .fields vs) (hsz : 1 < vs.size)
    (q : ∀ h' T, Aft (env :: outer) e T oe s.heap h' → Q () { s with heap := h' }) :
    wpAny M A (do let a ← frameOf env; let pl ← entryPlaceOf L hadNext; let b ← EntryCells.newEntry head a .none (rawInt L) .none pl; setField (.ref e) 1 b) (fun _ s' => wpAny M A (setFlight (.ref e) none) Q E s') E s := by
  have hene : e ∉ (env :: outer).filterMap (·.frame) := fun hm => by
    obtain ⟨_, o, ho, hnf⟩ := hl.mem hm
    rw [he] at ho
    cases ho
    exact hnf vs hd
  refine wpAny_bind (wpAny_frameOf_fun hfr hl hf fun h1 S => ?_)
  refine wpAny_bind (wpAny_entryPlaceOf fun pl hpl => ?_)
  unfold EntryCells.newEntry newFields
  refine wpAny_bind (wpAny_newObj_type ?_ (hpl.sizeOk5 _ _ _ _ _))
  generalize hO : ({ cls := .type "traceback", dict := none, data := .fields ([head, .ref L, .none, rawInt L, .none] ++ (if pl.isEmpty then List.replicate 6 Value.none else pl)).toArray } : Obj) = oT
  have dT : oT.data = .fields ([head, .ref L, .none, rawInt L, .none] ++ (if pl.isEmpty then List.replicate 6 Value.none else pl)).toArray := by rw [← hO]
  have e1 : h1.get? e = some oe := (S.2.1 e hene).trans he
  have e2 := Heap.get?_push_of_some (h := h1) oT e1
  refine wpAny_setField e2 hd hsz ?_
  have nTe : h1.objs.size ≠ e := Nat.ne_of_gt (Heap.lt_size e1)
  have d3 := Obj.data_mapFields hd (·.setIfInBounds 1 (Value.ref h1.objs.size))
  have e3 := Heap.get?_update_self (Obj.mapFields (·.setIfInBounds 1 (Value.ref h1.objs.size))) e2 (Obj.isFreed_of_fields d3)
  have nfT : oT.isFreed = false := Obj.isFreed_of_fields dT
  have T3 : ((h1.push oT).update e (Obj.mapFields (·.setIfInBounds 1 (Value.ref h1.objs.size)))).get? h1.objs.size = some oT := (Heap.get?_update_other (h1.push oT) _ (Ne.symm nTe)).trans (Heap.get?_push_size h1 nfT)
  unfold setFlight
  refine wpAny_bind (wpAny_field e3 d3 (x := .ref h1.objs.size) (by simp [hsz]) ?_)
  rw [if_pos (show (Value.ref h1.objs.size != Value.none) = true from by simp)]
  have szT : 3 < ([head, .ref L, .none, rawInt L, .none] ++ (if pl.isEmpty then List.replicate 6 Value.none else pl)).toArray.size := by
    simp only [List.size_toArray, List.length_append, List.length_cons, List.length_nil] <;> omega
  refine wpAny_setField T3 dT szT (q _ h1.objs.size ?_)
  have keep : ∀ b o, b ≠ e → h1.get? b = some o → (((h1.push oT).update e (Obj.mapFields (·.setIfInBounds 1 (Value.ref h1.objs.size)))).update h1.objs.size (Obj.mapFields (·.setIfInBounds 3 ((none : Option Addr).elim Value.none fun f => rawInt f)))).get? b = some o := fun b o hbe hb => by
    have hbT : h1.objs.size ≠ b := Nat.ne_of_gt (Heap.lt_size hb)
    rw [Heap.get?_update_other _ _ hbT, Heap.get?_update_other _ _ (Ne.symm hbe)]
    exact Heap.get?_push_of_some _ hb
  refine ⟨fun b o nb nf hb => keep b o nb ((S.2.1 b nf).trans hb), fun b o nb hb => ?_, ?_, ?_, ?_⟩
  · obtain ⟨sl, z⟩ := S.2.2 b o hb
    exact ⟨sl, keep b _ nb z⟩
  · rw [Heap.get?_update_other _ _ nTe]
    exact e3
  · exact Nat.le_of_eq S.1.symm
  · refine ⟨_, _, Heap.get?_update_self _ T3 (Obj.isFreed_of_fields (Obj.data_mapFields dT _)), Obj.data_mapFields dT _, ?_⟩
    simp only [Array.getElem?_setIfInBounds]
    rw [if_pos trivial, if_pos szT]
    rfl
theorem leave1N {base : Heap} {env : Env} {outer : List Env} {L e : Addr} {oe : Obj} {vs : Array Value} {Q : Unit → Shared → Prop}
    (hfr : A.frames = some (env :: outer)) (hl : s.heap.FunFrames base (env :: outer)) (hf : env.frame = some L) (he : s.heap.get? e = some oe) (hd : oe.data = .fields vs) (h1 : vs[1]? = some .none)
    (q : ∀ h' T, Aft (env :: outer) e T oe s.heap h' → Q () { s with heap := h' }) : wpAny M A (noteFrame (.ref e) env) (fun _ s' => wpAny M A (setFlight (.ref e) none) Q E s') E s := by
  unfold noteFrame
  simp only [hf]
  refine wpAny_bind (wpAny_field he hd h1 ?_)
  rw [if_neg (by decide)]
  exact entry hfr hl hf he hd (Array.getElem?_eq_some_iff.mp h1).1 q
theorem leave2N {base : Heap} {env : Env} {outer : List Env} {L e T : Addr} {oe oT : Obj} {vs ts : Array Value} {Q : Unit → Shared → Prop}
    (hfr : A.frames = some (env :: outer)) (hl : s.heap.FunFrames base (env :: outer)) (hf : env.frame = some L) (he : s.heap.get? e = some oe) (hd : oe.data = .fields vs) (h1 : vs[1]? = some (.ref T))
    (nT : T ≠ e) (hT : s.heap.get? T = some oT) (dT : oT.data = .fields ts) (t3 : ts[3]? = some .none)
    (q : ∀ h1 h' T', (∀ b, b ≠ T → h1.get? b = s.heap.get? b) → h1.get? T = some (oT.mapFields (·.setIfInBounds 3 .none)) → h1.objs.size = s.heap.objs.size → Aft (env :: outer) e T' oe h1 h' → Q () { s with heap := h' }) : wpAny M A (noteFrame (.ref e) env) (fun _ s' => wpAny M A (setFlight (.ref e) none) Q E s') E s := by
  unfold noteFrame
  simp only [hf]
  refine wpAny_bind (wpAny_field he hd h1 ?_)
  rw [if_pos (show (Value.ref T != Value.none) = true from by simp)]
  refine wpAny_bind (wpAny_field hT dT t3 ?_)
  rw [if_neg (show ¬ ((Value.none == rawInt L) = true) from by simp [rawInt])]
  refine wpAny_bind (wpAny_setField hT dT (Array.getElem?_eq_some_iff.mp t3).1 ?_)
  have other : ∀ b, b ≠ T → (s.heap.update T (Obj.mapFields (·.setIfInBounds 3 Value.none))).get? b = s.heap.get? b := fun b hb => Heap.get?_update_other _ _ (Ne.symm hb)
  have noRec : ∀ b o, s.heap.get? b = some o → (∀ vs, o.data ≠ .fields vs) → b ≠ T := fun b o hb nf z => by
    rw [z, hT] at hb
    cases hb
    exact nf ts dT
  exact entry hfr (hl.of_keeps fun b o hb nf => ⟨o, (other b (noRec b o hb nf)).trans hb, rfl⟩) hf ((other e (Ne.symm nT)).trans he) hd (Array.getElem?_eq_some_iff.mp h1).1
    fun h' T' a => q _ h' T' other (Heap.get?_update_self _ hT (Obj.isFreed_of_fields (Obj.data_mapFields dT _))) (Heap.size_update _ _ _) a
end
end Ex
set_option Elab.async false
set_option linter.all false
set_option maxRecDepth 100000
set_option maxHeartbeats 4000000
namespace Ex
open PySem PySem.W PyProof.Rows Builtin.ObjectAttr
section
variable {prog : Program} {w : World} {M : Model} {A : Around} {E : Value → Shared → Prop} {s : Shared} {K : Frag} {x C : Addr} {name : Str} {v : Value}
/-- what of the text an exception class must have -/
structure XK0 (K : Frag) (C : Addr) : Prop where
  cd : ∃ cd, clsIn K C = some cd ∧ cd.hasDict = true ∧ cd.mro.isEmpty = false ∧ ∀ self, refuseLoop self "__setattr__" cd.mro = pure ()
  bx : mroIn K C (.type "BaseException") = some true
  ob : mroIn K C (.type "object") = some true
  ty : typeIn K (.ref C) = some (.type "type")
  sa : findIn K (.ref C) "__setattr__" = some (some (.builtin "object.__setattr__"))
  ga : findIn K (.ref C) "__getattribute__" = some (some (.builtin "BaseException.__getattribute__"))
  gh : findIn K (.ref C) "__getattr__" = some none
  cl : findIn K (.ref C) "__class__" = some (some (.builtin "object.__class__"))
  cg : specialIn K (.builtin "object.__class__") "__get__" = some (some (.builtin "getset_descriptor.__get__"))
  ct : takesIn K (.builtin "object.__class__") = some true
end
end Ex
set_option Elab.async false
set_option linter.all false
set_option maxRecDepth 100000
set_option maxHeartbeats 4000000
namespace Ex
open PySem PySem.W PyProof.Rows Builtin.ObjectAttr
section
variable {prog : Program} {w : World} {A : Around} {E : Value → Shared → Prop} {s : Shared} {K : Frag} {x C : Addr} {ox : Obj} {od : Option Obj} {name : Str} {v : Value}
/-- the exception's own way to read an attribute, up to what is found -/
theorem ga_call {tk : Tok} {R : Result → Shared → Prop} (F : XK0 K C) (X : K.In s.heap) (I : InstAt s.heap x ox C od)
    (h : wpAny (model prog w) A.in1 (Builtin.«object.__getattribute__» ⟨[.ref x, .str name tk], []⟩) (fun fin s' => match fin with | .done f => R (.ok f) s' | .again c' => c'.quiet = true ∧ codeAny (model prog w) A c' R s') (fun e s' => R (.error e) s') s) :
    codeAny (model prog w) A (.call (.builtin "BaseException.__getattribute__") ⟨[.ref x, .str name tk], []⟩) R s := by
  have sub : Looks (model prog w) s.heap (isInstance (.ref x) (.type "BaseException")) true := I.type.andThen (looks_mroIn X F.bx)
  have k1 : builtinKind "BaseException.__getattribute__" = some .slot := by decide +kernel
  have k2 : splitId "BaseException.__getattribute__" = some ("BaseException", "__getattribute__") := by decide +kernel
  exact codeAny_call_builtin PySem.F.excAttr_ValueError.ga.plain PySem.F.entry_bexc_ga (@check_slot (model prog w) _ _ s "BaseException.__getattribute__" "BaseException" "__getattribute__" (.ref x) [.str name tk] [] _ k1 k2 sub (PySem.F.args_bexc_ga _ _) h)
theorem by_exc {tk : Tok} {fill expr : Bool} {Q : Value → Shared → Prop} (F : XK0 K C) (X : K.In s.heap) (I : InstAt s.heap x ox C od)
    (h : wpAny (model prog w) A.in1 (Builtin.«object.__getattribute__» ⟨[.ref x, .str name tk], []⟩) (fun fin s' => match fin with | .done (.ret v) => wpAny (model prog w) A (handedOut v) Q E s' | _ => False) (fun _ _ => False) s) :
    wpAny (model prog w) A (getAttrBy (.ref x) (.str name tk) fill expr) Q E s := by
  obtain ⟨hh, g, d, t, os⟩ := s
  have L0 := I.type (M := model prog w)
  have L1 := looks_findIn (M := model prog w) X F.ga
  have L2 := looks_findIn (M := model prog w) X F.gh
  unfold getAttrBy
  refine wpAny_holding (wpAny_bind (L0.at (wpAny_bind (L1.at ?_))))
  have n1 : (Value.builtin "BaseException.__getattribute__" == Value.builtin "object.__getattribute__") = false := by decide +kernel
  show wpAny _ _ (if (onTheHeap (.ref C) && Value.builtin "BaseException.__getattribute__" == .builtin "object.__getattribute__") = true then _ else _) _ _ _
  rw [n1, Bool.and_false, if_neg Bool.false_ne_true]
  unfold getAttrByItsOwn
  refine wpAny_bind (m := hookBefore (.ref C)) (L2.at ?_)
  have cg : callGetattribute (.ref x) (.str name tk) (.builtin "BaseException.__getattribute__") expr = boundAndCalled (.builtin "BaseException.__getattribute__") (.ref x) (.str name tk) := by
    unfold callGetattribute
    rw [show (expr && onTheHeap (Value.builtin "BaseException.__getattribute__")) = false from by cases expr <;> rfl, if_neg Bool.false_ne_true]
  rw [cg]
  refine wpAny_bind (wpAny_attempt (wpAny_holding ?_))
  unfold boundAndCalled
  rw [PySem.F.excAttr_ValueError.ga.bind (.ref x)]
  refine wpAny_bind (wpAny_pure ?_)
  refine wpAny_call (ga_call F X I (wpAny_mono h (fun fin s' z => ?_) fun _ _ z => z.elim))
  rcases fin with (_ | _ | _ | _) | _ <;> first | exact z | exact z.elim
theorem class_exc {Q : Option Value → Shared → Prop} (F : XK0 K C) (X : K.In s.heap) (I : InstAt s.heap x ox C od) (q : Q (some (.ref C)) { s with toks := s.toks + 1 }) :
    wpAny (model prog w) A (getAttr? (.ref x) "__class__") Q E s := by
  obtain ⟨cd, hc, _⟩ := F.cd
  have hf : findObj K C od "__class__" = some (.bind (.builtin "getset_descriptor.__get__") (.builtin "object.__class__")) := by
    unfold findObj
    rw [hc, F.cl]
    simp only [Option.bind_some, F.cg, F.ct]
  unfold getAttr? getAttrBy?
  refine wpAny_bind (wpAny_mkText (wpAny_bind (wpAny_attempt (by_exc (s := { s with toks := s.toks + 1 }) F X I ?_))))
  obtain ⟨hh, g, d, t, os⟩ := s
  have L0 := I.type (M := model prog w)
  have L1 := looks_find (M := model prog w) X I hf
  refine wpAny_bind (wpAny_pure (wpAny_bind (wpAny_pure (wpAny_bind (L0.at (wpAny_bind (L1.at ?_)))))))
  show wpAny _ _ (holding [Value.builtin "object.__class__"] (call (.builtin "getset_descriptor.__get__") [.builtin "object.__class__", .ref x, .ref C]) >>= ret) _ _ _
  refine wpAny_bind (wpAny_holding (wpAny_call (class_get (s := ⟨hh, g, d, t + 1, os⟩) (ox := ox) (od := od) X I F.ob (wpAny_pure ?_))))
  show wpAny _ _ (handedOut (.ref C)) _ _ _
  exact wpAny_pure (wpAny_pure q)
end
end Ex
set_option Elab.async false
set_option linter.all false
set_option maxRecDepth 100000
set_option maxHeartbeats 4000000
namespace Ex
open PySem PySem.W PyProof.Rows Builtin.ObjectAttr
section
variable {prog : Program} {w : World} {A : Around} {E : Value → Shared → Prop} {s : Shared} {K : Frag} {x C : Addr} {ox : Obj} {od : Option Obj} {name : Str} {v : Value}
theorem isT (F : XK0 K C) {M : Model} {h : Heap} (X : K.In h) : Looks M h (isType (.ref C)) true := by
  obtain ⟨cd, hc, _⟩ := F.cd
  unfold clsIn at hc
  split at hc
  · rename_i c' d' cd' sl' ho
    intro A' Q' E' s' k q
    unfold isType loadHead
    exact wpAny_bind (wpAny_loadPart (k _ _ (X _ _ ho)) (wpAny_pure q))
  · cases hc
/-- isinstance(e, ..) -/
theorem kitx_exc (F : XK0 K C) : KitX K (.ref x) (.ref C) (fun h => InstAt h x ox C od) where
  ty := fun _ _ _ I => I.type
  it := fun _ _ X _ => isT F X
  ne := fun h tp dd its n sl X htp => by
    obtain ⟨cd, hc, _⟩ := F.cd
    refine Bool.eq_false_iff.mpr fun q => ?_
    have e : C = tp := Value.ref.inj (beq_iff_eq.mp q)
    subst e
    unfold clsIn at hc
    split at hc
    · rename_i c' d' cd' sl' ho
      have z := (X _ _ ho).symm.trans htp
      cases z
    · cases hc
  ca := fun X I k => class_exc F X I k
/-- raise e -/
theorem raise_exc {env : Env} {m : Sem Value} {Q : Flow → Shared → Prop} (hh : A.handled = none)
    (h : wpAny (model prog w) A m (fun u s1 => ∃ e C od vs sl, u = .ref e ∧ XK0 K C ∧ K.In s1.heap ∧ s1.heap.get? e = some ⟨.ref C, od, .fields vs, sl⟩ ∧ vs[1]? = some .none ∧ E (.ref e) s1) E s) :
    wpAny (model prog w) A (raiseStmt env (some m) none) Q E s := by
  unfold raiseStmt
  refine wpAny_bind (wpAny_mono h (fun u s1 h1 => ?_) fun _ _ z => z)
  obtain ⟨e, C, od, vs, sl, rfl, F, X, he, t1, q⟩ := h1
  obtain ⟨hp, g, d, tk, os⟩ := s1
  have T : Looks (model prog w) hp (typeOf (.ref e)) (.ref C) := (Looks.ld he).andThen .now
  have nt : Looks (model prog w) hp (isType (.ref e)) false := by
    intro A' Q' E' s' k q
    unfold isType loadHead
    exact wpAny_bind (wpAny_loadPart (k _ _ he) (wpAny_pure q))
  have B : Looks (model prog w) hp (isInstance (.ref e) (.type "BaseException")) true := T.andThen (looks_mroIn X F.bx)
  have TT := looks_typeIn (M := model prog w) X F.ty
  have n1 : Looks (model prog w) hp (isExcClass (.ref e)) false := by
    unfold isExcClass
    exact nt.andThen .now
  have xf : Looks (model prog w) hp (excFromValue (.ref e) "exceptions must derive from BaseException") (.ref e) := by
    unfold excFromValue
    exact n1.andThen (B.andThen .now)
  refine wpAny_bind (wpAny_pure (wpAny_bind (wpAny_holding (xf.at ?_))))
  have ri : Looks (model prog w) hp (raisedInstance (.ref e)) (.ref e) := by
    unfold raisedInstance
    exact T.andThen (TT.andThen .now)
  refine wpAny_bind (nt.at ?_)
  show wpAny _ _ (raisedInstance (.ref e) >>= fun e => setFlight e none >>= fun _ => raiseNew e) _ _ _
  refine wpAny_bind (ri.at (wpAny_bind ?_))
  unfold setFlight
  refine wpAny_bind (wpAny_field he rfl t1 ?_)
  rw [if_neg (by decide)]
  exact wpAny_pure (wpAny_raiseNew_none hh q)
/-- is the exception of the class D? -/
theorem match_exc {D : Addr} {b : Bool} {Q : Bool → Shared → Prop} (F : XK0 K C) (G : XK0 K D) (X : K.In s.heap) (I : InstAt s.heap x ox C od) (hm : mroIn K C (.ref D) = some b) (hb : instIn K (.ref D) (.type "tuple") = some false) (hB : mroIn K D (.type "BaseException") = some true)
    (q : Q b s) : wpAny (model prog w) A (excMatches (.ref x) (.ref D)) Q E s := by
  obtain ⟨h, g, d, tk, os⟩ := s
  have T := I.type (M := model prog w)
  have L1 := looks_instIn (M := model prog w) X hb
  have L2 : Looks (model prog w) h (isExcClass (.ref D)) true := by
    unfold isExcClass
    exact (isT G X).andThen (looks_mroIn X hB)
  have L3 := looks_mroIn (M := model prog w) X hm
  unfold excMatches
  repeat lk
  cases b with
  | true => exact wpAny_pure (wpAny_pure (wpAny_pure q))
  | false => exact wpAny_pure (wpAny_pure (wpAny_pure q))
/-- ValueError.__init__(e, ..): the arguments anew -/
theorem init_exc {rest : List Value} {vs : Array Value} {dd : Option Addr} {sl : Array (Option Value)} {t0 : Addr} {R : Result → Shared → Prop} (F : XK0 K C) (hV : mroIn K C (.type "ValueError") = some true) (X : K.In s.heap)
    (hx : s.heap.get? x = some ⟨.ref C, dd, .fields vs, sl⟩) (h0 : vs[0]? = some (.ref t0)) (hl : rest.length ≤ sizeLine)
    (q : ∀ h' T, h'.get? x = some ⟨.ref C, dd, .fields (vs.setIfInBounds 0 (.ref T)), sl⟩ → (∀ b o, b ≠ x → s.heap.get? b = some o → h'.get? b = some o) → R (.ok (.ret .none)) { s with heap := h' }) :
    codeAny (model prog w) A (.call (.builtin "ValueError.__init__") ⟨.ref x :: rest, []⟩) R s := by
  have B := PySem.F.excBase_ValueError
  obtain ⟨h, g, d, tk, os⟩ := s
  have T : Looks (model prog w) h (typeOf (.ref x)) (.ref C) := (Looks.ld hx).andThen .now
  have sub : Looks (model prog w) h (isInstance (.ref x) (.type "ValueError")) true := T.andThen (looks_mroIn X hV)
  have st : ∀ (a b : String) (n : Nat), Bind.check ⟨.positional, "*", "ValueError", .self, [⟨"args", .varPos, false⟩]⟩ a b n (List.map (fun x => x.fst) ({ pos := Value.ref x :: rest } : Args).kw) = pure () := fun a b n => check_star_args _ _ _ _ _ _
  refine codeAny_call_builtin B.init.plain B.initEntry ?_
  simp only [checkBuiltinCall, B.initKind, B.initSplit, B.initRow]
  refine wpAny_bind (sub.at ?_)
  rw [if_neg (by decide)]
  obtain ⟨cd, hc, _⟩ := F.cd
  obtain ⟨cc, dC, slC, ho⟩ : ∃ cc dC slC, K.lookup C = some ⟨cc, dC, .cls cd, slC⟩ := by
    unfold clsIn at hc
    split at hc
    · rename_i c' d' cd' sl' ho
      cases hc
      exact ⟨_, _, _, ho⟩
    · cases hc
  have hC : h.get? C = some ⟨cc, dC, .cls cd, slC⟩ := X _ _ ho
  have c2 := B.noStar
  repeat (first | with_reducible refine wpAny_loadPart_at hx ?_ | with_reducible refine wpAny_loadPart_at hC ?_ | wp_step)
  refine wpAny_onRaise ?_
  rw [st]
  refine wpAny_pure ?_
  unfold Builtin.«BaseException.__init__»
  show wpAny _ _ (newTuple rest >>= fun t => Builtin.BaseException.bexcPut (.ref x) 0 t >>= fun _ => ret .none) _ _ _
  unfold newTuple
  refine wpAny_bind (wpAny_newObj_type ?_ (by show rest.toArray.size ≤ sizeLine; rw [List.size_toArray]; exact hl))
  have x1 := Heap.get?_push_of_some (h := h) { cls := .type "tuple", data := .seq rest.toArray } hx
  have sz : 0 < vs.size := (Array.getElem?_eq_some_iff.mp h0).1
  unfold Builtin.BaseException.bexcPut
  refine wpAny_bind (wpAny_bind (wpAny_field x1 rfl h0 (wpAny_bind (wpAny_setField x1 rfl sz (wpAny_letGo (wpAny_pure ?_))))))
  refine q _ h.objs.size (Heap.get?_update_self _ x1 rfl) fun b o nb hb => ?_
  rw [Heap.get?_update_other _ _ (Ne.symm nb)]
  exact Heap.get?_push_of_some _ hb
end
end Ex
set_option Elab.async false
set_option linter.all false
set_option maxRecDepth 100000
set_option maxHeartbeats 4000000
namespace Ex
open PySem PySem.W PyProof.Rows Builtin.ObjectAttr
section
variable {prog : Program} {w : World} {A : Around} {E : Value → Shared → Prop} {h : Heap} {g : Array GenState} {d : Drawn} {t : Nat} {os : OsState} {K : Frag}
variable {nm q : Str} {C N : Addr} {bs bm bmB : List Value} {hdct : Bool} {sn : List Str} {sub : List Value} {ab : Bool} {col : Option Bool} {dd : Option Addr} {k0 k1 k2 k3 k5 : Option Value} {B newId initId : String}
theorem type_callK (F : ExcBaseFacts B newId initId bmB) (U : Up B bm) {rest : List Value} {fI : Addr} {Q : Fin → Shared → Prop} (hrest : rest.length ≤ sizeLine) (X : K.In h)
    (hC : h.get? C = some (excClassObj nm q C N bs bm hdct sn sub ab col dd k0 k1 k2 k3 k5 newId)) (hi : findIn K (.ref C) "__init__" = some (some (.ref fI))) (hfn : typeIn K (.ref fI) = some (.type "function"))
    (hq : ∀ h' e, h.objs.size ≤ e → Heap.MadeExcOf h h' e (.ref C) rest → wpAny (model prog w) A (call (.ref fI) (.ref e :: rest)) (fun r s' => r = .none ∧ Q (.done (.ret (.ref e))) s') E ⟨h', g, d, t, os⟩) :
    wpAny (model prog w) A (Builtin.«type.__call__» ⟨.ref C :: rest, []⟩) Q E ⟨h, g, d, t, os⟩ := by
  repeat (first | with_reducible refine wpAny_loadPart_at hC ?_ | with_reducible refine wpAny_madeBy_exc hC ?_ | wp_step)
  refine codeAny_call_builtin_code (Code.quiet_builtin _ F.quiet) (check_new F U hC (exc_new F U hC hrest ?_))
  show wpAny _ _ _ _ _ _
  have k2 : ∀ {b : Addr} {o : Obj}, h.get? b = some o → ((h.push { cls := .type "tuple", data := .seq rest.toArray }).push { cls := .ref C, data := .fields #[.ref h.objs.size, .none, .none, .none, .bool false, .none] }).get? b = some o := fun e => Heap.get?_push_of_some _ (Heap.get?_push_of_some _ e)
  have X1 : K.In ((h.push { cls := .type "tuple", data := .seq rest.toArray }).push { cls := .ref C, data := .fields #[.ref h.objs.size, .none, .none, .none, .bool false, .none] }) := fun a o e => k2 (X a o e)
  have hC₁ := k2 hC
  have hget : ((h.push { cls := .type "tuple", data := .seq rest.toArray }).push { cls := .ref C, data := .fields #[.ref h.objs.size, .none, .none, .none, .bool false, .none] }).get? (h.objs.size + 1) = some { cls := .ref C, data := .fields #[.ref h.objs.size, .none, .none, .none, .bool false, .none] } := by heap_get
  have hcC : (Value.ref C :: bm).contains (.ref C) = true := by simp
  unfold isInstance
  repeat (first | with_reducible refine wpAny_loadPart_at hget ?_ | (with_reducible refine wpAny_isSubtype_exc hC₁ ?_; rw [hcC]) | wp_step)
  show wpAny _ _ (typeLookup (.ref C) _) _ _ _
  refine (looks_findIn (M := model prog w) X1 hi).at ?_
  refine wpAny_holding (wpAny_bind ?_)
  unfold bindSpecial
  refine wpAny_bind ((looks_typeIn (M := model prog w) X1 hfn).at ?_)
  rw [if_pos (by decide)]
  refine wpAny_pure (wpAny_bind (wpAny_mono (hq _ (h.objs.size + 1) (Nat.le_succ _) ⟨fun b o hb => k2 hb, Heap.get?_none_of_le (Nat.le_succ _), h.objs.size, hget, Heap.get?_none_of_le (Nat.le_refl _), Heap.get?_push_of_some _ (Heap.get?_push_at rfl rfl)⟩) (fun r s' hr => ?_) fun _ _ x => x))
  obtain ⟨rfl, hQ⟩ := hr
  wp_walk
  exact hQ
theorem call_excK (F : ExcBaseFacts B newId initId bmB) (U : Up B bm) {rest : List Value} {fI : Addr} {Q : Value → Shared → Prop} (hrest : rest.length ≤ sizeLine) (X : K.In h)
    (hC : h.get? C = some (excClassObj nm q C N bs bm hdct sn sub ab col dd k0 k1 k2 k3 k5 newId)) (hi : findIn K (.ref C) "__init__" = some (some (.ref fI))) (hfn : typeIn K (.ref fI) = some (.type "function"))
    (hq : ∀ h' e, h.objs.size ≤ e → Heap.MadeExcOf h h' e (.ref C) rest →
      wpAny (model prog w) (A.under (.builtin "type.__call__" ⟨.ref C :: rest, []⟩)) (call (.ref fI) (.ref e :: rest)) (fun r s' => r = .none ∧ Q (.ref e) s') E ⟨h', g, d, t, os⟩) :
    wpAny (model prog w) A (call (.ref C) rest) Q E ⟨h, g, d, t, os⟩ := by
  have f1 := tc_lookup
  have f2 := tc_bind (.ref C)
  have hT : (⟨h, g, d, t, os⟩ : Shared).TypeIs (.ref C) "type" := ⟨_, hC, rfl⟩
  refine wpAny_call (codeAny_of_tree ?_)
  show wpAny _ _ (callAny (.ref C) ⟨rest, []⟩) _ _ _
  repeat (any_goals (first | assumption | with_reducible refine wpAny_loadPart_at hC ?_ | wp_step))
  refine ⟨rfl, ?_⟩
  refine codeAny_call_builtin_at (Code.quiet_builtin _ (by decide +kernel)) entry_typeCall (wpAny_check_type_call_sub hC (type_callK F U hrest X hC hi hfn fun h' e he hm => ?_))
  exact hq h' e he hm
end
end Ex
set_option Elab.async false
set_option linter.all false
set_option maxRecDepth 100000
set_option maxHeartbeats 4000000
namespace L2
open PySem PySem.Spec PyProof.Rows
/-- an exception: its class, its dict, its traceback -/
def XO (e C : Addr) (dx : Option Addr) (t1 : Value) (h : Heap) : Prop := ∃ vs sl, h.get? e = some ⟨.ref C, dx, .fields vs, sl⟩ ∧ (∃ t0, vs[0]? = some (.ref t0)) ∧ vs[1]? = some t1
/-- a traceback's record -/
def TrB (T : Addr) (h : Heap) : Prop := ∃ o ts, h.get? T = some o ∧ o.data = .fields ts ∧ ts[3]? = some .none
theorem XO.ok {P : Program} {w : World} {H : Hp} {h : Heap} {e C : Addr} {dx : Option Addr} {t1 : Value} (x : XO e C dx t1 h) : ObjOk P w H h e (.ext (XO e C dx t1)) := by
  refine ⟨x, ?_, fun h1 h2 y k => ?_⟩
  · obtain ⟨vs, sl, e, _⟩ := x
    exact ⟨_, e⟩
  · obtain ⟨vs, sl, e, r⟩ := y
    exact ⟨vs, sl, k _ e, r⟩
theorem TrB.ok {P : Program} {w : World} {H : Hp} {h : Heap} {T : Addr} (x : TrB T h) : ObjOk P w H h T (.ext (TrB T)) := by
  refine ⟨x, ?_, fun h1 h2 y k => ?_⟩
  · obtain ⟨o, ts, e, _⟩ := x
    exact ⟨_, e⟩
  · obtain ⟨o, ts, e, r⟩ := y
    exact ⟨o, ts, k _ e, r⟩
theorem upd_self {H : Hp} {a : Addr} {o : HO} (h : H a = some o) : upd H a o = H := by
  funext b
  by_cases e : b = a
  · subst e; rw [upd_same, h]
  · rw [upd_ne e]
section
variable {P : Program} {w : World} {H : Hp} {h h' : Heap} {a d : Addr} {o1 o2 : HO} {fs ex : List Addr}
/-- one thing is changed, another is new -/
theorem HOk.two (ok : HOk P w H h) (mu : Mut (H a)) (hd : h.objs.size ≤ d) (k : ∀ b u, b ≠ a → h.get? b = some u → h'.get? b = some u)
    (n1 : ObjOk P w (upd (upd H d o1) a o2) h' d o1) (n2 : ObjOk P w (upd (upd H d o1) a o2) h' a o2) : HOk P w (upd (upd H d o1) a o2) h' := fun b u q => by
  have nown : ∀ c y, H c = some (.own y) → c ≠ a := fun c y r z => by subst z; rw [r] at mu; exact mu
  have ntup : ∀ c xs, H c = some (.tup xs) → c ≠ a := fun c xs r z => by subst z; rw [r] at mu; exact mu
  have nd : H d = none := ok.fresh hd
  by_cases hb : b = a
  · subst hb; rw [upd_same] at q; cases q; exact n2
  · rw [upd_ne hb] at q
    by_cases hbd : b = d
    · subst hbd; rw [upd_same] at q; cases q; exact n1
    · rw [upd_ne hbd] at q
      refine (ok b u q).stay (fun c v hc r => k c v ?_ r) (fun c r => by rw [upd_ne (nown c b r), upd_ne (ne_of_none r nd)]; exact r) fun c xs r => by rw [upd_ne (ntup c xs r), upd_ne (ne_of_none r nd)]; exact r
      rcases hc with rfl | hc
      · exact hb
      · exact nown c b hc
theorem Un.two (mu : Mut (H a)) (hd : h.objs.size ≤ d) (nd : H d = none) (k : ∀ b u, b ≠ a → h.get? b = some u → h'.get? b = some u) (he : ∃ u, h'.get? a = some u) : Un fs ex H (upd (upd H d o1) a o2) h h' := by
  have hx : ∀ b, H b = none → b ≠ a := fun b n z => by subst z; rw [n] at mu; exact mu
  have hm : ∀ b u, H b = some u → ¬ Mut (some u) → b ≠ a := fun b u q nm z => by subst z; rw [q] at mu; exact nm mu
  refine ⟨fun b u q n _ _ => k b u (hx b n) q, fun b u q n _ _ => ⟨u.slots, k b u (hx b n) q⟩, fun b u q n _ => by rw [upd_ne (hx b n), upd_ne (Nat.ne_of_lt (Nat.lt_of_lt_of_le (Heap.lt_size q) hd))]; exact n, fun b u q _ => ?_,
    fun b xs q => by rw [upd_ne (hm b _ q fun z => z), upd_ne (ne_of_none q nd)]; exact q, fun b u xs q => by rw [upd_ne (hm b _ q fun z => z), upd_ne (ne_of_none q nd)]; exact q,
    fun b ps q => ⟨#[], by rw [upd_ne (hm b _ q fun z => z), upd_ne (ne_of_none q nd), q]; simp⟩⟩
  by_cases hb : b = a
  · subst hb; exact he
  · exact ⟨u, k b u hb q⟩
end
/-- what of the text an exception class must have to be made -/
structure XM (K : PySem.W.Frag) (C f : Addr) : Prop where
  x0 : Ex.XK0 K C
  obj : ∃ nm q N bs bm hdct sn sub ab col dd k0 k1 k2 k3 k5, K.lookup C = some (excClassObj nm q C N bs bm hdct sn sub ab col dd k0 k1 k2 k3 k5 "ValueError.__new__") ∧ Ex.Up "ValueError" bm
  init : PySem.W.findIn K (.ref C) "__init__" = some (some (.ref f))
  fn : PySem.W.typeIn K (.ref f) = some (.type "function")
  kp : PySem.W.keepIn K (.ref C) = true
/-- C(..), an exception -/
def tXMake (C : Addr) (sp : Sp) (t : TA) : TE := fun σ H Q => t σ H fun vs H1 => ∀ x, H1 x = none → sp (.ref x :: vs) (upd H1 x (.ext (XO x C none .none))) (fun v H2 => v = .non ∧ Q (.ref x) H2) E0
section
variable {X : Cx} {k : Nat} {f C : Addr} {fd : FuncData} {ps : List Str} {sp : Sp} {x m : Str} {p pos apos : Pos} {e o : Expr} {es : List Expr} {ta : TE} {t : TA}
theorem run_xmake {pins : List (Addr × Obj)} {σ : St} {H : Hp} {s : Shared} {Q : VK} {us : List Value} {vs : List V} (M : XM X.K C f) (F : FnOk X.prog X.w X.K X.mg X.base CX0 k f fd ps sp) (hr : Room (k + 1) X.A) (hb : Binds X.K fd ps []) (hs : ps.length ≤ 100)
    (I : Inv X pins σ H s) (r : Vals vs us)
    (h : ∀ x, H x = none → sp (.ref x :: vs) (upd H x (.ext (XO x C none .none))) (fun v H2 => v = .non ∧ Q (.ref x) H2) E0) :
    wpAny (model X.prog X.w) X.A (call (.ref C) us) (EP X pins σ Q) X.xe s := by
  have hl0 : us.length + 1 = ps.length := by
    have := F.len _ _ _ _ (h s.heap.objs.size (I.hok.fresh (Nat.le_refl _)))
    rw [List.length_cons, r.length] at this
    exact this
  obtain ⟨nm, q, N, bs, bm, hdct, sn, sub, ab, col, dd, k0, k1, k2, k3, k5, lk, U⟩ := M.obj
  obtain ⟨h0, g, d, tk, os⟩ := s
  have KX : X.K.In h0 := I.kIn
  refine Ex.call_excK (K := X.K) (fI := f) PySem.F.excBase_ValueError U (by rw [sizeLine_eq]; omega) KX (KX _ _ lk) M.init M.fn fun h' x hx hm => ?_
  have I2 : Inv X pins σ (upd H x (.ext (XO x C none .none))) ⟨h', g, d, tk, os⟩ := by
    refine I.laid (t' := tk) hm.keeps hx (XO.ok ?_)
    obtain ⟨t0, e0, _⟩ := hm.there
    exact ⟨_, _, e0, ⟨t0, rfl⟩, rfl⟩
  have hq := h x (I.hok.fresh hx)
  have r2 : Vals (V.ref x :: vs) (Value.ref x :: us) := .cons rfl r
  have hl : ((Value.ref x :: us) ++ []).length = ps.length := by rw [List.append_nil, List.length_cons]; exact hl0
  have bb := hb _ (Value.ref x :: us) I2.kIn hl
  rw [List.append_nil] at bb
  refine wpAny_call (codeAny_mono (F.run _ X.stack _ _ ⟨Value.ref x :: us, []⟩ (Value.ref x :: us) _ _ E0 (hr.make C us []) (I2.env0.make C us []) bb r2 hq) fun rr s' hq' => ?_)
  cases rr with
  | error e => exact hq'.elim
  | ok fl =>
    cases fl with
    | ret u =>
      obtain ⟨v, H', I3, rv, ev, q3⟩ := I2.after hq'
      subst ev
      exact ⟨rv, ⟨V.ref x, H', I3, rfl, q3⟩⟩
    | next => exact False.elim hq'
    | brk => exact False.elim hq'
    | cont => exact False.elim hq'
theorem pe_xmake (M : XM X.K C f) (F : FnOk X.prog X.w X.K X.mg X.base CX0 k f fd ps sp) (hr : Room (k + 1) X.A) (hg : Gl X x) (hm : X.mg x = some (.ref C)) (hb : Binds X.K fd ps []) (hs : ps.length ≤ 100)
    (ha : PA X (e :: es) t) (hdb : (x == ("__debug__" : Str)) = false := by decide) (he : starEach (e :: es) X.env = (false, eval e X.env) :: starEach es X.env := by rfl) (hpl : (backTo pos (starEach es X.env)).any (·.1) = false := by rfl) :
    PE X (.Call (.Name x p) (e :: es) [] pos) (tXMake C sp t) := by
  intro pins s σ H Q I h
  refine wpAny_Call_Name_kw (ld_glob I hg hm ?_ hdb)
  refine PySem.W.callWith_K (h₀ := X.base) I.ok.mod.kin M.kp (thn (ha pos pins s σ H _ I h) fun us s1 ⟨vs, H1, I1, r, q⟩ => ⟨I1.kIn, ?_⟩) he hpl
  exact run_xmake M F hr hb hs I1 r q
end
end L2
set_option Elab.async false
set_option linter.all false
set_option maxRecDepth 100000
set_option maxHeartbeats 4000000
namespace L2
open PySem PySem.Spec PyProof.Rows
/-- ValueError.__init__(self, ..) -/
inductive tVInitY (K : PySem.W.Frag) (Q : VK) (vs : List V) (H1 : Hp) : Prop
  | mk : ∀ a C dx rest, (vs = .ref a :: rest) → (H1 a = some (.ext (XO a C dx .none))) → (Ex.XK0 K C) → (PySem.W.mroIn K C (.type "ValueError") = some true) → (rest.length ≤ 100) → (Q .non H1) → tVInitY K Q vs H1
def tVInit (K : PySem.W.Frag) (t : TA) : TE := fun σ H Q => t σ H fun vs H1 => tVInitY K Q vs H1
section
variable {X : Cx} {k : Nat} {f C : Addr} {fd : FuncData} {ps : List Str} {sp : Sp} {x m : Str} {p pos apos pos' : Pos} {e o value : Expr} {es : List Expr} {ta tv : TE} {t : TA}
theorem pe_vinit {pl : Sem Bool} (hg : Gl X "ValueError") (hm : X.mg "ValueError" = none) (hc : PySem.W.findCls X.K (.type "ValueError") (.type "type") "__init__" = some (.val (.builtin "ValueError.__init__"))) (ha : PA X (e :: es) t)
    (hst : starEach (e :: es) X.env = (false, eval e X.env) :: starEach es X.env := by rfl) (hpl : (backTo pos (starEach es X.env)).any (·.1) = false := by rfl)
    (ht : eval (.Call (.Attribute (.Name "ValueError" p) "__init__" apos) (e :: es) [] pos) X.env = (do
      let ov ← eval (.Name "ValueError" p) X.env
      standAt apos.atName
      let (f, first) ← holding [ov] (getMethod ov "__init__" pl)
      callWith pos f first (backTo pos (starEach (e :: es) X.env)) (backToKw pos (keywordEach [] X.env))) := by rfl) :
    PE X (.Call (.Attribute (.Name "ValueError" p) "__init__" apos) (e :: es) [] pos) (tVInit X.K t) := by
  intro pins s σ H Q I h
  have bv : bootBuiltins "ValueError" = some (.type "ValueError") := by decide +kernel
  refine PySem.W.methodCall_KW (pl := pl) (ld_blt I hg hm bv ?_) ht
  obtain ⟨m, fr⟩ := I.fr
  refine PySem.W.method_type fr I.ok.mod.kin rfl (by decide +kernel) hc rfl ?_
  have I0 := I.tok (s.toks + 1)
  refine PyProof.Rows.callWith_builtin1 (thn (ha pos pins _ σ H _ I0 h) fun us s1 ⟨vs, H1, I1, r, a, C, dx, rest, ev, ha, x0, hV, hl, q⟩ => ?_) hst hpl
  subst ev
  obtain ⟨u, us, rfl, ru, rr⟩ : ∃ u us', us = u :: us' ∧ RelV (.ref a) u ∧ Vals rest us' := by
    cases r with
    | cons a b => exact ⟨_, _, rfl, a, b⟩
  cases ru
  obtain ⟨⟨ws, sl, he, ⟨t0, h0⟩, h1⟩, _⟩ := I1.hok a _ ha
  refine wpAny_call (Ex.init_exc (K := X.K) x0 hV I1.kIn he h0 (by rw [← rr.length, sizeLine_eq]; omega) fun h' T g1 g2 => ?_)
  refine ⟨.non, H1, ?_, rfl, q⟩
  have := I1.write (h' := h') (t' := s1.toks) (x := a) (e := a) (o := .ext (XO a C dx .none)) (by rw [ha]; exact True.intro) (.inl rfl) (fun b u nb e => g2 b u nb e) ⟨_, g1⟩
    (XO.ok ⟨_, _, g1, ⟨T, by rw [Array.getElem?_setIfInBounds]; rw [if_pos rfl, if_pos (Array.getElem?_eq_some_iff.mp h0).1]⟩, by rw [Array.getElem?_setIfInBounds_ne (by decide)]; exact h1⟩)
  rw [upd_self ha] at this
  exact this
end
end L2
set_option Elab.async false
set_option linter.all false
set_option maxRecDepth 100000
set_option maxHeartbeats 4000000
namespace L2
open PySem PySem.Spec PyProof.Rows
/-- the exception as the reading sees it: its class, its dict (tracked, where it has one) -/
def XAt (H : Hp) (a C : Addr) (dx : Option Addr) (t1 : Value) : Prop := H a = some (.ext (XO a C dx t1)) ∧ ∀ d, dx = some d → ∃ fs, H d = some (.xd fs)
section
variable {X : Cx} {pins : List (Addr × Obj)} {σ : St} {H : Hp} {s : Shared} {e : Expr} {f : Str} {pos : Pos} {ta : TE}
theorem XAt.inst (I : Inv X pins σ H s) {a C : Addr} {dx : Option Addr} {t1 : Value} (x : XAt H a C dx t1) : ∃ ox od, PySem.W.InstAt s.heap a ox C od := by
  obtain ⟨⟨ws, sl, he, _⟩, _⟩ := I.hok a _ x.1
  cases dx with
  | none => exact ⟨_, none, he, rfl, rfl, trivial⟩
  | some d =>
    obtain ⟨fs, hd⟩ := x.2 d rfl
    obtain ⟨mA, ⟨o, es, ep, e, _⟩, _⟩ := I.hok d _ hd
    exact ⟨_, some o, he, rfl, rfl, e⟩
/-- isinstance(e, D), D a class -/
inductive call_isiXY (K : PySem.W.Frag) (xs : List V) (H : Hp) (Q : VK) : Prop
  | mk : ∀ a C dx t1 y u b, (xs = [.ref a, y]) → (RelV y u) → ((∀ u', RelV y u' → u' = u)) → (XAt H a C dx t1) → (Ex.XK0 K C) → (PySem.W.kitOne K (.ref C) u = some b) → (Q (.bl b) H) → call_isiXY K xs H Q
theorem call_isiX : CallR X (.builtin "isinstance") (call_isiXY X.K) := by
  intro pins s σ H xs us Q I r h
  obtain ⟨a, C, dx, t1, y, u, b, rfl, ry, uy, xa, x0, e, q⟩ := h
  obtain ⟨u1, u2, rfl, r1, r2⟩ := vals2 r
  cases r1
  obtain rfl := uy _ r2
  obtain ⟨ox, od, J⟩ := xa.inst I
  exact PySem.W.kia_one (Ex.kitx_exc x0) I.kIn J e (fun z => nomatch z) fun tk => ⟨.bl b, H, I.tok _, rfl, q⟩
end
end L2
set_option Elab.async false
set_option linter.all false
set_option maxRecDepth 100000
set_option maxHeartbeats 4000000
namespace L2
open PySem PySem.Spec PyProof.Rows
abbrev tr2 (H : Hp) (a C : Addr) (dx : Option Addr) (T : Addr) : Hp := upd (upd H T (.ext (TrB T))) a (.ext (XO a C dx (.ref T)))
section
variable {P : Program} {w : World} {H H1 H2 : Hp} {h h1 h2 h' : Heap} {a C T : Addr} {dx : Option Addr} {t1 : Value} {l : List Env} {fs fs' : List Addr}
theorem Un.transL (x : Un fs [] H H1 h h1) (y : Un fs' [] H1 H2 h1 h2) (hs : ∀ b o, h.get? b = some o → b ∈ fs' → b ∈ fs) : Un fs [] H H2 h h2 where
  keep := fun c ob q n hc hx => y.keep c ob (x.keep c ob q n hc hx) (x.free c ob q n hx) (fun z => hc (hs c ob q z)) hx
  slot := fun c ob q n hc hx => by
    obtain ⟨sl, e1⟩ := x.slot c ob q n hc hx
    obtain ⟨sl', e2⟩ := y.any e1 (x.free c ob q n hx) hx
    exact ⟨sl', e2⟩
  free := fun c ob q n hx => by
    obtain ⟨o', e1⟩ := x.there c ob q hx
    exact y.free c o' e1 (x.free c ob q n hx) hx
  there := fun c ob q hx => by
    obtain ⟨o', e1⟩ := x.there c ob q hx
    exact y.there c o' e1 hx
  tups := fun c xs q => y.tups c xs (x.tups c xs q)
  frzs := fun c ob xs q => y.frzs c ob xs (x.frzs c ob xs q)
  tbls := fun c ps q => by
    obtain ⟨m1, e1⟩ := x.tbls c ps q
    obtain ⟨m2, e2⟩ := y.tbls c _ e1
    exact ⟨m1 ++ m2, by rw [e2, Array.append_assoc]⟩
theorem aft (ok : HOk P w H h) (ea : H a = some (.ext (XO a C dx t1))) (fr : ∀ b ∈ frs l, H b = none) {vs : Array Value} {sl : Array (Option Value)} {t0 : Addr} (h0 : vs[0]? = some (.ref t0)) (hv1 : vs[1]? = some t1)
    (A : Ex.Aft l a T ⟨.ref C, dx, .fields vs, sl⟩ h h') : H T = none ∧ T ≠ a ∧ Un (frs l) [] H (tr2 H a C dx T) h h' ∧ HOk P w (tr2 H a C dx T) h' := by
  have nT : H T = none := ok.fresh A.n
  have na : T ≠ a := fun z => by subst z; rw [nT] at ea; cases ea
  have mu : Mut (H a) := by rw [ea]; exact True.intro
  have nown : ∀ c y, H c = some (.own y) → c ≠ a := fun c y r z => by subst z; rw [r] at mu; exact mu
  have hx : ∀ b, H b = none → b ≠ a := fun b n z => by subst z; rw [n] at mu; exact mu
  have hm : ∀ b u, H b = some u → ¬ Mut (some u) → b ≠ a := fun b u q nm z => by subst z; rw [q] at mu; exact nm mu
  have nfr : ∀ b u, H b = some u → b ∉ frs l := fun b u q z => by rw [fr b z] at q; cases q
  unfold tr2
  refine ⟨nT, na, ⟨fun b u q n nf _ => A.k b u (hx b n) nf q, fun b u q n _ _ => A.f b u (hx b n) q, fun b u q n _ => ?_, fun b u q _ => ?_, fun b xs q => ?_, fun b u xs q => ?_, fun b ps q => ⟨#[], ?_⟩⟩, fun b u q => ?_⟩
  · rw [upd_ne (hx b n), upd_ne (Nat.ne_of_lt (Nat.lt_of_lt_of_le (Heap.lt_size q) A.n))]; exact n
  · by_cases hb : b = a
    · subst hb; exact ⟨_, A.e⟩
    · obtain ⟨sl, z⟩ := A.f b u hb q
      exact ⟨_, z⟩
  · rw [upd_ne (hm b _ q fun z => z), upd_ne (ne_of_none q nT)]; exact q
  · rw [upd_ne (hm b _ q fun z => z), upd_ne (ne_of_none q nT)]; exact q
  · rw [upd_ne (hm b _ q fun z => z), upd_ne (ne_of_none q nT), q]; simp
  · by_cases hb : b = a
    · subst hb
      rw [upd_same] at q
      cases q
      refine XO.ok ⟨_, _, A.e, ⟨t0, ?_⟩, ?_⟩
      · rw [Array.getElem?_setIfInBounds_ne (by decide)]; exact h0
      · rw [Array.getElem?_setIfInBounds, if_pos rfl, if_pos (Array.getElem?_eq_some_iff.mp hv1).1]
    · rw [upd_ne hb] at q
      by_cases hbT : b = T
      · subst hbT
        rw [upd_same] at q
        cases q
        obtain ⟨oT, ts, e1, e2, e3⟩ := A.t
        exact TrB.ok ⟨oT, ts, e1, e2, e3⟩
      · rw [upd_ne hbT] at q
        refine (ok b u q).stay (fun c v hc r => ?_) (fun c r => by rw [upd_ne (nown c b r), upd_ne (ne_of_none r nT)]; exact r) fun c xs r => by rw [upd_ne (hm c _ r fun z => z), upd_ne (ne_of_none r nT)]; exact r
        rcases hc with rfl | hc
        · exact A.k c v hb (nfr c _ q) r
        · exact A.k c v (nown c b hc) (nfr c _ hc) r
end
section
variable {X : Cx} {pins : List (Addr × Obj)} {σ : St} {H : Hp} {s : Shared} {a C : Addr} {dx : Option Addr} {t1 : Value}
/-- an exception leaves the frame -/
theorem leavesN {M : Model} {Q : Unit → Shared → Prop} {E : Value → Shared → Prop} (I : Inv X pins σ H s) (hst : X.stack = X.env :: X.outer) (hf : X.env.frame = some X.env.locals) (ea : H a = some (.ext (XO a C dx t1)))
    (ht : t1 = .none ∨ ∃ T, t1 = .ref T ∧ T ≠ a ∧ H T = some (.ext (TrB T)))
    (q : ∀ T h', H T = none → T ≠ a → Un (frs X.stack) [] H (tr2 H a C dx T) s.heap h' → HOk X.prog X.w (tr2 H a C dx T) h' → Q () { s with heap := h' }) : wpAny M X.A (noteFrame (.ref a) X.env) (fun _ s' => wpAny M X.A (setFlight (.ref a) none) Q E s') E s := by
  obtain ⟨⟨vs, sl, he, ⟨t0, h0⟩, h1⟩, _⟩ := I.hok a _ ea
  have fr := I.stkFree
  have fun0 := I.stack
  have frm := I.ok.frames
  rw [hst] at fr fun0 frm q
  rcases ht with rfl | ⟨T0, rfl, nT, eT⟩
  · refine Ex.leave1N frm fun0 hf he rfl h1 fun h' T A => ?_
    obtain ⟨z1, z2, z3, z4⟩ := aft I.hok ea fr h0 h1 A
    exact q T h' z1 z2 z3 z4
  · obtain ⟨⟨oT, ts, e1, e2, e3⟩, _⟩ := I.hok T0 _ eT
    refine Ex.leave2N frm fun0 hf he rfl h1 nT e1 e2 e3 fun g h' T g1 g2 g3 A => ?_
    have mu : Mut (H T0) := by rw [eT]; exact True.intro
    have kk : ∀ b u, b ≠ T0 → s.heap.get? b = some u → g.get? b = some u := fun b u nb e => (g1 b nb).trans e
    have tb : TrB T0 g := ⟨_, _, g2, Obj.data_mapFields e2 _, by rw [Array.getElem?_setIfInBounds, if_pos rfl, if_pos (Array.getElem?_eq_some_iff.mp e3).1]⟩
    have hok1 : HOk X.prog X.w H g := by
      have := I.hok.write (x := T0) (e := T0) (o' := .ext (TrB T0)) mu (.inl rfl) kk ⟨_, g2⟩ (TrB.ok tb)
      rw [upd_self eT] at this
      exact this
    have un1 : Un (frs (X.env :: X.outer)) [] H H s.heap g := by
      have := Un.write (fs := frs (X.env :: X.outer)) (ex := []) (o := .ext (TrB T0)) mu (.inl rfl) kk ⟨_, g2⟩
      rw [upd_self eT] at this
      exact this
    obtain ⟨z1, z2, z3, z4⟩ := aft hok1 ea fr h0 h1 A
    exact q T h' z1 z2 (un1.trans z3) z4
theorem leaves {M : Model} {Q : Unit → Shared → Prop} {E : Value → Shared → Prop} (I : Inv X pins σ H s) (hst : X.stack = X.env :: X.outer) (hf : X.env.frame = some X.env.locals) (ea : H a = some (.ext (XO a C dx t1)))
    (ht : t1 = .none ∨ ∃ T, t1 = .ref T ∧ T ≠ a ∧ H T = some (.ext (TrB T)))
    (q : ∀ T h', H T = none → T ≠ a → Un (frs X.stack) [] H (tr2 H a C dx T) s.heap h' → HOk X.prog X.w (tr2 H a C dx T) h' → Q () { s with heap := h' }) : wpAny M X.A (leaving X.env (.ref a)) Q E s := by
  unfold leaving
  exact wpAny_bind (leavesN I hst hf ea ht q)
end
/-- how an exception lies behind a call -/
def CXo (P : Program) (w : World) : CXT := fun outer H s E e s' => ∃ a C dx T H', e = .ref a ∧ s'.os = s.os ∧ AllBare s'.gens ∧ Un (frs outer) [] H H' s.heap s'.heap ∧ HOk P w H' s'.heap ∧
  XAt H' a C dx (.ref T) ∧ T ≠ a ∧ H' T = some (.ext (TrB T)) ∧ E (.ref C) dx H'
/-- raise e -/
inductive sRaiseY (K : PySem.W.Frag) (E : XK) (x : V) (H1 : Hp) : Prop
  | mk : ∀ a C dx, (x = .ref a) → (XAt H1 a C dx .none) → (Ex.XK0 K C) → (∀ T, H1 T = none → T ≠ a → E (.ref C) dx (tr2 H1 a C dx T)) → sRaiseY K E x H1
def sRaise (K : PySem.W.Frag) (te : TE) (E : XK) : TS := fun _ σ H => te σ H fun x H1 => sRaiseY K E x H1
section
variable {X : Cx} {m : Expr} {te : TE} {pos : Pos} {E : XK}
theorem ps_raise (hm : PE X m te) (hc : X.calm = true) (hst : X.stack = X.env :: X.outer) (hf : X.env.frame = some X.env.locals) (hex : X.ex = [])
    (hx : X.xe = fun e s' => wpAny (model X.prog X.w) X.A (leaving X.env e) (fun _ s'' => CXo X.prog X.w X.outer X.H₀ X.s₀ E e s'') (fun e' s'' => CXo X.prog X.w X.outer X.H₀ X.s₀ E e' s'') s') :
    PS X (.Raise (some m) none pos) (sRaise X.K te E) := by
  intro pins s σ H D I h
  rw [arm_exec_Raise]
  refine wpAny_bind (wpAny_standAt (Ex.raise_exc (K := X.K) (I.ok.hd hc) ?_))
  have step : wpAny (model X.prog X.w) X.A (eval m X.env) (fun u s1 => ∃ e C od vs sl, u = .ref e ∧ Ex.XK0 X.K C ∧ X.K.In s1.heap ∧ s1.heap.get? e = some ⟨.ref C, od, .fields vs, sl⟩ ∧ vs[1]? = some .none ∧ X.xe (.ref e) s1) X.xe s := by
    refine thn (hm pins s σ H _ I h) fun u s1 ⟨x, H1, I1, rx, a, C, dx, ex, xa, x0, q⟩ => ?_
    subst ex
    obtain rfl : u = Value.ref a := rx
    obtain ⟨⟨vs, sl, he, t0, h1⟩, _⟩ := I1.hok a _ xa.1
    refine ⟨a, C, dx, vs, sl, rfl, x0, I1.kIn, he, h1, ?_⟩
    rw [hx]
    refine leaves I1 hst hf xa.1 (.inl rfl) fun T h' nT na un hok => ?_
    refine ⟨a, C, dx, T, _, rfl, I1.os, I1.bare, ?_, hok, ⟨upd_same, fun d e => ?_⟩, na, ?_, q T nT na⟩
    · have b0 := I1.base
      rw [hex] at b0
      refine b0.transL un fun b o e hb => ?_
      rcases List.mem_cons.mp (I1.stkSub b hb) with z | z
      · subst z
        exact absurd (Nat.lt_of_lt_of_le (Heap.lt_size e) I1.ok.above) (Nat.lt_irrefl _)
      · exact z
    · obtain ⟨fs, z⟩ := xa.2 d e
      refine ⟨fs, ?_⟩
      have n1 : d ≠ a := fun y => by subst y; rw [xa.1] at z; cases z
      unfold tr2
      rw [upd_ne n1, upd_ne (ne_of_none z nT)]
      exact z
    · unfold tr2
      rw [upd_ne na, upd_same]
  first
    | exact step
    | exact wpAny_bind (wpAny_mono step (fun v s₃ h₃ => wpAny_bind (wpAny_standAt (wpAny_pure h₃))) fun _ _ x => x)
    | (simp only [evalOpt, Option.map]; exact step)
end
end L2
set_option Elab.async false
set_option linter.all false
set_option maxRecDepth 100000
set_option maxHeartbeats 4000000
namespace L2
open PySem PySem.Spec PyProof.Rows
section
variable {X : Cx} {pins : List (Addr × Obj)} {σ : St} {H : Hp} {s : Shared} {a C : Addr} {dx : Option Addr} {t1 : Value}
/-- behind a suite the name goes -/
theorem gone_ok {M : Model} {A : Around} {E : Value → Shared → Prop} {i : Nat} {x : Str} {pos : Pos} {Q : Unit → Shared → Prop} (I : Inv X pins σ H s) (hN : X.N.Nodup) (hi : X.N[i]? = some x) (hk : X.env.scope.names.lookup x = some .local)
    (h : ∀ s', Inv X pins (σ.set i none) H s' → Q () s') : wpAny M A (do bindName X.env x .none; unbindBehindTheSuite X.env x pos) Q E s := by
  obtain ⟨m, hn, hl⟩ := id I.loc
  have hcls : (X.env.scope.kind == .class || (X.env.scope.kind == .module && X.env.locals != X.env.globals)) = false := by rw [I.ok.kind]; rfl
  have hiσ : i < σ.length := by rw [I.len]; exact (List.getElem?_eq_some_iff.mp hi).1
  refine wpAny_nameGoes_keeps hk hn hcls fun h' v hn' hs => ?_
  have neL : ∀ b o, X.s₀.heap.get? b = some o → b ≠ X.env.locals := fun b o e => Nat.ne_of_lt (Nat.lt_of_lt_of_le (Heap.lt_size e) I.ok.above)
  refine h _ ⟨I.ok, I.os, I.bare, ⟨fun b o e n hb hx => (hs.2 b (neL b o e)).trans (I.base.keep b o e n hb hx), fun b o e n hb hx => ?_, I.base.free, fun b o e hx => ?_, I.base.tups, I.base.frzs, I.base.tbls⟩, ⟨_, hn', fun j y v' e1 e2 e3 => ?_⟩, fun y c e => ?_, I.free, I.freeC, fun p hp => ?_, fun b ob e => ?_, by simpa using I.len⟩
  · obtain ⟨sl, e1⟩ := I.base.slot b o e n hb hx
    exact ⟨sl, (hs.2 b (neL b o e)).trans e1⟩
  · obtain ⟨o', e1⟩ := I.base.there b o e hx
    exact ⟨o', (hs.2 b (neL b o e)).trans e1⟩
  · by_cases hj : j = i
    · subst hj
      rw [List.getElem?_set_self hiσ] at e2
      cases e2
    · rw [List.getElem?_set_ne (Ne.symm hj)] at e2
      obtain ⟨u', r', q⟩ := hl j y v' e1 e2 e3
      refine ⟨u', r', ?_⟩
      rcases q with ⟨k, e⟩ | ⟨k, c, e, z⟩
      · refine .inl ⟨k, ?_⟩
        have ny : y ≠ x := fun e => hj (nodup_ix hN e1 (e ▸ hi))
        show (if y = x then v else m y) = _
        rw [if_neg ny]
        exact e
      · exact .inr ⟨k, c, e, z.sameBut hs (I.cne y c e)⟩
  · obtain ⟨w', z⟩ := I.cell y c e
    exact ⟨w', z.sameBut hs (I.cne y c e)⟩
  · obtain ⟨e, n, ne, nf, d⟩ := I.pin p hp
    exact ⟨(hs.2 p.1 ne).trans e, n, ne, nf, d⟩
  · have fr := I.free
    refine (I.hok b ob e).stay (fun c w' hc q => (hs.2 c ?_).trans q) (fun _ q => q) fun _ _ q => q
    rintro rfl
    rcases hc with rfl | hc
    · rw [fr] at e; cases e
    · rw [fr] at hc; cases hc
/-- within an except suite -/
def Cx.hand (X : Cx) (a : Addr) : Cx := { X with A := X.A.mark (some (.ref a)), calm := false, xe := fun _ _ => False }
theorem mark_frames {A : Around} {v : Option Value} : (A.mark v).frames = A.frames := by first | rfl | simp [Around.mark]
theorem Inv.hand (I : Inv X pins σ H s) (a : Addr) : Inv (X.hand a) pins σ H s :=
  ⟨⟨I.ok.mod, I.ok.kind, I.ok.glob, I.ok.blt, I.ok.above, I.ok.inj, I.ok.has, I.ok.cab, (fun z => nomatch z), mark_frames.trans I.ok.frames, I.ok.stk, I.ok.exf, I.ok.bs, I.ok.bsz, I.ok.noex, I.ok.exfs, I.ok.funs, I.ok.frf⟩, I.os, I.bare, I.base, I.loc, I.cell, I.free, I.freeC, I.pin, I.hok, I.len⟩
theorem Inv.unhand (ok : X.Ok) (I : Inv (X.hand a) pins σ H s) : Inv X pins σ H s := ⟨ok, I.os, I.bare, I.base, I.loc, I.cell, I.free, I.freeC, I.pin, I.hok, I.len⟩
/-- within a try's body -/
def Cx.tried (X : Cx) (pins : List (Addr × Obj)) (E : Value → Shared → Prop) : Cx := { X with xe := E, pn := X.pn ++ pins }
theorem Inv.tried (I : Inv X pins σ H s) (E : Value → Shared → Prop) : Inv (X.tried pins E) [] σ H s :=
  ⟨⟨I.ok.mod, I.ok.kind, I.ok.glob, I.ok.blt, I.ok.above, I.ok.inj, I.ok.has, I.ok.cab, I.ok.hd, I.ok.frames, I.ok.stk, I.ok.exf, I.ok.bs, I.ok.bsz, I.ok.noex, I.ok.exfs, I.ok.funs, I.ok.frf⟩, I.os, I.bare, I.base, I.loc, I.cell, I.free, I.freeC, fun p hp => I.pin p (by simpa [Cx.tried] using hp), I.hok, I.len⟩
theorem Inv.untried {E : Value → Shared → Prop} {pins' : List (Addr × Obj)} (ok : X.Ok) (I : Inv (X.tried pins E) pins' σ H s) : Inv X pins σ H s :=
  ⟨ok, I.os, I.bare, I.base, I.loc, I.cell, I.free, I.freeC, fun p hp => I.pin p (List.mem_append_left _ hp), I.hok, I.len⟩
/-- what is known of an exception that reached a try -/
def Caught (X : Cx) (pins : List (Addr × Obj)) (n : Nat) (E : XK) (e : Value) (s' : Shared) : Prop := ∃ a C dx T σ' H', e = .ref a ∧ Inv X pins σ' H' s' ∧ XAt H' a C dx (.ref T) ∧ T ≠ a ∧ H' T = some (.ext (TrB T)) ∧ E (.ref C) dx H'
theorem passes_try (ok : X.Ok) (E : XK) {n : Nat} : Passes (CXo X.prog X.w) (X.tried pins (Caught X pins n E)) E := by
  intro pins' σ H s e s' I h
  obtain ⟨a, C, dx, T, H', rfl, os, bare, un, hok, xa, na, hT, q⟩ := h
  have I0 : Inv X pins σ H s := I.untried ok
  exact ⟨a, C, dx, T, σ, H', rfl, I0.call' os un hok bare (fun b z => absurd z (by simp)), xa, na, hT, q⟩
end
/-- try: .. except D as n: .. -/
inductive sTry (K : PySem.W.Frag) (D : Addr) (i : Nat) (tb th : TS) (E : XK) (Z : Ends) (σ : St) (H : Hp) : Prop
  | mk : (tb Z σ H) → (∀ (σ' : St) (H' : Hp) (a C : Addr) (dx : Option Addr) (T : Addr), σ'.length = σ.length → E (.ref C) dx H' → XAt H' a C dx (.ref T) → H' T = some (.ext (TrB T)) → Ex.XK0 K C ∧ PySem.W.mroIn K C (.ref D) = some true ∧ ∀ T', H' T' = none → T' ≠ a → th { nx := fun σ2 H2 => Z.nx (σ2.set i none) H2, rt := Z.rt, bk := fun σ2 H2 => Z.bk (σ2.set i none) H2, ct := fun σ2 H2 => Z.ct (σ2.set i none) H2 } (σ'.set i (some (.ref a))) (tr2 H' a C dx T')) → sTry K D i tb th E Z σ H
section
variable {X : Cx} {body hs : List Stmt} {b₀ : Stmt} {tb th : TS} {D : Addr} {d n : Str} {np hpos pos : Pos} {i : Nat} {E : XK}
theorem ps_try (hN : X.N.Nodup) (hi : X.N[i]? = some n) (hk : X.env.scope.names.lookup n = some .local) (hg : Gl X d) (hm : X.mg d = some (.ref D)) (G : Ex.XK0 X.K D) (ht : PySem.W.instIn X.K (.ref D) (.type "tuple") = some false)
    (hst : X.stack = X.env :: X.outer) (hf : X.env.frame = some X.env.locals)
    (hbody : ∀ pins E', Passes (CXo X.prog X.w) (X.tried pins E') E → PSs (X.tried pins E') body tb) (hh : ∀ a, PSs (X.hand a) (b₀ :: hs) th) (hdb : (d == ("__debug__" : Str)) = false := by decide) :
    PS X (.Try body [.ExceptHandler (some (.Name d np)) (some n) (b₀ :: hs) hpos] [] [] pos) (sTry X.K D i tb th E) := by
  intro pins s σ H Z I h
  have ok := I.ok
  refine wpAny_Try_except ?_
  refine wpAny_mono (hbody pins _ (passes_try ok E (n := σ.length)) [] s σ H Z (I.tried _) h.1) (fun f s1 h1 => ?_) fun e s1 h1 => ?_
  · cases f with
    | next =>
      obtain ⟨σ', H', I', q⟩ := h1
      exact wpAny_execs_nil ⟨σ', H', I'.untried ok, q⟩
    | brk => obtain ⟨σ', H', I', q⟩ := h1; exact ⟨σ', H', I'.untried ok, q⟩
    | cont => obtain ⟨σ', H', I', q⟩ := h1; exact ⟨σ', H', I'.untried ok, q⟩
    | ret u => obtain ⟨v, σ', H', I', r, q⟩ := h1; exact ⟨v, σ', H', I'.untried ok, r, q⟩
  · obtain ⟨a, C, dx, T, σ', H', rfl, I1, xa, na, hT, q⟩ := h1
    obtain ⟨x0, mr, hq⟩ := h.2 σ' H' a C dx T (by rw [I1.len, I.len]) q xa hT
    refine leavesN I1 hst hf xa.1 (.inr ⟨T, rfl, na, hT⟩) fun T' h' nT' na' un hok => ?_
    have I2 : Inv X pins σ' (tr2 H' a C dx T') { s1 with heap := h' } := I1.call' rfl un hok I1.bare fun b z => absurd z (by simp)
    have xa2 : XAt (tr2 H' a C dx T') a C dx (.ref T') := by
      refine ⟨upd_same, fun d e => ?_⟩
      obtain ⟨fs, z⟩ := xa.2 d e
      refine ⟨fs, ?_⟩
      have n1 : d ≠ a := fun y => by subst y; rw [xa.1] at z; cases z
      unfold tr2
      rw [upd_ne n1, upd_ne (ne_of_none z nT')]
      exact z
    have eT : tr2 H' a C dx T' T' = some (.ext (TrB T')) := by unfold tr2; rw [upd_ne na', upd_same]
    have I3 := I2.hand a
    refine wpAny_handleBy_cons (codeAny_handlers_test (ld_glob (X := X.hand a) I3 hg hm ?_ hdb)) (by intro z; cases z)
    obtain ⟨ox, od, J⟩ := xa2.inst I2
    refine Ex.match_exc (K := X.K) x0 G I2.kIn J mr ht G.bx ?_
    refine codeAny_handlers_suite_as ?_
    obtain ⟨⟨ws, sl, he, _, w1⟩, _⟩ := I2.hok a _ xa2.1
    obtain ⟨⟨oT, ts, g1, g2, g3⟩, _⟩ := I2.hok T' _ eT
    refine wpAny_setFlight_none he rfl w1 g1 g2 (Array.getElem?_eq_some_iff.mp g3).1 ?_
    have I4 : Inv (X.hand a) pins σ' (tr2 H' a C dx T') { s1 with heap := h'.update T' (Obj.mapFields (·.setIfInBounds 3 .none)) } := by
      have gs : (h'.update T' (Obj.mapFields (·.setIfInBounds 3 .none))).get? T' = some (oT.mapFields (·.setIfInBounds 3 .none)) := Heap.get?_update_self _ g1 (Obj.isFreed_of_fields (Obj.data_mapFields g2 _))
      have := I3.write (h' := h'.update T' (Obj.mapFields (·.setIfInBounds 3 .none))) (t' := s1.toks) (x := T') (e := T') (o := .ext (TrB T')) (by rw [eT]; exact True.intro) (.inl rfl) (fun b u nb e => (Heap.get?_update_other _ _ (Ne.symm nb)).trans e) ⟨_, gs⟩
        (TrB.ok ⟨_, _, gs, Obj.data_mapFields g2 _, by rw [Array.getElem?_setIfInBounds, if_pos rfl, if_pos (Array.getElem?_eq_some_iff.mp g3).1]⟩)
      rw [upd_self eT] at this
      exact this
    refine store_ok (X := X.hand a) (v := .ref a) (i := i) I4 hN hi (.inl hk) rfl (fun s5 I5 => ?_) (.inr hk)
    refine wpAny_mono (hh a pins s5 _ _ _ I5 (hq T' nT' na')) (fun f s6 h6 => ?_) fun _ _ z => z.elim
    cases f with
    | next =>
      obtain ⟨σ7, H7, I7, q7⟩ := h6
      exact gone_ok (I7.unhand ok) hN hi hk fun s8 I8 => ⟨_, H7, I8, q7⟩
    | brk =>
      obtain ⟨σ7, H7, I7, q7⟩ := h6
      exact gone_ok (I7.unhand ok) hN hi hk fun s8 I8 => ⟨_, H7, I8, q7⟩
    | cont =>
      obtain ⟨σ7, H7, I7, q7⟩ := h6
      exact gone_ok (I7.unhand ok) hN hi hk fun s8 I8 => ⟨_, H7, I8, q7⟩
    | ret u =>
      obtain ⟨v, σ7, H7, I7, r7, q7⟩ := h6
      exact gone_ok (I7.unhand ok) hN hi hk fun s8 I8 => ⟨v, _, H7, I8, r7, q7⟩
end
end L2
set_option Elab.async false
set_option linter.all false
set_option maxRecDepth 100000
set_option maxHeartbeats 4000000
namespace L2
open PySem PySem.Spec PyProof.Rows
structure RoomN (k : Nat) (A : Around) : Prop where
  dp : A.depth + 3 * k + 5 < recursionLimit
  un : A.units + 16 * k + 200 < cLine
  gd : A.guards = some []
theorem Room.n {k : Nat} {A : Around} (r : Room k A) : RoomN k A := ⟨r.dp, r.un, r.gd⟩
theorem RoomN.mono {j k : Nat} {A : Around} (r : RoomN k A) (h : j ≤ k) : RoomN j A := ⟨by have := r.dp; omega, by have := r.un; omega, r.gd⟩
theorem RoomN.deeper {k : Nat} {A : Around} (r : RoomN (k + 1) A) (env : Env) : RoomN k (A.deeper env) :=
  ⟨by have := r.dp; show A.depth + 1 + 3 * k + 5 < _; omega, by have := r.un; show A.units + 3 + 16 * k + 200 < _; omega, r.gd⟩
theorem RoomN.mark {k : Nat} {A : Around} (r : RoomN k A) (v : Option Value) : RoomN k (A.mark v) := ⟨r.dp, r.un, r.gd⟩
theorem RoomN.depth {k : Nat} {A : Around} (r : RoomN k A) : A.depth < recursionLimit := by have := r.dp; omega
theorem RoomN.units {k : Nat} {A : Around} (r : RoomN k A) : A.units + 64 < cLine := by have := r.un; omega
structure FnN (P : Program) (w : World) (K : PySem.W.Frag) (mg : Str → Option Value) (base : Heap) (k : Nat) (f : Addr) (fd : FuncData) (ps : List Str) (sp : Sp) : Prop where
  len : ∀ vs H Q E, sp vs H Q E → vs.length = ps.length
  run : ∀ (A : Around) (outer : List Env) (s : Shared) (H : Hp) (args : Args) (us : List Value) (vs : List V) (Q : VK) (E : XK), RoomN k A → Env0 P w K mg base A outer s H → BindsTo s fd args (ps.zip us) → Vals vs us → sp vs H Q E →
    codeAny (model P w) A (.call (.ref f) args) (CR CX0 outer P w H s Q E) s
theorem FnN.mono {P : Program} {w : World} {K : PySem.W.Frag} {mg : Str → Option Value} {base : Heap} {j k : Nat} {f : Addr} {fd : FuncData} {ps : List Str} {sp : Sp} (F : FnN P w K mg base j f fd ps sp) (h : j ≤ k) :
    FnN P w K mg base k f fd ps sp := ⟨F.len, fun A outer s H args us vs Q E hr => F.run A outer s H args us vs Q E (hr.mono h)⟩
section
variable {X : Cx} {k : Nat} {f : Addr} {fd : FuncData} {ps : List Str} {sp : Sp} {x : Str} {p pos : Pos} {e : Expr} {es : List Expr} {t : TA}
theorem run_fnN {pins : List (Addr × Obj)} {σ : St} {H : Hp} {s : Shared} {Q : VK} {us : List Value} {vs : List V} (F : FnN X.prog X.w X.K X.mg X.base k f fd ps sp) (hr : RoomN k X.A) (hb : Binds X.K fd ps [])
    (I : Inv X pins σ H s) (r : Vals vs us) (h : sp vs H Q E0) : wpAny (model X.prog X.w) X.A (call (.ref f) us) (EP X pins σ Q) X.xe s := by
  have hl : (us ++ []).length = ps.length := by rw [List.append_nil, ← r.length]; exact F.len _ _ _ _ h
  have bb := hb s us I.kIn hl
  rw [List.append_nil] at bb
  refine wpAny_call (codeAny_mono (F.run X.A X.stack s H ⟨us, []⟩ us vs Q E0 hr I.env0 bb r h) fun r s' hq => ?_)
  cases r with
  | error e => exact hq.elim
  | ok fl =>
    cases fl with
    | ret u => exact I.after hq
    | next => exact False.elim hq
    | brk => exact False.elim hq
    | cont => exact False.elim hq
/-- a def by its promise, its name, its arguments -/
def HasN (P : Program) (w : World) (K : PySem.W.Frag) (mg : Str → Option Value) (base : Heap) (x : Str) (ps : List Str) (k : Nat) (sp : Sp) : Prop :=
  ∃ (f : Addr) (fd : FuncData), FnN P w K mg base k f fd ps sp ∧ Binds K fd ps [] ∧ PySem.W.keepIn K (.ref f) = true ∧ mg x = some (.ref f)
theorem HasN.mono {P : Program} {w : World} {K : PySem.W.Frag} {mg : Str → Option Value} {base : Heap} {x : Str} {ps : List Str} {j k : Nat} {sp : Sp} (h : HasN P w K mg base x ps j sp) (hk : j ≤ k) : HasN P w K mg base x ps k sp := by
  obtain ⟨f, fd, F, r⟩ := h
  exact ⟨f, fd, F.mono hk, r⟩
theorem pe_hasN (h : HasN X.prog X.w X.K X.mg X.base x ps k sp) (hr : RoomN k X.A) (hg : Gl X x)
    (ha : PA X (e :: es) t) (hdb : (x == ("__debug__" : Str)) = false := by decide) (he : starEach (e :: es) X.env = (false, eval e X.env) :: starEach es X.env := by rfl) (hpl : (backTo pos (starEach es X.env)).any (·.1) = false := by rfl) :
    PE X (.Call (.Name x p) (e :: es) [] pos) (tCall sp [] E0 t) := by
  obtain ⟨f, fd, F, b, kp, m⟩ := h
  intro pins s σ H Q I h
  refine wpAny_Call_Name_kw (ld_glob I hg m ?_ hdb)
  refine PySem.W.callWith_K (h₀ := X.base) I.ok.mod.kin kp (thn (ha pos pins s σ H _ I h) fun us s1 ⟨vs, H1, I1, r, q⟩ => ⟨I1.kIn, ?_⟩) he hpl
  have q' : sp (vs ++ []) H1 Q E0 := q
  rw [List.append_nil] at q'
  exact run_fnN F hr b I1 r q'
end
/-- the context of such a def's body -/
def cxN (P : Program) (w : World) (K : PySem.W.Frag) (mg : Str → Option Value) (base : Heap) (N : List Str) (qual : Str) (scope : Scope) (f : Addr) (cd : Value) (A : Around) (outer : List Env) (s : Shared) (H : Hp) : Cx :=
  { cxOf CX0 P w K mg base N qual scope f cd A outer s H E0 with calm := false, xe := fun _ _ => False }
theorem inv_startN {P : Program} {w : World} {K : PySem.W.Frag} {mg : Str → Option Value} {base : Heap} {N ps : List Str} {qual : Str} {scope : Scope} {f : Addr} {cd : Value} {A : Around} {outer : List Env} {s s1 : Shared} {H : Hp} {us : List Value} {vs : List V}
    (S : FnScope N ps scope) (e0 : Env0 P w K mg base A outer s H) (hl : vs.length = ps.length) (r : Vals vs us)
    (x : InCallC s s.heap.objs.size (bindL (envOfC qual scope s.heap.objs.size f cd).kindOf (ps.zip us) fun _ => none) (cellsFrom (s.heap.objs.size + 1) scope.names []) (bindC (envOfC qual scope s.heap.objs.size f cd).kindOf (ps.zip us) fun _ => none) s1) :
    Inv (cxN P w K mg base N qual scope f cd A outer s H) [] (start N vs) H s1 := by
  have e1 : Env0 P w K mg base { A with handled := none } outer s H := ⟨e0.frames, e0.mod, e0.bs, e0.bsz, e0.funs, e0.frf, e0.hok, e0.bare⟩
  have I := inv_start (CX := CX0) (E := E0) (f := f) (cd := cd) (qual := qual) (A := { A with handled := none }) S rfl e1 hl r x
  exact ⟨⟨I.ok.mod, I.ok.kind, I.ok.glob, I.ok.blt, I.ok.above, I.ok.inj, I.ok.has, I.ok.cab, (fun z => nomatch z), Around.frames_deeper e0.frames, I.ok.stk, I.ok.exf, I.ok.bs, I.ok.bsz, I.ok.noex, I.ok.exfs, I.ok.funs, I.ok.frf⟩, I.os, I.bare, I.base, I.loc, I.cell, I.free, I.freeC, I.pin, I.hok, I.len⟩
theorem fn_ofN {P : Program} {w : World} {K : PySem.W.Frag} {mg : Str → Option Value} {base : Heap} {k : Nat} {f : Addr} {name qual : Str} {params : Arguments} {body : List Stmt} {scope : Scope} {dV kV doc pm cdv ct oc : Value} {an od : Option Addr}
    {osl : Array (Option Value)} {N ps : List Str} {sp : Sp} (lk : K.lookup f = some ⟨oc, od, .func (PySem.W.fnOf name qual params body scope dV kV doc pm an cdv ct), osl⟩) (hcd : PySem.W.codeIn K cdv qual = true) (S : FnScope N ps scope)
    (len : ∀ vs H Q E, sp vs H Q E → vs.length = ps.length)
    (hbody : ∀ (A : Around) (outer : List Env) (s : Shared) (H : Hp) (vs : List V) (Q : VK) (E : XK), RoomN k (A.deeper (envOfC qual scope s.heap.objs.size f cdv)) → sp vs H Q E →
      ∃ t, PSs (cxN P w K mg base N qual scope f cdv A outer s H) body t ∧ t { nx := fun _ H' => Q .non H', rt := Q } (start N vs) H) :
    FnN P w K mg base (k + 1) f (PySem.W.fnOf name qual params body scope dV kV doc pm an cdv ct) ps sp := by
  refine ⟨len, fun A outer s H args us vs Q E hr e0 hb r hsp => ?_⟩
  have hl := len _ _ _ _ hsp
  have KX : K.In s.heap := e0.mod.kin.keeps fun b o e => (e0.bs b o e).1
  have lim : s.heap.NoLimit := e0.mod.nolimit.keeps fun b o e => (e0.bs b o e).1
  have hkind : ∀ y ∈ ps.zip us, scope.names.lookup y.1 = some .local ∨ (scope.names.lookup y.1 = some .cell ∧ ((cellsFrom (s.heap.objs.size + 1) scope.names []).lookup y.1).isSome = true) := fun ⟨n, v⟩ hy => by
    rcases S.par n (List.of_mem_zip hy).1 with q | q
    · exact .inl q
    · exact .inr ⟨q, PySem.W.cellsFrom_some _ _ _ (.inl q)⟩
  refine codeAny_call_function hr.depth (KX _ _ lk) rfl S.co S.gen rfl (PySem.W.codeRec_of KX hcd) (hb _ _ _ _ ?_)
  refine wpAny_newFunctionEnv_cells S.kind hkind fun env he s1 x => ?_
  subst he
  refine ⟨lim.keeps x.toInCall.keep, codeAny_func ?_⟩
  obtain ⟨t, ht, hq⟩ := hbody A outer s H vs Q E (hr.deeper _) hsp
  have I : Inv (cxN P w K mg base N qual scope f cdv A outer s H) [] (start N vs) H s1 := inv_startN S e0 hl r x
  refine wpAny_mono (ht [] s1 (start N vs) H _ I hq) (fun fl s' hs => ?_) fun e s' hs => hs.elim
  have fin : ∀ {σ' : St} {H' : Hp} {v : V} {u : Value}, Inv (cxN P w K mg base N qual scope f cdv A outer s H) [] σ' H' s' → RelV v u → Q v H' → CE outer P w H s Q u s' :=
    fun {σ' H' v u} J rv q => ⟨v, H', J.os, J.bare, J.base, J.hok, rv, q⟩
  cases fl with
  | ret u =>
    obtain ⟨v, σ', H', J, rv, q⟩ := hs
    exact fin J rv q
  | next =>
    obtain ⟨σ', H', J, q⟩ := hs
    exact fin (v := V.non) (u := Value.none) J rfl q
  | brk =>
    obtain ⟨_, _, _, q⟩ := hs
    exact False.elim q
  | cont =>
    obtain ⟨_, _, _, q⟩ := hs
    exact False.elim q
section
variable {P : Program} {w : World} {K : PySem.W.Frag} {mg : Str → Option Value} {base : Heap}
theorem Fun.okN {x qual : Str} {st : Stmt} {f : Addr} {fd : FuncData} {N ps : List Str} {k : Nat} {sp : Sp} (F : Fun K x qual st f fd) (S : FnScope N ps (defScope st)) (len : ∀ vs H Q E, sp vs H Q E → vs.length = ps.length)
    (hbody : ∀ (cdv : Value) (A : Around) (outer : List Env) (s : Shared) (H : Hp) (vs : List V) (Q : VK) (E : XK), RoomN k (A.deeper (envOfC qual (defScope st) s.heap.objs.size f cdv)) → sp vs H Q E →
      ∃ t, PSs (cxN P w K mg base N qual (defScope st) f cdv A outer s H) (defBody st) t ∧ t { nx := fun _ H' => Q .non H', rt := Q } (start N vs) H) : FnN P w K mg base (k + 1) f fd ps sp := by
  obtain ⟨oc, od, kV, doc, pm, an, cdv, ct, osl, rfl, lk, hcd⟩ := F.ex
  exact fn_ofN lk hcd S len fun A outer s H vs Q E hr hsp => hbody cdv A outer s H vs Q E hr hsp
/-- a def that may raise -/
theorem Fun.okX {x qual : Str} {st : Stmt} {f : Addr} {fd : FuncData} {N ps : List Str} {k : Nat} {sp : Sp} (F : Fun K x qual st f fd) (S : FnScope N ps (defScope st)) (len : ∀ vs H Q E, sp vs H Q E → vs.length = ps.length)
    (hbody : ∀ (cdv : Value) (A : Around) (outer : List Env) (s : Shared) (H : Hp) (vs : List V) (Q : VK) (E : XK), Room k (A.deeper (envOfC qual (defScope st) s.heap.objs.size f cdv)) → sp vs H Q E →
      ∃ t, PSs (cxOf (CXo P w) P w K mg base N qual (defScope st) f cdv A outer s H E) (defBody st) t ∧ t { nx := fun _ H' => Q .non H', rt := Q } (start N vs) H) : FnOk P w K mg base (CXo P w) (k + 1) f fd ps sp := by
  obtain ⟨oc, od, kV, doc, pm, an, cdv, ct, osl, rfl, lk, hcd⟩ := F.ex
  exact fn_of lk hcd S len fun A outer s H vs Q E hr hsp => hbody cdv A outer s H vs Q E hr hsp
end
end L2
set_option Elab.async false
set_option linter.all false
set_option maxRecDepth 100000
set_option maxHeartbeats 4000000
namespace L2
open PySem PySem.Spec PyProof.Rows
theorem vals_blX : ∀ {bs : List Bool} {its : List Value}, Vals (bs.map V.bl) its → its = bs.map Value.bool
  | [], _, .nil => rfl
  | b :: bs, _, .cons r t => by
    cases r
    rw [vals_blX t]
    rfl
def eqT (v : Value) : Bool := match v with | .bool b => b | _ => false
theorem eqT_gives {bs : List Bool} : ∀ y, y ∈ (bs.map Value.bool).toArray → MeetsSeq.EqGives y (.bool true) (eqT y) := fun y hy => by
  obtain ⟨b, _, rfl⟩ := List.mem_map.mp (List.mem_toArray.mp hy)
  intro prog w A E s Q q
  refine SeqAt.EqAt.bool_bool b true prog w E Q ?_
  cases b <;> exact q
theorem countP_bl (bs : List Bool) : (bs.map Value.bool).countP eqT = bs.countP id := by
  rw [List.countP_map]
  rfl
inductive rCountB (x : V) (vs : List V) (H : Hp) (Q : VK) : Prop
  | mk : ∀ (l : Addr) (bs : List Bool), (x = .ref l) → (vs = [.bl true]) → (H l = some (.lst (bs.map V.bl))) → (Q (.int (bs.countP id : Nat)) H) → rCountB x vs H Q
inductive rIndexB (x : V) (vs : List V) (H : Hp) (Q : VK) : Prop
  | mk : ∀ (l : Addr) (bs : List Bool) (j : Nat), (x = .ref l) → (vs = [.bl true]) → (H l = some (.lst (bs.map V.bl))) → (bs[j]? = some true) → ((∀ m : Nat, m < j → bs[m]? = some false)) → (Q (.int j) H) → rIndexB x vs H Q
section
variable {X : Cx}
theorem mt_countB : MtM X "list.count" rCountB := by
  intro pins s σ H x vs v us Q I rx rv h
  obtain ⟨l, bs, rfl, rfl, hH, q⟩ := h
  cases rx
  obtain ⟨u, rfl, ru⟩ := rv.one
  cases ru
  obtain ⟨z, its, m, r, hl, e⟩ := I.lstM hH
  obtain rfl := vals_blX r
  refine call_meets F.slot_list_count ⟨_, e, rfl⟩ F.entry_list_count (F.args_list_count_2 _ _) (MeetsSeq.list_count l (bs.map Value.bool).toArray m (.bool true) eqT eqT_gives) ⟨e, ?_⟩
  refine ⟨.int (bs.countP id : Nat), H, I.tok _, ⟨s.toks, ?_⟩, q⟩
  rw [List.toList_toArray, countP_bl]
theorem mt_indexB : MtM X "list.index" rIndexB := by
  intro pins s σ H x vs v us Q I rx rv h
  obtain ⟨l, bs, j, rfl, rfl, hH, hj, hno, q⟩ := h
  cases rx
  obtain ⟨u, rfl, ru⟩ := rv.one
  cases ru
  obtain ⟨z, its, m, r, hl, e⟩ := I.lstM hH
  obtain rfl := vals_blX r
  have hjl : j < bs.length := (List.getElem?_eq_some_iff.mp hj).1
  have h1 : j < (bs.map Value.bool).toArray.size := by rw [List.size_toArray, List.length_map]; exact hjl
  have hs : (j : Int) < 2 ^ 63 - 1 := by
    have := line63
    rw [List.length_map] at z
    omega
  have at_ : ∀ (i : Nat) (hi : i < (bs.map Value.bool).toArray.size) (b : Bool), bs[i]? = some b → eqT (bs.map Value.bool).toArray[i] = b := fun i hi b e => by
    obtain ⟨h2, e2⟩ := List.getElem?_eq_some_iff.mp e
    simp [eqT, e2]
  refine call_meets F.slot_list_index ⟨_, e, rfl⟩ F.entry_list_index (F.args_list_index_2 _ _) (MeetsSeq.list_index l (bs.map Value.bool).toArray m (.bool true) eqT eqT_gives j h1 hs (at_ j h1 true hj) fun i hi lt => at_ i hi false (hno i lt)) ⟨e, ?_⟩
  exact ⟨.int j, H, I.tok _, ⟨_, rfl⟩, q⟩
end
end L2
set_option Elab.async false
set_option linter.all false
set_option maxRecDepth 100000
set_option maxHeartbeats 4000000
namespace L2
open PySem PySem.W PyProof.Rows
section
variable {K : Frag} {nm q : Str} {C N : Addr} {bs bm : List Value} {hdct : Bool} {sn : List Str} {sub : List Value} {ab : Bool} {col : Option Bool} {dd : Option Addr} {k0 k1 k2 k3 k5 : Option Value} {i : String}
theorem mro_of (l : K.lookup C = some (excClassObj nm q C N bs bm hdct sn sub ab col dd k0 k1 k2 k3 k5 i)) (b : Value) : mroIn K C b = some ((Value.ref C :: bm).contains b) := by
  unfold mroIn clsIn
  rw [l]
  rfl
theorem xk_of (l : K.lookup C = some (excClassObj nm q C N bs bm true sn sub ab col dd k0 k1 k2 k3 k5 i)) (hp : ∀ self, refuseLoop self "__setattr__" (.ref C :: bm) = pure ()) (hb : bm.contains (.type "BaseException") = true) (ho : bm.contains (.type "object") = true)
    (ty : typeIn K (.ref C) = some (.type "type")) (sa : findIn K (.ref C) "__setattr__" = some (some (.builtin "object.__setattr__"))) (ga : findIn K (.ref C) "__getattribute__" = some (some (.builtin "BaseException.__getattribute__"))) (gh : findIn K (.ref C) "__getattr__" = some none)
    (cl : findIn K (.ref C) "__class__" = some (some (.builtin "object.__class__"))) (cg : specialIn K (.builtin "object.__class__") "__get__" = some (some (.builtin "getset_descriptor.__get__"))) (ct : takesIn K (.builtin "object.__class__") = some true) : Ex.XK0 K C := by
  refine ⟨?_, by rw [mro_of l, List.contains_cons, hb, Bool.or_true], by rw [mro_of l, List.contains_cons, ho, Bool.or_true], ty, sa, ga, gh, cl, cg, ct⟩
  refine ⟨_, by unfold clsIn; rw [l], rfl, rfl, hp⟩
theorem pass1 (C : Addr) (self : Value) : refuseLoop self "__setattr__" [.ref C, .type "ValueError", .type "Exception", .type "BaseException", .type "object"] = pure () := by
  rw [refuseLoop_ref]
  exact PySem.F.store_ValueError.passes self
theorem pass2 (C D : Addr) (self : Value) : refuseLoop self "__setattr__" [.ref C, .ref D, .type "ValueError", .type "Exception", .type "BaseException", .type "object"] = pure () := by
  rw [refuseLoop_ref]
  exact pass1 D self
theorem up2 (D : Addr) : Ex.Up "ValueError" [.ref D, .type "ValueError", .type "Exception", .type "BaseException", .type "object"] := by
  refine ⟨?_, ?_, ?_⟩ <;> (rw [List.contains_cons]; first | rfl | decide | simp)
/-- isinstance against an own class, a built-in one -/
theorem kit_of {D : Addr} {b : Bool} (c : isClsIn K D = true) (t : typeIn K (.ref D) = some (.type "type")) (s : subIn K (.ref C) (.ref D) = some b) (h : C = D → b = true) : kitOne K (.ref C) (.ref D) = some b := by
  unfold kitOne
  by_cases e : C = D
  · rw [if_pos (by rw [e]; exact beq_self_eq_true _), h e]
  · rw [if_neg (fun z => e (Value.ref.inj (beq_iff_eq.mp z)))]
    unfold kitCls
    have c' : (clsIn K D).isSome = true := c
    simp only [c', t, Bool.true_and, beq_self_eq_true, if_true]
    exact s
theorem kit_ve {b : Bool} (s : subIn K (.ref C) (.type "ValueError") = some b) : kitOne K (.ref C) (.type "ValueError") = some b := by
  unfold kitOne
  rw [if_neg (fun z => by cases beq_iff_eq.mp z)]
  unfold kitCls
  have k : kitMeta "ValueError" = true := by decide +kernel
  simp only [k, if_true]
  exact s
end
end L2
set_option linter.all false
set_option maxHeartbeats 4000000
namespace L2
open PySem PySem.Spec PyProof.Rows
section
variable {X : Cx} {E : XK}
end
end L2
set_option Elab.async false
set_option linter.all false
set_option maxRecDepth 100000
set_option maxHeartbeats 4000000
namespace L2
open PySem PyProof.Rows
/-- DrawError.__init__ -/
inductive spInitD (K : PySem.W.Frag) (vs : List V) (H : Hp) (Q : VK) (Y : XK) : Prop
  | mk : ∀ (a C : Addr) (x : Str), (vs = [.ref a, .str x]) → (H a = some (.ext (XO a C none .none))) → (Ex.XK0 K C) → (PySem.W.mroIn K C (.type "ValueError") = some true) → Q .non H → spInitD K vs H Q Y
theorem contB (D : Addr) : ([.ref D, .type "ValueError", .type "Exception", .type "BaseException", .type "object"] : List Value).contains (.type "BaseException") = true ∧ ([.ref D, .type "ValueError", .type "Exception", .type "BaseException", .type "object"] : List Value).contains (.type "object") = true := by
  constructor <;> (rw [List.contains_cons]; first | rfl | simp)
/-- what all of them want -/
structure XgAt (K : PySem.W.Frag) : Prop where
  vf : PySem.W.findCls K (.type "ValueError") (.type "type") "__init__" = some (.val (.builtin "ValueError.__init__"))
  zv : PySem.W.nsIn K mainGlobals "ValueError" = some none
/-- DrawError, for an except -/
def DxAt (K : PySem.W.Frag) : Prop := ∃ D : Addr, PySem.W.nsIn K mainGlobals "DrawError" = some (some (.ref D)) ∧ Ex.XK0 K D ∧ PySem.W.instIn K (.ref D) (.type "tuple") = some false
section
variable {K : PySem.W.Frag} {C N D F : Addr} {nm qn n : Str} {bs sub : List Value} {sn : List Str} {ab : Bool} {col : Option Bool} {dd : Option Addr} {x0 x1 x2 x3 x5 : Option Value}
theorem dx_mk (a : PySem.W.nsIn K mainGlobals "DrawError" = some (some (.ref C))) (l : K.lookup C = some (excClassObj nm qn C N bs [.type "ValueError", .type "Exception", .type "BaseException", .type "object"] true sn sub ab col dd x0 x1 x2 x3 x5 "ValueError.__new__"))
    (t : PySem.W.typeIn K (.ref C) = some (.type "type")) (sa : PySem.W.findIn K (.ref C) "__setattr__" = some (some (.builtin "object.__setattr__"))) (ga : PySem.W.findIn K (.ref C) "__getattribute__" = some (some (.builtin "BaseException.__getattribute__")))
    (gh : PySem.W.findIn K (.ref C) "__getattr__" = some none) (cl : PySem.W.findIn K (.ref C) "__class__" = some (some (.builtin "object.__class__"))) (cg : PySem.W.specialIn K (.builtin "object.__class__") "__get__" = some (some (.builtin "getset_descriptor.__get__")))
    (ct : PySem.W.takesIn K (.builtin "object.__class__") = some true) (it : PySem.W.instIn K (.ref C) (.type "tuple") = some false) : DxAt K :=
  ⟨C, a, xk_of l (pass1 _) rfl rfl t sa ga gh cl cg ct, it⟩
/-- a class without an own __init__ under DrawError, to be raised -/
def WxAt (K : PySem.W.Frag) (n : Str) (st : Stmt) : Prop := ∃ (C D F : Addr) (fd : FuncData), PySem.W.nsIn K mainGlobals n = some (some (.ref C)) ∧ PySem.W.nsIn K mainGlobals "DrawError" = some (some (.ref D)) ∧ XM K C F ∧ Fun K "__init__" "DrawError.__init__" st F fd ∧
  PySem.W.mroIn K C (.type "ValueError") = some true ∧ PySem.W.mroIn K C (.ref D) = some true
theorem wx_mk {st : Stmt} {oc : Value} {od an : Option Addr} {osl : Array (Option Value)} {kV doc pm cdv ctv : Value} (a : PySem.W.nsIn K mainGlobals n = some (some (.ref C))) (d : PySem.W.nsIn K mainGlobals "DrawError" = some (some (.ref D))) (l : K.lookup C = some (excClassObj nm qn C N bs [.ref D, .type "ValueError", .type "Exception", .type "BaseException", .type "object"] true sn sub ab col dd x0 x1 x2 x3 x5 "ValueError.__new__"))
    (t : PySem.W.typeIn K (.ref C) = some (.type "type")) (sa : PySem.W.findIn K (.ref C) "__setattr__" = some (some (.builtin "object.__setattr__"))) (ga : PySem.W.findIn K (.ref C) "__getattribute__" = some (some (.builtin "BaseException.__getattribute__")))
    (gh : PySem.W.findIn K (.ref C) "__getattr__" = some none) (cl : PySem.W.findIn K (.ref C) "__class__" = some (some (.builtin "object.__class__"))) (cg : PySem.W.specialIn K (.builtin "object.__class__") "__get__" = some (some (.builtin "getset_descriptor.__get__")))
    (ct : PySem.W.takesIn K (.builtin "object.__class__") = some true) (i : PySem.W.findIn K (.ref C) "__init__" = some (some (.ref F))) (f : PySem.W.typeIn K (.ref F) = some (.type "function")) (k : PySem.W.keepIn K (.ref C) = true)
    (fl : K.lookup F = some ⟨oc, od, .func (PySem.W.fnOf "__init__" "DrawError.__init__" (defArgs st) (defBody st) (defScope st) .none kV doc pm an cdv ctv), osl⟩) (fc : PySem.W.codeIn K cdv "DrawError.__init__" = true) (fk : PySem.W.keepIn K (.ref F) = true) : WxAt K n st := by
  refine ⟨C, D, F, _, a, d, ⟨xk_of l (pass2 _ _) (contB _).1 (contB _).2 t sa ga gh cl cg ct, ⟨_, _, _, _, _, _, _, _, _, _, _, _, _, _, _, _, l, up2 _⟩, i, f, k⟩, fun_mk fl fc fk, ?_, ?_⟩
  · rw [mro_of l, List.contains_cons, (up2 _).b, Bool.or_true]
  · rw [mro_of l]; simp
/-- isinstance of one of class n against the class c -/
def KdAt (K : PySem.W.Frag) (n c : Str) (b : Bool) : Prop := ∃ C G : Addr, PySem.W.nsIn K mainGlobals n = some (some (.ref C)) ∧ PySem.W.nsIn K mainGlobals c = some (some (.ref G)) ∧ PySem.W.kitOne K (.ref C) (.ref G) = some b
theorem kd_mk {c : Str} {G : Addr} {b : Bool} (a : PySem.W.nsIn K mainGlobals n = some (some (.ref C))) (d : PySem.W.nsIn K mainGlobals c = some (some (.ref G))) (i : PySem.W.isClsIn K G = true) (t : PySem.W.typeIn K (.ref G) = some (.type "type")) (s : PySem.W.subIn K (.ref C) (.ref G) = some b) (ss : PySem.W.subIn K (.ref C) (.ref C) = some true) : KdAt K n c b :=
  ⟨C, G, a, d, kit_of i t s fun e => by subst e; rw [ss] at s; exact (Option.some.inj s).symm⟩
def KvAt (K : PySem.W.Frag) (n : Str) : Prop := ∃ C : Addr, PySem.W.nsIn K mainGlobals n = some (some (.ref C)) ∧ PySem.W.kitOne K (.ref C) (.type "ValueError") = some true
theorem kv_mk' (a : PySem.W.nsIn K mainGlobals n = some (some (.ref C))) (s : PySem.W.subIn K (.ref C) (.type "ValueError") = some true) : KvAt K n := ⟨C, a, kit_ve s⟩
end
section
variable {P : Program} {w : World} {K : PySem.W.Frag} {mg : Str → Option Value} {base : Heap}
/-- a def that runs while an exception is handled -/
theorem hsN_of {n : Str} {st : Stmt} {N ps : List Str} {k : Nat} {sp : Sp} (X : ∃ h : Heap, K.In h ∧ h.Ns mainGlobals mg) (d : DfAt K n st) (S : FnScope N ps (defScope st))
    (hbody : ∀ (f : Addr) (cdv : Value) (A : Around) (outer : List Env) (s : Shared) (H : Hp) (vs : List V) (Q : VK) (E : XK), N.Nodup → RoomN k (A.deeper (envOfC n (defScope st) s.heap.objs.size f cdv)) → sp vs H Q E →
      ∃ t, PSs (cxN P w K mg base N n (defScope st) f cdv A outer s H) (defBody st) t ∧ t { nx := fun _ H' => Q .non H', rt := Q } (start N vs) H)
    (len : ∀ vs H Q E, sp vs H Q E → vs.length = ps.length)
    (b : ∀ (kV doc pm : Value) (an : Option Addr) (cdv ct : Value) (us : List Value), us.length = ps.length → bindArgs (PySem.W.fnOf n n (defArgs st) (defBody st) (defScope st) .none kV doc pm an cdv ct) ⟨us, []⟩ = pure (ps.zip us)) : HasN P w K mg base n ps (k + 1) sp := by
  obtain ⟨h, x, g⟩ := X
  obtain ⟨f, fd, a, F⟩ := d
  exact ⟨f, fd, F.okN S len fun cdv A outer s H vs Q E hr hs => hbody f cdv A outer s H vs Q E S.nd hr hs, F.binds b, F.kp, PySem.W.mg_of x g a⟩
/-- a def that may raise, by its promise, its name, its arguments -/
def HasX (P : Program) (w : World) (K : PySem.W.Frag) (mg : Str → Option Value) (base : Heap) (x : Str) (ps : List Str) (k : Nat) (sp : Sp) : Prop :=
  ∃ (f : Addr) (fd : FuncData), FnOk P w K mg base (CXo P w) k f fd ps sp ∧ Binds K fd ps [] ∧ PySem.W.keepIn K (.ref f) = true ∧ mg x = some (.ref f)
theorem hsX_of {n : Str} {st : Stmt} {N ps : List Str} {k : Nat} {sp : Sp} (X : ∃ h : Heap, K.In h ∧ h.Ns mainGlobals mg) (d : DfAt K n st) (S : FnScope N ps (defScope st))
    (hbody : ∀ (f : Addr) (cdv : Value) (A : Around) (outer : List Env) (s : Shared) (H : Hp) (vs : List V) (Q : VK) (E : XK), N.Nodup → Room k (A.deeper (envOfC n (defScope st) s.heap.objs.size f cdv)) → sp vs H Q E →
      ∃ t, PSs (cxOf (CXo P w) P w K mg base N n (defScope st) f cdv A outer s H E) (defBody st) t ∧ t { nx := fun _ H' => Q .non H', rt := Q } (start N vs) H)
    (len : ∀ vs H Q E, sp vs H Q E → vs.length = ps.length)
    (b : ∀ (kV doc pm : Value) (an : Option Addr) (cdv ct : Value) (us : List Value), us.length = ps.length → bindArgs (PySem.W.fnOf n n (defArgs st) (defBody st) (defScope st) .none kV doc pm an cdv ct) ⟨us, []⟩ = pure (ps.zip us)) : HasX P w K mg base n ps (k + 1) sp := by
  obtain ⟨h, x, g⟩ := X
  obtain ⟨f, fd, a, F⟩ := d
  exact ⟨f, fd, F.okX S len fun cdv A outer s H vs Q E hr hs => hbody f cdv A outer s H vs Q E S.nd hr hs, F.binds b, F.kp, PySem.W.mg_of x g a⟩
theorem kd_of {n c : Str} {b : Bool} (X : ∃ h : Heap, K.In h ∧ h.Ns mainGlobals mg) (d : KdAt K n c b) : ∃ C G : Addr, mg n = some (.ref C) ∧ mg c = some (.ref G) ∧ PySem.W.kitOne K (.ref C) (.ref G) = some b := by
  obtain ⟨h, x, g⟩ := X
  obtain ⟨C, G, a1, a2, k⟩ := d
  exact ⟨C, G, PySem.W.mg_of x g a1, PySem.W.mg_of x g a2, k⟩
theorem kv_of {n : Str} (X : ∃ h : Heap, K.In h ∧ h.Ns mainGlobals mg) (d : KvAt K n) : ∃ C : Addr, mg n = some (.ref C) ∧ PySem.W.kitOne K (.ref C) (.type "ValueError") = some true := by
  obtain ⟨h, x, g⟩ := X
  obtain ⟨C, a1, k⟩ := d
  exact ⟨C, PySem.W.mg_of x g a1, k⟩
theorem dx_of (X : ∃ h : Heap, K.In h ∧ h.Ns mainGlobals mg) (d : DxAt K) : ∃ D : Addr, mg "DrawError" = some (.ref D) ∧ Ex.XK0 K D ∧ PySem.W.instIn K (.ref D) (.type "tuple") = some false := by
  obtain ⟨h, x, g⟩ := X
  obtain ⟨D, a, b⟩ := d
  exact ⟨D, PySem.W.mg_of x g a, b⟩
/-- a class that is raised with words: made by DrawError's __init__ -/
theorem wx_of {n : Str} {st : Stmt} (X : ∃ h : Heap, K.In h ∧ h.Ns mainGlobals mg) (d : WxAt K n st) (xg : XgAt K) (S : FnScope ["self", "words"] ["self", "words"] (defScope st))
    (ok : ∀ (f : Addr) (fd : FuncData), Fun K "__init__" "DrawError.__init__" st f fd → mg "ValueError" = none → FnOk P w K mg base CX0 1 f fd ["self", "words"] (spInitD K))
    (b : ∀ (f : Addr) (fd : FuncData), Fun K "__init__" "DrawError.__init__" st f fd → Binds K fd ["self", "words"] []) :
    ∃ (C D F : Addr) (fd : FuncData), mg n = some (.ref C) ∧ mg "DrawError" = some (.ref D) ∧ XM K C F ∧ FnOk P w K mg base CX0 1 F fd ["self", "words"] (spInitD K) ∧ Binds K fd ["self", "words"] [] ∧ PySem.W.mroIn K C (.type "ValueError") = some true ∧ PySem.W.mroIn K C (.ref D) = some true := by
  obtain ⟨h, x, g⟩ := X
  obtain ⟨C, D, F, fd, a1, a2, m, fn, v1, v2⟩ := d
  exact ⟨C, D, F, fd, PySem.W.mg_of x g a1, PySem.W.mg_of x g a2, m, ok F fd fn (PySem.W.mg_none_of x g xg.zv), b F fd fn, v1, v2⟩
end
end L2
set_option linter.all false
set_option Elab.async false
namespace Pic
open PySem Txs
/-- the lines, from the last one up, without what stands behind the last line feed -/
def rows (l : List Nat) : List (List Nat) := (spl 10 l).dropLast.reverse
def chr (l : List Nat) (x y : Nat) : Option Nat := (rows l)[y]?.bind (·[x]?)
theorem rows_pic {ps : Pl} (o : Ok ps) (W h : Nat) : rows (pic ps W h) = (lines ps W h).reverse := by
  unfold rows
  rw [pic_spl o, List.dropLast_concat]
theorem chr_pic {ps : Pl} (o : Ok ps) {W h x y : Nat} (hx : x < W + 1) (hy : y < h + 1) : chr (pic ps W h) x y = some (cell ps x y) := by
  unfold chr
  rw [rows_pic o, lines_rev hy]
  exact line_at hx
theorem chr_some {ps : Pl} (o : Ok ps) {W h x y c : Nat} (e : chr (pic ps W h) x y = some c) : x < W + 1 ∧ y < h + 1 ∧ c = cell ps x y := by
  unfold chr at e
  rw [rows_pic o] at e
  by_cases hy : y < h + 1
  · rw [lines_rev hy] at e
    have e : (line ps W y)[x]? = some c := e
    by_cases hx : x < W + 1
    · rw [line_at hx] at e
      exact ⟨hx, hy, (Option.some.inj e).symm⟩
    · rw [List.getElem?_eq_none (by rw [line_len]; omega)] at e
      cases e
  · rw [List.getElem?_eq_none (by rw [List.length_reverse, lines_len]; omega)] at e
    cases e
/-- signs and a place of each -/
structure Rd3 (l : List Nat) (es : List (Nat × Nat × Nat)) : Prop where
  nd : (es.map (·.1)).Nodup
  ok : ∀ e ∈ es, e.1 ∈ SG ∧ chr l e.2.1 e.2.2 = some e.1
  all : ∀ x y c, chr l x y = some c → c ∈ SG → c ∈ es.map (·.1)
theorem Rd3.few {l : List Nat} {es : List (Nat × Nat × Nat)} (r : Rd3 l es) : es.length ≤ 40 := by
  have := List.Nodup.length_le_of_subset r.nd (l₂ := SG) fun c hc => by
    obtain ⟨e, he, rfl⟩ := List.mem_map.mp hc
    exact (r.ok e he).1
  rw [List.length_map] at this
  exact this
/-- of a picture: each sign at its place -/
theorem Rd3.pic {ps : Pl} (o : Ok ps) {W h : Nat} (b : Bx ps W h) {es : List (Nat × Nat × Nat)} (r : Rd3 (pic ps W h) es) : es.length = ps.length ∧ (∀ e ∈ es, ∃ i, e.1 = SG.getD i 0 ∧ ps[i]? = some (e.2.1, e.2.2)) ∧ ∀ i, i < ps.length → SG.getD i 0 ∈ es.map (·.1) := by
  have few := o.few
  have h1 : ∀ e ∈ es, ∃ i, e.1 = SG.getD i 0 ∧ ps[i]? = some (e.2.1, e.2.2) := fun e he => by
    obtain ⟨s, q⟩ := r.ok e he
    obtain ⟨hx, hy, q⟩ := chr_some o q
    rcases cell_cases ps o.nd e.2.1 e.2.2 with ⟨n, z⟩ | ⟨i, hi, z⟩
    · rw [q, z] at s
      exact absurd s (by decide)
    · exact ⟨i, q.trans z, hi⟩
  have h2 : ∀ i, i < ps.length → SG.getD i 0 ∈ es.map (·.1) := fun i hi => by
    have e : ps[i]? = some (ps[i].1, ps[i].2) := List.getElem?_eq_getElem hi
    have m := List.getElem_mem hi
    have := chr_pic o (W := W) (h := h) (x := ps[i].1) (y := ps[i].2) (by have := b.xl _ m; omega) (by have := b.yl _ m; omega)
    rw [cell_at o.nd e] at this
    exact r.all _ _ _ this (sg_mem (by omega))
  refine ⟨?_, h1, h2⟩
  have p : (es.map (·.1)).Perm ((List.range ps.length).map fun i => SG.getD i 0) := by
    refine (List.perm_ext_iff_of_nodup r.nd ?_).mpr fun c => ⟨fun hc => ?_, fun hc => ?_⟩
    · refine List.pairwise_map.mpr (List.nodup_range.imp_of_mem fun {i j} hi hj ne e => ne (sg_inj ?_ ?_ e))
      · have := List.mem_range.mp hi; omega
      · have := List.mem_range.mp hj; omega
    · obtain ⟨e, he, rfl⟩ := List.mem_map.mp hc
      obtain ⟨i, e1, e2⟩ := h1 e he
      exact List.mem_map.mpr ⟨i, List.mem_range.mpr (List.getElem?_eq_some_iff.mp e2).1, e1.symm⟩
    · obtain ⟨i, hi, rfl⟩ := List.mem_map.mp hc
      exact h2 i (List.mem_range.mp hi)
  have := p.length_eq
  rw [List.length_map, List.length_map, List.length_range] at this
  exact this
/-- the places told: ps[i] is where the i-th sign stands -/
structure Pk (es : List (Nat × Nat × Nat)) (ps : Pl) : Prop where
  len : ps.length = es.length
  at' : ∀ i x y, ps[i]? = some (x, y) → (SG.getD i 0, x, y) ∈ es
/-- where what is read is a picture of these, it was of these -/
theorem Pk.same {ps ps' : Pl} {W' h' : Nat} (o' : Ok ps') (b' : Bx ps' W' h') {es : List (Nat × Nat × Nat)} (r : Rd3 (pic ps' W' h') es) (k : Pk es ps) : ps = ps' := by
  obtain ⟨l, h1, _⟩ := r.pic o' b'
  have few := o'.few
  refine List.ext_getElem? fun i => ?_
  by_cases hi : i < ps.length
  · have e : ps[i]? = some (ps[i].1, ps[i].2) := List.getElem?_eq_getElem hi
    obtain ⟨j, e1, e2⟩ := h1 _ (k.at' i _ _ e)
    have hj := (List.getElem?_eq_some_iff.mp e2).1
    have hk := k.len
    have ij : i = j := sg_inj (by omega) (by omega) e1
    subst ij
    rw [e, e2]
  · have := k.len
    rw [List.getElem?_eq_none (by omega), List.getElem?_eq_none (by omega)]
/-- places so told are places of a picture, where they lie within the bounds -/
theorem Pk.ok {l : List Nat} {es : List (Nat × Nat × Nat)} (r : Rd3 l es) {ps : Pl} (k : Pk es ps) (lo : 3 ≤ es.length) (hx : ∀ e ∈ es, e.2.1 ≤ 76 ∧ e.2.2 ≤ 40) : Ok ps := by
  have few := r.few
  have len := k.len
  have inb : ∀ p ∈ ps, p.1 ≤ 76 ∧ p.2 ≤ 40 := fun p hp => by
    obtain ⟨i, hi, e⟩ := List.getElem_of_mem hp
    exact hx _ (k.at' i p.1 p.2 (by rw [List.getElem?_eq_getElem hi, e]))
  refine ⟨?_, by omega, by omega, fun p hp => (inb p hp).1, fun p hp => (inb p hp).2⟩
  refine List.pairwise_iff_getElem.mpr fun i j hi hj ij e => ?_
  have e0 : ps[i]? = some (ps[i].1, ps[i].2) := List.getElem?_eq_getElem hi
  have e1 : ps[j]? = some (ps[j].1, ps[j].2) := List.getElem?_eq_getElem hj
  have a := (r.ok _ (k.at' i _ _ e0)).2
  have b := (r.ok _ (k.at' j _ _ e1)).2
  rw [e] at a
  have c := a.symm.trans b
  have := sg_inj (i := i) (j := j) (by omega) (by omega) (Option.some.inj c)
  omega
end Pic
set_option linter.all false
set_option Elab.async false
namespace Txs
open PySem L2 PyProof.Rows Builtin Builtin.Str
section
variable {X : Cx}
inductive rMulS (x : V) (y : V) (H : Hp) (Q : VK) : Prop
  | mk : ∀ c k, (x = .str (tx [c])) → (y = .int k) → (0 ≤ k) → (k ≤ 100000) → (Q (.str (tx (List.replicate k.toNat c))) H) → rMulS x y H Q
theorem rep_fold (c : Nat) : ∀ (n : Nat) (a : Array Nat), (List.replicate n #[c]).foldl (· ++ ·) a = a ++ (List.replicate n c).toArray
  | 0, a => by simp
  | n + 1, a => by
    rw [List.replicate_succ, List.foldl_cons, rep_fold c n, List.replicate_succ]
    apply Array.toList_inj.mp
    simp
theorem op_mulS : OpR X (binaryOp .Mult) rMulS := by
  intro pins s σ H x y v u Q I rx ry h
  obtain ⟨c, k, rfl, rfl, k0, k1, q⟩ := h
  obtain ⟨t, rfl⟩ := rx
  obtain ⟨t', rfl⟩ := ry
  have l1 : (tx [c]).length = 1 := rfl
  refine PySem.P.mul_str (by rw [decide_eq_false (by omega), decide_eq_false (by omega)]; rfl) (fun _ _ z => ?_) (fun _ _ => ?_) ?_
  · rw [l1] at z
    have := Int.le_ediv_of_mul_le (a := 1) (b := 2 ^ 63 - 1) (c := k) (by omega) (by omega)
    omega
  · rw [l1]
    unfold tooLong
    exact decide_eq_false (by have := sizeLine_eq; omega)
  · by_cases h0 : k < 1
    · rw [if_pos h0]
      obtain rfl : k = 0 := by omega
      exact ⟨by decide, ⟨.str (tx []), H, I.tok _, ⟨_, rfl⟩, q⟩⟩
    rw [if_neg h0]
    by_cases h1 : k = 1
    · subst h1
      exact ⟨.str (tx [c]), H, I, ⟨_, rfl⟩, q⟩
    · rw [if_neg (by rw [l1]; simp; exact h1)]
      have e : (⟨(List.replicate k.toNat (tx [c]).cps).foldl (· ++ ·) #[]⟩ : Str) = tx (List.replicate k.toNat c) := by
        rw [show (tx [c]).cps = #[c] from rfl, rep_fold]
        simp [tx]
      rw [e]
      refine ⟨?_, ⟨.str (tx (List.replicate k.toNat c)), H, I.tok _, ⟨_, rfl⟩, q⟩⟩
      rw [tx_len, List.length_replicate]
      have := sizeLine_eq
      omega
end
end Txs
set_option linter.all false
set_option Elab.async false
namespace Txs
open PySem PySem.Builtin PySem.Builtin.Str PySem.StrLaws
/-- lines with a c between -/
def jn (c : Nat) : List (List Nat) → List Nat
  | [] => []
  | [a] => a
  | a :: b :: r => a ++ c :: jn c (b :: r)
theorem join_c (c : Nat) : ∀ zs : List (List Nat), Txt.join (tx [c]) (zs.map tx) = tx (jn c zs) := by
  have h : ∀ zs : List (List Nat), Str.join (tx [c]) (zs.map tx) = tx (jn c zs) := by
    intro zs
    induction zs with
    | nil => rfl
    | cons a r ih =>
      cases r with
      | nil => simp [Str.join, jn]
      | cons b r =>
        show tx a ++ tx [c] ++ Str.join (tx [c]) ((b :: r).map tx) = _
        rw [ih, tx_app, tx_app]
        simp [jn]
  intro zs
  show glued _ _ = _
  rw [glued_eq_join, h]
/-- so many signs, with one behind each line -/
def tot (ls : List (List Nat)) : Nat := (ls.map fun l => l.length + 1).sum
theorem tot_cons (a : List Nat) (ls : List (List Nat)) : tot (a :: ls) = a.length + 1 + tot ls := rfl
theorem tot_app (a b : List (List Nat)) : tot (a ++ b) = tot a + tot b := by unfold tot; rw [List.map_append, List.sum_append]
theorem tot_sum (ls : List (List Nat)) : (ls.map List.length).sum + ls.length = tot ls := by
  induction ls with
  | nil => rfl
  | cons a r ih =>
    rw [tot_cons, List.map_cons, List.sum_cons, List.length_cons]
    omega
theorem tot_set : ∀ (ls : List (List Nat)) (i : Nat) (a b : List Nat), ls[i]? = some a → tot (ls.set i b) + a.length = tot ls + b.length
  | [], i, a, b, h => nomatch h
  | x :: r, 0, a, b, h => by
    cases h
    rw [List.set_cons_zero, tot_cons, tot_cons]
    omega
  | x :: r, i + 1, a, b, h => by
    have := tot_set r i a b h
    rw [List.set_cons_succ, tot_cons, tot_cons]
    omega
theorem tot_at {ls : List (List Nat)} {a : List Nat} (h : a ∈ ls) : a.length + 1 ≤ tot ls := by
  induction ls with
  | nil => cases h
  | cons x r ih =>
    rw [tot_cons]
    rcases List.mem_cons.mp h with rfl | h
    · omega
    · have := ih h
      omega
theorem tot_sub : ∀ {a b : List (List Nat)}, a.Sublist b → tot a ≤ tot b := by
  intro a b h
  induction h with
  | slnil => exact Nat.le_refl _
  | cons x _ ih => rw [tot_cons]; omega
  | cons_cons x _ ih => rw [tot_cons, tot_cons]; omega
theorem tot_len (ls : List (List Nat)) : ls.length ≤ tot ls := by have := tot_sum ls; omega
theorem jn_len (c : Nat) : ∀ ls, (jn c ls).length ≤ tot ls - 1
  | [] => Nat.le_refl _
  | [a] => by simp [jn, tot]
  | a :: b :: r => by
    have := jn_len c (b :: r)
    rw [tot_cons]
    have := tot_cons b r
    simp only [jn, List.length_append, List.length_cons] at *
    omega
theorem jn_mem (c : Nat) : ∀ (ls : List (List Nat)) (x : Nat), x ∈ jn c ls → x = c ∨ ∃ l ∈ ls, x ∈ l
  | [], x, h => nomatch h
  | [a], x, h => .inr ⟨a, List.mem_singleton_self a, h⟩
  | a :: b :: r, x, h => by
    rcases List.mem_append.mp h with h | h
    · exact .inr ⟨a, List.mem_cons_self, h⟩
    · rcases List.mem_cons.mp h with h | h
      · exact .inl h
      · rcases jn_mem c (b :: r) x h with h | ⟨l, hl, h⟩
        · exact .inl h
        · exact .inr ⟨l, List.mem_cons_of_mem _ hl, h⟩
theorem spl_tot (c : Nat) : ∀ l, tot (spl c l) = l.length + 1
  | [] => rfl
  | a :: r => by
    have := spl_tot c r
    unfold spl
    split
    · rw [tot_cons, this, List.length_cons]
      simp
      omega
    · obtain ⟨p, q, e⟩ := spl_ne c r
      rw [e] at this ⊢
      rw [tot_cons] at this
      show tot ((a :: p) :: q) = _
      rw [tot_cons, List.length_cons, List.length_cons]
      omega
theorem spl_sub (c : Nat) : ∀ (l p : List Nat), p ∈ spl c l → ∀ x ∈ p, x ∈ l
  | [], p, h, x, hx => by
    rw [List.mem_singleton.mp h] at hx
    cases hx
  | a :: r, p, h, x, hx => by
    unfold spl at h
    split at h
    · rcases List.mem_cons.mp h with rfl | h
      · cases hx
      · exact List.mem_cons_of_mem _ (spl_sub c r p h x hx)
    · obtain ⟨p', q, e⟩ := spl_ne c r
      have ih := spl_sub c r
      rw [e] at h ih
      rcases List.mem_cons.mp h with rfl | h
      · rcases List.mem_cons.mp hx with rfl | hx
        · exact List.mem_cons_self
        · exact List.mem_cons_of_mem _ (ih p' List.mem_cons_self x hx)
      · exact List.mem_cons_of_mem _ (ih p (List.mem_cons_of_mem _ h) x hx)
theorem spl_last (c : Nat) : ∀ m, spl c (m ++ [c]) = spl c m ++ [[]]
  | [] => by
    show (if c = c then [] :: spl c [] else _) = _
    rw [if_pos rfl]
    rfl
  | a :: r => by
    have ih := spl_last c r
    show (if a = c then [] :: spl c (r ++ [c]) else match spl c (r ++ [c]) with | [] => [[a]] | p :: q => (a :: p) :: q) = (if a = c then [] :: spl c r else match spl c r with | [] => [[a]] | p :: q => (a :: p) :: q) ++ [[]]
    rw [ih]
    split
    · rfl
    · obtain ⟨p, q, e⟩ := spl_ne c r
      rw [e]
      rfl
theorem spl_back (c : Nat) : ∀ m, ((spl c m).map (· ++ [c])).flatten = m ++ [c]
  | [] => rfl
  | a :: r => by
    have ih := spl_back c r
    unfold spl
    split
    · rename_i h
      rw [List.map_cons, List.flatten_cons, ih, h]
      rfl
    · obtain ⟨p, q, e⟩ := spl_ne c r
      rw [e] at ih ⊢
      show (((a :: p) :: q).map (· ++ [c])).flatten = _
      rw [List.map_cons, List.flatten_cons] at ih ⊢
      rw [List.cons_append, List.cons_append, ih]
      rfl
end Txs
set_option linter.all false
set_option Elab.async false
namespace Txs
open PySem L2 PyProof.Rows
def tPairs : List (Int × Int) → TA
  | [] => tNil
  | p :: r => tCons (tTup (tCons (tC (.int p.1)) (tCons (tC (.int p.2)) tNil))) (tPairs r)
theorem pairs_disp : ∀ (ps : List (Int × Int)) {σ : L2.St} {H : Hp} {Q : List V → Hp → Prop}, (∀ (ts : List Addr) (H' : Hp), (∀ b o, H b = some o → H' b = some o) → ts.length = ps.length → (∀ (i : Nat) (t : Addr) (p : Int × Int), ts[i]? = some t → ps[i]? = some p → H' t = some (.tup [.int p.1, .int p.2])) → Q (ts.map V.ref) H') → tPairs ps σ H Q
  | [], σ, H, Q, h => h [] H (fun _ _ e => e) rfl fun i t p e => nomatch e
  | p :: r, σ, H, Q, h => by
    refine ⟨(by show 2 ≤ sizeLine; decide), fun t nt => pairs_disp r fun ts H' g e k => ?_⟩
    refine h (t :: ts) H' (fun b o e => g b o (by rw [upd_ne (ne_of_none e nt)]; exact e)) (congrArg (· + 1) e) fun i t' p' h1 h2 => ?_
    cases i with
    | zero =>
      cases h1
      cases h2
      exact g _ _ upd_same
    | succ i => exact k i t' p' h1 h2
end Txs
set_option linter.all false
set_option Elab.async false
namespace Pic
open PySem Txs
/-- all signs but points, each once, and where they stand -/
structure Tight (ls : List (List Nat)) (es : List (Nat × Nat × Nat)) : Prop where
  nd : (es.map (·.1)).Nodup
  ok : ∀ e ∈ es, e.1 ∈ SG ∧ ls.reverse[e.2.2]?.bind (·[e.2.1]?) = some e.1
  all : ∀ x y c : Nat, ls.reverse[y]?.bind (·[x]?) = some c → c ≠ 46 → (c, x, y) ∈ es
/-- some sign is none of the signs, or stands twice -/
def Bad (ls : List (List Nat)) : Prop := ∃ x y c : Nat, ls.reverse[y]?.bind (·[x]?) = some c ∧ c ≠ 46 ∧ (c ∉ SG ∨ ∃ x' y' : Nat, (x', y') ≠ (x, y) ∧ ls.reverse[y']?.bind (·[x']?) = some c)
theorem rows_last (m : List Nat) : rows (m ++ [10]) = (spl 10 m).reverse := by
  unfold rows
  rw [spl_last, List.dropLast_concat]
theorem Tight.rd {m : List Nat} {es : List (Nat × Nat × Nat)} (t : Tight (spl 10 m) es) : Rd3 (m ++ [10]) es := by
  have e : ∀ x y, chr (m ++ [10]) x y = (spl 10 m).reverse[y]?.bind (·[x]?) := fun x y => by
    unfold chr
    rw [rows_last]
  refine ⟨t.nd, fun e' he => ?_, fun x y c h hc => ?_⟩
  · rw [e]
    exact t.ok e' he
  · rw [e] at h
    exact List.mem_map.mpr ⟨_, t.all x y c h (fun z => (sg_lt hc).2.2 z), rfl⟩
theorem pic_snoc (ps : Pl) (W h : Nat) : ∃ m, pic ps W h = m ++ [10] := by
  have e := pic_len ps W h
  refine ⟨(pic ps W h).dropLast, ?_⟩
  have ne : lines ps W h ≠ [] := fun z => by have := lines_len ps W h; rw [z] at this; cases this
  obtain ⟨hd, z, ez⟩ : ∃ (A : List (List Nat)) (z : List Nat), lines ps W h = A ++ [z] := ⟨_, _, (List.dropLast_concat_getLast ne).symm⟩
  have : pic ps W h = ((hd.map (· ++ [10])).flatten ++ z) ++ [10] := by
    unfold pic
    rw [ez, List.map_append, List.flatten_append]
    simp
  rw [this, List.dropLast_concat]
theorem pic_lines {ps : Pl} (o : Ok ps) {W h : Nat} {m : List Nat} (e : m ++ [10] = pic ps W h) : spl 10 m = lines ps W h := by
  have a := pic_spl o W h
  rw [← e, spl_last] at a
  exact (List.append_inj_left' a rfl)
theorem not_bad {ps : Pl} (o : Ok ps) {W h : Nat} : ¬ Bad (lines ps W h) := by
  rintro ⟨x, y, c, e, n, b⟩
  have at' : ∀ {x y c : Nat}, (lines ps W h).reverse[y]?.bind (·[x]?) = some c → c = cell ps x y := fun {x y c} e => by
    have := chr_some o (W := W) (h := h) (x := x) (y := y) (c := c) (by unfold chr; rw [rows_pic o]; exact e)
    exact this.2.2
  have ec := at' e
  rcases cell_cases ps o.nd x y with ⟨_, z⟩ | ⟨i, hi, z⟩
  · exact n (ec.trans z)
  · have lt := (List.getElem?_eq_some_iff.mp hi).1
    have few := o.few
    rcases b with b | ⟨x', y', ne, e'⟩
    · refine b ?_
      rw [ec, z]
      exact sg_mem (by omega)
    · have ec' := at' e'
      rcases cell_cases ps o.nd x' y' with ⟨_, z'⟩ | ⟨j, hj, z'⟩
      · exact n (ec'.trans z')
      · have lt' := (List.getElem?_eq_some_iff.mp hj).1
        have ij : i = j := sg_inj (by omega) (by omega) (by rw [← z, ← z', ← ec, ← ec'])
        subst ij
        rw [hi] at hj
        cases hj
        exact ne rfl
/-- what is read of the lines is a picture of these places -/
theorem read_pic {ls : List (List Nat)} {es : List (Nat × Nat × Nat)} (t : Tight ls es) {ps : Pl} (pk : Pk es ps) (sg : ∀ i, i < es.length → SG.getD i 0 ∈ es.map (·.1)) {W h : Nat} (lh : ls.length = h + 1) (lw : ∀ z ∈ ls, z.length = W + 1) : ls = lines ps W h := by
  have few : es.length ≤ 40 := by
    have := List.Nodup.length_le_of_subset t.nd (l₂ := SG) fun c hc => by
      obtain ⟨e, he, rfl⟩ := List.mem_map.mp hc
      exact (t.ok e he).1
    rw [List.length_map] at this
    exact this
  have len := pk.len
  have uq : ∀ {c x y x' y' : Nat}, (c, x, y) ∈ es → (c, x', y') ∈ es → (x, y) = (x', y') := fun {c x y x' y'} h1 h2 => by
    have nd := t.nd
    obtain ⟨i, hi, e1⟩ := List.getElem_of_mem h1
    obtain ⟨j, hj, e2⟩ := List.getElem_of_mem h2
    have ij : i = j := by
      refine (List.getElem?_inj (by rw [List.length_map]; exact hi) nd).mp ?_
      rw [List.getElem?_map, List.getElem?_map, List.getElem?_eq_getElem hi, List.getElem?_eq_getElem hj, e1, e2]
      rfl
    subst ij
    rw [e1] at e2
    injection e2 with _ e2
  -- each key is one of the first signs
  have key : ∀ c ∈ es.map (·.1), ∃ i, i < es.length ∧ c = SG.getD i 0 := by
    have nd2 : ((List.range es.length).map fun i => SG.getD i 0).Nodup := by
      refine List.pairwise_map.mpr (List.nodup_range.imp_of_mem fun {i j} hi hj ne e => ne (sg_inj ?_ ?_ e))
      · have := List.mem_range.mp hi; omega
      · have := List.mem_range.mp hj; omega
    have sub : ((List.range es.length).map fun i => SG.getD i 0) ⊆ es.map (·.1) := fun c hc => by
      obtain ⟨i, hi, rfl⟩ := List.mem_map.mp hc
      exact sg i (List.mem_range.mp hi)
    intro c hc
    refine Classical.byContradiction fun n => ?_
    have nd3 : (c :: (List.range es.length).map fun i => SG.getD i 0).Nodup := List.nodup_cons.mpr ⟨fun z => by
      obtain ⟨i, hi, e⟩ := List.mem_map.mp z
      exact n ⟨i, List.mem_range.mp hi, e.symm⟩, nd2⟩
    have := List.Nodup.length_le_of_subset nd3 (l₂ := es.map (·.1)) fun d hd => by
      rcases List.mem_cons.mp hd with rfl | hd
      · exact hc
      · exact sub hd
    rw [List.length_cons, List.length_map, List.length_map, List.length_range] at this
    omega
  have cel : ∀ x y c, ls.reverse[y]?.bind (·[x]?) = some c → cell ps x y = c := fun x y c e => by
    have nd : ps.Nodup := by
      refine List.pairwise_iff_getElem.mpr fun i j hi hj ij e => ?_
      have e0 : ps[i]? = some (ps[i].1, ps[i].2) := List.getElem?_eq_getElem hi
      have e1 : ps[j]? = some (ps[j].1, ps[j].2) := List.getElem?_eq_getElem hj
      have a := (t.ok _ (pk.at' i _ _ e0)).2
      have b := (t.ok _ (pk.at' j _ _ e1)).2
      rw [e] at a
      have := sg_inj (i := i) (j := j) (by omega) (by omega) (Option.some.inj (a.symm.trans b))
      omega
    by_cases c46 : c = 46
    · subst c46
      refine cell_miss fun m => ?_
      obtain ⟨i, hi, e1⟩ := List.getElem_of_mem m
      have e0 : ps[i]? = some (x, y) := by rw [List.getElem?_eq_getElem hi, e1]
      have a := t.ok _ (pk.at' i x y e0)
      have := a.2
      rw [e] at this
      have h46 := (sg_lt a.1).2.2
      exact h46 (Option.some.inj this).symm
    · have m := t.all x y c e c46
      obtain ⟨i, hi, ec⟩ := key c (List.mem_map.mpr ⟨_, m, rfl⟩)
      have hp : ps[i]? = some (ps[i].1, ps[i].2) := List.getElem?_eq_getElem (by omega)
      have m2 := pk.at' i _ _ hp
      rw [← ec] at m2
      have := uq m m2
      rw [← this] at hp
      rw [cell_at nd hp, ec]
  refine List.ext_getElem? fun i => ?_
  by_cases hi : i < h + 1
  · rw [lines_at hi]
    have hi' : i < ls.length := by omega
    rw [List.getElem?_eq_getElem hi']
    congr 1
    refine List.ext_getElem? fun x => ?_
    have wl := lw _ (List.getElem_mem hi')
    by_cases hx : x < W + 1
    · rw [line_at hx, List.getElem?_eq_getElem (by omega)]
      congr 1
      refine (cel x (h - i) _ ?_).symm
      rw [List.getElem?_reverse (by omega), lh, show h + 1 - 1 - (h - i) = i by omega, List.getElem?_eq_getElem hi']
      show (ls[i])[x]? = _
      rw [List.getElem?_eq_getElem (by omega)]
    · rw [List.getElem?_eq_none (by omega), List.getElem?_eq_none (by rw [line_len]; omega)]
  · rw [List.getElem?_eq_none (by omega), List.getElem?_eq_none (by rw [lines_len]; omega)]
theorem pic_of {m : List Nat} {ps : Pl} {W h : Nat} (e : spl 10 m = lines ps W h) : m ++ [10] = pic ps W h := by
  unfold pic
  rw [← e, spl_back]
end Pic
--M3
set_option Elab.async false
set_option linter.all false
set_option maxRecDepth 100000
set_option maxHeartbeats 4000000
namespace Prf
open PySem L2 Own Tri Cyc Rnd
def top (i : Nat) : Stmt := PySem.Challenge.pw_restdraw_k92_texts_that_are_no_pictures.main.body.getD i (.Pass ⟨0, 0, 0, 0⟩)
abbrev s_picture : Stmt := top 23
theorem sc_picture : FnScope ["some", "signs", "wide", "high", "lines"] ["some"] (defScope s_picture) := sc_mk
abbrev s_signs_read : Stmt := top 24
theorem sc_signs_read : FnScope ["text", "lines"] ["text"] (defScope s_signs_read) := sc_mk
abbrev s_fits : Stmt := top 25
theorem sc_fits : FnScope ["found"] ["found"] (defScope s_fits) := sc_mk
abbrev s_read_picture : Stmt := top 26
theorem sc_read_picture : FnScope ["text", "found", "some"] ["text"] (defScope s_read_picture) := sc_mk
abbrev s_law_pot : Stmt := top 28
theorem sc_law_pot : FnScope ["_law_script", "_law_k", "_law_cell"] ["_law_script", "_law_k"] (defScope s_law_pot) := sc_mk
abbrev s_law_digit : Stmt := top 29
theorem sc_law_digit : FnScope ["_law_pot_here", "_law_many", "_law_digit_here"] ["_law_pot_here", "_law_many"] (defScope s_law_digit) := sc_mk
abbrev s_law_signs : Stmt := top 30
theorem sc_law_signs : FnScope [] [] (defScope s_law_signs) := sc_mk
abbrev s_law_whole : Stmt := top 31
theorem sc_law_whole : FnScope ["_law_pot_here", "_law_wide", "_law_high", "_law_lines", "_law_place", "_law_line"] ["_law_pot_here"] (defScope s_law_whole) := sc_mk
abbrev s_law_far : Stmt := top 32
theorem sc_law_far : FnScope ["_law_pot_here", "_law_tall", "_law_wide", "_law_high", "_law_lines", "_law_spots_here", "_law_place", "_law_x", "_law_k", "_law_more", "_law_rows"] ["_law_pot_here"] (defScope s_law_far) := sc_mk
abbrev s_law_sign : Stmt := top 33
theorem sc_law_sign : FnScope ["_law_pot_here", "_law_kind"] ["_law_pot_here"] (defScope s_law_sign) := sc_mk
abbrev s_law_spoilt_lines : Stmt := top 34
theorem sc_law_spoilt_lines : FnScope ["_law_pot_here", "_law_text", "_law_lines", "_law_kind", "_law_at", "_law_other", "_law_ahead"] ["_law_pot_here", "_law_text"] (defScope s_law_spoilt_lines) := sc_mk
abbrev s_law_spoilt : Stmt := top 35
theorem sc_law_spoilt : FnScope ["_law_pot_here", "_law_text", "_law_kind", "_law_at"] ["_law_pot_here", "_law_text"] (defScope s_law_spoilt) := sc_mk
abbrev s_law_spots : Stmt := top 36
theorem sc_law_spots : FnScope ["_law_lines", "_law_found", "_law_k", "_law_line", "_law_x", "_law_letter"] ["_law_lines"] (defScope s_law_spots) := sc_mk
abbrev s_law_read : Stmt := top 37
theorem sc_law_read : FnScope ["_law_text", "_law_lines", "_law_spots_here", "_law_letters", "_law_some", "_law_beyond"] ["_law_text"] (defScope s_law_read) := sc_mk
abbrev s_law_told : Stmt := top 38
theorem sc_law_told : FnScope ["_law_thing", "_law_found", "_law_e"] ["_law_thing"] (defScope s_law_told) := sc_mk
abbrev s_law_which : Stmt := top 39
theorem sc_law_which : FnScope ["_law_e", "_law_sorts"] ["_law_e"] (defScope s_law_which) := sc_mk
abbrev s_law_drawn : Stmt := top 40
theorem sc_law_drawn : FnScope ["_law_pot_here", "_law_text", "_law_turn"] ["_law_pot_here"] (defScope s_law_drawn) := sc_mk
abbrev s_law : Stmt := top 41
theorem sc_law : FnScope ["_law_script", "_law_k", "_law_pot_here", "_law_thing", "_law_text", "_law_due"] ["_law_script"] (defScope s_law) := sc_mk
def inCls (s : Stmt) (j : Nat) : Stmt := match s with
  | .ClassDef _ _ _ b _ _ _ _ _ _ _ => b.getD j (.Pass ⟨0, 0, 0, 0⟩)
  | _ => .Pass ⟨0, 0, 0, 0⟩
abbrev s_init_DrawError : Stmt := inCls (top 1) 0
theorem sc_init_DrawError : FnScope ["self", "words"] ["self", "words"] (defScope s_init_DrawError) := sc_mk
structure FxG (K : PySem.W.Frag) (mg : Str → Option Value) : Prop where
  X : ∃ h : Heap, K.In h ∧ h.Ns mainGlobals mg
  d0 : DfAt K "picture" s_picture
  d1 : DfAt K "signs_read" s_signs_read
  d2 : DfAt K "fits" s_fits
  d3 : DfAt K "read_picture" s_read_picture
  d4 : DfAt K "_law_pot" s_law_pot
  d5 : DfAt K "_law_digit" s_law_digit
  d6 : DfAt K "_law_signs" s_law_signs
  d7 : DfAt K "_law_whole" s_law_whole
  d8 : DfAt K "_law_far" s_law_far
  d9 : DfAt K "_law_sign" s_law_sign
  d10 : DfAt K "_law_spoilt_lines" s_law_spoilt_lines
  d11 : DfAt K "_law_spoilt" s_law_spoilt
  d12 : DfAt K "_law_spots" s_law_spots
  d13 : DfAt K "_law_read" s_law_read
  d14 : DfAt K "_law_told" s_law_told
  d15 : DfAt K "_law_which" s_law_which
  d16 : DfAt K "_law_drawn" s_law_drawn
  d17 : DfAt K "law" s_law
  y0 : PySem.W.nsIn K mainGlobals "max" = some none
  y1 : PySem.W.nsIn K mainGlobals "abs" = some none
  y2 : PySem.W.nsIn K mainGlobals "divmod" = some none
  y3 : PySem.W.nsIn K mainGlobals "isinstance" = some none
  y4 : PySem.W.nsIn K mainGlobals "ValueError" = some none
  y5 : PySem.W.nsIn K mainGlobals "enumerate" = some none
  y6 : PySem.W.nsIn K mainGlobals "range" = some none
  y7 : PySem.W.nsIn K mainGlobals "all" = some none
  y8 : PySem.W.nsIn K mainGlobals "len" = some none
  y9 : PySem.W.nsIn K mainGlobals "str" = some none
  y10 : PySem.W.nsIn K mainGlobals "tuple" = some none
  y11 : PySem.W.nsIn K mainGlobals "list" = some none
  y12 : PySem.W.nsIn K mainGlobals "min" = some none
  xg : XgAt K
  xd : DxAt K
  w_NoText : WxAt K "NoText" s_init_DrawError
  kv_NoText : KvAt K "NoText"
  kd_NoText_NoFace : KdAt K "NoText" "NoFace" false
  kd_NoText_Doubled : KdAt K "NoText" "Doubled" false
  kd_NoText_NoTie : KdAt K "NoText" "NoTie" false
  kd_NoText_Parted : KdAt K "NoText" "Parted" false
  kd_NoText_NotFlat : KdAt K "NoText" "NotFlat" false
  kd_NoText_NotTied : KdAt K "NoText" "NotTied" false
  kd_NoText_NotCornered : KdAt K "NoText" "NotCornered" false
  kd_NoText_NoRim : KdAt K "NoText" "NoRim" false
  kd_NoText_NoCorners : KdAt K "NoText" "NoCorners" false
  kd_NoText_NoBase : KdAt K "NoText" "NoBase" false
  kd_NoText_NoOrder : KdAt K "NoText" "NoOrder" false
  kd_NoText_NoWoods : KdAt K "NoText" "NoWoods" false
  kd_NoText_NoWeights : KdAt K "NoText" "NoWeights" false
  kd_NoText_NoText : KdAt K "NoText" "NoText" true
  kd_NoText_Alike : KdAt K "NoText" "Alike" false
  kd_NoText_Folded : KdAt K "NoText" "Folded" false
  vSIGNS : CvAt K "SIGNS" (.str "abcdefghijklmnopqrstuvwxyzABCDEFGHIJKLMN")
  vFEWEST : CvAt K "FEWEST" (.int 3)
  vWIDEST : CvAt K "WIDEST" (.int 76)
  vHIGHEST : CvAt K "HIGHEST" (.int 40)
theorem FxG.z {K : PySem.W.Frag} {mg : Str → Option Value} (B : FxG K mg) {n : Str} (y : PySem.W.nsIn K mainGlobals n = some none) : mg n = none := by
  obtain ⟨h, x, g⟩ := B.X
  exact PySem.W.mg_none_of x g y
def Bad (c : Cn) : Prop := FxG c.K c.mg ∧ ∃ f fd, Fun c.K "law" "law" s_law f fd ∧ ¬ FnOk c.P c.w c.K c.mg c.base CX0 10 f fd ["_law_script"] (spLaw c.K)
noncomputable def c0 : Cn := Classical.epsilon Bad
noncomputable def P : Program := c0.P
noncomputable def w : World := c0.w
noncomputable def K : PySem.W.Frag := c0.K
noncomputable def mg : Str → Option Value := c0.mg
noncomputable def base : Heap := c0.base
abbrev Fx := FxG K mg
abbrev Hs := Own.Has P w K mg base
theorem same_new {H : Hp} {p : Addr} (h : H p = none) (o : HO) : Same H (upd H p o) := fun b u q => by rw [upd_ne (ne_of_none q h)]; exact q
def SameBut (a : Addr) (H H' : Hp) : Prop := ∀ b o, b ≠ a → H b = some o → H' b = some o
inductive spPot (K : PySem.W.Frag) (vs : List V) (H : Hp) (Q : VK) (Y : XK) : Prop
  | mk : ∀ (a : Addr) (ns : List Int) (k : Int), (vs = [.ref a, .int k]) → (SqL K H a (ns.map V.int)) → (ns.length ≤ 63) → (0 ≤ k) → (k ≤ 63) → (∀ (p : Addr) (x y : Int) (H' : Hp), 0 ≤ x → Same H H' → H p = none → H' p = some (.lst [.int x, .int y]) → Q (.ref p) H') → spPot K vs H Q Y
def PotAt (H : Hp) (a : Addr) : Prop := ∃ x y : Int, H a = some (.lst [.int x, .int y]) ∧ 0 ≤ x
inductive spDigit (vs : List V) (H : Hp) (Q : VK) (Y : XK) : Prop
  | mk : ∀ (a : Addr) (m : Int), (vs = [.ref a, .int m]) → (PotAt H a) → (0 < m) → (m.natAbs < 2 ^ 9000) → (∀ (d : Int) (H' : Hp), 0 ≤ d → d < m → SameBut a H H' → PotAt H' a → Q (.int d) H') → spDigit vs H Q Y
def vn (n : Nat) : V := .int (n : Int)
def ci (n : Nat) : Int := n
section
theorem at0 {x y : V} : atI [x, y] 0 = some x := rfl
theorem at1 {x y : V} : atI [x, y] 1 = some y := rfl
theorem cut_ints (ns : List Int) (lo hi : Option Int) : ∃ ms : List Int, cutV (ns.map V.int) lo hi = ms.map V.int ∧ ms.length ≤ ns.length := by
  refine ⟨(ns.drop (HT.sIx (ns.map V.int).length 0 lo)).take (HT.sIx (ns.map V.int).length (ns.map V.int).length hi - HT.sIx (ns.map V.int).length 0 lo), ?_, ?_⟩
  · unfold cutV
    rw [List.map_take, List.map_drop]
  · rw [List.length_take, List.length_drop]
    omega
theorem first_int (ms : List Int) : ∃ c : Int, atI (ms.map V.int ++ [V.int 0]) 0 = some (V.int c) := by
  cases ms with
  | nil => exact ⟨0, rfl⟩
  | cons x r => exact ⟨x, atI_nat (j := 0) rfl⟩
theorem small {n : Nat} (h : n ≤ 1000) : n ≤ sizeLine := Nat.le_of_lt (small1000 h)
theorem ok_law_pot (B : Fx) : Hs "_law_pot" ["_law_script", "_law_k"] 1 (spPot K) := by
  refine hs_of B.X B.d4 sc_law_pot fun f cdv A outer s H vs Q E nN hr h => ?_
  obtain ⟨a, ns, k, rfl, hS, h63, k0, k1, q⟩ := h
  refine ⟨_, (pss_cons (pst 2 nN (pix ix_list (pe_op op_cat (pe_slice sl_list (pv 0) (po_some (pv 1)) (po_some (pe_op op_add (pv 1) pe_int))) (pe_lst (p1 pe_int))) pe_int))
      (pss_one (ps_ret (pe_lst (p2 (pe_callB (call_max2 rfl) rfl (B.z B.y0) PyProof.Rows.boot_max (p2 pe_int (pe_op op_sub (pv 2) (pe_op op_pow pe_int pe_int)))) (pe_op op_add (pe_op op_mod (pe_op op_add (pe_op op_add (pe_callB call_abs rfl (B.z B.y1) PyProof.Rows.boot_abs (p1 (pv 2))) (pe_op op_mul pe_int (pv 1))) pe_int) pe_int) pe_int)))))), ?_⟩
  try dsimp only [cxOf]
  obtain ⟨ms, em, lm⟩ := cut_ints ns (some k) (some (k + 1))
  obtain ⟨c, hc⟩ := first_int ms
  refine ⟨_, rfl, _, rfl, k, rfl, _, rfl, _, _, rfl, rfl, k + 1, rfl, a, _, rfl, hS, fun p1 h1 => ?_⟩
  refine ⟨(by show 1 ≤ sizeLine; decide), fun p2 h2 => ?_⟩
  have n12 : p1 ≠ p2 := ne_of_none upd_same h2
  refine ⟨p1, p2, _, _, rfl, rfl, (by rw [upd_ne n12]; exact upd_same), upd_same, (by rw [em, List.length_map, List.length_singleton]; exact small (by omega)), fun p3 h3 => ?_⟩
  refine ⟨p3, _, _, _, rfl, rfl, SqL.of upd_same, (by rw [em]; exact hc), ?_⟩
  have g1 : Same H (upd H p1 (.lst (cutV (ns.map V.int) (some k) (some (k + 1))))) := same_new h1 _
  have g2 := same_new h2 (.lst [V.int 0])
  have g3 := same_new h3 (.lst (cutV (ns.map V.int) (some k) (some (k + 1)) ++ [V.int 0]))
  have g := g1.trans (g2.trans g3)
  refine ⟨_, rfl, _, _, rfl, rfl, ⟨by decide, by decide, by decide⟩, _, _, rfl, rfl, _, _, rfl, _, rfl, c, rfl, _, rfl, _, _, rfl, rfl, .inl ⟨by decide, by decide⟩, _, _, rfl, rfl, _, _, rfl, rfl, _, _, rfl, rfl, (by show (0 : Int) < 2147483629; decide), _, _, rfl, rfl, (by show 2 ≤ sizeLine; decide), fun p4 h4 => ?_⟩
  refine q p4 _ _ _ ?_ (g.trans (same_new h4 _)) (g.free h4) upd_same
  split <;> omega
theorem SameBut.refl (a : Addr) (H : Hp) : SameBut a H H := fun _ _ _ h => h
theorem SameBut.trans {a : Addr} {H H1 H2 : Hp} (x : SameBut a H H1) (y : SameBut a H1 H2) : SameBut a H H2 := fun b o n h => y b o n (x b o n h)
theorem SameBut.of {a : Addr} {H H' : Hp} (h : Same H H') : SameBut a H H' := fun b o _ e => h b o e
theorem but_upd {a : Addr} {H : Hp} {o : HO} : SameBut a H (upd H a o) := fun b u n h => by rw [upd_ne n]; exact h
theorem ok_law_digit (B : Fx) : Hs "_law_digit" ["_law_pot_here", "_law_many"] 1 (spDigit) := by
  refine hs_of B.X B.d5 sc_law_digit fun f cdv A outer s H vs Q E nN hr h => ?_
  obtain ⟨a, m, rfl, ⟨x, y, ha, hx⟩, m0, m1, q⟩ := h
  refine ⟨_, (pss_cons (ps_if (pt_cmpR op_gt (pix ix_list (pv 0) pe_int) pe_int (nomark _)) (pss_cons (ps_asg (pe_callB call_divmodW rfl (B.z B.y2) PyProof.Rows.boot_divmod (p2 (pix ix_list (pv 0) pe_int) (pv 1))) (pg_tup (n := 2) rfl (pgs_cons (pg_sub (pv 0) pe_int set_list) (pgs_cons (pgn 2 nN) pgs_nil))))
      (pss_one (ps_ret (pv 2)))) pss_nil)
      (pss_cons (ps_asg (pe_op op_mod (pe_op op_add (pe_op op_mul (pix ix_list (pv 0) pe_int) pe_int) pe_int) pe_int) (pg_sub (pv 0) pe_int set_list))
      (pss_one (ps_ret (pe_op op_mod (pe_op op_fdiv (pe_op op_mod (pe_op op_mul (pix ix_list (pv 0) pe_int) (pix ix_list (pv 0) pe_int)) pe_int) pe_int) (pv 1)))))), ?_⟩
  try dsimp only [cxOf]
  refine ⟨_, rfl, a, _, _, _, rfl, rfl, SqL.of ha, at0, _, _, rfl, rfl, _, rfl, ?_⟩
  refine ite2 (fun c => ?_) (fun c => ?_)
  · refine ⟨_, rfl, a, _, _, _, rfl, rfl, SqL.of ha, at0, _, rfl, x, m, rfl, ⟨m0, m1⟩, fun p hp => ?_⟩
    have nap : a ≠ p := ne_of_none ha hp
    refine ⟨p, _, rfl, SqT.of upd_same, rfl, _, _, rfl, _, rfl, a, _, _, 0, rfl, rfl, (by rw [upd_ne nap]; exact ha), rfl, _, _, rfl, rfl, ?_⟩
    refine ⟨_, rfl, ?_⟩
    refine q _ _ (Int.emod_nonneg _ (by omega)) (Int.emod_lt_of_pos _ m0) ((SameBut.of (same_new hp _)).trans but_upd) ⟨_, _, upd_same, ?_⟩
    exact Int.ediv_nonneg hx (by omega)
  · refine ⟨_, rfl, a, _, _, _, rfl, rfl, SqL.of ha, at1, _, _, rfl, rfl, .inr ⟨by decide, by decide⟩, _, _, rfl, rfl, _, _, rfl, rfl, (by show (0 : Int) < 2147483647; decide), ?_⟩
    refine ⟨_, rfl, a, _, _, 1, rfl, rfl, ha, rfl, ?_⟩
    have b1 : 0 ≤ (y * 48271 + 39373) % 2147483647 := Int.emod_nonneg _ (by decide)
    have b2 : (y * 48271 + 39373) % 2147483647 < 2147483647 := Int.emod_lt_of_pos _ (by decide)
    refine ⟨_, rfl, a, _, _, _, rfl, rfl, SqL.of upd_same, at1, _, rfl, a, _, _, _, rfl, rfl, SqL.of upd_same, at1, _, _, rfl, rfl, .inl ⟨?_, ?_⟩, _, _, rfl, rfl, (by show (0 : Int) < 2147483629; decide), _, _, rfl, rfl, ⟨by decide, by decide⟩, _, rfl, _, _, rfl, rfl, m0, ?_⟩
    · show -(2 ^ 64) < (y * 48271 + 39373) % 2147483647
      omega
    · show (y * 48271 + 39373) % 2147483647 < 2 ^ 64
      omega
    · exact q _ _ (Int.emod_nonneg _ (by omega)) (Int.emod_lt_of_pos _ m0) but_upd ⟨_, _, upd_same, hx⟩
theorem keep {H H1 H2 : Hp} {p : Addr} (g : Same H H1) (n : H p = none) (b : SameBut p H1 H2) : Same H H2 := fun c o e => b c o (ne_of_none e n) (g c o e)
theorem PotAt.kept {H H' : Hp} {p : Addr} (h : PotAt H p) (g : Same H H') : PotAt H' p := by
  obtain ⟨x, y, e, z⟩ := h
  exact ⟨x, y, g _ _ e, z⟩
theorem lit9 {i : Int} (h : i.natAbs < 2 ^ 200) : i.natAbs < 2 ^ 9000 := Nat.lt_of_lt_of_le h (Nat.pow_le_pow_right (by decide) (by decide))
theorem PotAt.other {H : Hp} {a l : Addr} {o : HO} (h : PotAt H a) (n : a ≠ l) : PotAt (upd H l o) a := by
  obtain ⟨x, y, e, z⟩ := h
  exact ⟨x, y, by rw [upd_ne n]; exact e, z⟩
end
--SPLIT
open Txs Pic
theorem boot_VE : bootBuiltins "ValueError" = some (.type "ValueError") := by decide +kernel
theorem ok_init_D {f : Addr} {fd : FuncData} (F : Fun K "__init__" "DrawError.__init__" s_init_DrawError f fd) (z : mg "ValueError" = none) (vf : PySem.W.findCls K (.type "ValueError") (.type "type") "__init__" = some (.val (.builtin "ValueError.__init__"))) :
    FnOk P w K mg base CX0 1 f fd ["self", "words"] (spInitD K) := by
  refine Fun.ok F sc_init_DrawError (fun vs H Q E h => ?_) (fun cdv A outer s H vs Q E hr h => ?_)
  · obtain ⟨a, C, x, rfl, _⟩ := h
    rfl
  obtain ⟨a, C, x, rfl, ha, x0, hv, q⟩ := h
  refine ⟨_, (pss_one (ps_expr (pe_vinit rfl z vf (pa_cons (pv 0) (pa_cons (pv 1) pa_nil))))), ?_⟩
  exact ⟨_, rfl, _, rfl, a, C, none, _, rfl, ha, x0, hv, by simp, q⟩
theorem XAt_same {H H' : Hp} {a C : Addr} {dx : Option Addr} {t1 : Value} (x : XAt H a C dx t1) (g : Same H H') : XAt H' a C dx t1 := ⟨g _ _ x.1, fun d e => by
  obtain ⟨fs, z⟩ := x.2 d e
  exact ⟨fs, g _ _ z⟩⟩
/-- which exception it is: NoText -/
inductive spWhichT (vs : List V) (H : Hp) (Q : VK) (Y : XK) : Prop
  | mk : ∀ (a C : Addr) (dx : Option Addr) (t1 : Value), (vs = [.ref a]) → (XAt H a C dx t1) → (Ex.XK0 K C) → (mg "NoText" = some (.ref C)) → (∀ H', Same H H' → Q (.int 13) H') → spWhichT vs H Q Y
theorem ok_law_which (B : Fx) : HasN P w K mg base "_law_which" ["_law_e"] 2 spWhichT := by
  refine hsN_of B.X B.d15 sc_law_which (fun f cdv A outer s H vs Q E nN hr h => ?_) (by intro _ _ _ _ h; cases h; subst_vars; rfl) (by intro _ _ _ _ _ _ us hl; obtain ⟨_, rfl⟩ := len1 hl; rfl)
  obtain ⟨a, C, dx, t1, rfl, xa, x0, hC, q⟩ := h
  obtain ⟨C1, G_NoFace, m1, g_NoFace, k_NoFace⟩ := kd_of B.X B.kd_NoText_NoFace
  obtain rfl : C = C1 := by rw [hC] at m1; cases m1; rfl
  clear m1
  obtain ⟨C1, G_Doubled, m1, g_Doubled, k_Doubled⟩ := kd_of B.X B.kd_NoText_Doubled
  obtain rfl : C = C1 := by rw [hC] at m1; cases m1; rfl
  clear m1
  obtain ⟨C1, G_NoTie, m1, g_NoTie, k_NoTie⟩ := kd_of B.X B.kd_NoText_NoTie
  obtain rfl : C = C1 := by rw [hC] at m1; cases m1; rfl
  clear m1
  obtain ⟨C1, G_Parted, m1, g_Parted, k_Parted⟩ := kd_of B.X B.kd_NoText_Parted
  obtain rfl : C = C1 := by rw [hC] at m1; cases m1; rfl
  clear m1
  obtain ⟨C1, G_NotFlat, m1, g_NotFlat, k_NotFlat⟩ := kd_of B.X B.kd_NoText_NotFlat
  obtain rfl : C = C1 := by rw [hC] at m1; cases m1; rfl
  clear m1
  obtain ⟨C1, G_NotTied, m1, g_NotTied, k_NotTied⟩ := kd_of B.X B.kd_NoText_NotTied
  obtain rfl : C = C1 := by rw [hC] at m1; cases m1; rfl
  clear m1
  obtain ⟨C1, G_NotCornered, m1, g_NotCornered, k_NotCornered⟩ := kd_of B.X B.kd_NoText_NotCornered
  obtain rfl : C = C1 := by rw [hC] at m1; cases m1; rfl
  clear m1
  obtain ⟨C1, G_NoRim, m1, g_NoRim, k_NoRim⟩ := kd_of B.X B.kd_NoText_NoRim
  obtain rfl : C = C1 := by rw [hC] at m1; cases m1; rfl
  clear m1
  obtain ⟨C1, G_NoCorners, m1, g_NoCorners, k_NoCorners⟩ := kd_of B.X B.kd_NoText_NoCorners
  obtain rfl : C = C1 := by rw [hC] at m1; cases m1; rfl
  clear m1
  obtain ⟨C1, G_NoBase, m1, g_NoBase, k_NoBase⟩ := kd_of B.X B.kd_NoText_NoBase
  obtain rfl : C = C1 := by rw [hC] at m1; cases m1; rfl
  clear m1
  obtain ⟨C1, G_NoOrder, m1, g_NoOrder, k_NoOrder⟩ := kd_of B.X B.kd_NoText_NoOrder
  obtain rfl : C = C1 := by rw [hC] at m1; cases m1; rfl
  clear m1
  obtain ⟨C1, G_NoWoods, m1, g_NoWoods, k_NoWoods⟩ := kd_of B.X B.kd_NoText_NoWoods
  obtain rfl : C = C1 := by rw [hC] at m1; cases m1; rfl
  clear m1
  obtain ⟨C1, G_NoWeights, m1, g_NoWeights, k_NoWeights⟩ := kd_of B.X B.kd_NoText_NoWeights
  obtain rfl : C = C1 := by rw [hC] at m1; cases m1; rfl
  clear m1
  obtain ⟨C1, G_NoText, m1, g_NoText, k_NoText⟩ := kd_of B.X B.kd_NoText_NoText
  obtain rfl : C = C1 := by rw [hC] at m1; cases m1; rfl
  clear m1
  obtain ⟨C1, G_Alike, m1, g_Alike, k_Alike⟩ := kd_of B.X B.kd_NoText_Alike
  obtain rfl : C = C1 := by rw [hC] at m1; cases m1; rfl
  clear m1
  obtain ⟨C1, G_Folded, m1, g_Folded, k_Folded⟩ := kd_of B.X B.kd_NoText_Folded
  obtain rfl : C = C1 := by rw [hC] at m1; cases m1; rfl
  clear m1
  obtain ⟨C1, m1, kVE⟩ := kv_of B.X B.kv_NoText
  obtain rfl : C = C1 := by rw [hC] at m1; cases m1; rfl
  clear m1
  refine ⟨_, (pss_cons (pst 1 nN (pe_lst (pa_cons (pe_callB call_isiX rfl (B.z B.y3) PyProof.Rows.boot_isinstance (p2 (pv 0) (pe_glob (v := .ref G_NoFace) rfl g_NoFace rfl))) (pa_cons (pe_callB call_isiX rfl (B.z B.y3) PyProof.Rows.boot_isinstance (p2 (pv 0) (pe_glob (v := .ref G_Doubled) rfl g_Doubled rfl))) (pa_cons (pe_callB call_isiX rfl (B.z B.y3) PyProof.Rows.boot_isinstance (p2 (pv 0) (pe_glob (v := .ref G_NoTie) rfl g_NoTie rfl))) (pa_cons (pe_callB call_isiX rfl (B.z B.y3) PyProof.Rows.boot_isinstance (p2 (pv 0) (pe_glob (v := .ref G_Parted) rfl g_Parted rfl))) pa_nil))))))
      (pss_cons (pst 1 nN (pe_op op_cat (pv 1) (pe_lst (pa_cons (pe_callB call_isiX rfl (B.z B.y3) PyProof.Rows.boot_isinstance (p2 (pv 0) (pe_glob (v := .ref G_NotFlat) rfl g_NotFlat rfl))) (pa_cons (pe_callB call_isiX rfl (B.z B.y3) PyProof.Rows.boot_isinstance (p2 (pv 0) (pe_glob (v := .ref G_NotTied) rfl g_NotTied rfl))) (pa_cons (pe_callB call_isiX rfl (B.z B.y3) PyProof.Rows.boot_isinstance (p2 (pv 0) (pe_glob (v := .ref G_NotCornered) rfl g_NotCornered rfl))) (pa_cons (pe_callB call_isiX rfl (B.z B.y3) PyProof.Rows.boot_isinstance (p2 (pv 0) (pe_glob (v := .ref G_NoRim) rfl g_NoRim rfl))) pa_nil)))))))
      (pss_cons (pst 1 nN (pe_op op_cat (pv 1) (pe_lst (pa_cons (pe_callB call_isiX rfl (B.z B.y3) PyProof.Rows.boot_isinstance (p2 (pv 0) (pe_glob (v := .ref G_NoCorners) rfl g_NoCorners rfl))) (pa_cons (pe_callB call_isiX rfl (B.z B.y3) PyProof.Rows.boot_isinstance (p2 (pv 0) (pe_glob (v := .ref G_NoBase) rfl g_NoBase rfl))) (pa_cons (pe_callB call_isiX rfl (B.z B.y3) PyProof.Rows.boot_isinstance (p2 (pv 0) (pe_glob (v := .ref G_NoOrder) rfl g_NoOrder rfl))) (pa_cons (pe_callB call_isiX rfl (B.z B.y3) PyProof.Rows.boot_isinstance (p2 (pv 0) (pe_glob (v := .ref G_NoWoods) rfl g_NoWoods rfl))) pa_nil)))))))
      (pss_cons (pst 1 nN (pe_op op_cat (pv 1) (pe_lst (pa_cons (pe_callB call_isiX rfl (B.z B.y3) PyProof.Rows.boot_isinstance (p2 (pv 0) (pe_glob (v := .ref G_NoWeights) rfl g_NoWeights rfl))) (pa_cons (pe_callB call_isiX rfl (B.z B.y3) PyProof.Rows.boot_isinstance (p2 (pv 0) (pe_glob (v := .ref G_NoText) rfl g_NoText rfl))) (pa_cons (pe_callB call_isiX rfl (B.z B.y3) PyProof.Rows.boot_isinstance (p2 (pv 0) (pe_glob (v := .ref G_Alike) rfl g_Alike rfl))) (pa_cons (pe_callB call_isiX rfl (B.z B.y3) PyProof.Rows.boot_isinstance (p2 (pv 0) (pe_glob (v := .ref G_Folded) rfl g_Folded rfl))) pa_nil)))))))
      (pss_cons (ps_if (PW.pt (pw_or (pt_cmpR op_ne (m_list PySem.F.slot_list_count PySem.F.type_list_count mt_countB (pv 1) (p1 pe_bl)) pe_int (nomark _)) (pw_or1 (pt_not (pt_val (pe_callB call_isiX rfl (B.z B.y3) PyProof.Rows.boot_isinstance (p2 (pv 0) (pe_bltn (v := .ty "ValueError") rfl (B.z B.y4) boot_VE rfl)))))))) (pss_one (ps_ret (pe_un un_neg pe_int))) pss_nil)
      (pss_one (ps_ret (m_list PySem.F.slot_list_index PySem.F.type_list_index mt_indexB (pv 1) (p1 pe_bl))))))))), ?_⟩
  try dsimp only [cxOf]
  have f4 : ∀ a b c d : V, [a, b, c, d].length ≤ sizeLine := fun _ _ _ _ => (by decide : 4 ≤ sizeLine)
  refine ⟨_, rfl, a, C, dx, t1, _, _, _, rfl, rfl, (fun _ z => z), xa, x0, k_NoFace, _, rfl, a, C, dx, t1, _, _, _, rfl, rfl, (fun _ z => z), xa, x0, k_Doubled, _, rfl, a, C, dx, t1, _, _, _, rfl, rfl, (fun _ z => z), xa, x0, k_NoTie, _, rfl, a, C, dx, t1, _, _, _, rfl, rfl, (fun _ z => z), xa, x0, k_Parted, f4 _ _ _ _, fun l1 n1 => ?_⟩
  have g1 := same_new n1 (.lst [V.bl false, V.bl false, V.bl false, V.bl false])
  have e1 := upd_same (H := H) (a := l1) (o := .lst [V.bl false, V.bl false, V.bl false, V.bl false])
  generalize upd H l1 (.lst [V.bl false, V.bl false, V.bl false, V.bl false]) = H1 at g1 e1 ⊢
  have xa1 := XAt_same xa g1
  refine ⟨_, rfl, _, rfl, a, C, dx, t1, _, _, _, rfl, rfl, (fun _ z => z), xa1, x0, k_NotFlat, _, rfl, a, C, dx, t1, _, _, _, rfl, rfl, (fun _ z => z), xa1, x0, k_NotTied, _, rfl, a, C, dx, t1, _, _, _, rfl, rfl, (fun _ z => z), xa1, x0, k_NotCornered, _, rfl, a, C, dx, t1, _, _, _, rfl, rfl, (fun _ z => z), xa1, x0, k_NoRim, f4 _ _ _ _, fun m1 o1 => ?_⟩
  have h1 := same_new o1 (.lst [V.bl false, V.bl false, V.bl false, V.bl false])
  have d1 := upd_same (H := H1) (a := m1) (o := .lst [V.bl false, V.bl false, V.bl false, V.bl false])
  refine ⟨l1, m1, [V.bl false, V.bl false, V.bl false, V.bl false], [V.bl false, V.bl false, V.bl false, V.bl false], rfl, rfl, h1 _ _ e1, d1, (by show 8 ≤ sizeLine; decide), fun q1 p1 => ?_⟩
  have g2 := g1.trans (h1.trans (same_new p1 (.lst ([V.bl false, V.bl false, V.bl false, V.bl false] ++ [V.bl false, V.bl false, V.bl false, V.bl false]))))
  have e2 : (upd (upd H1 m1 (.lst [V.bl false, V.bl false, V.bl false, V.bl false])) q1 (.lst ([V.bl false, V.bl false, V.bl false, V.bl false] ++ [V.bl false, V.bl false, V.bl false, V.bl false]))) q1 = some (.lst [V.bl false, V.bl false, V.bl false, V.bl false, V.bl false, V.bl false, V.bl false, V.bl false]) := upd_same
  clear h1 d1
  generalize upd (upd H1 m1 (.lst [V.bl false, V.bl false, V.bl false, V.bl false])) q1 (.lst ([V.bl false, V.bl false, V.bl false, V.bl false] ++ [V.bl false, V.bl false, V.bl false, V.bl false])) = H2 at g2 e2 ⊢
  have xa2 := XAt_same xa g2
  refine ⟨_, rfl, _, rfl, a, C, dx, t1, _, _, _, rfl, rfl, (fun _ z => z), xa2, x0, k_NoCorners, _, rfl, a, C, dx, t1, _, _, _, rfl, rfl, (fun _ z => z), xa2, x0, k_NoBase, _, rfl, a, C, dx, t1, _, _, _, rfl, rfl, (fun _ z => z), xa2, x0, k_NoOrder, _, rfl, a, C, dx, t1, _, _, _, rfl, rfl, (fun _ z => z), xa2, x0, k_NoWoods, f4 _ _ _ _, fun m2 o2 => ?_⟩
  have h2 := same_new o2 (.lst [V.bl false, V.bl false, V.bl false, V.bl false])
  have d2 := upd_same (H := H2) (a := m2) (o := .lst [V.bl false, V.bl false, V.bl false, V.bl false])
  refine ⟨q1, m2, [V.bl false, V.bl false, V.bl false, V.bl false, V.bl false, V.bl false, V.bl false, V.bl false], [V.bl false, V.bl false, V.bl false, V.bl false], rfl, rfl, h2 _ _ e2, d2, (by show 12 ≤ sizeLine; decide), fun q2 p2 => ?_⟩
  have g3 := g2.trans (h2.trans (same_new p2 (.lst ([V.bl false, V.bl false, V.bl false, V.bl false, V.bl false, V.bl false, V.bl false, V.bl false] ++ [V.bl false, V.bl false, V.bl false, V.bl false]))))
  have e3 : (upd (upd H2 m2 (.lst [V.bl false, V.bl false, V.bl false, V.bl false])) q2 (.lst ([V.bl false, V.bl false, V.bl false, V.bl false, V.bl false, V.bl false, V.bl false, V.bl false] ++ [V.bl false, V.bl false, V.bl false, V.bl false]))) q2 = some (.lst [V.bl false, V.bl false, V.bl false, V.bl false, V.bl false, V.bl false, V.bl false, V.bl false, V.bl false, V.bl false, V.bl false, V.bl false]) := upd_same
  clear h2 d2
  generalize upd (upd H2 m2 (.lst [V.bl false, V.bl false, V.bl false, V.bl false])) q2 (.lst ([V.bl false, V.bl false, V.bl false, V.bl false, V.bl false, V.bl false, V.bl false, V.bl false] ++ [V.bl false, V.bl false, V.bl false, V.bl false])) = H3 at g3 e3 ⊢
  have xa3 := XAt_same xa g3
  refine ⟨_, rfl, _, rfl, a, C, dx, t1, _, _, _, rfl, rfl, (fun _ z => z), xa3, x0, k_NoWeights, _, rfl, a, C, dx, t1, _, _, _, rfl, rfl, (fun _ z => z), xa3, x0, k_NoText, _, rfl, a, C, dx, t1, _, _, _, rfl, rfl, (fun _ z => z), xa3, x0, k_Alike, _, rfl, a, C, dx, t1, _, _, _, rfl, rfl, (fun _ z => z), xa3, x0, k_Folded, f4 _ _ _ _, fun m3 o3 => ?_⟩
  have h3 := same_new o3 (.lst [V.bl false, V.bl true, V.bl false, V.bl false])
  have d3 := upd_same (H := H3) (a := m3) (o := .lst [V.bl false, V.bl true, V.bl false, V.bl false])
  refine ⟨q2, m3, [V.bl false, V.bl false, V.bl false, V.bl false, V.bl false, V.bl false, V.bl false, V.bl false, V.bl false, V.bl false, V.bl false, V.bl false], [V.bl false, V.bl true, V.bl false, V.bl false], rfl, rfl, h3 _ _ e3, d3, (by show 16 ≤ sizeLine; decide), fun q3 p3 => ?_⟩
  have g4 := g3.trans (h3.trans (same_new p3 (.lst ([V.bl false, V.bl false, V.bl false, V.bl false, V.bl false, V.bl false, V.bl false, V.bl false, V.bl false, V.bl false, V.bl false, V.bl false] ++ [V.bl false, V.bl true, V.bl false, V.bl false]))))
  have e4 : (upd (upd H3 m3 (.lst [V.bl false, V.bl true, V.bl false, V.bl false])) q3 (.lst ([V.bl false, V.bl false, V.bl false, V.bl false, V.bl false, V.bl false, V.bl false, V.bl false, V.bl false, V.bl false, V.bl false, V.bl false] ++ [V.bl false, V.bl true, V.bl false, V.bl false]))) q3 = some (.lst [V.bl false, V.bl false, V.bl false, V.bl false, V.bl false, V.bl false, V.bl false, V.bl false, V.bl false, V.bl false, V.bl false, V.bl false, V.bl false, V.bl true, V.bl false, V.bl false]) := upd_same
  clear h3 d3
  generalize upd (upd H3 m3 (.lst [V.bl false, V.bl true, V.bl false, V.bl false])) q3 (.lst ([V.bl false, V.bl false, V.bl false, V.bl false, V.bl false, V.bl false, V.bl false, V.bl false, V.bl false, V.bl false, V.bl false, V.bl false] ++ [V.bl false, V.bl true, V.bl false, V.bl false])) = H4 at g4 e4 ⊢
  have xa4 := XAt_same xa g4
  have eb : H4 q3 = some (.lst (([false, false, false, false, false, false, false, false, false, false, false, false, false, true, false, false] : List Bool).map V.bl)) := e4
  refine ⟨_, rfl, .inl ⟨rfl, _, SqL.of eb⟩, q3, [false, false, false, false, false, false, false, false, false, false, false, false, false, true, false, false], rfl, rfl, eb, rfl, _, rfl, ?_⟩
  refine iteF ⟨_, rfl, a, C, dx, t1, _, _, _, rfl, rfl, (fun _ z => z), xa4, x0, kVE, _, rfl, iteF ?_⟩
  exact ⟨_, rfl, .inl ⟨rfl, _, SqL.of eb⟩, q3, [false, false, false, false, false, false, false, false, false, false, false, false, false, true, false, false], 13, rfl, rfl, eb, rfl, (by decide), q _ g4⟩
--SPLIT
open Txs Pic
structure PlAt (H : Hp) (a : Addr) (ps : Pl) (ts : List Addr) : Prop where
  top : H a = some (.tup (ts.map V.ref))
  len : ts.length = ps.length
  at' : ∀ (i : Nat) (t : Addr) (p : Nat × Nat), ts[i]? = some t → ps[i]? = some p → H t = some (.tup [vn p.1, vn p.2])
theorem PlAt.kept {H H' : Hp} {a : Addr} {ps : Pl} {ts : List Addr} (x : PlAt H a ps ts) (g : Same H H') : PlAt H' a ps ts := ⟨g _ _ x.top, x.len, fun i t p h1 h2 => g _ _ (x.at' i t p h1 h2)⟩
theorem PlAt.get {H : Hp} {a : Addr} {ps : Pl} {ts : List Addr} (x : PlAt H a ps ts) {i : Nat} {v : V} (h : (ts.map V.ref)[i]? = some v) : ∃ t p q, v = .ref t ∧ ts[i]? = some t ∧ ps[i]? = some (p, q) ∧ H t = some (.tup [vn p, vn q]) := by
  rw [List.getElem?_map] at h
  obtain ⟨t, ht, rfl⟩ := Option.map_eq_some_iff.mp h
  have hi := (List.getElem?_eq_some_iff.mp ht).1
  rw [x.len] at hi
  exact ⟨t, ps[i].1, ps[i].2, rfl, ht, List.getElem?_eq_getElem hi, x.at' i t _ ht (List.getElem?_eq_getElem hi)⟩
def tv (c : Nat) : V := .str (tx [c])
theorem rep_tv (n : Nat) (x : V) : (List.replicate n [x]).flatten = List.replicate n x := by
  induction n with
  | zero => rfl
  | succ n ih => rw [List.replicate_succ, List.flatten_cons, ih]; rfl
theorem join_tv (l : List Nat) : PySem.Txt.join (tx []) (l.map fun c => tx [c]) = tx l := by
  have := join_nil (l.map fun c => [c])
  rw [List.map_map] at this
  rw [show (l.map fun c => tx [c]) = l.map (tx ∘ fun c => [c]) from rfl, this]
  congr 1
  clear this
  induction l with
  | nil => rfl
  | cons a r ih => simp [ih]
theorem vn_inj {a b : Nat} (h : vn a = vn b) : a = b := by
  have : (a : Int) = (b : Int) := by injection h
  omega
theorem sg_ch {i : Nat} (h : i < 40) : atI (Str.ofString "abcdefghijklmnopqrstuvwxyzABCDEFGHIJKLMN" : Str).cps.toList (i : Int) = some (SG.getD i 0) := by
  rw [show (Str.ofString "abcdefghijklmnopqrstuvwxyzABCDEFGHIJKLMN" : Str).cps.toList = SG by decide +kernel]
  exact atI_nat (sg_at h)
theorem ixN_nat {n i : Nat} (h : i < n) : ixN n (i : Int) = some i := by
  unfold ixN
  simp
  omega
theorem keep_upd {H H1 : Hp} {p : Addr} {o : HO} (n : H p = none) (g : Same H H1) : Same H (upd H1 p o) := fun c u e => by rw [upd_ne (ne_of_none e n)]; exact g _ _ e
theorem max_of {ps : Pl} {f : Nat × Nat → Nat} {M : Int} (h : M ∈ ps.map fun p => (f p : Int)) (hm : ∀ i ∈ ps.map (fun p => (f p : Int)), i ≤ M) : ∃ W : Nat, M = (W : Int) ∧ (∃ p ∈ ps, f p = W) ∧ ∀ p ∈ ps, f p ≤ W := by
  obtain ⟨p, hp, rfl⟩ := List.mem_map.mp h
  refine ⟨f p, rfl, ⟨p, hp, rfl⟩, fun q hq => ?_⟩
  have := hm _ (List.mem_map.mpr ⟨q, hq, rfl⟩)
  omega
theorem lines_le {ps : Pl} {W h : Nat} {z : Str} (hw : W ≤ 76) (hz : z ∈ ((lines ps W h).map (· ++ [10])).map tx) : z.length ≤ 78 := by
  obtain ⟨l, hl, rfl⟩ := List.mem_map.mp hz
  obtain ⟨m, hm, rfl⟩ := List.mem_map.mp hl
  obtain ⟨i, _, rfl⟩ := List.mem_map.mp hm
  rw [tx_len, List.length_append, line_len]
  show W + 1 + 1 ≤ 78
  omega
theorem map_snoc {α β : Type} (f : α → β) {ps : List α} {i : Nat} {p : α} (h : ps[i]? = some p) : (ps.take (i + 1)).map f = (ps.take i).map f ++ [f p] := by
  rw [List.take_add_one, h, List.map_append]
  rfl
def kp (x y : Nat) : List Key := [.inl (x : Int), .inl (y : Int)]
theorem kp_inj {a b c d : Nat} (h : kp a b = kp c d) : (a, b) = (c, d) := by
  unfold kp at h
  injection h with h1 h2
  injection h2 with h2 _
  injection h1 with h1
  injection h2 with h2
  have := Int.ofNat.inj h1
  have := Int.ofNat.inj h2
  subst_vars
  rfl
def DrawnI (H : Hp) (d : Addr) (ps : Pl) (i : Nat) : Prop := ∃ kvs : List (List Key × V), H d = some (.dT kvs) ∧ kvs.length ≤ i ∧ ∀ x y, (valV kvs (kp x y)).getD (tv 46) = tv (cell ps x y)
theorem DrawnI.kept {H H' : Hp} {d : Addr} {ps : Pl} {i : Nat} (h : DrawnI H d ps i) (g : Same H H') : DrawnI H' d ps i := by
  obtain ⟨kvs, a, b, c⟩ := h
  exact ⟨kvs, g _ _ a, b, c⟩
inductive spPicture (vs : List V) (H : Hp) (Q : VK) (Y : XK) : Prop
  | mk : ∀ (a : Addr) (ts : List Addr) (ps : Pl), (vs = [.ref a]) → (PlAt H a ps ts) → (Pic.Ok ps) → (∀ (W h : Nat) (H' : Hp), Bx ps W h → Same H H' → Q (.str (tx (pic ps W h))) H') → spPicture vs H Q Y
theorem ok_picture (B : Fx) : Hs "picture" ["some"] 1 (spPicture) := by
  refine hs_of B.X B.d0 sc_picture fun f cdv A outer s H vs Q E nN hr h => ?_
  obtain ⟨a, ts, ps, rfl, P, o, k⟩ := h
  obtain ⟨u_SIGNS, m_SIGNS, r_SIGNS⟩ := cv_of B.X B.vSIGNS
  refine ⟨_, (pss_cons (pst 1 nN (pe_dc1t (Nc := ["p", "pair"]) (js := [none, none]) rfl rfl (pi_enum false rfl (B.z B.y5) (p1 (pv 0))) (CS.of rfl rfl) rfl (fun C s₂ H₂ fp pins => (show PG _ _ (gTup K 2 _) from pg_tup rfl (pgs_cons (pgc 0) (pgs_cons (pgc 1) pgs_nil)))) (fun C s₂ H₂ fp pins D L => (pt_tail0 (pb_dput (hu_of hr) (pv 1) (pix ix_str (pe_glob rfl m_SIGNS r_SIGNS) (pv 0)))))))
      (pss_cons (pst 2 nN (pe_callB (call_maxL rfl) rfl (B.z B.y0) PyProof.Rows.boot_max (p1 (pe_lc1x (Nc := ["x", "y"]) (js := [none, none]) rfl rfl (pi_tup (pv 0)) (CS.of rfl rfl) rfl (fun C s₂ H₂ fp pins => (show PG _ _ (gTup K 2 _) from pg_tup rfl (pgs_cons (pgc 0) (pgs_cons (pgc 1) pgs_nil)))) (fun C s₂ H₂ fp pins D L => (pt_tail0 (pb_app (pv 0))))))))
      (pss_cons (pst 3 nN (pe_callB (call_maxL rfl) rfl (B.z B.y0) PyProof.Rows.boot_max (p1 (pe_lc1x (Nc := ["x", "y"]) (js := [none, none]) rfl rfl (pi_tup (pv 0)) (CS.of rfl rfl) rfl (fun C s₂ H₂ fp pins => (show PG _ _ (gTup K 2 _) from pg_tup rfl (pgs_cons (pgc 0) (pgs_cons (pgc 1) pgs_nil)))) (fun C s₂ H₂ fp pins D L => (pt_tail0 (pb_app (pv 1))))))))
      (pss_cons (ps_lc1y (i := 4) (Nc := ["y", "signs", "wide"]) (js := [none, some 1, some 2]) rfl rfl nN rfl (Or.inl rfl) (pi_range3 rfl (B.z B.y6) (pa_cons (pv 3) (pa_cons (pe_un un_neg pe_int) (pa_cons (pe_un un_neg pe_int) pa_nil)))) (CS2.of rfl rfl) rfl (fun C s₂ H₂ fp pins => (pgc 0)) (fun C s₂ H₂ fp pins D L => (pt_tail0 (pb_app (show PE _ _ (tBM K "str" (rJoin K) _ _) from (pe_bm PySem.F.plainAttrs_str PySem.F.slot_str_join PySem.F.type_str_join (show MtM _ _ (rJoin K) from mt_join) pe_str (p1 (pe_lc1x (Nc := ["x", "signs", "y"]) (js := [none, some 1, some 0]) rfl rfl (pi_range1 rfl (B.z B.y6) (p1 (pe_op op_add (pv 2) pe_int))) (CS.of rfl rfl) rfl (fun C s₂ H₂ fp pins => (pgc 0)) (fun C s₂ H₂ fp pins D L => (pt_tail0 (pb_app (pe_dget2 (hu_of hr) (pv 1) (pe_tup (p2 (pv 0) (pv 2))) pe_str ⟨rfl, rfl, rfl, rfl⟩))))))))))))
      (pss_one (ps_ret (pe_bm PySem.F.plainAttrs_str PySem.F.slot_str_join PySem.F.type_str_join mt_join pe_str (p1 (pe_lc1x (Nc := ["line"]) (js := [none]) rfl rfl (pi_list (pv 4)) (CS.of rfl rfl) rfl (fun C s₂ H₂ fp pins => (pgc 0)) (fun C s₂ H₂ fp pins D L => (pt_tail0 (pb_app (pe_op op_add_str (pv 0) pe_str))))))))))))), ?_⟩
  try dsimp only [cxOf]
  have hf := o.few
  have lo := o.lo
  refine ⟨_, rfl, a, rfl, ⟨_, SqT.of P.top⟩, fun d nd => ?_⟩
  have g0 := same_new nd (.dT [])
  refine walk_enum (k := false) (xs := ts.map V.ref) (fun i σ H2 => ∃ (x0 x1 : Option V), σ = [x0, x1] ∧ Same H H2 ∧ DrawnI H2 d (ps.take i) i) ⟨none, none, rfl, g0, [], upd_same, Nat.zero_le _, fun x y => rfl⟩ ?_ ?_ ?_
  · rintro i σ H2 _ ⟨x0, x1, rfl, g2, _⟩
    exact SqT.of (g2 _ _ P.top)
  · rintro i x T σ H2 hx nT ⟨x0, x1, rfl, g2, kvs, hd, hz, hv⟩
    obtain ⟨t, p, q, rfl, ht, hp, har⟩ := P.get hx
    have hi := (List.getElem?_eq_some_iff.mp hp).1
    have gT := same_new nT (.tup [.int i, .ref t])
    refine ⟨T, _, rfl, SqT.of upd_same, rfl, _, _, rfl, _, _, rfl, rfl, ?_⟩
    have g3 := g2.trans gT
    have hd3 := gT _ _ hd
    generalize upd H2 T (.tup [.int i, .ref t]) = H3 at *
    refine ⟨_, rfl, _, rfl, _, _, _, rfl, rfl, (by show 40 ≤ sizeLine; exact small (by decide)), sg_ch (i := i) (by omega), ?_⟩
    refine ⟨_, DPut.t (k := kp p q) hd3 (g3 _ _ har) (small1000 (by omega)), ?_⟩
    refine ⟨_, _, rfl, keep_upd nd g3, _, upd_same, Nat.le_trans (length_putK _ _ _) (by omega), fun x y => ?_⟩
    rw [valV_put, cell_step o.nd hp]
    by_cases z : (x, y) = (p, q)
    · injection z with z1 z2
      subst z1 z2
      rw [if_pos rfl, if_pos rfl]
      rfl
    · rw [if_neg (fun w => z (kp_inj w)), if_neg z]
      exact hv x y
  rintro σ H2 ⟨x0, x1, rfl, g2, D2⟩
  rw [List.length_map, P.len, List.take_length] at D2
  have nd2 : ∀ b, H2 b = none → b ≠ d := fun b h z => by
    obtain ⟨kvs, e, _⟩ := D2
    rw [z, e] at h
    cases h
  clear g0
  refine ⟨_, rfl, a, rfl, ⟨_, SqT.of (g2 _ _ P.top)⟩, fun D nD => ?_⟩
  have k2 := same_new nD (.lst [])
  refine walk_tup (xs := ts.map V.ref) (fun i σ H3 => ∃ (x0 x1 : Option V), σ = [x0, x1] ∧ Same H2 H3 ∧ H3 D = some (.lst ((ps.take i).map fun p => vn p.1))) ⟨none, none, rfl, k2, upd_same⟩ ?_ ?_ ?_
  · rintro i σ H3 _ ⟨x0, x1, rfl, g3, _⟩
    exact SqT.of ((g2.trans g3) _ _ P.top)
  · rintro i x σ H3 hx ⟨x0, x1, rfl, g3, hD⟩
    obtain ⟨t, p, q, rfl, ht, hp, har⟩ := P.get hx
    refine ⟨t, _, rfl, SqT.of ((g2.trans g3) _ _ har), rfl, _, _, rfl, _, _, rfl, rfl, ?_⟩
    refine ⟨_, rfl, _, hD, small1000 (by rw [List.length_map, List.length_take]; omega), ?_⟩
    refine ⟨_, _, rfl, keep_upd nD g3, ?_⟩
    rw [map_snoc _ hp]
    exact upd_same
  rintro σ H3 ⟨y0, y1, rfl, g3, hD⟩
  rw [List.length_map, P.len, List.take_length] at hD
  refine ⟨D, ps.map fun p => (p.1 : Int), rfl, SqL.of (by rw [hD, List.map_map]; rfl), by rw [List.length_map]; omega, fun M m1 m2 => ?_⟩
  obtain ⟨W, rfl, w1, w2⟩ := max_of (f := Prod.fst) m1 m2
  have D3 := D2.kept g3
  replace g3 := g2.trans g3
  clear m1 m2 hD nD k2 D nd2 D2 g2 H2
  refine ⟨_, rfl, a, rfl, ⟨_, SqT.of (g3 _ _ P.top)⟩, fun D nD => ?_⟩
  have k2 := same_new nD (.lst [])
  refine walk_tup (xs := ts.map V.ref) (fun i σ H2 => ∃ (x0 x1 : Option V), σ = [x0, x1] ∧ Same H3 H2 ∧ H2 D = some (.lst ((ps.take i).map fun p => vn p.2))) ⟨none, none, rfl, k2, upd_same⟩ ?_ ?_ ?_
  · rintro i σ H4 _ ⟨x0, x1, rfl, g4, _⟩
    exact SqT.of ((g3.trans g4) _ _ P.top)
  · rintro i x σ H4 hx ⟨x0, x1, rfl, g4, hD⟩
    obtain ⟨t, p, q, rfl, ht, hp, har⟩ := P.get hx
    refine ⟨t, _, rfl, SqT.of ((g3.trans g4) _ _ har), rfl, _, _, rfl, _, _, rfl, rfl, ?_⟩
    refine ⟨_, rfl, _, hD, small1000 (by rw [List.length_map, List.length_take]; omega), ?_⟩
    refine ⟨_, _, rfl, keep_upd nD g4, ?_⟩
    rw [map_snoc _ hp]
    exact upd_same
  rintro σ H4 ⟨z0, z1, rfl, g4, hD⟩
  rw [List.length_map, P.len, List.take_length] at hD
  refine ⟨D, ps.map fun p => (p.2 : Int), rfl, SqL.of (by rw [hD, List.map_map]; rfl), by rw [List.length_map]; omega, fun M m1 m2 => ?_⟩
  obtain ⟨h, rfl, h1, h2⟩ := max_of (f := Prod.snd) m1 m2
  have b : Bx ps W h := ⟨w1, w2, h1, h2⟩
  have D4 := D3.kept g4
  replace g4 := g3.trans g4
  clear m1 m2 hD nD k2 D D3 g3 H3
  obtain ⟨lw, lh⟩ := b.le o
  refine ⟨_, rfl, _, rfl, _, rfl, (h : Int), -1, rfl, ⟨by omega, by omega, rfl⟩, fun D nD => ?_⟩
  have nD0 := g4.free nD
  have k4 := same_new nD (.lst [])
  refine walk_down (lo := (h : Int)) (n := ((h : Int) + 1).toNat) (fun i σ H2 => ∃ (x0 : Option V), σ = [x0, some (.ref d), some (.int W)] ∧ Same H4 H2 ∧ H2 D = some (.lst (((lines ps W h).take i).map fun l => V.str (tx l)))) ⟨none, rfl, k4, upd_same⟩ ?_ ?_
  · rintro i σ H2 hi ⟨x0, rfl, g2, hD⟩
    have hi : i < h + 1 := by omega
    rw [show (V.int ((h : Int) - i)) = vn (h - i) by unfold vn; congr 1; omega]
    refine ⟨rfl, _, rfl, _, _, rfl, rfl, (W : Int) + 1, rfl, by omega, by omega, fun C nC => ?_⟩
    have kC := same_new nC (.lst [])
    have D5 := D4.kept g2
    have dC : d ≠ C := fun z => by
      obtain ⟨kvs, e, _⟩ := D5
      rw [z, nC] at e
      cases e
    refine walk_range (lo := 0) (n := ((W : Int) + 1).toNat) (fun j σ H5 => ∃ (x0 : Option V), σ = [x0, some (.ref d), some (vn (h - i))] ∧ Same H2 H5 ∧ H5 C = some (.lst (((line ps W (h - i)).take j).map tv))) ⟨none, rfl, kC, upd_same⟩ ?_ ?_
    · rintro j σ H5 hj ⟨x0, rfl, g5, hC⟩
      have hj : j < W + 1 := by omega
      rw [show (V.int (0 + (j : Int))) = vn j by unfold vn; congr 1; omega]
      obtain ⟨kvs, e1, e2, e3⟩ := D5.kept g5
      refine ⟨_, rfl, d, rfl, .inr ⟨_, .inl e1⟩, _, rfl, _, rfl, (by show 2 ≤ sizeLine; decide), fun T nT => ?_⟩
      have gT := same_new nT (.tup [vn j, vn (h - i)])
      refine ⟨_, DGet.t (k := kp j (h - i)) (gT _ _ e1) upd_same, ?_⟩
      have q := e3 j (h - i)
      refine ⟨_, gT _ _ hC, small1000 (by rw [List.length_map, List.length_take, line_len]; omega), ?_⟩
      refine ⟨_, rfl, keep_upd nC (g5.trans gT), ?_⟩
      rw [map_snoc _ (line_at hj), ← q]
      exact upd_same
    · rintro σ H5 ⟨y0, rfl, g5, hC⟩
      rw [List.take_of_length_le (by rw [line_len]; omega)] at hC
      have e1 : (line ps W (h - i)).map tv = (((line ps W (h - i)).map fun c => tx [c])).map V.str := by rw [List.map_map]; rfl
      refine ⟨_, C, _, rfl, rfl, SqL.of (by rw [← e1]; exact hC), joinOk_of (B := 1) ?_ ?_, ?_⟩
      · intro z hz
        obtain ⟨c, _, rfl⟩ := List.mem_map.mp hz
        exact Nat.le_of_eq (tx_len _)
      · rw [List.length_map, line_len]
        show (W + 1) * 1 + (W + 1) * 0 ≤ _
        omega
      · rw [show (Str.ofString "" : Str) = tx [] from rfl, join_tv]
        have g6 := g2.trans g5
        refine ⟨_, g5 _ _ hD, small1000 (by rw [List.length_map, List.length_take, lines_len]; omega), _, rfl, keep_upd nD g6, ?_⟩
        rw [map_snoc _ (lines_at hi)]
        exact upd_same
  · rintro σ H5 ⟨y0, rfl, g5, hD⟩
    rw [List.take_of_length_le (by rw [lines_len]; omega)] at hD
    replace g5 := g4.trans g5
    clear D4 k4 nD g4 H4
    refine ⟨rfl, _, rfl, D, rfl, ⟨_, SqL.of hD⟩, fun C nC => ?_⟩
    have nC0 := g5.free nC
    have kC := same_new nC (.lst [])
    have hn : (lines ps W h).length = h + 1 := lines_len _ _ _
    refine walk_list (xs := (lines ps W h).map fun l => V.str (tx l)) (fun i σ H2 => ∃ (x0 : Option V), σ = [x0] ∧ Same H5 H2 ∧ H2 C = some (.lst ((((lines ps W h).map (· ++ [10])).take i).map fun l => V.str (tx l)))) ⟨none, rfl, kC, upd_same⟩ ?_ ?_ ?_
    · rintro i σ H2 _ ⟨x0, rfl, g2, _⟩
      exact SqL.of (g2 _ _ hD)
    · rintro i x σ H2 hx ⟨x0, rfl, g2, hC⟩
      rw [List.getElem?_map] at hx
      obtain ⟨l, hl, rfl⟩ := Option.map_eq_some_iff.mp hx
      have e : ((lines ps W h).map (· ++ [10]))[i]? = some (l ++ [10]) := by rw [List.getElem?_map, hl]; rfl
      have hi := (List.getElem?_eq_some_iff.mp hl).1
      have ll : l.length = W + 1 := by
        obtain ⟨j, _, rfl⟩ := List.mem_map.mp (List.mem_of_getElem? hl)
        exact line_len _ _ _
      refine ⟨_, rfl, _, _, rfl, rfl, ?_, ?_⟩
      · rw [tx_len, ll]
        show W + 1 + 1 ≤ sizeLine
        exact small (by omega)
      · refine ⟨_, hC, small1000 (by rw [List.length_map, List.length_take, List.length_map, hn]; omega), _, rfl, keep_upd nC g2, ?_⟩
        rw [map_snoc _ e, show (Str.ofString "\n" : Str) = tx [10] from rfl, tx_app]
        exact upd_same
    · rintro σ H2 ⟨x0, rfl, g2, hC⟩
      rw [List.length_map, List.take_of_length_le (by rw [List.length_map]; exact Nat.le_refl _)] at hC
      refine ⟨_, C, ((lines ps W h).map (· ++ [10])).map tx, rfl, rfl, SqL.of (by rw [hC]; simp only [List.map_map]; rfl), joinOk_of (B := 78) ?_ ?_, ?_⟩
      · exact fun z hz => lines_le lw hz
      · rw [List.length_map, List.length_map, lines_len]
        show (h + 1) * 78 + (h + 1) * 0 ≤ _
        omega
      · rw [show (Str.ofString "" : Str) = tx [] from rfl, join_nil]
        exact k W h _ b (g5.trans g2)
--SPLIT
open Txs Pic
def ks (c : Nat) : Key := .inr (tx [c])
theorem cut_last (xs : List (List Nat)) (x : List Nat) : cutV (((xs ++ [x]).map tx).map V.str) none (some (-1)) = (xs.map tx).map V.str := by
  unfold cutV
  rw [show HT.sIx (((xs ++ [x]).map tx).map V.str).length 0 none = 0 from rfl, List.drop_zero]
  have : HT.sIx (((xs ++ [x]).map tx).map V.str).length (((xs ++ [x]).map tx).map V.str).length (some (-1)) = xs.length := by
    unfold HT.sIx
    simp
    omega
  rw [this, List.map_append, List.map_append]
  simp
theorem ks_inj {a b : Nat} (h : ks a = ks b) : a = b := by
  have h : (Sum.inr (tx [a]) : Key) = Sum.inr (tx [b]) := h
  injection h with h
  have := tx_inj h
  injection this
theorem asc_tx {l : List Nat} (h : ∀ c ∈ l, c < 128) : Asc (tx l) := by
  unfold Asc
  rw [Array.all_eq_true]
  intro i hi
  have hi' : i < l.length := by simpa [tx] using hi
  have : (tx l).cps[i] ∈ l := by simp [tx]
  exact decide_eq_true (h _ this)
theorem smallB {n : Nat} (h : n ≤ 60000) : n < sizeLine := Nat.lt_of_le_of_lt h (by rw [sizeLine_eq]; decide)
def setR (R : Nat → Addr) (p : Nat) (r : Addr) (q : Nat) : Addr := if q = p then r else R q
theorem setR_same {R : Nat → Addr} {p : Nat} {r : Addr} : setR R p r p = r := if_pos rfl
theorem setR_ne {R : Nat → Addr} {p q : Nat} {r : Addr} (h : q ≠ p) : setR R p r q = R q := if_neg h
abbrev En := List (Nat × Nat × Nat)
def putE (es : En) (e : Nat × Nat × Nat) : En := if (es.any fun f => decide (f.1 = e.1)) = true then es.map (fun f => if f.1 = e.1 then e else f) else es ++ [e]
/-- the dict's entries, the places of the signs -/
def enK (es : En) (R : Nat → Addr) : List (Key × V) := es.map fun e => (ks e.1, V.ref (R e.1))
def EnAt (H : Hp) (es : En) (R : Nat → Addr) : Prop := ∀ e ∈ es, H (R e.1) = some (.tup [vn e.2.1, vn e.2.2])
theorem enK_put (es : En) (R : Nat → Addr) (e : Nat × Nat × Nat) (t : Addr) : putK (enK es R) (ks e.1) (V.ref t) = enK (putE es e) (setR R e.1 t) := by
  unfold putK putE
  have ea : ((enK es R).any fun kv => decide (kv.1 = ks e.1)) = es.any fun f => decide (f.1 = e.1) := by
    unfold enK
    rw [List.any_map]
    congr 1
    funext f
    show decide (ks f.1 = ks e.1) = decide (f.1 = e.1)
    by_cases q : f.1 = e.1
    · rw [q, decide_eq_true rfl, decide_eq_true rfl]
    · rw [decide_eq_false q, decide_eq_false fun z => q (ks_inj z)]
  rw [ea]
  split
  · unfold enK
    rw [List.map_map, List.map_map]
    refine List.map_congr_left fun f _ => ?_
    show (if ks f.1 = ks e.1 then (ks f.1, V.ref t) else (ks f.1, V.ref (R f.1))) = (ks (if f.1 = e.1 then e else f).1, V.ref (setR R e.1 t (if f.1 = e.1 then e else f).1))
    by_cases q : f.1 = e.1
    · rw [if_pos q, if_pos (by rw [q]), setR_same, q]
    · rw [if_neg q, if_neg fun z => q (ks_inj z), setR_ne q]
  · rename_i h
    unfold enK
    rw [List.map_append]
    congr 1
    · refine List.map_congr_left fun f hf => ?_
      rw [setR_ne fun z => h (List.any_eq_true.mpr ⟨f, hf, decide_eq_true z⟩)]
    · show [(ks e.1, V.ref t)] = [(ks e.1, V.ref (setR R e.1 t e.1))]
      rw [setR_same]
theorem mem_putE {es : En} {e f : Nat × Nat × Nat} (h : f ∈ putE es e) : f = e ∨ f ∈ es ∧ f.1 ≠ e.1 := by
  unfold putE at h
  split at h
  · obtain ⟨g, hg, rfl⟩ := List.mem_map.mp h
    by_cases q : g.1 = e.1
    · rw [if_pos q]; exact .inl rfl
    · rw [if_neg q]; exact .inr ⟨hg, q⟩
  · rename_i n
    rcases List.mem_append.mp h with q | q
    · exact .inr ⟨q, fun z => n (List.any_eq_true.mpr ⟨f, q, decide_eq_true z⟩)⟩
    · exact .inl (by simpa using q)
theorem keys_putE (es : En) (e : Nat × Nat × Nat) : (putE es e).map (·.1) = if e.1 ∈ es.map (·.1) then es.map (·.1) else es.map (·.1) ++ [e.1] := by
  unfold putE
  by_cases q : e.1 ∈ es.map (·.1)
  · obtain ⟨f, hf, ef⟩ := List.mem_map.mp q
    rw [if_pos q, if_pos (List.any_eq_true.mpr ⟨f, hf, decide_eq_true ef⟩), List.map_map]
    refine List.map_congr_left fun g _ => ?_
    show (if g.1 = e.1 then e else g).1 = g.1
    split
    · rename_i z; exact z.symm
    · rfl
  · rw [if_neg q, if_neg fun z => q ?_, List.map_append]
    · rfl
    · obtain ⟨f, hf, ef⟩ := List.any_eq_true.mp z
      exact List.mem_map.mpr ⟨f, hf, of_decide_eq_true ef⟩
/-- what is read up to (x, y) -/
structure RdP (l : List Nat) (y x : Nat) (es : En) : Prop where
  nd : (es.map (·.1)).Nodup
  ok : ∀ e ∈ es, e.1 ∈ SG ∧ chr l e.2.1 e.2.2 = some e.1
  all : ∀ x' y' c, (y' < y ∨ y' = y ∧ x' < x) → chr l x' y' = some c → c ∈ SG → c ∈ es.map (·.1)
theorem RdP.put {l : List Nat} {y x c : Nat} {es : En} (r : RdP l y x es) (hc : chr l x y = some c) (s : c ∈ SG) : RdP l y (x + 1) (putE es (c, x, y)) := by
  refine ⟨?_, fun e he => ?_, fun x' y' c' h1 h2 h3 => ?_⟩
  · rw [keys_putE]
    split
    · exact r.nd
    · rename_i n
      rw [List.nodup_append]
      exact ⟨r.nd, by simp, fun a ha b hb z => n (by rw [List.mem_singleton] at hb; rw [← hb, ← z]; exact ha)⟩
  · rcases mem_putE he with rfl | ⟨h, _⟩
    · exact ⟨s, hc⟩
    · exact r.ok e h
  · have ex : c ∈ (putE es (c, x, y)).map (·.1) ∧ ∀ d ∈ es.map (·.1), d ∈ (putE es (c, x, y)).map (·.1) := by
      rw [keys_putE]
      split
      · rename_i q; exact ⟨q, fun d hd => hd⟩
      · exact ⟨by simp, fun d hd => List.mem_append_left _ hd⟩
    by_cases e : y' = y ∧ x' = x
    · obtain ⟨rfl, rfl⟩ := e
      rw [hc] at h2
      cases h2
      exact ex.1
    · exact ex.2 _ (r.all x' y' c' (by omega) h2 h3)
theorem RdP.skip {l : List Nat} {y x : Nat} {es : En} (r : RdP l y x es) (n : ∀ c, chr l x y = some c → c ∉ SG) : RdP l y (x + 1) es := by
  refine ⟨r.nd, r.ok, fun x' y' c' h1 h2 h3 => ?_⟩
  by_cases e : y' = y ∧ x' = x
  · obtain ⟨rfl, rfl⟩ := e
    exact absurd h3 (n _ h2)
  · exact r.all x' y' c' (by omega) h2 h3
theorem RdP.row {l : List Nat} {y : Nat} {row : List Nat} {es : En} (hr : (rows l)[y]? = some row) (r : RdP l y row.length es) : RdP l (y + 1) 0 es := by
  refine ⟨r.nd, r.ok, fun x' y' c' h1 h2 h3 => ?_⟩
  by_cases e : y' = y
  · subst e
    refine r.all x' y' c' (.inr ⟨rfl, ?_⟩) h2 h3
    unfold chr at h2
    rw [hr] at h2
    exact (List.getElem?_eq_some_iff.mp h2).1
  · exact r.all x' y' c' (by omega) h2 h3
theorem RdP.end {l : List Nat} {es : En} (r : RdP l (rows l).length 0 es) : Rd3 l es := ⟨r.nd, r.ok, fun x y c h1 h2 => by
  refine r.all x y c (.inl ?_) h1 h2
  unfold chr at h1
  refine Classical.byContradiction fun n => ?_
  rw [List.getElem?_eq_none (by omega)] at h1
  cases h1⟩
--SPLIT
open Txs Pic
theorem spl_mem (c : Nat) : ∀ (l : List Nat), ∀ p ∈ spl c l, ∀ x ∈ p, x ∈ l
  | [], p, hp, x, hx => by
    have : p = [] := by simpa [spl] using hp
    rw [this] at hx
    cases hx
  | a :: r, p, hp, x, hx => by
    unfold spl at hp
    split at hp
    · rcases List.mem_cons.mp hp with rfl | hp
      · cases hx
      · exact List.mem_cons_of_mem _ (spl_mem c r p hp x hx)
    · obtain ⟨q, s, e⟩ := spl_ne c r
      rw [e] at hp
      rcases List.mem_cons.mp hp with rfl | hp
      · rcases List.mem_cons.mp hx with rfl | hx
        · exact List.mem_cons_self
        · exact List.mem_cons_of_mem _ (spl_mem c r q (by rw [e]; exact List.mem_cons_self) x hx)
      · exact List.mem_cons_of_mem _ (spl_mem c r p (by rw [e]; exact List.mem_cons_of_mem _ hp) x hx)
theorem rows_ok {l : List Nat} (h : ∀ c ∈ l, c < 128) : ∀ r ∈ rows l, ∀ c ∈ r, c < 128 := fun r hr c hc => by
  unfold rows at hr
  exact h c (spl_mem 10 l r (List.dropLast_subset _ (List.mem_reverse.mp hr)) c hc)
inductive spReadG (vs : List V) (H : Hp) (Q : VK) (Y : XK) : Prop
  | mk : ∀ (l : List Nat), (vs = [.str (tx l)]) → (∀ c ∈ l, c < 128) → (l.length ≤ 40000) → (∀ (d : Addr) (es : En) (R : Nat → Addr) (H' : Hp), Same H H' → H d = none → H' d = some (.dK (enK es R)) → EnAt H' es R → Rd3 l es → Q (.ref d) H') → spReadG vs H Q Y
theorem ok_signs_read (B : Fx) : Hs "signs_read" ["text"] 1 (spReadG) := by
  refine hs_of B.X B.d1 sc_signs_read fun f cdv A outer s H vs Q E nN hr h => ?_
  obtain ⟨l, rfl, pk, pz, k⟩ := h
  obtain ⟨u_SIGNS, m_SIGNS, r_SIGNS⟩ := cv_of B.X B.vSIGNS
  refine ⟨_, (pss_cons (pst 1 nN (pe_slice sl_list (pe_bm PySem.F.plainAttrs_str PySem.F.slot_str_split PySem.F.type_str_split mt_split (pv 0) (p1 pe_str)) po_none (po_some (pe_un un_neg pe_int))))
      (pss_one (ps_ret (pe_dc2x (Nc := ["y", "line", "x", "sign"]) (js := [none, none, none, none]) rfl rfl (pi_enum true rfl (B.z B.y5) (p1 (pe_revL (pv 1) (po_some (pe_un un_neg pe_int))))) (CS.of rfl rfl) rfl (fun C s₂ H₂ fp pins => (show PG _ _ (gTup K 2 _) from pg_tup rfl (pgs_cons (pg_name (i := 0) (show List.Nodup (α := Str) ["y", "line", "x", "sign"] by decide +kernel) rfl (Or.inl rfl)) (pgs_cons (pg_name (i := 1) (show List.Nodup (α := Str) ["y", "line", "x", "sign"] by decide +kernel) rfl (Or.inl rfl)) pgs_nil)))) (fun C s₂ H₂ fp pins => (pi_enumS rfl (B.z B.y5) (p1 (pv 1)))) (fun C s₂ H₂ fp pins => (show PG _ _ (gTup K 2 _) from pg_tup rfl (pgs_cons (pg_name (i := 2) (show List.Nodup (α := Str) ["y", "line", "x", "sign"] by decide +kernel) rfl (Or.inl rfl)) (pgs_cons (pg_name (i := 3) (show List.Nodup (α := Str) ["y", "line", "x", "sign"] by decide +kernel) rfl (Or.inl rfl)) pgs_nil)))) (fun C s₂ H₂ fp pins D L => (pt_tail1 (pt_cmpR op_in_str (pv 3) (pe_glob rfl m_SIGNS r_SIGNS) rfl) (pb_dput (hu_of hr) (pv 3) (pe_tup (p2 (pv 2) (pv 0)))))))))), ?_⟩
  try dsimp only [cxOf]
  have sl := spl_len 10 l
  obtain ⟨hd, hl', hs⟩ : ∃ (A : List (List Nat)) (z : List Nat), spl 10 l = A ++ [z] := by
    obtain ⟨p, q, e⟩ := spl_ne 10 l
    exact ⟨(spl 10 l).dropLast, (spl 10 l).getLast (by rw [e]; simp), (List.dropLast_concat_getLast _).symm⟩
  refine ⟨_, rfl, rfl, tx l, tx [10], rfl, rfl, (by rw [tx_len]; decide), (by rw [tx_len]; exact Nat.le_of_lt (smallB (by omega))), ?_, ?_, fun p1 h1 => ?_⟩
  · rw [parts_len]
    exact Nat.le_of_lt (smallB (by omega))
  · rw [split_one pk (by decide), List.length_map]
    exact Nat.le_of_lt (smallB (by omega))
  rw [split_one pk (by decide), hs]
  have er0 : rows l = hd.reverse := by unfold rows; rw [hs, List.dropLast_concat]
  have ld : hd.length ≤ 40000 := by rw [hs, List.length_append] at sl; simp at sl; omega
  have g1 := same_new h1 (.lst (((hd ++ [hl']).map tx).map V.str))
  refine ⟨_, rfl, -1, rfl, p1, _, rfl, SqL.of upd_same, fun p2 h2 => ?_⟩
  rw [cut_last]
  have g2 := g1.trans (same_new h2 (.lst ((hd.map tx).map V.str)))
  refine ⟨_, rfl, _, rfl, -1, rfl, p2, _, rfl, rfl, upd_same, fun p3 h3 => ?_⟩
  have g3 := g2.trans (same_new h3 (.lst ((hd.map tx).map V.str).reverse))
  have e3 : (upd (upd (upd H p1 (HO.lst (((hd ++ [hl']).map tx).map V.str))) p2 (.lst ((hd.map tx).map V.str))) p3 (.lst ((hd.map tx).map V.str).reverse)) p3 = some (.lst ((hd.map tx).map V.str).reverse) := upd_same
  revert g3 e3
  generalize upd (upd (upd H p1 (HO.lst (((hd ++ [hl']).map tx).map V.str))) p2 (.lst ((hd.map tx).map V.str))) p3 (.lst ((hd.map tx).map V.str).reverse) = H3
  intro g3 e3
  clear g1 g2 h1 h2 h3
  refine ⟨p3, rfl, ⟨_, SqL.of e3⟩, fun d nd => ?_⟩
  have nd0 := g3.free nd
  have nd0' := nd
  have k3 := same_new nd (.dK [])
  have er : ((hd.map tx).map V.str).reverse = (rows l).map fun r => V.str (tx r) := by rw [er0, ← List.map_reverse, ← List.map_reverse, List.map_map]; rfl
  rw [er] at e3
  have rok := rows_ok pk
  refine walk_enum (k := true) (xs := (rows l).map fun r => V.str (tx r)) (fun i σ H2 => ∃ (x0 x1 x2 x3 : Option V) (es : En) (R : Nat → Addr), σ = [x0, x1, x2, x3] ∧ Same H3 H2 ∧ H2 d = some (.dK (enK es R)) ∧ EnAt H2 es R ∧ RdP l i 0 es)
    ⟨_, _, _, _, [], fun _ => 0, rfl, k3, upd_same, (fun e he => (nomatch he)), ⟨List.nodup_nil, (fun e he => (nomatch he)), fun x' y' c h => by omega⟩⟩ ?_ ?_ ?_
  · rintro i σ H2 _ ⟨x0, x1, x2, x3, es, R, rfl, g2, _⟩
    exact SqL.of (g2 _ _ e3)
  · rintro i x T σ H2 hx nT ⟨x0, x1, x2, x3, es, R, rfl, g2, hd', F2, S2⟩
    rw [List.getElem?_map] at hx
    obtain ⟨row, hrow, rfl⟩ := Option.map_eq_some_iff.mp hx
    have ro := rok row (List.mem_of_getElem? hrow)
    have gT := same_new nT (.tup [.int i, .str (tx row)])
    refine ⟨T, _, rfl, SqT.of upd_same, rfl, _, _, rfl, _, _, rfl, rfl, ?_⟩
    have g4 := g2.trans gT
    have hd4 := gT _ _ hd'
    have F4 : EnAt _ es R := fun e he => gT _ _ (F2 e he)
    generalize upd H2 T (.tup [.int i, .str (tx row)]) = H4 at *
    refine ⟨_, rfl, _, rfl, asc_tx ro, ?_⟩
    refine walk_enumS (fun j σ H5 => ∃ (x2 x3 : Option V) (es : En) (R : Nat → Addr), σ = [some (vn i), some (.str (tx row)), x2, x3] ∧ Same H3 H5 ∧ H5 d = some (.dK (enK es R)) ∧ EnAt H5 es R ∧ RdP l i j es)
      ⟨_, _, es, R, rfl, g4, hd4, F4, S2⟩ ?_ ?_
    · rintro j c T σ H5 hc nT ⟨x2, x3, es, R, rfl, g5, hd5, F5, S5⟩
      rw [tx_at] at hc
      have ch : chr l j i = some c := by unfold chr; rw [hrow]; exact hc
      have gT := same_new nT (.tup [.int j, .str ⟨#[c]⟩])
      refine ⟨T, _, rfl, SqT.of upd_same, rfl, _, _, rfl, _, _, rfl, rfl, ?_⟩
      have g6 := g5.trans gT
      have hd6 := gT _ _ hd5
      have F6 : EnAt _ es R := fun e he => gT _ _ (F5 e he)
      generalize upd H5 T (.tup [.int j, .str ⟨#[c]⟩]) = H6 at *
      clear g5 F5 hd5 nT gT
      refine ⟨_, rfl, tx [c], _, rfl, rfl, ?_⟩
      rw [sg_str, in_one]
      refine ⟨_, rfl, ?_⟩
      show if decide (c ∈ SG) = true then _ else _
      by_cases s : c ∈ SG
      · rw [decide_eq_true s]
        refine iteT ?_
        refine ⟨_, rfl, _, rfl, _, rfl, (by show 2 ≤ sizeLine; decide), fun t nt => ?_⟩
        have gt := same_new nt (.tup [vn j, vn i])
        have few : es.length ≤ 40 := by
          have := List.Nodup.length_le_of_subset S5.nd (l₂ := SG) fun c hc => by
            obtain ⟨e, he, rfl⟩ := List.mem_map.mp hc
            exact (S5.ok e he).1
          rw [List.length_map] at this
          exact this
        refine ⟨_, DPut.k (k := ks c) (gt _ _ hd6) (smallB (by unfold enK; rw [List.length_map]; omega)), ?_⟩
        have td : t ≠ d := fun z => by rw [z, hd6] at nt; cases nt
        refine ⟨_, _, putE es (c, j, i), setR R c t, rfl, keep_upd nd0' (g6.trans gt), ?_, fun e he => ?_, S5.put ch s⟩
        · rw [upd_same]
          exact congrArg (fun z => some (HO.dK z)) (enK_put es R (c, j, i) t)
        · rcases mem_putE he with rfl | ⟨h1, h2⟩
          · rw [setR_same, upd_ne td]
            exact upd_same
          · rw [setR_ne h2]
            have f := F6 e h1
            rw [upd_ne (fun z => by rw [z, hd6] at f; cases f)]
            exact gt _ _ f
      · rw [decide_eq_false s]
        exact iteF ⟨_, _, es, R, rfl, g6, hd6, F6, S5.skip fun c' h => by rw [ch] at h; cases h; exact s⟩
    · rintro σ H5 ⟨x2, x3, es, R, rfl, g5, hd5, F5, S5⟩
      rw [tx_size] at S5
      exact ⟨_, _, _, _, es, R, rfl, g5, hd5, F5, S5.row hrow⟩
  · rintro σ H2 ⟨x0, x1, x2, x3, es, R, rfl, g2, hd', F2, S2⟩
    rw [List.length_map] at S2
    exact k d es R _ (g3.trans g2) nd0 hd' F2 S2.end
--SPLIT
open Txs Pic
theorem en_keys (es : En) (R : Nat → Addr) : (enK es R).map (·.1) = (es.map (·.1)).map ks := by
  unfold enK
  rw [List.map_map, List.map_map]
  rfl
theorem val_en {es : En} {R : Nat → Addr} (nd : (es.map (·.1)).Nodup) (c : Nat) : valV (enK es R) (ks c) = if c ∈ es.map (·.1) then some (.ref (R c)) else none := by
  split
  · rename_i h
    refine Dcl.val_mem ?_ ?_
    · rw [en_keys]
      exact List.pairwise_map.mpr (nd.imp fun ne e => ne (ks_inj e))
    · obtain ⟨e, he, rfl⟩ := List.mem_map.mp h
      exact List.mem_map.mpr ⟨e, he, rfl⟩
  · rename_i h
    refine Dcl.val_none fun z => h ?_
    rw [en_keys] at z
    obtain ⟨b, hb, e⟩ := List.mem_map.mp z
    exact ks_inj e ▸ hb
structure FitsG (es : En) : Prop where
  lo : 3 ≤ es.length
  sg : ∀ i, i < es.length → SG.getD i 0 ∈ es.map (·.1)
  xy : ∀ e ∈ es, e.2.1 ≤ 76 ∧ e.2.2 ≤ 40
def inK (es : En) (c : Nat) : Bool := decide (c ∈ es.map (·.1))
def inB (e : Nat × Nat × Nat) : Bool := decide (e.2.1 ≤ 76) && decide (e.2.2 ≤ 40)
inductive spFitsG (vs : List V) (H : Hp) (Q : VK) (Y : XK) : Prop
  | mk : ∀ (l : List Nat) (es : En) (R : Nat → Addr) (d : Addr), (vs = [.ref d]) → (Rd3 l es) → (H d = some (.dK (enK es R))) → (EnAt H es R) → (∀ (b : Bool) (H' : Hp), SameBut d H H' → Rd H' d (.dK (enK es R)) → EnAt H' es R → (b = true ↔ FitsG es) → Q (.bl b) H') → spFitsG vs H Q Y
theorem ok_fits (B : Fx) : Hs "fits" ["found"] 1 (spFitsG) := by
  refine hs_of B.X B.d2 sc_fits fun f cdv A outer s H vs Q E nN hr h => ?_
  obtain ⟨l, es, R, d, rfl, r, hd, F, k⟩ := h
  obtain ⟨u_SIGNS, m_SIGNS, r_SIGNS⟩ := cv_of B.X B.vSIGNS
  obtain ⟨u_FEWEST, m_FEWEST, r_FEWEST⟩ := cv_of B.X B.vFEWEST
  obtain ⟨u_WIDEST, m_WIDEST, r_WIDEST⟩ := cv_of B.X B.vWIDEST
  obtain ⟨u_HIGHEST, m_HIGHEST, r_HIGHEST⟩ := cv_of B.X B.vHIGHEST
  refine ⟨_, (pss_cons (ps_if (PW.pt (pw_or (pt_cmpR op_lt (pe_callB call_lenD rfl (B.z B.y8) PySem.boot_len (p1 (pv 0))) (pe_glob rfl m_FEWEST r_FEWEST) (nomark _)) (pw_or1 (pt_not (pt_val (pe_callB (call_allL rfl) rfl (B.z B.y7) PyProof.Rows.boot_all (p1 (pe_lc1x (Nc := ["sign", "found"]) (js := [none, some 0]) rfl rfl (pi_str (pe_slice sl_str (pe_glob rfl m_SIGNS r_SIGNS) po_none (po_some (pe_callB call_lenD rfl (B.z B.y8) PySem.boot_len (p1 (pv 0)))))) (CS.of rfl rfl) rfl (fun C s₂ H₂ fp pins => (pgc 0)) (fun C s₂ H₂ fp pins D L => (pt_tail0 (pb_app (pe_cmp (pc_din (hu_of hr) (pv 0) (pv 1)))))))))))))) (pss_one (ps_ret pe_bl)) pss_nil)
      (pss_one (ps_ret (pe_callB (call_allL rfl) rfl (B.z B.y7) PyProof.Rows.boot_all (p1 (pe_lc1x (Nc := ["x", "y"]) (js := [none, none]) rfl rfl (pi_values (pv 0)) (CS.of rfl rfl) rfl (fun C s₂ H₂ fp pins => (show PG _ _ (gTup K 2 _) from pg_tup rfl (pgs_cons (pgc 0) (pgs_cons (pgc 1) pgs_nil)))) (fun C s₂ H₂ fp pins D L => (pt_tail0 (pb_app (pe_and (pe_cmpR op_le (pv 0) (pe_glob rfl m_WIDEST r_WIDEST) (nomark _)) (pe_one (pe_cmpR op_le (pv 1) (pe_glob rfl m_HIGHEST r_HIGHEST) (nomark _))))))))))))), ?_⟩
  try dsimp only [cxOf]
  have hf := r.few
  have hl : (enK es R).length = es.length := by unfold enK; rw [List.length_map]
  refine ⟨_, rfl, d, _, rfl, .inl hd, _, _, rfl, rfl, _, rfl, ?_⟩
  rw [hl]
  by_cases lo : 3 ≤ es.length
  rotate_left
  · rw [decide_eq_true (show ((es.length : Nat) : Int) < 3 by omega)]
    refine iteT ?_
    exact k false _ (SameBut.refl _ _) (.inl hd) F ⟨fun z => (nomatch z), fun z => absurd z.lo lo⟩
  rw [decide_eq_false (show ¬ ((es.length : Nat) : Int) < 3 by omega)]
  refine iteF ?_
  refine ⟨_, rfl, d, _, rfl, .inl hd, _, rfl, _, rfl, (by show 40 ≤ sizeLine; exact small (by decide)), ?_⟩
  rw [hl, sg_str, slice_to _ (by rw [sg_len]; exact hf)]
  refine ⟨_, rfl, asc_tx (fun c hc => (sg_lt (List.mem_of_mem_take hc)).1), fun C nC => ?_⟩
  have kC := same_new nC (.lst [])
  refine walk_str (fun i σ H2 => ∃ (x0 : Option V), σ = [x0, some (.ref d)] ∧ Same H H2 ∧ H2 C = some (.lst (((SG.take i).map (inK es)).map V.bl))) ⟨none, rfl, kC, upd_same⟩ ?_ ?_
  · rintro i c σ H2 hc ⟨x0, rfl, g2, hC⟩
    rw [tx_at] at hc
    have hi := (List.getElem?_eq_some_iff.mp hc).1
    rw [List.length_take, sg_len] at hi
    rw [List.getElem?_take_of_lt (by omega)] at hc
    refine ⟨_, rfl, _, rfl, d, _, rfl, .inl ⟨_, ks c, .inl (g2 _ _ hd), rfl, rfl⟩, ?_⟩
    rw [val_en r.nd]
    refine ⟨_, hC, small1000 (by rw [List.length_map, List.length_map, List.length_take, sg_len]; omega), _, rfl, keep_upd nC g2, ?_⟩
    rw [map_snoc _ hc, List.map_append, upd_same]
    have : V.bl (inK es c) = V.bl (if c ∈ es.map (·.1) then some (V.ref (R c)) else none).isSome := by
      unfold inK
      by_cases m : c ∈ es.map (·.1)
      · rw [if_pos m, decide_eq_true m]; rfl
      · rw [if_neg m, decide_eq_false m]; rfl
    rw [← this]
    rfl
  rintro σ H2 ⟨x0, rfl, g2, hC⟩
  rw [tx_size, List.length_take, sg_len, Nat.min_eq_left hf] at hC
  refine ⟨C, _, rfl, SqL.of hC, _, rfl, ?_⟩
  have hd2 := g2 _ _ hd
  have F2 : EnAt H2 es R := fun e he => g2 _ _ (F e he)
  have al : ((SG.take es.length).map (inK es)).all id = true ↔ ∀ i, i < es.length → SG.getD i 0 ∈ es.map (·.1) := by
    rw [List.all_map, List.all_eq_true]
    refine ⟨fun z i hi => ?_, fun z c hc => ?_⟩
    · have := z (SG.getD i 0) (List.mem_of_getElem? (i := i) (by rw [List.getElem?_take_of_lt hi, sg_at (by omega)]))
      exact of_decide_eq_true this
    · obtain ⟨i, hi, rfl⟩ := List.getElem_of_mem hc
      rw [List.length_take, sg_len] at hi
      have := z i (by omega)
      refine decide_eq_true ?_
      rw [List.getElem_take]
      have e := sg_at (i := i) (by omega)
      rw [List.getElem?_eq_getElem (by rw [sg_len]; omega)] at e
      rw [Option.some.inj e]
      exact this
  by_cases sg : ((SG.take es.length).map (inK es)).all id = true
  rotate_left
  · rw [Bool.eq_false_iff.mpr sg]
    refine iteT ?_
    exact k false _ (SameBut.of g2) (.inl hd2) F2 ⟨fun z => (nomatch z), fun z => absurd (al.mpr z.sg) sg⟩
  rw [sg]
  refine iteF ?_
  clear hC kC nC C
  refine ⟨_, rfl, d, _, rfl, .inl ⟨hd2, fun fo C nC => ?_⟩⟩
  have F3 : EnAt (upd H2 d (.frz fo (.dK (enK es R)))) es R := fun e he => by
    have := F2 e he
    rw [upd_ne (fun z => by rw [z, hd2] at this; cases this)]
    exact this
  have hd3 : upd H2 d (.frz fo (.dK (enK es R))) d = some (.frz fo (.dK (enK es R))) := upd_same
  have g3 : SameBut d H (upd H2 d (.frz fo (.dK (enK es R)))) := (SameBut.of g2).trans but_upd
  generalize upd H2 d (.frz fo (.dK (enK es R))) = H3 at *
  have kC := same_new nC (.lst [])
  refine walk_values (kvs := enK es R) (fun i σ H4 => ∃ (x0 x1 : Option V), σ = [x0, x1] ∧ Same H3 H4 ∧ H4 C = some (.lst (((es.take i).map inB).map V.bl))) ⟨none, none, rfl, kC, upd_same⟩ ?_ ?_ ?_
  · rintro i σ H4 _ ⟨x0, x1, rfl, g4, _⟩
    exact g4 _ _ hd3
  · rintro i kv σ H4 hkv ⟨x0, x1, rfl, g4, hC⟩
    unfold enK at hkv
    rw [List.getElem?_map] at hkv
    obtain ⟨e, he, rfl⟩ := Option.map_eq_some_iff.mp hkv
    have e3 := F3 e (List.mem_of_getElem? he)
    have hi := (List.getElem?_eq_some_iff.mp he).1
    refine ⟨R e.1, _, rfl, SqT.of (g4 _ _ e3), rfl, _, _, rfl, _, _, rfl, rfl, ?_⟩
    refine ⟨_, rfl, _, _, rfl, rfl, _, rfl, ?_⟩
    by_cases bx : e.2.1 ≤ 76
    · rw [decide_eq_true (show ((e.2.1 : Nat) : Int) ≤ 76 by omega)]
      refine iteT ⟨_, rfl, _, _, rfl, rfl, ?_⟩
      refine ⟨_, hC, small1000 (by rw [List.length_map, List.length_map, List.length_take]; omega), _, _, rfl, keep_upd nC g4, ?_⟩
      rw [map_snoc _ he, List.map_append, upd_same]
      have : inB e = decide (((e.2.2 : Nat) : Int) ≤ 40) := by
        unfold inB
        rw [decide_eq_true bx, Bool.true_and]
        exact decide_eq_decide.mpr (by omega)
      rw [← this]
      rfl
    · rw [decide_eq_false (show ¬ ((e.2.1 : Nat) : Int) ≤ 76 by omega)]
      refine iteF ?_
      refine ⟨_, hC, small1000 (by rw [List.length_map, List.length_map, List.length_take]; omega), _, _, rfl, keep_upd nC g4, ?_⟩
      rw [map_snoc _ he, List.map_append, upd_same]
      have : inB e = false := by
        unfold inB
        rw [decide_eq_false bx, Bool.false_and]
      rw [← this]
      rfl
  rintro σ H4 ⟨x0, x1, rfl, g4, hC⟩
  rw [hl, List.take_length] at hC
  refine ⟨C, _, rfl, SqL.of hC, ?_⟩
  refine k _ _ (g3.trans (SameBut.of g4)) (.inr ⟨fo, g4 _ _ hd3⟩) (fun e he => g4 _ _ (F3 e he)) ?_
  have xy : (es.map inB).all id = true ↔ ∀ e ∈ es, e.2.1 ≤ 76 ∧ e.2.2 ≤ 40 := by
    rw [List.all_map, List.all_eq_true]
    unfold inB
    simp
  rw [xy]
  exact ⟨fun z => ⟨lo, al.mp sg, z⟩, fun z => z.xy⟩
--SPLIT
open Txs Pic
theorem ok_words {C : Addr} {y : Str} {H : Hp} {E : XK} (ve : PySem.W.mroIn K C (.type "ValueError") = some true) (x0 : Ex.XK0 K C) (q : ∀ H', Same H H' → E (.ref C) none H') :
    ∀ a, H a = none → spInitD K [.ref a, .str y] (upd H a (.ext (XO a C none .none))) (fun v H2 => v = .non ∧ sRaiseY K E (.ref a) H2) E0 := by
  refine fun a na => ⟨a, C, y, rfl, upd_same, x0, ve, rfl, a, C, none, rfl, ⟨upd_same, fun d' e => by cases e⟩, x0, fun T nT nTa => q _ fun b o e => ?_⟩
  have ba : b ≠ a := ne_of_none e na
  have e1 : upd H a (.ext (XO a C none .none)) b = some o := by rw [upd_ne ba]; exact e
  unfold tr2
  rw [upd_ne ba, upd_ne (ne_of_none e1 nT)]
  exact e1
theorem fits_pic {ps : Pl} (o : Pic.Ok ps) {W h : Nat} (b : Bx ps W h) {es : En} (r : Rd3 (pic ps W h) es) : FitsG es := by
  obtain ⟨l, h1, h2⟩ := r.pic o b
  have lo := o.lo
  refine ⟨by omega, fun i hi => h2 i (by omega), fun e he => ?_⟩
  obtain ⟨i, _, z⟩ := h1 e he
  have m := List.mem_of_getElem? z
  exact ⟨o.x _ m, o.y _ m⟩
theorem tx_inj {a b : List Nat} (h : tx a = tx b) : a = b := by
  have := congrArg (fun s : Str => s.cps.toList) h
  simpa [tx] using this
theorem rd_kept {H H' : Hp} {a : Addr} {u : HO} (h : Rd H a u) (g : Same H H') : Rd H' a u := by
  rcases h with h | ⟨o, h⟩
  · exact .inl (g _ _ h)
  · exact .inr ⟨o, g _ _ h⟩
/-- a text, or a thing that is none; H' is what is left -/
inductive spReadX (vs : List V) (H : Hp) (Q : VK) (E : XK) : Prop
  | txt : ∀ (C : Addr) (l : List Nat), (mg "NoText" = some (.ref C)) → (vs = [.str (tx l)]) → (∀ c ∈ l, c < 128) → (l.length ≤ 40000) → (∀ (ps : Pl) (W h : Nat) (a : Addr) (ts : List Addr) (H' : Hp), Pic.Ok ps → Bx ps W h → l = pic ps W h → Same H H' → PlAt H' a ps ts → Q (.ref a) H') →
      ((¬ ∃ (ps : Pl) (W h : Nat), Pic.Ok ps ∧ Bx ps W h ∧ l = pic ps W h) → ∀ H', Same H H' → E (.ref C) none H') → spReadX vs H Q E
  | oth : ∀ (C : Addr) (x : V) (t : Value), (mg "NoText" = some (.ref C)) → (vs = [x]) → (TyOf K H x t) → (PySem.W.kitOne K t (.type "str") = some false) → (∀ H', Same H H' → E (.ref C) none H') → spReadX vs H Q E
theorem ok_read_picture (B : Fx) : HasX P w K mg base "read_picture" ["text"] 3 spReadX := by
  refine hsX_of B.X B.d3 sc_read_picture (fun f cdv A outer s H vs Q E nN hr h => ?_) (by intro _ _ _ _ h; cases h <;> (subst_vars; rfl)) (by intro _ _ _ _ _ _ us hl; obtain ⟨_, rfl⟩ := len1 hl; rfl)
  obtain ⟨u_SIGNS, m_SIGNS, r_SIGNS⟩ := cv_of B.X B.vSIGNS
  obtain ⟨C, D, F, fd, g_NoText, gD, m_NoText, f_NoText, b_NoText, ve, vd⟩ := wx_of B.X B.w_NoText B.xg sc_init_DrawError (fun f fd F z => ok_init_D F z B.xg.vf) (fun f fd F => F.binds (by intro _ _ _ _ _ _ us hl; obtain ⟨_, _, rfl⟩ := len2 hl; rfl))
  refine ⟨_, (pss_cons (ps_if (pt_not (pt_val (pe_callB Own.call_isi rfl (B.z B.y3) PyProof.Rows.boot_isinstance (p2 (pv 0) (pe_bltn (v := .ty "str") rfl (B.z B.y9) PyProof.Rows.boot_str rfl))))) (pss_one (ps_raise (E := E) (pe_xmake m_NoText f_NoText (hr.mono (by decide)) rfl g_NoText b_NoText (by decide) (p1 pe_str)) rfl rfl rfl rfl rfl)) pss_nil)
      (pss_cons (pst 1 nN (pf (ok_signs_read B) hr (p1 (pv 0))))
      (pss_cons (ps_if (pt_not (pt_val (pf (ok_fits B) hr (p1 (pv 1))))) (pss_one (ps_raise (E := E) (pe_xmake m_NoText f_NoText (hr.mono (by decide)) rfl g_NoText b_NoText (by decide) (p1 pe_str)) rfl rfl rfl rfl rfl)) pss_nil)
      (pss_cons (pst 2 nN (pe_callTy call_tuple_of rfl (B.z B.y10) PyProof.Rows.boot_tuple (p1 (PE.nox (pe_lc1x (Nc := ["sign", "found"]) (js := [none, some 1]) rfl rfl (pi_str (pe_slice sl_str (pe_glob rfl m_SIGNS r_SIGNS) po_none (po_some (pe_callB call_lenD rfl (B.z B.y8) PySem.boot_len (p1 (pv 1)))))) (CS.of rfl rfl) rfl (fun C s₂ H₂ fp pins => (pgc 0)) (fun C s₂ H₂ fp pins D L => (pt_tail0 (pb_app (pe_dget (hu_of hr) (pv 1) (pv 0) (fun _ _ => rfl))))))))))
      (pss_cons (ps_if (pt_cmpR op_ne (pf (ok_picture B) hr (p1 (pv 2))) (pv 0) (nomark _)) (pss_one (ps_raise (E := E) (pe_xmake m_NoText f_NoText (hr.mono (by decide)) rfl g_NoText b_NoText (by decide) (p1 pe_str)) rfl rfl rfl rfl rfl)) pss_nil)
      (pss_one (ps_ret (pv 2)))))))), ?_⟩
  try dsimp only [cxOf]
  rcases h with ⟨C', l, mC, rfl, ok, sz, kq, ke⟩ | ⟨C', x, t, mC, rfl, ty, kt, ke⟩
  rotate_left
  · obtain rfl : C = C' := by rw [g_NoText] at mC; cases mC; rfl
    refine ⟨_, rfl, _, _, _, _, rfl, ty, kt, _, rfl, ?_⟩
    refine iteT ?_
    exact ok_words ve m_NoText.x0 ke
  obtain rfl : C = C' := by rw [g_NoText] at mC; cases mC; rfl
  refine ⟨_, rfl, _, _, _, _, rfl, .str _, rfl, _, rfl, ?_⟩
  refine iteF ?_
  refine ⟨_, rfl, l, rfl, ok, sz, fun d es R H1 g1 nd hd F1 r => ?_⟩
  refine ⟨_, rfl, l, es, R, d, rfl, r, hd, F1, fun b H2 g2 hd2 F2 fb => ⟨_, rfl, ?_⟩⟩
  have g12 : Same H H2 := fun c u e => g2 c u (ne_of_none e nd) (g1 c u e)
  cases b with
  | false =>
    refine iteT ?_
    refine ok_words ve m_NoText.x0 fun H' g => ke ?_ H' (g12.trans g)
    rintro ⟨ps, W, h, o, b, rfl⟩
    exact absurd (fb.mpr (fits_pic o b r)) (by decide)
  | true =>
  refine iteF ?_
  have ft := fb.mp rfl
  have hf := r.few
  have hl : (enK es R).length = es.length := by unfold enK; rw [List.length_map]
  refine ⟨_, rfl, d, _, rfl, hd2, _, rfl, _, rfl, (by show 40 ≤ sizeLine; exact small (by decide)), ?_⟩
  rw [hl, sg_str, slice_to _ (by rw [sg_len]; exact hf)]
  refine ⟨_, rfl, asc_tx (fun c hc => (sg_lt (List.mem_of_mem_take hc)).1), fun C0 nC => ?_⟩
  have kC := same_new nC (.lst [])
  refine walk_str (fun i σ H3 => ∃ (x0 : Option V) (ts : List Addr) (ps : Pl), σ = [x0, some (.ref d)] ∧ Same H2 H3 ∧ H3 C0 = some (.lst (ts.map V.ref)) ∧ ts.length = i ∧ ps.length = i ∧ (∀ (j x y : Nat), ps[j]? = some (x, y) → (SG.getD j 0, x, y) ∈ es) ∧ ∀ (j : Nat) (t : Addr) (p : Nat × Nat), ts[j]? = some t → ps[j]? = some p → H3 t = some (.tup [vn p.1, vn p.2])) ⟨none, [], [], rfl, kC, upd_same, rfl, rfl, fun j x y e => by simp at e, fun j t p e => by simp at e⟩ ?_ ?_
  · rintro i c σ H3 hc ⟨x0, ts, ps, rfl, g3, hC, tl, pl, hps, ht⟩
    rw [tx_at] at hc
    have hi := (List.getElem?_eq_some_iff.mp hc).1
    rw [List.length_take, sg_len] at hi
    rw [List.getElem?_take_of_lt (by omega), sg_at (by omega)] at hc
    cases hc
    have m := ft.sg i (by omega)
    obtain ⟨e, he, e1⟩ := List.mem_map.mp m
    have F3 := g3 _ _ (F2 e he)
    have hd3 : Rd H3 d (.dK (enK es R)) := rd_kept hd2 g3
    refine ⟨_, rfl, _, rfl, d, _, rfl, .inl ⟨_, ks (SG.getD i 0), hd3, rfl, ((val_en r.nd _).trans (if_pos m)).symm⟩, ?_⟩
    refine ⟨_, hC, small1000 (by rw [List.length_map]; omega), _, ts ++ [R (SG.getD i 0)], ps ++ [e.2], rfl, keep_upd nC g3, ?_, by rw [List.length_append, tl]; rfl, by rw [List.length_append, pl]; rfl, fun j x y f => ?_, fun j t' p f1 f2 => ?_⟩
    · rw [List.map_append]
      exact upd_same
    · rcases snoc f with ⟨h1, h2⟩ | ⟨rfl, h2⟩
      · exact hps j x y h2
      · have : e = (SG.getD ps.length 0, x, y) := by
          rw [pl, ← e1, ← (Option.some.inj h2 : e.2 = (x, y))]
        rw [← this]
        exact he
    · have : H3 t' = some (.tup [vn p.1, vn p.2]) := by
        rcases snoc f1 with ⟨h1, h2⟩ | ⟨rfl, h2⟩
        · rcases snoc f2 with ⟨h3, h4⟩ | ⟨rfl, h4⟩
          · exact ht j t' p h2 h4
          · omega
        · rcases snoc f2 with ⟨h3, h4⟩ | ⟨_, h4⟩
          · omega
          · cases h2
            cases h4
            rw [← e1]
            exact F3
      rw [upd_ne (fun z => by rw [z, hC] at this; cases this)]
      exact this
  rintro σ H3 ⟨x0, ts, ps, rfl, g3, hC, tl, pl, hps, ht⟩
  rw [tx_size, List.length_take, sg_len] at tl pl
  refine ⟨C0, _, rfl, .inl ⟨SqL.of hC, fun a na => ?_⟩⟩
  have ga := same_new na (.tup (ts.map V.ref))
  have P : PlAt (upd H3 a (.tup (ts.map V.ref))) a ps ts := ⟨upd_same, by omega, fun i t p e1 e2 => ga _ _ (ht i t p e1 e2)⟩
  have g4 := g12.trans (g3.trans ga)
  have pk : Pk es ps := ⟨by omega, hps⟩
  have o := Pk.ok r pk ft.lo ft.xy
  generalize upd H3 a (.tup (ts.map V.ref)) = H4 at *
  refine ⟨_, rfl, a, ts, ps, rfl, P, o, fun W' h' H5 b' g5 => ?_⟩
  refine ⟨_, rfl, rfl, ?_⟩
  refine ⟨_, rfl, ?_⟩
  by_cases same : pic ps W' h' = l
  · rw [decide_eq_true (congrArg (fun z => V.str (tx z)) same)]
    refine iteF ?_
    exact ⟨_, rfl, kq ps W' h' a ts _ o b' same.symm (g4.trans g5) (P.kept g5)⟩
  · rw [decide_eq_false (fun z => same (tx_inj (V.str.inj z)))]
    refine iteT ?_
    refine ok_words ve m_NoText.x0 fun H' g => ke ?_ H' ((g4.trans g5).trans g)
    rintro ⟨ps', W, h, o', b, rfl⟩
    obtain rfl := Pk.same o' b r pk
    obtain ⟨rfl, rfl⟩ := b.uniq b'
    exact same rfl
--SPLIT
open Txs Pic
def SameX (H H' : Hp) : Prop := ∀ b o, (∀ φ, o ≠ .ext φ) → H b = some o → H' b = some o
/-- what read_picture tells, 13 where it refuses -/
inductive ToldY (x : V) (H : Hp) (Q : VK) : Prop
  | txt : ∀ (l : List Nat), (x = .str (tx l)) → (∀ c ∈ l, c < 128) → (l.length ≤ 40000) → (∀ (ps : Pl) (W h : Nat) (a : Addr) (ts : List Addr) (H' : Hp), Pic.Ok ps → Bx ps W h → l = pic ps W h → Same H H' → PlAt H' a ps ts → Q (.ref a) H') →
      ((¬ ∃ (ps : Pl) (W h : Nat), Pic.Ok ps ∧ Bx ps W h ∧ l = pic ps W h) → ∀ H', SameX H H' → Q (.int 13) H') → ToldY x H Q
  | oth : ∀ (t : Value), (TyOf K H x t) → (PySem.W.kitOne K t (.type "str") = some false) → (∀ H', SameX H H' → Q (.int 13) H') → ToldY x H Q
inductive spTold (vs : List V) (H : Hp) (Q : VK) (Y : XK) : Prop
  | mk : ∀ (x : V), (vs = [x]) → ToldY x H Q → spTold vs H Q Y
theorem spReadX.mono {vs : List V} {H : Hp} {Q Q' : VK} {E : XK} (f : ∀ v H', Q v H' → Q' v H') (h : spReadX vs H Q E) : spReadX vs H Q' E := by
  cases h with
  | txt C l a b c d e g => exact .txt C l a b c d (fun ps W h a ts H' x1 x2 x3 x4 x5 => f _ _ (e ps W h a ts H' x1 x2 x3 x4 x5)) g
  | oth C x t a b c d e => exact .oth C x t a b c d e
theorem ok_law_told (B : Fx) : Hs "_law_told" ["_law_thing"] 4 (spTold) := by
  refine hs_of B.X B.d14 sc_law_told fun f cdv A outer s H vs Q E nN hr h => ?_
  obtain ⟨fo, od, FO, bo, ko, mo⟩ := ok_read_picture B
  obtain ⟨D, g_D, GD, ht⟩ := dx_of B.X B.xd
  obtain ⟨C, D', F', fd', g_NoText, gD', m_NoText, f_NoText, b_NoText, ve, vd⟩ := wx_of B.X B.w_NoText B.xg sc_init_DrawError (fun f fd F z => ok_init_D F z B.xg.vf) (fun f fd F => F.binds (by intro _ _ _ _ _ _ us hl; obtain ⟨_, _, rfl⟩ := len2 hl; rfl))
  obtain rfl : D = D' := by rw [g_D] at gD'; cases gD'; rfl
  refine ⟨_, (pss_cons (ps_set (i := 1) sc_law_told.nd rfl (Or.inl rfl) pe_non)
    (pss_cons (ps_try (i := 2) (E := fun cls dx H' => cls = .ref C ∧ dx = none ∧ Same H H' ∧ ∀ H'', SameX H H'' → Q (.int 13) H'') sc_law_told.nd rfl rfl rfl g_D GD ht rfl rfl
      (fun pins E' hp => pss_one (ps_set (i := 1) sc_law_told.nd rfl (Or.inl rfl) (pe_call FO hr rfl mo ko bo .nil hp (pa_cons (pv 0) pa_nil))))
      (fun a => pss_one (ps_set (i := 1) sc_law_told.nd rfl (Or.inl rfl) (pe_hasN (ok_law_which B) ((hr.n.mark _).mono (by decide)) rfl (pa_cons (pv 2) pa_nil)))))
    (pss_one (ps_ret (pv 1))))), ?_⟩
  obtain ⟨x, rfl, h⟩ := h
  have hq : spReadX [x] H (fun v H' => Q v H') (fun cls dx H' => cls = .ref C ∧ dx = none ∧ Same H H' ∧ ∀ H'', SameX H H'' → Q (.int 13) H'') := by
    cases h with
    | txt l a b c d e => exact .txt C l g_NoText (by rw [a]) b c d fun nx H' g => ⟨rfl, rfl, g, e nx⟩
    | oth t a b c => exact .oth C x t g_NoText rfl a b fun H' g => ⟨rfl, rfl, g, c⟩
  refine ⟨⟨_, rfl, hq.mono fun v H' z => ⟨_, rfl, z⟩⟩, fun σ' H' e C' dx T hl hE xa hT => ?_⟩
  obtain ⟨eC, rfl, g, q⟩ := hE
  cases eC
  obtain ⟨w0, w1, w2, rfl⟩ : ∃ w0 w1 w2, σ' = [w0, w1, w2] := by
    match σ', hl with
    | [w0, w1, w2], _ => exact ⟨_, _, _, rfl⟩
  refine ⟨m_NoText.x0, vd, fun T' nT na => ?_⟩
  refine ⟨_, rfl, e, C, none, .ref T', rfl, ⟨upd_same, fun d z => by cases z⟩, m_NoText.x0, g_NoText, fun H2 g2 => ?_⟩
  refine ⟨_, rfl, q H2 fun b o ne eb => g2 b o ?_⟩
  have eb := g _ _ eb
  have m1 : b ≠ e := fun z => by subst z; rw [xa.1] at eb; cases eb; exact ne _ rfl
  unfold tr2
  rw [upd_ne m1, upd_ne (ne_of_none eb nT)]
  exact eb
--SPLIT
open Txs Pic
inductive spSigns (vs : List V) (H : Hp) (Q : VK) (Y : XK) : Prop
  | mk : (vs = []) → (Q (.str (tx SG)) H) → spSigns vs H Q Y
theorem ok_law_signs (B : Fx) : Hs "_law_signs" [] 1 (spSigns) := by
  refine hs_of B.X B.d6 sc_law_signs fun f cdv A outer s H vs Q E nN hr h => ?_
  obtain ⟨rfl, k⟩ := h
  refine ⟨_, (pss_one (ps_ret pe_str)), ?_⟩
  try dsimp only [cxOf]
  rw [← sg_str] at k
  exact k
theorem pf0 {X : Cx} {x : Str} {p pos : Pos} {j k : Nat} {ps : List Str} {sp : Sp} (h : Own.Has X.prog X.w X.K X.mg X.base x ps j sp) (hr : Room k X.A) (hj : j ≤ k := by decide) (hg : Gl X x := by rfl) (hdb : (x == ("__debug__" : Str)) = false := by decide) : PE X (.Call (.Name x p) [] [] pos) (tCall sp [] E0 tNil) := by
  obtain ⟨f, fd, F, b, kp, m⟩ := h
  exact pe_call0 F (hr.mono hj) hg m kp b .nil pass0 hdb
theorem ch_at {l : List Nat} {d : Int} (d0 : 0 ≤ d) (d1 : d < l.length) (h : ∀ c ∈ l, c < 128) : ∃ c, atI (tx l).cps.toList d = some c ∧ c < 128 := by
  have hd : d.toNat < l.length := by omega
  refine ⟨l[d.toNat], ?_, h _ (List.getElem_mem hd)⟩
  have e := atI_nat (List.getElem?_eq_getElem hd)
  rw [show ((d.toNat : Nat) : Int) = d by omega] at e
  rw [show (tx l).cps.toList = l by simp [tx]]
  exact e
inductive spSign (vs : List V) (H : Hp) (Q : VK) (Y : XK) : Prop
  | mk : ∀ (a : Addr), (vs = [.ref a]) → (PotAt H a) → (∀ (c : Nat) (H' : Hp), c < 128 → SameBut a H H' → PotAt H' a → Q (.str (tx [c])) H') → spSign vs H Q Y
theorem ok_law_sign (B : Fx) : Hs "_law_sign" ["_law_pot_here"] 2 (spSign) := by
  refine hs_of B.X B.d9 sc_law_sign fun f cdv A outer s H vs Q E nN hr h => ?_
  obtain ⟨a, rfl, pa, k⟩ := h
  refine ⟨_, (pss_cons (pst 1 nN (pf (ok_law_digit B) hr (p2 (pv 0) pe_int)))
      (pss_cons (ps_if (pt_cmpR op_eq (pv 1) pe_int (nomark _)) (pss_one (ps_ret (pix ix_str (pf0 (ok_law_signs B) hr) (pf (ok_law_digit B) hr (p2 (pv 0) pe_int))))) pss_nil)
      (pss_cons (ps_if (pt_cmpR op_eq (pv 1) pe_int (nomark _)) (pss_one (ps_ret (pix ix_str pe_str (pf (ok_law_digit B) hr (p2 (pv 0) pe_int))))) pss_nil)
      (pss_cons (ps_if (pt_cmpR op_eq (pv 1) pe_int (nomark _)) (pss_one (ps_ret (pix ix_str (pf0 (ok_law_signs B) hr) (pf (ok_law_digit B) hr (p2 (pv 0) pe_int))))) pss_nil)
      (pss_one (ps_ret (pix ix_str pe_str (pf (ok_law_digit B) hr (p2 (pv 0) pe_int))))))))), ?_⟩
  try dsimp only [cxOf]
  refine ⟨_, rfl, a, 4, rfl, pa, by decide, lit9 (by decide), fun d H1 d0 d1 s1 p1 => ?_⟩
  refine ⟨_, rfl, rfl, _, rfl, ?_⟩
  have fin : ∀ (l : List Nat) (m : Int), (∀ c ∈ l, c < 128) → m ≤ l.length → l.length ≤ 40 → 0 < m → ∀ {t : TE}, (∀ (P' : VK), P' (.str (tx l)) H1 → t [some (.ref a), some (.int d)] H1 P') → tOp rIxS t (tCall spDigit [] E0 (tCons (tVar 0) (tCons (tC (V.int m)) tNil))) [some (.ref a), some (.int d)] H1 Q := fun l m ok em l40 m0 t ht => by
    refine ht _ ?_
    refine ⟨_, rfl, a, m, rfl, p1, m0, lit9 (Nat.lt_of_le_of_lt (m := 40) (by omega) (by decide)), fun d2 H2 d0 d1 s2 p2 => ?_⟩
    obtain ⟨c, e, hc⟩ := ch_at d0 (by omega : d2 < l.length) ok
    exact ⟨_, _, _, rfl, rfl, small (by rw [tx_len]; omega), e, k c H2 hc (s1.trans s2) p2⟩
  by_cases e0 : V.int d = V.int 0
  · rw [decide_eq_true e0]
    refine iteT ?_
    exact fin SG 6 (fun c hc => (sg_lt hc).1) (by decide) (by decide) (by decide) fun P' h => ⟨rfl, h⟩
  rw [decide_eq_false e0]
  refine iteF ?_
  refine ⟨_, rfl, rfl, _, rfl, ?_⟩
  by_cases e0 : V.int d = V.int 1
  · rw [decide_eq_true e0]
    refine iteT ?_
    exact fin [46, 10] 2 (by decide) (by decide) (by decide) (by decide) fun P' h => h
  rw [decide_eq_false e0]
  refine iteF ?_
  refine ⟨_, rfl, rfl, _, rfl, ?_⟩
  by_cases e0 : V.int d = V.int 2
  · rw [decide_eq_true e0]
    refine iteT ?_
    exact fin SG 40 (fun c hc => (sg_lt hc).1) (by decide) (by decide) (by decide) fun P' h => ⟨rfl, h⟩
  rw [decide_eq_false e0]
  refine iteF ?_
  exact fin (t := tC (V.str (Str.ofString "OZ 0-_+~,:"))) [79, 90, 32, 48, 45, 95, 43, 126, 44, 58] 10 (by decide) (by decide) (by decide) (by decide) fun P' h => h
--SPLIT
open Txs Pic
theorem slice_some (l : List Nat) (lo hi : Option Int) : ∃ m : List Nat, Txt.slice (tx l) lo hi = tx m ∧ (∀ c ∈ m, c ∈ l) ∧ m.length ≤ l.length := by
  refine ⟨(Txt.slice (tx l) lo hi).cps.toList, (tx_list _).symm, fun c hc => ?_, ?_⟩
  · unfold Txt.slice at hc
    split at hc
    · simpa [tx] using hc
    · simp only [List.mem_filterMap] at hc
      obtain ⟨i, _, e⟩ := hc
      rw [tx_at] at e
      exact List.mem_of_getElem? e
  · have := Txt.slice_le (tx l) lo hi
    rw [tx_len] at this
    simpa [Str.length] using this
/-- a text of signs below 128, at most n -/
structure Tx (n : Nat) (l : List Nat) : Prop where
  lt : ∀ c ∈ l, c < 128
  le : l.length ≤ n
inductive spSpoilt (vs : List V) (H : Hp) (Q : VK) (Y : XK) : Prop
  | mk : ∀ (a : Addr) (l : List Nat) (n : Nat), (vs = [.ref a, .str (tx l)]) → (PotAt H a) → (Tx n l) → (n ≤ 15000) → (∀ (m : List Nat) (H' : Hp), Tx (2 * n + 1) m → SameBut a H H' → PotAt H' a → Q (.str (tx m)) H') → spSpoilt vs H Q Y
theorem ap {H : Hp} {a l : Addr} (p : PotAt H a) (n : H l = none) : l ≠ a := fun z => by
  obtain ⟨_, _, e, _⟩ := p
  rw [z, e] at n
  cases n
def vL (ls : List (List Nat)) : List V := ls.map fun z => V.str (tx z)
theorem vL_len (ls : List (List Nat)) : (vL ls).length = ls.length := List.length_map _
theorem vL_map (ls : List (List Nat)) : (ls.map tx).map V.str = vL ls := by rw [List.map_map]; rfl
theorem vL_at {ls : List (List Nat)} {i : Nat} {z : List Nat} (h : ls[i]? = some z) : (vL ls)[i]? = some (V.str (tx z)) := by unfold vL; rw [List.getElem?_map, h]; rfl
theorem vL_set (ls : List (List Nat)) (i : Nat) (z : List Nat) : (vL ls).set i (V.str (tx z)) = vL (ls.set i z) := (List.map_set ..).symm
theorem atN {ls : List (List Nat)} {d : Int} (d0 : 0 ≤ d) (d1 : d < ls.length) : ∃ (i : Nat) (z : List Nat), d = (i : Int) ∧ i < ls.length ∧ ls[i]? = some z ∧ z ∈ ls ∧ atI (vL ls) d = some (V.str (tx z)) := by
  have hd : d.toNat < ls.length := by omega
  have e := List.getElem?_eq_getElem hd
  refine ⟨d.toNat, ls[d.toNat], by omega, hd, e, List.getElem_mem hd, ?_⟩
  have := atI_nat (vL_at e)
  rw [show ((d.toNat : Nat) : Int) = d by omega] at this
  exact this
theorem but_keep {a p : Addr} {H H1 : Hp} {o : HO} (n : H p = none) (b : SameBut a H H1) : SameBut a H (upd H1 p o) := fun c u ne e => by rw [upd_ne (ne_of_none e n)]; exact b c u ne e
theorem cut_lastL (xs : List (List Nat)) (x : List Nat) : cutV (vL (xs ++ [x])) none (some (-1)) = vL xs := by
  rw [← vL_map, ← vL_map, cut_last]
theorem cut_endL (xs : List (List Nat)) (x : List Nat) : cutV (vL (xs ++ [x])) (some (-1)) none = vL [x] := by
  unfold cutV
  have e : HT.sIx (vL (xs ++ [x])).length 0 (some (-1)) = xs.length := by
    unfold HT.sIx
    rw [vL_len]
    simp
    omega
  rw [e, show HT.sIx (vL (xs ++ [x])).length (vL (xs ++ [x])).length none = (vL (xs ++ [x])).length from rfl, vL_len]
  unfold vL
  rw [List.map_append, List.drop_left' (List.length_map _), List.length_append]
  show List.take (xs.length + 1 - xs.length) _ = _
  rw [Nat.add_sub_cancel_left]
  rfl
theorem tot_joinOk {ls : List (List Nat)} (h : tot ls ≤ 100000) : JoinOk (tx [10]) (ls.map tx) = true := by
  refine PyProof.Rows.joinOk_of ?_
  have := tot_sum ls
  have e : ((ls.map tx).map (·.length)) = ls.map List.length := by
    rw [List.map_map]
    exact List.map_congr_left fun z _ => tx_len z
  rw [e, List.length_map, tx_len]
  simp
  omega
theorem ok_law_spoilt_lines (B : Fx) : Hs "_law_spoilt_lines" ["_law_pot_here", "_law_text"] 2 (spSpoilt) := by
  refine hs_of B.X B.d10 sc_law_spoilt_lines fun f cdv A outer s H vs Q E nN hr h => ?_
  obtain ⟨a, l, n, rfl, pa, tl, nb, k⟩ := h
  refine ⟨_, (pss_cons (pst 2 nN (pe_bm PySem.F.plainAttrs_str PySem.F.slot_str_split PySem.F.type_str_split mt_split (pv 1) (p1 pe_str)))
      (pss_cons (pst 3 nN (pf (ok_law_digit B) hr (p2 (pv 0) pe_int)))
      (pss_cons (pst 4 nN (pf (ok_law_digit B) hr (p2 (pv 0) (pe_callB call_len_seq rfl (B.z B.y8) PySem.boot_len (p1 (pv 2))))))
      (pss_cons (ps_if (pt_cmpR op_eq (pv 3) pe_int (nomark _)) (pss_cons (pst 5 nN (pf (ok_law_digit B) hr (p2 (pv 0) (pe_callB call_len_seq rfl (B.z B.y8) PySem.boot_len (p1 (pv 2))))))
      (pss_one (ps_asg (pe_tup (p2 (pix ix_list (pv 2) (pv 5)) (pix ix_list (pv 2) (pv 4)))) (pg_tup (n := 2) rfl (pgs_cons (pg_sub (pv 2) (pv 4) set_list) (pgs_cons (pg_sub (pv 2) (pv 5) set_list) pgs_nil)))))) (pss_one (ps_if (pt_cmpR op_eq (pv 3) pe_int (nomark _)) (pss_one (ps_expr (m_list PySem.F.slot_list_insert PySem.F.type_list_insert mt_insert (pv 2) (p2 (pv 4) (pe_op op_mulS pe_str (pe_callB call_len_str rfl (B.z B.y8) PySem.boot_len (p1 (pix ix_list (pv 2) pe_int)))))))) (pss_one (ps_if (pt_cmpR op_eq (pv 3) pe_int (nomark _)) (pss_one (ps_expr (m_list PySem.F.slot_list_pop PySem.F.type_list_pop mt_popAt (pv 2) (p1 (pv 4))))) (pss_cons (pst 6 nN (pe_op op_mulS pe_str (pf (ok_law_digit B) hr (p2 (pv 0) pe_int))))
      (pss_one (pst 2 nN (pe_op op_cat (pe_lc1x (Nc := ["_law_line", "_law_ahead"]) (js := [none, some 6]) rfl rfl (pi_list (pe_slice sl_list (pv 2) po_none (po_some (pe_un un_neg pe_int)))) (CS.of rfl rfl) rfl (fun C s₂ H₂ fp pins => (pgc 0)) (fun C s₂ H₂ fp pins D L => (pt_tail0 (pb_app (pe_op op_add_str (pe_op op_add_str (pv 1) (pv 0)) (pe_slice sl_str pe_str (po_some (pe_callB call_len_str rfl (B.z B.y8) PySem.boot_len (p1 (pv 1)))) po_none)))))) (pe_slice sl_list (pv 2) (po_some (pe_un un_neg pe_int)) po_none))))))))))
      (pss_one (ps_ret (pe_bm PySem.F.plainAttrs_str PySem.F.slot_str_join PySem.F.type_str_join mt_join pe_str (p1 (pv 2))))))))), ?_⟩
  try dsimp only [cxOf]
  have hl := tl.le
  have sl := spl_tot 10 l
  have l1 := tot_len (spl 10 l)
  have ok0 : ∀ z ∈ spl 10 l, ∀ c ∈ z, c < 128 := fun z hz c hc => tl.lt c (spl_sub 10 l z hz c hc)
  obtain ⟨z0, r0, ez⟩ := spl_ne 10 l
  have fin : ∀ (ls : List (List Nat)) (p : Addr) (H' : Hp), H' p = some (.lst (vL ls)) → (∀ z ∈ ls, ∀ c ∈ z, c < 128) → tot ls ≤ 2 * (n + 1) → SameBut a H H' → PotAt H' a → ∀ y1 y3 y4 y5 y6, (tRet (tBM K "str" (rJoin K) (tC (V.str (Str.ofString "\n"))) (tCons (tVar 2) tNil))) { nx := fun x H' => Q V.non H', rt := Q } [some (V.ref a), y1, some (.ref p), y3, y4, y5, y6] H' := fun ls p H' e ok tt b p' y1 y3 y4 y5 y6 => by
    refine ⟨rfl, _, rfl, _, _, _, rfl, rfl, SqL.of (by rw [vL_map]; exact e), tot_joinOk (by omega), ?_⟩
    rw [show (Str.ofString "\n" : Str) = tx [10] from rfl, join_c]
    refine k _ _ ⟨fun c hc => ?_, ?_⟩ b p'
    · rcases jn_mem 10 ls c hc with rfl | ⟨z, hz, h⟩
      · decide
      · exact ok z hz c h
    · have := jn_len 10 ls
      omega
  refine ⟨_, rfl, rfl, tx l, tx [10], rfl, rfl, (by rw [tx_len]; decide), (by rw [tx_len]; exact Nat.le_of_lt (smallB (by omega))), ?_, ?_, fun p1 h1 => ?_⟩
  · rw [parts_len]
    exact Nat.le_of_lt (smallB (by omega))
  · rw [split_one tl.lt (by decide), List.length_map]
    exact Nat.le_of_lt (smallB (by omega))
  rw [split_one tl.lt (by decide), vL_map]
  have p1a := ap pa h1
  have g1 := same_new h1 (.lst (vL (spl 10 l)))
  have e1 := upd_same (H := H) (a := p1) (o := .lst (vL (spl 10 l)))
  have pa1 := pa.kept g1
  have b1 : SameBut a H (upd H p1 (.lst (vL (spl 10 l)))) := SameBut.of g1
  generalize upd H p1 (.lst (vL (spl 10 l))) = H1 at *
  clear g1
  generalize hls : spl 10 l = ls at *
  have lp : 0 < ls.length := by rw [ez]; simp
  refine ⟨_, rfl, a, 4, rfl, pa1, by decide, lit9 (by decide), fun d H2 d0 d1 s2 p2 => ?_⟩
  have e2 := s2 _ _ p1a e1
  refine ⟨_, rfl, _, rfl, p1, _, rfl, .inl (SqL.of e2), a, (ls.length : Int), (by rw [vL_len]; rfl), p2, (by omega), lit9 (Nat.lt_of_le_of_lt (m := 15001) (by omega) (by decide)), fun at' H3 a0 a1 s3 p3 => ?_⟩
  have b3 : SameBut a H H3 := b1.trans (s2.trans s3)
  have e3 := s3 _ _ p1a e2
  clear e2 e1 p2 pa1 s2 s3 b1 H1 H2
  refine ⟨_, rfl, rfl, _, rfl, ?_⟩
  by_cases e0 : V.int d = V.int 0
  · rw [decide_eq_true e0]
    refine iteT ?_
    refine ⟨_, rfl, _, rfl, p1, _, rfl, .inl (SqL.of e3), a, (ls.length : Int), (by rw [vL_len]; rfl), p3, (by omega), lit9 (Nat.lt_of_le_of_lt (m := 15001) (by omega) (by decide)), fun o' H4 o0 o1 s4 p4 => ?_⟩
    have e4 := s4 _ _ p1a e3
    have b4 := b3.trans s4
    obtain ⟨i, z, rfl, hi, ei, mi, ai⟩ := atN a0 a1
    obtain ⟨j, y, rfl, hj, ej, mj, aj⟩ := atN o0 o1
    refine ⟨_, rfl, _, rfl, p1, _, _, _, rfl, rfl, SqL.of e4, aj, _, rfl, _, rfl, p1, _, _, _, rfl, rfl, SqL.of e4, ai, (by show 2 ≤ sizeLine; decide), fun t nt => ?_⟩
    have gt := same_new nt (.tup [V.str (tx y), V.str (tx z)])
    have e5 := gt _ _ e4
    have b5 := b4.trans (SameBut.of gt)
    have p5 := p4.kept gt
    have et := upd_same (H := H4) (a := t) (o := .tup [V.str (tx y), V.str (tx z)])
    generalize upd H4 t (.tup [V.str (tx y), V.str (tx z)]) = H5 at *
    refine ⟨t, _, rfl, SqT.of et, rfl, _, _, rfl, _, rfl, _, rfl, p1, _, _, i, rfl, rfl, e5, ixN_nat (by rw [vL_len]; exact hi), ?_⟩
    rw [vL_set]
    refine ⟨_, _, rfl, _, rfl, _, rfl, p1, _, _, j, rfl, rfl, upd_same, ixN_nat (by rw [vL_len, List.length_set]; exact hj), ?_⟩
    rw [vL_set]
    refine ⟨rfl, fin ((ls.set i y).set j z) p1 _ upd_same (fun x hx => ?_) ?_ (but_keep h1 (but_keep h1 b5)) ((p5.other p1a.symm).other p1a.symm) _ _ _ _ _⟩
    · rcases List.mem_or_eq_of_mem_set hx with hx | rfl
      · rcases List.mem_or_eq_of_mem_set hx with hx | rfl
        · exact ok0 x hx
        · exact ok0 _ mj
      · exact ok0 _ mi
    · have h1 := tot_set ls i z y ei
      have hy := tot_at mj
      have hz := tot_at mi
      by_cases ij : i = j
      · subst ij
        have h2 := tot_set (ls.set i y) i y z (by rw [List.getElem?_set_self hi])
        omega
      · have h2 := tot_set (ls.set i y) j y z (by rw [List.getElem?_set_ne ij]; exact ej)
        omega
  rw [decide_eq_false e0]
  refine iteF ?_
  refine ⟨_, rfl, rfl, _, rfl, ?_⟩
  by_cases e0 : V.int d = V.int 1
  · rw [decide_eq_true e0]
    refine iteT ?_
    obtain ⟨i, z, rfl, hi, ei, mi, ai⟩ := atN a0 a1
    obtain ⟨i0, y, e00, hi0, ei0, mi0, ai0⟩ := atN (ls := ls) (d := 0) (by decide) (by omega)
    have hy := tot_at mi0
    refine ⟨_, rfl, .inl ⟨rfl, _, SqL.of e3⟩, _, rfl, _, rfl, p1, _, _, _, rfl, rfl, SqL.of e3, ai0, _, rfl, (by rw [tx_len]; exact Nat.le_of_lt (smallB (by omega))), 46, _, rfl, rfl, (by omega), (by rw [tx_len]; omega), p1, _, _, _, rfl, rfl, e3, a0, (by omega), (by rw [vL_len]; exact smallB (by omega)), ?_⟩
    rw [Int.toNat_natCast, Int.toNat_natCast, tx_len]
    have ev : (vL ls).take i ++ V.str (tx (List.replicate y.length 46)) :: (vL ls).drop i = vL (ls.take i ++ List.replicate y.length 46 :: ls.drop i) := by
      unfold vL
      rw [List.map_append, List.map_cons, List.map_take, List.map_drop]
    rw [ev]
    refine fin _ p1 _ upd_same (fun x hx => ?_) ?_ (but_keep h1 b3) (p3.other p1a.symm) _ _ _ _ _
    · rcases List.mem_append.mp hx with hx | hx
      · exact ok0 x (List.mem_of_mem_take hx)
      · rcases List.mem_cons.mp hx with rfl | hx
        · intro c hc
          rw [(List.mem_replicate.mp hc).2]
          decide
        · exact ok0 x (List.mem_of_mem_drop hx)
    · have := tot_app (ls.take i) (ls.drop i)
      rw [List.take_append_drop] at this
      rw [tot_app, tot_cons, List.length_replicate]
      omega
  rw [decide_eq_false e0]
  refine iteF ?_
  refine ⟨_, rfl, rfl, _, rfl, ?_⟩
  by_cases e0 : V.int d = V.int 2
  · rw [decide_eq_true e0]
    refine iteT ?_
    obtain ⟨i, z, rfl, hi, ei, mi, ai⟩ := atN a0 a1
    refine ⟨_, rfl, .inl ⟨rfl, _, SqL.of e3⟩, _, rfl, p1, _, _, i, _, rfl, rfl, e3, (by omega), (by omega), (ixN_seq (ixN_nat (by rw [vL_len]; exact hi))).1, vL_at ei, ?_⟩
    have ev : (vL ls).eraseIdx i = vL (ls.eraseIdx i) := by
      unfold vL
      rw [List.eraseIdx_eq_take_drop_succ, List.eraseIdx_eq_take_drop_succ, List.map_append, List.map_take, List.map_drop]
    rw [ev]
    refine fin _ p1 _ upd_same (fun x hx => ok0 x (List.mem_of_mem_eraseIdx hx)) ?_ (but_keep h1 b3) (p3.other p1a.symm) _ _ _ _ _
    have := tot_sub (List.eraseIdx_sublist ls i)
    omega
  rw [decide_eq_false e0]
  refine iteF ?_
  refine ⟨_, rfl, a, 2, rfl, p3, by decide, lit9 (by decide), fun d2 H4 c0 c1 s4 p4 => ?_⟩
  refine ⟨46, d2, rfl, rfl, c0, (by omega), ?_⟩
  have e4 := s4 _ _ p1a e3
  have b4 := b3.trans s4
  obtain ⟨ah, bh, ea, eb, l1', ok1, ok2⟩ : ∃ ah bh : List Nat, List.replicate d2.toNat 46 = ah ∧ Txt.slice (tx [46]) (some (ah.length : Int)) none = tx bh ∧ ah.length + bh.length = 1 ∧ (∀ c ∈ ah, c < 128) ∧ ∀ c ∈ bh, c < 128 := by
    rcases (by omega : d2 = 0 ∨ d2 = 1) with rfl | rfl
    · exact ⟨[], [46], rfl, by decide, rfl, by decide, by decide⟩
    · exact ⟨[46], [], rfl, by decide, rfl, by decide, by decide⟩
  rw [ea]
  clear ea e3 p3 b3 s4
  obtain ⟨hd, z', ez'⟩ : ∃ (A : List (List Nat)) (z : List Nat), ls = A ++ [z] := ⟨ls.dropLast, ls.getLast (by rw [ez]; simp), (List.dropLast_concat_getLast _).symm⟩
  refine ⟨_, rfl, _, rfl, -1, rfl, p1, _, rfl, SqL.of e4, fun p2 h2 => ?_⟩
  rw [ez', cut_lastL]
  have g5 := same_new h2 (.lst (vL hd))
  have e2 := upd_same (H := H4) (a := p2) (o := .lst (vL hd))
  have e5 := g5 _ _ e4
  have b5 := b4.trans (SameBut.of g5)
  have p5 := p4.kept g5
  generalize upd H4 p2 (.lst (vL hd)) = H5 at *
  refine ⟨p2, rfl, ⟨_, SqL.of e2⟩, fun D nD => ?_⟩
  have kD := same_new nD (.lst [])
  refine walk_list (xs := vL hd) (fun i σ H6 => ∃ (x0 : Option V), σ = [x0, some (.str (tx ah))] ∧ Same H5 H6 ∧ H6 D = some (.lst (vL ((hd.take i).map fun z => ah ++ z ++ bh)))) ⟨none, rfl, kD, upd_same⟩ ?_ ?_ ?_
  · rintro i σ H6 _ ⟨x0, rfl, g6, _⟩
    exact SqL.of (g6 _ _ e2)
  · rintro i x σ H6 hx ⟨x0, rfl, g6, hD⟩
    unfold vL at hx
    rw [List.getElem?_map] at hx
    obtain ⟨z, hz, rfl⟩ := Option.map_eq_some_iff.mp hx
    have mz := ok0 z (by rw [ez']; exact List.mem_append_left _ (List.mem_of_getElem? hz))
    have lz := tot_at (show z ∈ ls by rw [ez']; exact List.mem_append_left _ (List.mem_of_getElem? hz))
    refine ⟨_, rfl, _, rfl, _, _, rfl, rfl, (by rw [tx_len, tx_len]; exact Nat.le_of_lt (smallB (by omega))), ?_⟩
    rw [tx_app]
    refine ⟨_, rfl, _, rfl, (by rw [tx_len]; exact Nat.le_of_lt (smallB (by omega))), _, rfl, _, rfl, (by show 1 ≤ sizeLine; decide), ?_⟩
    rw [show (Str.ofString "." : Str) = tx [46] from rfl, tx_len, eb]
    refine ⟨_, _, rfl, rfl, (by rw [tx_len, tx_len, List.length_append]; exact Nat.le_of_lt (smallB (by omega))), ?_⟩
    rw [tx_app]
    have hi := (List.getElem?_eq_some_iff.mp hz).1
    have lh : hd.length ≤ 15001 := by have := congrArg List.length ez'; rw [List.length_append] at this; omega
    refine ⟨_, hD, (by rw [vL_len, List.length_map, List.length_take]; exact smallB (by omega)), _, rfl, keep_upd nD g6, ?_⟩
    rw [map_snoc _ hz, upd_same]
    unfold vL
    rw [List.map_append]
    rfl
  · rintro σ H6 ⟨x0, rfl, g6, hD⟩
    rw [vL_len, List.take_length] at hD
    have e6 := g6 _ _ e5
    have b6 := b5.trans (SameBut.of g6)
    have p6 := p5.kept g6
    refine ⟨_, rfl, _, rfl, -1, rfl, p1, _, rfl, SqL.of e6, fun p3 h3 => ?_⟩
    rw [ez', cut_endL]
    have lh : hd.length + 1 ≤ 15001 := by have := congrArg List.length ez'; rw [List.length_append, List.length_singleton] at this; omega
    have g7 := same_new h3 (.lst (vL [z']))
    refine ⟨D, p3, _, _, rfl, rfl, g7 _ _ hD, upd_same, (by rw [vL_len, vL_len, List.length_map]; exact Nat.le_of_lt (smallB (by simp; omega))), fun q hq => ?_⟩
    have g8 := same_new hq (.lst (vL (hd.map fun z => ah ++ z ++ bh) ++ vL [z']))
    have ev : vL (hd.map fun z => ah ++ z ++ bh) ++ vL [z'] = vL ((hd.map fun z => ah ++ z ++ bh) ++ [z']) := by unfold vL; rw [← List.map_append]
    rw [ev] at g8 ⊢
    have ok3 : ∀ z ∈ hd, ∀ c ∈ z, c < 128 := fun z hz => ok0 z (by rw [ez']; exact List.mem_append_left _ hz)
    refine fin _ q _ upd_same (fun x hx => ?_) ?_ (b6.trans (SameBut.of (g7.trans g8))) (p6.kept (g7.trans g8)) _ _ _ _ _
    · rcases List.mem_append.mp hx with hx | hx
      · obtain ⟨z, hz, rfl⟩ := List.mem_map.mp hx
        intro c hc
        rcases List.mem_append.mp hc with hc | hc
        · rcases List.mem_append.mp hc with hc | hc
          · exact ok1 c hc
          · exact ok3 z hz c hc
        · exact ok2 c hc
      · rw [List.mem_singleton.mp hx]
        exact ok0 z' (by rw [ez']; exact List.mem_append_right _ (List.mem_singleton_self _))
    · have t1 : tot (hd.map fun z => ah ++ z ++ bh) = tot hd + hd.length := by
        clear ez' lh g8 ev ok3 hD e2 kD g6 g7
        induction hd with
        | nil => rfl
        | cons x r ih =>
          rw [List.map_cons, tot_cons, tot_cons, ih, List.length_append, List.length_append, List.length_cons]
          omega
      have t2 := tot_len hd
      rw [ez', tot_app] at sl
      rw [tot_app, t1]
      omega
theorem ok_law_spoilt (B : Fx) : Hs "_law_spoilt" ["_law_pot_here", "_law_text"] 3 (spSpoilt) := by
  refine hs_of B.X B.d11 sc_law_spoilt fun f cdv A outer s H vs Q E nN hr h => ?_
  obtain ⟨a, l, n, rfl, pa, tl, nb, k⟩ := h
  refine ⟨_, (pss_cons (pst 2 nN (pf (ok_law_digit B) hr (p2 (pv 0) pe_int)))
      (pss_cons (pst 3 nN (pf (ok_law_digit B) hr (p2 (pv 0) (pe_op op_add (pe_callB call_len_str rfl (B.z B.y8) PySem.boot_len (p1 (pv 1))) pe_int))))
      (pss_cons (ps_if (pt_cmpR op_eq (pv 2) pe_int (nomark _)) (pss_one (ps_ret (pe_op op_add_str (pe_op op_add_str (pe_slice sl_str (pv 1) po_none (po_some (pv 3))) (pf (ok_law_sign B) hr (p1 (pv 0)))) (pe_slice sl_str (pv 1) (po_some (pv 3)) po_none)))) pss_nil)
      (pss_cons (ps_if (pt_cmpR op_eq (pv 2) pe_int (nomark _)) (pss_one (ps_ret (pe_op op_add_str (pe_slice sl_str (pv 1) po_none (po_some (pv 3))) (pe_slice sl_str (pv 1) (po_some (pe_op op_add (pv 3) pe_int)) po_none)))) pss_nil)
      (pss_cons (ps_if (pt_cmpR op_eq (pv 2) pe_int (nomark _)) (pss_one (ps_ret (pe_op op_add_str (pe_op op_add_str (pe_slice sl_str (pv 1) po_none (po_some (pv 3))) (pf (ok_law_sign B) hr (p1 (pv 0)))) (pe_slice sl_str (pv 1) (po_some (pe_op op_add (pv 3) pe_int)) po_none)))) pss_nil)
      (pss_one (ps_ret (pf (ok_law_spoilt_lines B) hr (p2 (pv 0) (pv 1)))))))))), ?_⟩
  try dsimp only [cxOf]
  refine ⟨_, rfl, a, 4, rfl, pa, by decide, lit9 (by decide), fun d H1 d0 d1 s1 p1 => ?_⟩
  have hl := tl.le
  refine ⟨_, rfl, _, rfl, _, rfl, (by rw [tx_len]; exact Nat.le_of_lt (smallB (by omega))), _, _, rfl, rfl, a, (l.length : Int) + 1, (by rw [tx_len]; rfl), p1, (by omega), lit9 (Nat.lt_of_le_of_lt (m := 15001) (by omega) (by decide)), fun at' H2 a0 a1 s2 p2 => ?_⟩
  have b2 : SameBut a H H2 := s1.trans s2
  have le : (tx l).length ≤ sizeLine := by rw [tx_len]; exact Nat.le_of_lt (smallB (by omega))
  have fin : ∀ (x y z : List Nat) (H3 : Hp), (∀ c ∈ x, c ∈ l) → x.length ≤ l.length → (∀ c ∈ y, c < 128) → y.length ≤ 1 → (∀ c ∈ z, c ∈ l) → z.length ≤ l.length → SameBut a H2 H3 → PotAt H3 a → Q (.str (tx (x ++ y ++ z))) H3 := fun x y z H3 x1 x2 y1 y2 z1 z2 s3 p3 => by
    refine k _ H3 ⟨fun c hc => ?_, ?_⟩ (b2.trans s3) p3
    · rcases List.mem_append.mp hc with hc | hc
      · rcases List.mem_append.mp hc with hc | hc
        · exact tl.lt c (x1 c hc)
        · exact y1 c hc
      · exact tl.lt c (z1 c hc)
    · rw [List.length_append, List.length_append]
      omega
  refine ⟨_, rfl, rfl, _, rfl, ?_⟩
  by_cases e0 : V.int d = V.int 0
  · rw [decide_eq_true e0]
    refine iteT ?_
    refine ⟨_, rfl, _, rfl, _, rfl, _, rfl, le, ?_⟩
    obtain ⟨x, ex, x1, x2⟩ := slice_some l none (some at')
    rw [ex]
    refine ⟨_, rfl, a, rfl, p2, fun c H3 hc s3 p3 => ?_⟩
    refine ⟨_, _, rfl, rfl, (by rw [tx_len, tx_len]; exact Nat.le_of_lt (smallB (by simp; omega))), ?_⟩
    rw [tx_app]
    refine ⟨_, rfl, _, rfl, _, rfl, _, rfl, le, ?_⟩
    obtain ⟨z, ez, z1, z2⟩ := slice_some l (some at') none
    rw [ez]
    refine ⟨_, _, rfl, rfl, (by rw [tx_len, tx_len]; exact Nat.le_of_lt (smallB (by simp; omega))), ?_⟩
    rw [tx_app]
    exact fin x [c] z H3 x1 x2 (fun y hy => by rw [List.mem_singleton.mp hy]; exact hc) (by simp) z1 z2 s3 p3
  rw [decide_eq_false e0]
  refine iteF ?_
  refine ⟨_, rfl, rfl, _, rfl, ?_⟩
  by_cases e0 : V.int d = V.int 1
  · rw [decide_eq_true e0]
    refine iteT ?_
    refine ⟨_, rfl, _, rfl, _, rfl, _, rfl, le, ?_⟩
    obtain ⟨x, ex, x1, x2⟩ := slice_some l none (some at')
    rw [ex]
    refine ⟨_, rfl, _, rfl, _, _, rfl, rfl, _, rfl, _, rfl, le, ?_⟩
    obtain ⟨z, ez, z1, z2⟩ := slice_some l (some (at' + 1)) none
    rw [ez]
    refine ⟨_, _, rfl, rfl, (by rw [tx_len, tx_len]; exact Nat.le_of_lt (smallB (by omega))), ?_⟩
    rw [tx_app]
    have := fin x [] z H2 x1 x2 (fun y hy => nomatch hy) (by simp) z1 z2 (SameBut.refl _ _) p2
    rw [List.append_nil] at this
    exact this
  rw [decide_eq_false e0]
  refine iteF ?_
  refine ⟨_, rfl, rfl, _, rfl, ?_⟩
  by_cases e0 : V.int d = V.int 2
  · rw [decide_eq_true e0]
    refine iteT ?_
    refine ⟨_, rfl, _, rfl, _, rfl, _, rfl, le, ?_⟩
    obtain ⟨x, ex, x1, x2⟩ := slice_some l none (some at')
    rw [ex]
    refine ⟨_, rfl, a, rfl, p2, fun c H3 hc s3 p3 => ?_⟩
    refine ⟨_, _, rfl, rfl, (by rw [tx_len, tx_len]; exact Nat.le_of_lt (smallB (by simp; omega))), ?_⟩
    rw [tx_app]
    refine ⟨_, rfl, _, rfl, _, _, rfl, rfl, _, rfl, _, rfl, le, ?_⟩
    obtain ⟨z, ez, z1, z2⟩ := slice_some l (some (at' + 1)) none
    rw [ez]
    refine ⟨_, _, rfl, rfl, (by rw [tx_len, tx_len]; exact Nat.le_of_lt (smallB (by simp; omega))), ?_⟩
    rw [tx_app]
    exact fin x [c] z H3 x1 x2 (fun y hy => by rw [List.mem_singleton.mp hy]; exact hc) (by simp) z1 z2 s3 p3
  rw [decide_eq_false e0]
  refine iteF ?_
  exact ⟨_, rfl, _, rfl, a, l, n, rfl, p2, tl, nb, fun m H3 tm s3 p3 => k m H3 tm (b2.trans s3) p3⟩
--SPLIT
open Txs Pic
/-- a text of at most N signs, drawn -/
inductive spTextN (N : Nat) (vs : List V) (H : Hp) (Q : VK) (Y : XK) : Prop
  | mk : ∀ (a : Addr), (vs = [.ref a]) → (PotAt H a) → (∀ (m : List Nat) (H' : Hp), Tx N m → SameBut a H H' → PotAt H' a → Q (.str (tx m)) H') → spTextN N vs H Q Y
/-- a line of w signs -/
def LineAt (H : Hp) (w : Nat) (r : Addr) : Prop := ∃ z : List Nat, z.length = w ∧ (∀ c ∈ z, c < 128) ∧ H r = some (.lst (z.map tv))
structure LinesAt (H : Hp) (L : Addr) (w h : Nat) (rs : List Addr) : Prop where
  top : H L = some (.lst (rs.map V.ref))
  len : rs.length = h
  at' : ∀ r ∈ rs, LineAt H w r
theorem PotAt.ne {H : Hp} {a t : Addr} {xs : List V} (p : PotAt H a) (e : H t = some (.tup xs)) : t ≠ a := fun z => by
  obtain ⟨_, _, e', _⟩ := p
  rw [z, e'] at e
  cases e
theorem but_free {H H' : Hp} {a l : Addr} (b : SameBut a H H') (n : H' l = none) (la : l ≠ a) : H l = none := by
  cases e : H l with
  | none => rfl
  | some o => rw [b l o la e] at n; cases n
theorem LineAt.kept {H H' : Hp} {w : Nat} {r : Addr} (x : LineAt H w r) (g : Same H H') : LineAt H' w r := by
  obtain ⟨z, a, b, c⟩ := x
  exact ⟨z, a, b, g _ _ c⟩
theorem LinesAt.kept {H H' : Hp} {L : Addr} {w h : Nat} {rs : List Addr} (x : LinesAt H L w h rs) (g : Same H H') : LinesAt H' L w h rs := ⟨g _ _ x.top, x.len, fun r hr => (x.at' r hr).kept g⟩
theorem LineAt.ne {H : Hp} {a r : Addr} {w : Nat} (p : PotAt H a) (x : LineAt H w r) : r ≠ a := fun e => by
  obtain ⟨_, _, e', _⟩ := p
  obtain ⟨z, _, _, c⟩ := x
  rw [e, e'] at c
  cases z with
  | nil => cases c
  | cons _ _ => cases c
theorem LineAt.but {H H' : Hp} {a r : Addr} {w : Nat} (p : PotAt H a) (x : LineAt H w r) (b : SameBut a H H') : LineAt H' w r := by
  have ne := x.ne p
  obtain ⟨z, h1, h2, c⟩ := x
  exact ⟨z, h1, h2, b _ _ ne c⟩
theorem LinesAt.but {H H' : Hp} {a L : Addr} {w h : Nat} {rs : List Addr} (p : PotAt H a) (x : LinesAt H L w h rs) (la : L ≠ a) (b : SameBut a H H') : LinesAt H' L w h rs := ⟨b _ _ la x.top, x.len, fun r hr => (x.at' r hr).but p b⟩
theorem LinesAt.neL {H : Hp} {L : Addr} {w h : Nat} {rs : List Addr} (x : LinesAt H L w h rs) (w0 : 0 < w) {r : Addr} {zs : List Nat} (lz : zs.length = w) (h0 : rs ≠ []) (e : H r = some (.lst (zs.map tv))) : r ≠ L := by
  refine ne_of e x.top fun q => ?_
  cases rs with
  | nil => exact h0 rfl
  | cons s rs => cases zs with
    | nil => rw [List.length_nil] at lz; omega
    | cons d z =>
      injection q with q
      injection q with q _
      cases q
theorem LinesAt.snoc {H : Hp} {L u : Addr} {w h : Nat} {rs : List Addr} (x : LinesAt H L w h rs) (w0 : 0 < w) (y : LineAt H w u) (uL : u ≠ L) : LinesAt (upd H L (.lst (rs.map V.ref ++ [V.ref u]))) L w (h + 1) (rs ++ [u]) := by
  refine ⟨by rw [upd_same, List.map_append]; rfl, by rw [List.length_append, x.len]; rfl, fun s hs => ?_⟩
  rcases List.mem_append.mp hs with hs | hs
  · obtain ⟨z, h1, h2, h3⟩ := x.at' s hs
    exact ⟨z, h1, h2, by rw [upd_ne (x.neL w0 h1 (List.ne_nil_of_mem hs) h3)]; exact h3⟩
  · rw [List.mem_singleton.mp hs]
    obtain ⟨z, h1, h2, h3⟩ := y
    exact ⟨z, h1, h2, by rw [upd_ne uL]; exact h3⟩
/-- a sign put into one of the lines -/
theorem LinesAt.put {H : Hp} {L : Addr} {w h : Nat} {rs : List Addr} (x : LinesAt H L w h rs) (hh : 0 < h) {r : Addr} {z : List Nat} (e : H r = some (.lst (z.map tv))) (lz : z.length = w) (oz : ∀ c ∈ z, c < 128) {j c : Nat} (w0 : 0 < w) (hc : c < 128) :
    LinesAt (upd H r (.lst ((z.map tv).set j (tv c)))) L w h rs := by
  have rL : L ≠ r := (x.neL w0 lz (fun e => by have := x.len; rw [e, List.length_nil] at this; omega) e).symm
  refine ⟨by rw [upd_ne rL]; exact x.top, x.len, fun s hs => ?_⟩
  by_cases sr : s = r
  · subst sr
    refine ⟨z.set j c, by rw [List.length_set]; exact lz, fun d hd => ?_, by rw [upd_same, List.map_set]⟩
    rcases List.mem_or_eq_of_mem_set hd with hd | rfl
    · exact oz d hd
    · exact hc
  · obtain ⟨z', h1, h2, h3⟩ := x.at' s hs
    exact ⟨z', h1, h2, by rw [upd_ne sr]; exact h3⟩
theorem tot_all {w : Nat} : ∀ (zs : List (List Nat)), (∀ z ∈ zs, z.length = w) → tot zs = zs.length * (w + 1)
  | [], _ => by simp [tot]
  | a :: r, h => by
    rw [tot_cons, tot_all r fun z hz => h z (List.mem_cons_of_mem _ hz), h a List.mem_cons_self, List.length_cons, Nat.succ_mul]
    omega
theorem sg_atI {i : Int} (i0 : 0 ≤ i) (i1 : i < 40) : ∃ c, c < 128 ∧ atI (tx SG).cps.toList i = some c := by
  obtain ⟨c, h1, h2⟩ := ch_at i0 (by rw [sg_len]; exact i1) (fun c hc => (sg_lt hc).1)
  exact ⟨c, h2, h1⟩
theorem ts_at {ts : List Addr} {ps : List (Int × Int)} {H : Hp} (lt : ts.length = ps.length) (at' : ∀ (i : Nat) (t : Addr) (p : Int × Int), ts[i]? = some t → ps[i]? = some p → H t = some (.tup [.int p.1, .int p.2])) {d : Int} (d0 : 0 ≤ d) (d1 : d < ps.length) : ∃ (t : Addr) (p : Int × Int), atI (ts.map V.ref) d = some (.ref t) ∧ p ∈ ps ∧ H t = some (.tup [.int p.1, .int p.2]) := by
  obtain ⟨i, rfl⟩ := Int.eq_ofNat_of_zero_le d0
  have hi : i < ps.length := by omega
  have ht : ts[i]? = some (ts[i]'(by omega)) := List.getElem?_eq_getElem (by omega)
  refine ⟨_, ps[i], atI_nat (by rw [List.getElem?_map, ht]; rfl), List.getElem_mem hi, at' i _ _ ht (List.getElem?_eq_getElem hi)⟩
theorem ok_law_whole (B : Fx) : Hs "_law_whole" ["_law_pot_here"] 3 (spTextN 3500) := by
  refine hs_ofI B.X B.d7 sc_law_whole (fun f cdv A outer s H vs Q E nN hr h => ?_) (by intro _ _ _ _ h; cases h; subst_vars; rfl) (by intro _ _ _ _ _ _ us hl; obtain ⟨_, rfl⟩ := len1 hl; rfl)
  obtain ⟨a, rfl, pa, k⟩ := h
  refine ⟨_, (pssi_cons (psi_pick (pai_two (pai_two (pai_two (pai_two (pai_two pai_nil))))) (pf (ok_law_digit B) hr (p2 (pv 0) pe_int)) (pg_tup (n := 2) rfl (pgs_cons (pgn 1 nN) (pgs_cons (pgn 2 nN) pgs_nil))))
      (pss_cons (pst 3 nN (pe_op op_rep (pe_lc1x (Nc := ["_law_k", "_law_pot_here", "_law_wide"]) (js := [none, some 0, some 1]) rfl rfl (pi_range1 rfl (B.z B.y6) (p1 pe_int)) (CS.of rfl rfl) rfl (fun C s₂ H₂ fp pins => (pgc 0)) (fun C s₂ H₂ fp pins D L => (pt_tail0 (pb_app (pe_op op_rep (pe_lst (p1 pe_str)) (pe_op op_add pe_int (pf (ok_law_digit B) hr (p2 (pv 1) (pv 2))))))))) (pe_op op_add pe_int (pf (ok_law_digit B) hr (p2 (pv 0) (pv 2))))))
      (pss_cons (ps_lc1x (i := 3) (Nc := ["_law_line"]) (js := [none]) rfl rfl nN rfl (Or.inl rfl) (pi_list (pv 3)) (CS.of rfl rfl) rfl (fun C s₂ H₂ fp pins => (pgc 0)) (fun C s₂ H₂ fp pins D L => (pt_tail0 (pb_app (pe_callTy (show CallR _ _ (call_list_ofY K) from call_list_of) rfl (B.z B.y11) PyProof.Rows.boot_list (p1 (pv 0)))))))
      (pss_cons (pfor (pi_range1 rfl (B.z B.y6) (p1 (pe_op op_add pe_int (pf (ok_law_digit B) hr (p2 (pv 0) (pix ix_list (pe_lst (p2 pe_int pe_int)) (pe_op op_fdiv (pf (ok_law_digit B) hr (p2 (pv 0) pe_int)) pe_int))))))) (pgn 4 nN) (pss_cons (pst 5 nN (pix ix_list (pv 3) (pf (ok_law_digit B) hr (p2 (pv 0) (pe_callB call_len_seq rfl (B.z B.y8) PySem.boot_len (p1 (pv 3)))))))
      (pss_one (ps_asg (pix ix_str (pf0 (ok_law_signs B) hr) (pv 4)) (pg_sub (pv 5) (pf (ok_law_digit B) hr (p2 (pv 0) (pe_callB call_len_seq rfl (B.z B.y8) PySem.boot_len (p1 (pv 5))))) set_list)))))
      (pss_one (ps_ret (pe_op op_add_str (pe_bm PySem.F.plainAttrs_str PySem.F.slot_str_join PySem.F.type_str_join mt_join pe_str (p1 (pe_lc1x (Nc := ["_law_line"]) (js := [none]) rfl rfl (pi_list (pv 3)) (CS.of rfl rfl) rfl (fun C s₂ H₂ fp pins => (pgc 0)) (fun C s₂ H₂ fp pins D L => (pt_tail0 (pb_app (show PE _ _ (tBM K "str" (rJoin K) _ _) from (pe_bm PySem.F.plainAttrs_str PySem.F.slot_str_join PySem.F.type_str_join (show MtM _ _ (rJoin K) from mt_join) pe_str (p1 (pv 0)))))))))) pe_str))))))), ?_⟩
  try dsimp only [cxOf]
  refine pairs_disp (ps := [(9, 7), (3, 2), (40, 12), (4, 41), (77, 3)]) fun ts H1 g1 lt at' => ?_
  refine ⟨(by rw [List.length_map, lt]; show 5 ≤ sizeLine; decide), fun l nl => ?_⟩
  have gl := same_new nl (.lst (ts.map V.ref))
  have fl := upd_same (H := H1) (a := l) (o := .lst (ts.map V.ref))
  have p1 := (pa.kept g1).kept gl
  have la := ap (pa.kept g1) nl
  have bl : SameBut a H (upd H1 l (.lst (ts.map V.ref))) := SameBut.of (fun b o e => gl _ _ (g1 b o e))
  replace at' : ∀ (i : Nat) (t : Addr) (p : Int × Int), ts[i]? = some t → [(9, 7), (3, 2), (40, 12), (4, 41), (77, 3)][i]? = some p → (upd H1 l (.lst (ts.map V.ref))) t = some (.tup [.int p.1, .int p.2]) := fun i t p e1 e2 => gl _ _ (at' i t p e1 e2)
  generalize upd H1 l (.lst (ts.map V.ref)) = HL at *
  refine ⟨_, rfl, a, 5, rfl, p1, by decide, lit9 (by decide), fun d H2 d0 d1 s2 p2 => ?_⟩
  obtain ⟨t, ⟨W, h⟩, e1, hp, e2⟩ := ts_at lt at' d0 d1
  obtain ⟨w1, w2, h1, h2⟩ : 1 ≤ W ∧ W ≤ 77 ∧ 1 ≤ h ∧ h ≤ 41 := (by decide : ∀ p ∈ ([(9, 7), (3, 2), (40, 12), (4, 41), (77, 3)] : List (Int × Int)), 1 ≤ p.1 ∧ p.1 ≤ 77 ∧ 1 ≤ p.2 ∧ p.2 ≤ 41) _ hp
  refine ⟨l, _, _, _, rfl, rfl, SqL.of (s2 _ _ la fl), e1, t, _, rfl, SqT.of (s2 _ _ (p1.ne e2) e2), rfl, _, _, rfl, _, _, rfl, rfl, ?_⟩
  have b2 := bl.trans s2
  clear at' lt g1 gl fl la nl e1 e2 hp s2 p1 bl d0 d1
  refine ⟨1, rfl, by decide, by decide, fun D nD => ?_⟩
  have Da := ap p2 nD
  have nD0 := but_free b2 nD Da
  refine walk_range (lo := 0) (n := (1 : Int).toNat) (fun i σ H' => ∃ x0, σ = [x0, some (.ref a), some (.int W)] ∧ SameBut a H H' ∧ PotAt H' a ∧ ((i = 0 ∧ H' D = some (.lst [])) ∨ (i = 1 ∧ ∃ (r : Addr) (w : Nat), 1 ≤ w ∧ w ≤ 77 ∧ H' D = some (.lst [.ref r]) ∧ H' r = some (.lst (List.replicate w (tv 46)))))) ⟨none, rfl, but_keep nD0 b2, p2.other Da.symm, .inl ⟨rfl, upd_same⟩⟩ ?_ ?_
  · rintro i σ H3 hi ⟨x0, rfl, b3, p3, cs⟩
    obtain ⟨rfl, hD⟩ : i = 0 ∧ H3 D = some (.lst []) := by
      rcases cs with c | ⟨c, _⟩
      · exact c
      · have : i < 1 := hi
        omega
    refine ⟨(by show 1 ≤ sizeLine; decide), fun q nq => ?_⟩
    have gq := same_new nq (.lst [V.str (Str.ofString ".")])
    have eq := upd_same (H := H3) (a := q) (o := .lst [V.str (Str.ofString ".")])
    have qa := ap p3 nq
    refine ⟨_, rfl, _, rfl, a, W, rfl, p3.kept gq, (by omega), lit9 (Nat.lt_of_le_of_lt (m := 77) (by omega) (by decide)), fun dw H4 c0 c1 s4 p4 => ?_⟩
    refine ⟨_, _, rfl, rfl, q, _, _, rfl, rfl, s4 _ _ qa eq, (by omega), (by omega), (by show 1 * _ ≤ sizeLine; exact small (by omega)), fun r nr => ?_⟩
    rw [rep_tv]
    have ra := ap p4 nr
    have b4 : SameBut a H3 H4 := (SameBut.of gq).trans s4
    have rD : D ≠ r := ne_of_none (b4 _ _ Da hD) nr
    have gr := same_new nr (.lst (List.replicate (1 + dw).toNat (V.str (Str.ofString "."))))
    refine ⟨_, gr _ _ (b4 _ _ Da hD), small1000 (by show 0 ≤ 1000; omega), _, rfl, but_keep nD0 ((b3.trans b4).trans (SameBut.of gr)), (p4.kept gr).other Da.symm, .inr ⟨rfl, r, (1 + dw).toNat, by omega, by omega, upd_same, ?_⟩⟩
    rw [upd_ne rD.symm]
    exact upd_same
  rintro σ H3 ⟨x0, rfl, b3, p3, cs⟩
  obtain ⟨r, w, w1', w2', hD, hr'⟩ : ∃ (r : Addr) (w : Nat), 1 ≤ w ∧ w ≤ 77 ∧ H3 D = some (.lst [.ref r]) ∧ H3 r = some (.lst (List.replicate w (tv 46))) := by
    rcases cs with ⟨c, _⟩ | ⟨_, c⟩
    · cases c
    · exact c
  have er' : List.replicate w (tv 46) = (List.replicate w 46).map tv := List.map_replicate.symm
  rw [er'] at hr'
  have ra := LineAt.ne p3 (w := w) ⟨List.replicate w 46, List.length_replicate, fun c hc => by rw [(List.mem_replicate.mp hc).2]; decide, hr'⟩
  refine ⟨_, rfl, _, rfl, a, h, rfl, p3, (by omega), lit9 (Nat.lt_of_le_of_lt (m := 41) (by omega) (by decide)), fun dh H4 c0 c1 s4 p4 => ?_⟩
  have hD4 := s4 _ _ Da hD
  have hr4 := s4 _ _ ra hr'
  have b4 := b3.trans s4
  refine ⟨_, _, rfl, rfl, D, _, _, rfl, rfl, hD4, (by omega), (by omega), (by show 1 * _ ≤ sizeLine; exact small (by omega)), fun q nq => ?_⟩
  rw [rep_tv]
  obtain ⟨n, en, n1, n2⟩ : ∃ n : Nat, (1 + dh).toNat = n ∧ 1 ≤ n ∧ n ≤ 41 := ⟨_, rfl, by omega, by omega⟩
  rw [en]
  have gq := same_new nq (.lst (List.replicate n (V.ref r)))
  have eq := upd_same (H := H4) (a := q) (o := .lst (List.replicate n (V.ref r)))
  have hr5 := gq _ _ hr4
  have b5 := b4.trans (SameBut.of gq)
  have p5 := p4.kept gq
  generalize upd H4 q (.lst (List.replicate n (V.ref r))) = H5 at *
  clear nq gq hr4 hD4 hD p4 b4 s4 p3 b3 cs hr' er' nD0 Da nD D b2 p2
  refine ⟨_, rfl, q, rfl, ⟨_, SqL.of eq⟩, fun L nL => ?_⟩
  have La := ap p5 nL
  have kL := same_new nL (.lst [])
  refine walk_list (xs := List.replicate n (V.ref r)) (fun i σ H6 => ∃ (x0 : Option V) (rs : List Addr), σ = [x0] ∧ Same H5 H6 ∧ LinesAt H6 L w i rs ∧ ∀ s ∈ rs, H5 s = none) ⟨none, [], rfl, kL, ⟨upd_same, rfl, fun r hr => nomatch hr⟩, fun r hr => nomatch hr⟩ ?_ ?_ ?_
  · rintro i σ H6 _ ⟨x0, rs, rfl, g6, _⟩
    exact SqL.of (g6 _ _ eq)
  · rintro i x σ H6 hx ⟨x0, rs, rfl, g6, X, fr⟩
    have hi : i < n := by have := (List.getElem?_eq_some_iff.mp hx).1; rwa [List.length_replicate] at this
    rw [List.getElem?_replicate, if_pos hi] at hx
    cases hx
    refine ⟨_, rfl, r, _, rfl, .inl (SqL.of (g6 _ _ hr5)), fun u nu => ?_⟩
    have gu := same_new nu (.lst ((List.replicate w 46).map tv))
    have eu := upd_same (H := H6) (a := u) (o := .lst ((List.replicate w 46).map tv))
    have X' := X.kept gu
    have g7 := g6.trans gu
    generalize upd H6 u (.lst ((List.replicate w 46).map tv)) = H7 at *
    have uL : u ≠ L := fun z => by rw [z, X.top] at nu; cases nu
    have l1 := X.len
    refine ⟨_, X'.top, small1000 (by rw [List.length_map]; omega), _, rs ++ [u], rfl, keep_upd nL g7, X'.snoc (by omega) ⟨_, List.length_replicate, fun c hc => by rw [(List.mem_replicate.mp hc).2]; decide, eu⟩ uL, fun s hs => ?_⟩
    rcases List.mem_append.mp hs with hs | hs
    · exact fr s hs
    · rw [List.mem_singleton.mp hs]
      exact g6.free nu
  rintro σ H6 ⟨x0, rs, rfl, g6, X, fr⟩
  rw [List.length_replicate] at X
  have nL0 : H L = none := but_free b5 nL La
  have b6 := b5.trans (SameBut.of g6)
  have p6 := p5.kept g6
  replace fr : ∀ s ∈ rs, H s = none := fun s hs => but_free b5 (fr s hs) ((X.at' s hs).ne p6)
  clear eq hr5 b5 p5 kL nL g6 ra
  refine ⟨_, rfl, (by show 2 ≤ sizeLine; decide), fun m nm => ?_⟩
  have gm := same_new nm (.lst [V.int 5, V.int 39])
  have em := upd_same (H := H6) (a := m) (o := .lst [V.int 5, V.int 39])
  have ma := ap p6 nm
  have X7 := X.kept gm
  have p7 := p6.kept gm
  have b7 := b6.trans (SameBut.of gm)
  generalize upd H6 m (.lst [V.int 5, V.int 39]) = H7 at *
  refine ⟨_, rfl, a, 4, rfl, p7, by decide, lit9 (by decide), fun d8 H8 i0 i1 s8 p8 => ?_⟩
  obtain ⟨m8, e8, m80, m81⟩ : ∃ m8 : Int, atI [V.int 5, V.int 39] (d8 / 3) = some (V.int m8) ∧ 1 ≤ m8 ∧ m8 ≤ 39 := by
    rcases (by omega : d8 / 3 = 0 ∨ d8 / 3 = 1) with z | z <;> rw [z]
    · exact ⟨5, rfl, by decide, by decide⟩
    · exact ⟨39, rfl, by decide, by decide⟩
  refine ⟨_, _, rfl, rfl, ⟨by decide, by decide⟩, m, _, _, _, rfl, rfl, SqL.of (s8 _ _ ma em), e8, a, m8, rfl, p8, (by omega), lit9 (Nat.lt_of_le_of_lt (m := 39) (by omega) (by decide)), fun d9 H9 j0 j1 s9 p9 => ?_⟩
  have X9 := (X7.but p7 La s8).but p8 La s9
  have b9 := b7.trans (s8.trans s9)
  clear X7 p7 s8 p8 s9 b7 em gm nm ma e8 b6 p6 X
  refine ⟨_, _, rfl, rfl, 2 + d9, rfl, (by omega), (by omega), for_range (lo := 0) (n := (2 + d9).toNat) (fun i σ H' => ∃ (x4 x5 : Option V), σ = [some (.ref a), some (.int W), some (.int h), some (.ref L), x4, x5] ∧ SameBut a H H' ∧ PotAt H' a ∧ LinesAt H' L w n rs) ⟨_, _, rfl, b9, p9, X9⟩ ?_ ?_⟩
  · clear b9 p9 X9
    rintro i σ H1 hi ⟨x4, x5, rfl, b1, p1, X1⟩
    refine ⟨_, rfl, _, rfl, _, rfl, L, _, rfl, .inl (SqL.of X1.top), a, (n : Int), (by rw [List.length_map, X1.len]; rfl), p1, (by omega), lit9 (Nat.lt_of_le_of_lt (m := 41) (by omega) (by decide)), fun e H2 e0 e1 s2 p2 => ?_⟩
    have X2 := X1.but p1 La s2
    obtain ⟨u, hu, eu⟩ : ∃ u, u ∈ rs ∧ atI (rs.map V.ref) e = some (.ref u) := by
      obtain ⟨j, rfl⟩ := Int.eq_ofNat_of_zero_le e0
      have hj : j < rs.length := by rw [X1.len]; omega
      exact ⟨rs[j], List.getElem_mem hj, atI_nat (by rw [List.getElem?_map, List.getElem?_eq_getElem hj]; rfl)⟩
    refine ⟨L, _, _, _, rfl, rfl, SqL.of X2.top, eu, ?_⟩
    obtain ⟨c, hc, ec⟩ := sg_atI (i := 0 + (i : Int)) (by omega) (by omega)
    refine ⟨rfl, _, rfl, _, _, _, rfl, rfl, small (by rw [tx_len]; decide), ec, ?_⟩
    obtain ⟨z, lz, oz, hz⟩ := X2.at' u hu
    refine ⟨_, rfl, _, rfl, _, rfl, u, _, rfl, .inl (SqL.of hz), a, (w : Int), (by rw [List.length_map, lz]; rfl), p2, (by omega), lit9 (Nat.lt_of_le_of_lt (m := 77) (by omega) (by decide)), fun f H3 f0 f1 s3 p3 => ?_⟩
    have ua := (X2.at' u hu).ne p2
    have hz3 := s3 _ _ ua hz
    have X3 := X2.but p2 La s3
    obtain ⟨j, rfl⟩ := Int.eq_ofNat_of_zero_le f0
    refine ⟨u, _, _, j, rfl, rfl, hz3, ixN_nat (by rw [List.length_map, lz]; omega), ?_⟩
    exact ⟨_, _, rfl, but_keep (fr u hu) (b1.trans (s2.trans s3)), p3.other ua.symm, X3.put (by omega) hz3 lz oz (by omega) hc⟩
  · rintro σ H1 ⟨x4, x5, rfl, b1, p1, X1⟩
    refine ⟨rfl, _, rfl, L, rfl, ⟨_, SqL.of X1.top⟩, fun D nD => ?_⟩
    have kD := same_new nD (.lst [])
    refine walk_list (xs := rs.map V.ref) (fun i σ H2 => ∃ (x0 : Option V) (zs : List (List Nat)), σ = [x0] ∧ Same H1 H2 ∧ H2 D = some (.lst (vL zs)) ∧ zs.length = i ∧ ∀ z ∈ zs, z.length = w ∧ ∀ c ∈ z, c < 128) ⟨none, [], rfl, kD, upd_same, rfl, fun z hz => nomatch hz⟩ ?_ ?_ ?_
    · rintro i σ H2 _ ⟨x0, zs, rfl, g2, _⟩
      exact SqL.of (g2 _ _ X1.top)
    · rintro i x σ H2 hx ⟨x0, zs, rfl, g2, hD, lz, oz⟩
      have hi : i < n := by have := (List.getElem?_eq_some_iff.mp hx).1; rwa [List.length_map, X1.len] at this
      rw [List.getElem?_map] at hx
      obtain ⟨u, hu, rfl⟩ := Option.map_eq_some_iff.mp hx
      obtain ⟨z, lz', oz', hz⟩ := X1.at' u (List.mem_of_getElem? hu)
      have e1 : z.map tv = (z.map fun c => tx [c]).map V.str := by rw [List.map_map]; rfl
      refine ⟨rfl, _, rfl, _, _, _, rfl, rfl, SqL.of (by rw [← e1]; exact g2 _ _ hz), joinOk_of (B := 1) ?_ ?_, ?_⟩
      · intro y hy
        obtain ⟨c, _, rfl⟩ := List.mem_map.mp hy
        exact Nat.le_of_eq (tx_len _)
      · rw [List.length_map]
        show z.length * 1 + z.length * 0 ≤ _
        omega
      · rw [show (Str.ofString "" : Str) = tx [] from rfl, join_tv]
        refine ⟨_, hD, small1000 (by rw [vL_len]; omega), _, zs ++ [z], rfl, keep_upd nD g2, (by rw [upd_same]; unfold vL; rw [List.map_append]; rfl), (by rw [List.length_append, lz]; rfl), fun y hy => ?_⟩
        rcases List.mem_append.mp hy with hy | hy
        · exact oz y hy
        · rw [List.mem_singleton.mp hy]
          exact ⟨lz', oz'⟩
    · rintro σ H2 ⟨x0, zs, rfl, g2, hD, lz, oz⟩
      rw [List.length_map, X1.len] at lz
      have tt := tot_all zs fun z hz => (oz z hz).1
      have t1 : tot zs ≤ 3198 := by rw [tt, lz]; exact Nat.le_trans (Nat.mul_le_mul n2 (Nat.succ_le_succ w2')) (by decide)
      refine ⟨_, _, _, rfl, rfl, SqL.of (by rw [vL_map]; exact hD), tot_joinOk (by omega), ?_⟩
      rw [show (Str.ofString "\n" : Str) = tx [10] from rfl, join_c]
      have jl := jn_len 10 zs
      refine ⟨_, _, rfl, rfl, (by rw [tx_len, tx_len]; exact Nat.le_of_lt (smallB (by simp; omega))), ?_⟩
      show Q (V.str (tx (jn 10 zs) ++ tx [10])) H2
      rw [tx_app]
      refine k _ _ ⟨fun c hc => ?_, by rw [List.length_append]; simp; omega⟩ (b1.trans (SameBut.of g2)) (p1.kept g2)
      rcases List.mem_append.mp hc with hc | hc
      · rcases jn_mem 10 zs c hc with rfl | ⟨z, hz, h⟩
        · decide
        · exact (oz z hz).2 c h
      · rw [List.mem_singleton.mp hc]
        decide
--SPLIT
open Txs Pic
/-- both branches come to the same -/
theorem ifs_two {c : TT} {t u r : TS} {D : Ends} {σ : St} {H : Hp} (I : St → Hp → Prop) (k : ∀ σ H, I σ H → r D σ H) (h : (∀ σ H, I σ H → r D σ H) → tSeq (tIfS c t u) r D σ H) : tSeq (tIfS c t u) r D σ H := h k
theorem tot_le {w : Nat} : ∀ (zs : List (List Nat)), (∀ z ∈ zs, z.length ≤ w) → tot zs ≤ zs.length * (w + 1)
  | [], _ => Nat.zero_le _
  | a :: r, h => by
    have := tot_le r fun z hz => h z (List.mem_cons_of_mem _ hz)
    have := h a List.mem_cons_self
    rw [tot_cons, List.length_cons, Nat.succ_mul]
    omega
def ButL (rs : List Addr) (H H' : Hp) : Prop := ∀ b o, b ∉ rs → H b = some o → H' b = some o
theorem ButL.same {rs : List Addr} {H H1 H2 : Hp} (x : ButL rs H H1) (g : Same H1 H2) : ButL rs H H2 := fun b o n e => g b o (x b o n e)
theorem ButL.put {rs : List Addr} {H H1 : Hp} (x : ButL rs H H1) {r : Addr} (hr : r ∈ rs) {o : HO} : ButL rs H (upd H1 r o) := fun b u n e => by
  rw [upd_ne (fun z => n (by rw [z]; exact hr))]
  exact x b u n e
theorem but_frame {rs : List Addr} {a : Addr} {H H1 H2 : Hp} (fr : ∀ s ∈ rs, H s = none) (b : SameBut a H H1) (x : ButL rs H1 H2) : SameBut a H H2 := fun c o ne e => x c o (fun z => by rw [fr c z] at e; cases e) (b c o ne e)
theorem ok_law_far (B : Fx) : Hs "_law_far" ["_law_pot_here"] 3 (spTextN 3600) := by
  refine hs_of B.X B.d8 sc_law_far fun f cdv A outer s H vs Q E nN hr h => ?_
  obtain ⟨a, rfl, pa, k⟩ := h
  refine ⟨_, (pss_cons (pst 1 nN (pf (ok_law_digit B) hr (p2 (pv 0) pe_int)))
      (pss_cons (ps_asg (pe_tup (p2 (pe_op op_add pe_int (pf (ok_law_digit B) hr (p2 (pv 0) pe_int))) (pe_op op_add pe_int (pf (ok_law_digit B) hr (p2 (pv 0) pe_int))))) (pg_tup (n := 2) rfl (pgs_cons (pgn 2 nN) (pgs_cons (pgn 3 nN) pgs_nil))))
      (pss_cons (ps_if (pt_cmpR op_eq (pv 1) pe_int (nomark _)) (pss_one (ps_asg (pe_tup (p2 (pv 3) (pe_op op_sub (pv 2) pe_int))) (pg_tup (n := 2) rfl (pgs_cons (pgn 2 nN) (pgs_cons (pgn 3 nN) pgs_nil))))) pss_nil)
      (pss_cons (ps_lc1x (i := 4) (Nc := ["_law_k", "_law_wide"]) (js := [none, some 2]) rfl rfl nN rfl (Or.inl rfl) (pi_range1 rfl (B.z B.y6) (p1 (pv 3))) (CS.of rfl rfl) rfl (fun C s₂ H₂ fp pins => (pgc 0)) (fun C s₂ H₂ fp pins D L => (pt_tail0 (pb_app (pe_op op_rep (pe_lst (p1 pe_str)) (pv 1))))))
      (pss_cons (pst 5 nN (pe_lst (p2 (pe_tup (p2 (pe_op op_sub (pv 2) pe_int) (pf (ok_law_digit B) hr (p2 (pv 0) (pv 3))))) (pe_tup (p2 (pf (ok_law_digit B) hr (p2 (pv 0) (pv 2))) pe_int)))))
      (pss_cons (ps_expr (m_list PySem.F.slot_list_append PySem.F.type_list_append mt_append (pv 5) (p1 (pe_tup (p2 (pf (ok_law_digit B) hr (p2 (pv 0) (pv 2))) (pf (ok_law_digit B) hr (p2 (pv 0) (pv 3))))))))
      (pss_cons (pfor (pi_enum true rfl (B.z B.y5) (p1 (pv 5))) (pg_tup (n := 2) rfl (pgs_cons (pgn 6 nN) (pgs_cons (pg_tup (n := 2) rfl (pgs_cons (pgn 7 nN) (pgs_cons (pgn 8 nN) pgs_nil))) pgs_nil))) (pss_one (ps_asg (pix ix_str (pf0 (ok_law_signs B) hr) (pv 6)) (pg_sub (pix ix_list (pv 4) (pv 8)) (pv 7) set_list))))
      (pss_cons (pst 9 nN (pf (ok_law_digit B) hr (p2 (pv 0) pe_int)))
      (pss_cons (ps_lc1x (i := 10) (Nc := ["_law_line", "_law_more", "_law_tall"]) (js := [none, some 9, some 1]) rfl rfl nN rfl (Or.inl rfl) (pi_list (pv 4)) (CS.of rfl rfl) rfl (fun C s₂ H₂ fp pins => (pgc 0)) (fun C s₂ H₂ fp pins D L => (pt_tail0 (pb_app (pe_op op_add_str (pe_op op_mulS pe_str (pe_op op_mul (pv 1) (pe_op op_sub pe_int (pv 2)))) (show PE _ _ (tBM K "str" (rJoin K) _ _) from (pe_bm PySem.F.plainAttrs_str PySem.F.slot_str_join PySem.F.type_str_join (show MtM _ _ (rJoin K) from mt_join) pe_str (p1 (pv 0)))))))))
      (pss_one (ps_ret (pe_op op_add_str (pe_bm PySem.F.plainAttrs_str PySem.F.slot_str_join PySem.F.type_str_join mt_join pe_str (p1 (pe_op op_cat (pv 10) (pe_op op_rep (pe_lst (p1 (pe_op op_mulS pe_str (pv 2)))) (pe_op op_mul (pv 9) (pv 1)))))) pe_str)))))))))))), ?_⟩
  try dsimp only [cxOf]
  refine ⟨_, rfl, a, 2, rfl, pa, by decide, lit9 (by decide), fun tall H1 t0 t1 s1 p1 => ?_⟩
  refine ⟨_, rfl, a, 3, rfl, p1, by decide, lit9 (by decide), fun d2 H2 c0 c1 s2 p2 => ?_⟩
  refine ⟨_, _, rfl, rfl, _, rfl, a, 3, rfl, p2, by decide, lit9 (by decide), fun d3 H3 i0 i1 s3 p3 => ?_⟩
  refine ⟨_, _, rfl, rfl, (by show 2 ≤ sizeLine; decide), fun t nt => ?_⟩
  have gt := same_new nt (.tup [V.int (75 + d2), V.int (1 + d3)])
  refine ⟨t, _, rfl, SqT.of upd_same, rfl, _, _, rfl, _, _, rfl, rfl, ?_⟩
  have b3 : SameBut a H (upd H3 t (.tup [V.int (75 + d2), V.int (1 + d3)])) := (s1.trans (s2.trans s3)).trans (SameBut.of gt)
  have p3' := p3.kept gt
  generalize upd H3 t (.tup [V.int (75 + d2), V.int (1 + d3)]) = H4 at *
  dsimp only
  refine ifs_two (I := fun σ H' => ∃ (tl : Int) (w h : Nat), σ = [some (.ref a), some (.int tl), some (vn w), some (vn h), none, none, none, none, none, none, none] ∧ (tl = 0 ∨ tl = 1) ∧ 1 ≤ w ∧ w ≤ 77 ∧ 1 ≤ h ∧ h ≤ 41 ∧ SameBut a H H' ∧ PotAt H' a) ?_ (fun j => ?_)
  rotate_left
  · refine ⟨_, rfl, rfl, _, rfl, ?_⟩
    by_cases e0 : V.int tall = V.int 1
    · rw [decide_eq_true e0]
      refine iteT ?_
      refine ⟨_, rfl, _, rfl, _, _, rfl, rfl, (by show 2 ≤ sizeLine; decide), fun t nt => ?_⟩
      refine ⟨t, _, rfl, SqT.of upd_same, rfl, _, _, rfl, _, _, rfl, rfl, ?_⟩
      have gt := same_new nt (.tup [V.int (1 + d3), V.int (75 + d2 - 36)])
      refine j _ _ ⟨tall, (1 + d3).toNat, (75 + d2 - 36).toNat, ?_, by omega, by omega, by omega, by omega, by omega, b3.trans (SameBut.of gt), p3'.kept gt⟩
      unfold vn
      rw [show (((1 + d3).toNat : Nat) : Int) = 1 + d3 by omega, show (((75 + d2 - 36).toNat : Nat) : Int) = 75 + d2 - 36 by omega]
      rfl
    · rw [decide_eq_false e0]
      refine iteF ?_
      refine j _ _ ⟨tall, (75 + d2).toNat, (1 + d3).toNat, ?_, by omega, by omega, by omega, by omega, by omega, b3, p3'⟩
      unfold vn
      rw [show (((1 + d3).toNat : Nat) : Int) = 1 + d3 by omega, show (((75 + d2).toNat : Nat) : Int) = 75 + d2 by omega]
      rfl
  clear b3 p3' gt nt s1 s2 s3 p1 p2 p3 t0 t1 c0 c1 i0 i1
  rintro σ H1 ⟨tl, w, h, rfl, tl', w1, w2, h1, h2, b1, p1⟩
  refine ⟨_, rfl, (h : Int), rfl, by omega, by omega, fun L nL => ?_⟩
  have La := ap p1 nL
  have kL := same_new nL (.lst [])
  refine walk_range (lo := 0) (n := (h : Int).toNat) (fun i σ H' => ∃ (x0 : Option V) (rs : List Addr), σ = [x0, some (vn w)] ∧ Same H1 H' ∧ LinesAt H' L w i rs ∧ ∀ s ∈ rs, H1 s = none) ⟨none, [], rfl, kL, ⟨upd_same, rfl, fun r hr => nomatch hr⟩, fun r hr => nomatch hr⟩ ?_ ?_
  · rintro i σ H2 hi ⟨x0, rs, rfl, g2, X, fr⟩
    rw [Int.toNat_natCast] at hi
    refine ⟨(by show 1 ≤ sizeLine; decide), fun q nq => ?_⟩
    have gq := same_new nq (.lst [V.str (Str.ofString ".")])
    have eq := upd_same (H := H2) (a := q) (o := .lst [V.str (Str.ofString ".")])
    have X' := X.kept gq
    have g3 := g2.trans gq
    generalize upd H2 q (.lst [V.str (Str.ofString ".")]) = H3 at *
    refine ⟨_, rfl, q, _, _, rfl, rfl, eq, (by omega), (by omega), (by show 1 * _ ≤ sizeLine; exact small (by omega)), fun u nu => ?_⟩
    rw [rep_tv, Int.toNat_natCast]
    have gu := same_new nu (.lst (List.replicate w (V.str (Str.ofString "."))))
    have eu : upd H3 u (.lst (List.replicate w (V.str (Str.ofString ".")))) u = some (.lst ((List.replicate w 46).map tv)) := by rw [upd_same, List.map_replicate]; rfl
    have X3 := X'.kept gu
    have g4 := g3.trans gu
    have uL : u ≠ L := fun z => by rw [z, X'.top] at nu; cases nu
    generalize upd H3 u (.lst (List.replicate w (V.str (Str.ofString ".")))) = H4 at *
    have l1 := X.len
    refine ⟨_, X3.top, small1000 (by rw [List.length_map]; omega), _, rs ++ [u], rfl, keep_upd nL g4, X3.snoc (by omega) ⟨_, List.length_replicate, fun c hc => by rw [(List.mem_replicate.mp hc).2]; decide, eu⟩ uL, fun s hs => ?_⟩
    rcases List.mem_append.mp hs with hs | hs
    · exact fr s hs
    · rw [List.mem_singleton.mp hs]
      exact g3.free nu
  rintro σ H2 ⟨x0, rs, rfl, g2, X, fr⟩
  rw [Int.toNat_natCast] at X
  have b2 := b1.trans (SameBut.of g2)
  have p2 := p1.kept g2
  replace fr : ∀ s ∈ rs, H s = none := fun s hs => but_free b1 (fr s hs) ((X.at' s hs).ne p2)
  have nL0 := but_free b1 nL La
  clear kL nL g2 b1 p1 x0 H1
  refine ⟨_, rfl, _, _, rfl, rfl, _, rfl, _, rfl, a, (h : Int), rfl, p2, (by omega), lit9 (Nat.lt_of_le_of_lt (m := 41) (by omega) (by decide)), fun y1 H3 c0 c1 s3 p3 => ?_⟩
  have X3 := X.but p2 La s3
  have b3 := b2.trans s3
  refine ⟨(by show 2 ≤ sizeLine; decide), fun u1 n1 => ?_⟩
  obtain ⟨x1, ex1, hx1⟩ : ∃ x1 : Nat, ((w : Int) - 1) = (x1 : Int) ∧ x1 < w := ⟨w - 1, by omega, by omega⟩
  obtain ⟨y1, rfl⟩ := Int.eq_ofNat_of_zero_le c0
  rw [ex1]
  have g1 := same_new n1 (.tup [V.int (x1 : Int), V.int (y1 : Int)])
  have e1 : upd H3 u1 (.tup [V.int (x1 : Int), V.int (y1 : Int)]) u1 = some (.tup [vn x1, vn y1]) := upd_same
  have X4 := X3.kept g1
  have p4 := p3.kept g1
  have b4 := b3.trans (SameBut.of g1)
  generalize upd H3 u1 (.tup [V.int (x1 : Int), V.int (y1 : Int)]) = H4 at *
  refine ⟨_, rfl, _, rfl, a, (w : Int), rfl, p4, (by omega), lit9 (Nat.lt_of_le_of_lt (m := 77) (by omega) (by decide)), fun x2 H5 c2 c3 s5 p5 => ?_⟩
  obtain ⟨x2, rfl⟩ := Int.eq_ofNat_of_zero_le c2
  refine ⟨(by show 2 ≤ sizeLine; decide), fun u2 n2 => ?_⟩
  have X5 := X4.but p4 La s5
  have e15 := s5 _ _ (p4.ne e1) e1
  have b5 := b4.trans s5
  have g5 := same_new n2 (.tup [V.int (x2 : Int), V.int 0])
  have e2 : upd H5 u2 (.tup [V.int (x2 : Int), V.int 0]) u2 = some (.tup [vn x2, vn 0]) := upd_same
  have X6 := X5.kept g5
  have p6 := p5.kept g5
  have b6 := b5.trans (SameBut.of g5)
  have e16 := g5 _ _ e15
  generalize upd H5 u2 (.tup [V.int (x2 : Int), V.int 0]) = H6 at *
  refine ⟨(by show 2 ≤ sizeLine; decide), fun l nl => ?_⟩
  have la := ap p6 nl
  have g6 := same_new nl (.lst [V.ref u1, V.ref u2])
  have el := upd_same (H := H6) (a := l) (o := .lst [V.ref u1, V.ref u2])
  have X7 := X6.kept g6
  have p7 := p6.kept g6
  have b7 := b6.trans (SameBut.of g6)
  have e17 := g6 _ _ e16
  have e27 := g6 _ _ e2
  have nl0 := but_free b6 nl la
  have nlr : ∀ s ∈ rs, s ≠ l := fun s hs z => by
    obtain ⟨_, _, _, h⟩ := X6.at' s hs
    rw [z, nl] at h
    cases h
  have Ll : L ≠ l := fun z => by have := X6.top; rw [z, nl] at this; cases this
  generalize upd H6 l (.lst [V.ref u1, V.ref u2]) = H7 at *
  clear e15 e16 e2 e1 X5 X6 X4 X3 g1 g5 g6 p3 p4 p5 p6 b4 b5 b6 s3 s5 n1 n2
  refine ⟨_, rfl, .inl ⟨rfl, _, SqL.of el⟩, _, rfl, _, rfl, a, (w : Int), rfl, p7, (by omega), lit9 (Nat.lt_of_le_of_lt (m := 77) (by omega) (by decide)), fun x3 H8 c4 c5 s8 p8 => ?_⟩
  refine ⟨_, rfl, _, rfl, a, (h : Int), rfl, p8, (by omega), lit9 (Nat.lt_of_le_of_lt (m := 41) (by omega) (by decide)), fun y3 H9 c6 c7 s9 p9 => ?_⟩
  obtain ⟨x3, rfl⟩ := Int.eq_ofNat_of_zero_le c4
  obtain ⟨y3, rfl⟩ := Int.eq_ofNat_of_zero_le c6
  have s89 := s8.trans s9
  refine ⟨(by show 2 ≤ sizeLine; decide), fun u3 n3 => ?_⟩
  have g9 := same_new n3 (.tup [V.int (x3 : Int), V.int (y3 : Int)])
  have e3 : upd H9 u3 (.tup [V.int (x3 : Int), V.int (y3 : Int)]) u3 = some (.tup [vn x3, vn y3]) := upd_same
  have X9 := ((X7.but p7 La s8).but p8 La s9).kept g9
  have e19 := g9 _ _ (s89 _ _ (p7.ne e17) e17)
  have e29 := g9 _ _ (s89 _ _ (p7.ne e27) e27)
  have el9 := g9 _ _ (s89 _ _ la el)
  have p10 := p9.kept g9
  have b10 := (b7.trans s89).trans (SameBut.of g9)
  generalize upd H9 u3 (.tup [V.int (x3 : Int), V.int (y3 : Int)]) = H10 at *
  refine ⟨l, _, _, rfl, rfl, el9, (by show 2 < sizeLine; decide), ?_⟩
  have X11 : LinesAt (upd H10 l (.lst ([V.ref u1, V.ref u2] ++ [V.ref u3]))) L w h rs := ⟨by rw [upd_ne Ll]; exact X9.top, X9.len, fun s hs => by
    obtain ⟨z, h1, h2, h3⟩ := X9.at' s hs
    exact ⟨z, h1, h2, by rw [upd_ne (nlr s hs)]; exact h3⟩⟩
  have p11 : PotAt (upd H10 l (.lst ([V.ref u1, V.ref u2] ++ [V.ref u3]))) a := p10.other la.symm
  have b11 : SameBut a H (upd H10 l (.lst ([V.ref u1, V.ref u2] ++ [V.ref u3]))) := but_keep nl0 b10
  have el11 : upd H10 l (.lst ([V.ref u1, V.ref u2] ++ [V.ref u3])) l = some (.lst [V.ref u1, V.ref u2, V.ref u3]) := upd_same
  have pts : ∀ (i : Nat) (v : V), [V.ref u1, V.ref u2, V.ref u3][i]? = some v → ∃ (u : Addr) (x y : Nat), v = .ref u ∧ upd H10 l (.lst ([V.ref u1, V.ref u2] ++ [V.ref u3])) u = some (.tup [vn x, vn y]) ∧ x < w ∧ y < h ∧ i < 3 := fun i v e => by
    have tl : ∀ {u : Addr} {xs : List V}, H10 u = some (.tup xs) → upd H10 l (.lst ([V.ref u1, V.ref u2] ++ [V.ref u3])) u = some (.tup xs) := fun {u xs} e => by
      rw [upd_ne (ne_of e el9 (fun z => by cases z))]
      exact e
    match i, e with
    | 0, e => cases e; exact ⟨u1, x1, y1, rfl, tl e19, by omega, by omega, by omega⟩
    | 1, e => cases e; exact ⟨u2, x2, 0, rfl, tl e29, by omega, by omega, by omega⟩
    | 2, e => cases e; exact ⟨u3, x3, y3, rfl, tl e3, by omega, by omega, by omega⟩
  generalize upd H10 l (.lst ([V.ref u1, V.ref u2] ++ [V.ref u3])) = HL at *
  have lnr : l ∉ rs := fun z => nlr l z rfl
  clear e19 e29 e3 el9 el X7 X9 e17 e27 p7 p8 p9 p10 b7 b10 s8 s9 s89 g9 n3 nl nlr b2 b3 p2 X nl0 H10 H9 H8 H7 H6 H5 H4 H3 H2
  refine ⟨_, rfl, l, rfl, ⟨_, SqL.of el11⟩, for_enum (k := true) (xs := [V.ref u1, V.ref u2, V.ref u3]) (fun i σ H' => ∃ (x6 x7 x8 : Option V), σ = [some (.ref a), some (.int tl), some (vn w), some (vn h), some (.ref L), some (.ref l), x6, x7, x8, none, none] ∧ ButL rs HL H' ∧ LinesAt H' L w h rs ∧ PotAt H' a) ⟨_, _, _, rfl, fun _ _ _ e => e, X11, p11⟩ ?_ ?_ ?_⟩
  · rintro i σ H' _ ⟨x6, x7, x8, rfl, bb, _, _⟩
    exact SqL.of (bb _ _ lnr el11)
  · rintro i x T σ H1 hx nT ⟨x6, x7, x8, rfl, bb, X1, p1⟩
    obtain ⟨u, xx, yy, rfl, eu, hxx, hyy, hi⟩ := pts i x hx
    have gT := same_new nT (.tup [.int i, .ref u])
    have unr : u ∉ rs := fun z => by
      obtain ⟨_, _, _, h⟩ := X11.at' u z
      rw [h] at eu
      cases eu
    have eu2 := gT _ _ (bb _ _ unr eu)
    have eT := upd_same (H := H1) (a := T) (o := .tup [.int i, .ref u])
    have X2 := X1.kept gT
    have p2 := p1.kept gT
    have bb2 := bb.same gT
    generalize upd H1 T (.tup [.int i, .ref u]) = H2 at *
    refine ⟨T, _, rfl, SqT.of eT, rfl, _, _, rfl, _, _, rfl, u, _, rfl, SqT.of eu2, rfl, _, _, rfl, _, _, rfl, rfl, rfl, ?_⟩
    obtain ⟨c, hc, ec⟩ := sg_atI (i := (i : Int)) (by omega) (by omega)
    have hr0 : yy < rs.length := by rw [X2.len]; exact hyy
    have hu := List.getElem_mem hr0
    have er : rs[yy]? = some rs[yy] := List.getElem?_eq_getElem hr0
    generalize rs[yy] = r at hu er
    obtain ⟨z, lz, oz, hz⟩ := X2.at' r hu
    refine ⟨rfl, _, rfl, _, _, _, rfl, rfl, small (by rw [tx_len]; decide), ec, ?_⟩
    refine ⟨_, rfl, _, rfl, L, _, _, _, rfl, rfl, SqL.of X2.top, atI_nat (by rw [List.getElem?_map, er]; rfl), _, rfl, r, _, _, xx, rfl, rfl, hz, ixN_nat (by rw [List.length_map, lz]; omega), ?_⟩
    exact ⟨_, _, _, rfl, bb2.put hu, X2.put (by omega) hz lz oz (by omega) hc, p2.other ((X2.at' r hu).ne p2).symm⟩
  rintro σ H1 ⟨x6, x7, x8, rfl, bb, X1, p1⟩
  have b1 := but_frame fr b11 bb
  clear X11 p11 pts bb
  refine ⟨_, rfl, a, 4, rfl, p1, by decide, lit9 (by decide), fun mo H2 m0 m1 s2 p2 => ?_⟩
  have X2 := X1.but p1 La s2
  have b2 := b1.trans s2
  have hm1 : 0 ≤ mo * (1 - tl) ∧ mo * (1 - tl) ≤ 3 := by rcases tl' with rfl | rfl <;> simp <;> omega
  have hm2 : 0 ≤ mo * tl ∧ mo * tl ≤ 3 := by rcases tl' with rfl | rfl <;> simp <;> omega
  clear X1 p1 b1 s2
  refine ⟨_, rfl, L, rfl, ⟨_, SqL.of X2.top⟩, fun D nD => ?_⟩
  have kD := same_new nD (.lst [])
  refine walk_list (xs := rs.map V.ref) (fun i σ H' => ∃ (x0 : Option V) (zs : List (List Nat)), σ = [x0, some (.int mo), some (.int tl)] ∧ Same H2 H' ∧ H' D = some (.lst (vL zs)) ∧ zs.length = i ∧ ∀ z ∈ zs, z.length ≤ w + 3 ∧ ∀ c ∈ z, c < 128) ⟨none, [], rfl, kD, upd_same, rfl, fun z hz => nomatch hz⟩ ?_ ?_ ?_
  · rintro i σ H' _ ⟨x0, zs, rfl, g2, _⟩
    exact SqL.of (g2 _ _ X2.top)
  · rintro i x σ H3 hx ⟨x0, zs, rfl, g2, hD, lz, oz⟩
    have hi : i < h := by have := (List.getElem?_eq_some_iff.mp hx).1; rwa [List.length_map, X2.len] at this
    rw [List.getElem?_map] at hx
    obtain ⟨u, hu, rfl⟩ := Option.map_eq_some_iff.mp hx
    obtain ⟨z, lz', oz', hz⟩ := X2.at' u (List.mem_of_getElem? hu)
    have e1 : z.map tv = (z.map fun c => tx [c]).map V.str := by rw [List.map_map]; rfl
    refine ⟨_, rfl, _, rfl, _, _, rfl, rfl, _, _, rfl, rfl, .inl ⟨by omega, by omega⟩, 46, _, rfl, rfl, hm1.1, (by omega), ?_⟩
    refine ⟨rfl, _, rfl, _, _, _, rfl, rfl, SqL.of (by rw [← e1]; exact g2 _ _ hz), joinOk_of (B := 1) ?_ ?_, ?_⟩
    · intro y hy
      obtain ⟨c, _, rfl⟩ := List.mem_map.mp hy
      exact Nat.le_of_eq (tx_len _)
    · rw [List.length_map]
      show z.length * 1 + z.length * 0 ≤ _
      omega
    · rw [show (Str.ofString "" : Str) = tx [] from rfl, join_tv]
      refine ⟨_, _, rfl, rfl, (by rw [tx_len, tx_len, List.length_replicate]; exact Nat.le_of_lt (smallB (by omega))), ?_⟩
      rw [tx_app]
      refine ⟨_, hD, small1000 (by rw [vL_len]; omega), _, zs ++ [List.replicate (mo * (1 - tl)).toNat 46 ++ z], rfl, keep_upd nD g2, (by rw [upd_same]; unfold vL; rw [List.map_append]; rfl), (by rw [List.length_append, lz]; rfl), fun y hy => ?_⟩
      rcases List.mem_append.mp hy with hy | hy
      · exact oz y hy
      · rw [List.mem_singleton.mp hy]
        refine ⟨by rw [List.length_append, List.length_replicate]; omega, fun c hc => ?_⟩
        rcases List.mem_append.mp hc with hc | hc
        · rw [(List.mem_replicate.mp hc).2]; decide
        · exact oz' c hc
  · rintro σ H3 ⟨x0, zs, rfl, g2, hD, lz, oz⟩
    rw [List.length_map, X2.len] at lz
    refine ⟨rfl, _, rfl, _, rfl, 46, _, rfl, rfl, (by omega), (by omega), (by show 1 ≤ sizeLine; decide), fun q nq => ?_⟩
    have gq := same_new nq (.lst [V.str (tx (List.replicate (w : Int).toNat 46))])
    refine ⟨_, rfl, _, rfl, _, _, rfl, rfl, .inl ⟨by omega, by omega⟩, q, _, _, rfl, rfl, upd_same, (by omega), (by omega), (by show 1 * _ ≤ sizeLine; exact small (by omega)), fun r nr => ?_⟩
    rw [rep_tv, Int.toNat_natCast]
    rw [Int.toNat_natCast] at gq nr
    have ev : List.replicate (mo * tl).toNat (V.str (tx (List.replicate w 46))) = vL (List.replicate (mo * tl).toNat (List.replicate w 46)) := by unfold vL; rw [List.map_replicate]
    rw [ev]
    have gr := same_new nr (.lst (vL (List.replicate (mo * tl).toNat (List.replicate w 46))))
    generalize hys : List.replicate (mo * tl).toNat (List.replicate w 46) = ys at gr ⊢
    have ly : ys.length ≤ 3 := by rw [← hys, List.length_replicate]; omega
    have oy : ∀ z ∈ ys, z.length ≤ w + 3 ∧ ∀ c ∈ z, c < 128 := fun z hz => by
      rw [← hys] at hz
      rw [(List.mem_replicate.mp hz).2, List.length_replicate]
      exact ⟨by omega, fun c hc => by rw [(List.mem_replicate.mp hc).2]; decide⟩
    refine ⟨D, r, _, _, rfl, rfl, gr _ _ (gq _ _ hD), upd_same, (by rw [vL_len, vL_len]; exact small (by omega)), fun s ns => ?_⟩
    have eq : vL zs ++ vL ys = vL (zs ++ ys) := (List.map_append ..).symm
    rw [eq]
    have gs := same_new ns (.lst (vL (zs ++ ys)))
    have gg := ((g2.trans gq).trans gr).trans gs
    have tt := tot_le (zs ++ ys) (w := w + 3) fun z hz => by
      rcases List.mem_append.mp hz with hz | hz
      · exact (oz z hz).1
      · exact (oy z hz).1
    have t1 : tot (zs ++ ys) ≤ 3564 := Nat.le_trans tt (Nat.le_trans (Nat.mul_le_mul (show (zs ++ ys).length ≤ 44 by rw [List.length_append]; omega) (show w + 3 + 1 ≤ 81 by omega)) (by decide))
    refine ⟨_, _, _, rfl, rfl, SqL.of (by rw [vL_map]; exact upd_same), tot_joinOk (by omega), ?_⟩
    rw [show (Str.ofString "\n" : Str) = tx [10] from rfl, join_c]
    have jl := jn_len 10 (zs ++ ys)
    refine ⟨_, _, rfl, rfl, (by rw [tx_len, tx_len]; exact Nat.le_of_lt (smallB (by simp; omega))), ?_⟩
    show Q (V.str (tx (jn 10 (zs ++ ys)) ++ tx [10])) _
    rw [tx_app]
    refine k _ _ ⟨fun c hc => ?_, by rw [List.length_append]; simp; omega⟩ (b2.trans (SameBut.of gg)) (p2.kept gg)
    rcases List.mem_append.mp hc with hc | hc
    · rcases jn_mem 10 _ c hc with rfl | ⟨z, hz, h⟩
      · decide
      · rcases List.mem_append.mp hz with hz | hz
        · exact (oz z hz).2 c h
        · exact (oy z hz).2 c h
    · rw [List.mem_singleton.mp hc]
      decide
--SPLIT
open Txs Pic
theorem Tx.mono {n m : Nat} {l : List Nat} (t : Tx n l) (h : n ≤ m) : Tx m l := ⟨t.lt, Nat.le_trans t.le h⟩
theorem ok_law_drawn (B : Fx) : Hs "_law_drawn" ["_law_pot_here"] 4 (spTextN 39000) := by
  refine hs_of B.X B.d16 sc_law_drawn fun f cdv A outer s H vs Q E nN hr h => ?_
  obtain ⟨a, rfl, pa, k⟩ := h
  refine ⟨_, (pss_cons (ps_if (pt_cmpR op_eq (pf (ok_law_digit B) hr (p2 (pv 0) pe_int)) pe_int (nomark _)) (pss_one (ps_ret (pe_bm PySem.F.plainAttrs_str PySem.F.slot_str_join PySem.F.type_str_join mt_join pe_str (p1 (pe_lc1x (Nc := ["_law_k", "_law_pot_here"]) (js := [none, some 0]) rfl rfl (pi_range1 rfl (B.z B.y6) (p1 (pf (ok_law_digit B) hr (p2 (pv 0) pe_int)))) (CS.of rfl rfl) rfl (fun C s₂ H₂ fp pins => (pgc 0)) (fun C s₂ H₂ fp pins D L => (pt_tail0 (pb_app (pf (ok_law_sign B) hr (p1 (pv 1))))))))))) pss_nil)
      (pss_cons (ps_if (pt_cmpR op_eq (pf (ok_law_digit B) hr (p2 (pv 0) pe_int)) pe_int (nomark _)) (pss_one (ps_ret (pf (ok_law_far B) hr (p1 (pv 0))))) pss_nil)
      (pss_cons (pst 1 nN (pf (ok_law_whole B) hr (p1 (pv 0))))
      (pss_cons (pfor (pi_range1 rfl (B.z B.y6) (p1 (pf (ok_law_digit B) hr (p2 (pv 0) pe_int)))) (pgn 2 nN) (pss_one (pst 1 nN (pf (ok_law_spoilt B) hr (p2 (pv 0) (pv 1))))))
      (pss_one (ps_ret (pv 1))))))), ?_⟩
  try dsimp only [cxOf]
  refine ⟨_, rfl, a, 9, rfl, pa, by decide, lit9 (by decide), fun d1 H1 c0 c1 s1 p1 => ?_⟩
  refine ⟨rfl, _, rfl, ?_⟩
  by_cases e0 : V.int d1 = V.int 0
  · rw [decide_eq_true e0]
    refine iteT ?_
    refine ⟨rfl, _, rfl, a, 12, rfl, p1, by decide, lit9 (by decide), fun n H2 c2 c3 s2 p2 => ?_⟩
    refine ⟨n, rfl, by omega, by omega, fun D nD => ?_⟩
    have Da := ap p2 nD
    have b2 := s1.trans s2
    have nD0 := but_free b2 nD Da
    refine walk_range (lo := 0) (n := n.toNat) (fun i σ H' => ∃ (x0 : Option V) (l : List Nat), σ = [x0, some (.ref a)] ∧ SameBut a H H' ∧ PotAt H' a ∧ H' D = some (.lst (l.map tv)) ∧ l.length = i ∧ ∀ c ∈ l, c < 128) ⟨none, [], rfl, but_keep nD0 b2, p2.other Da.symm, upd_same, rfl, fun c hc => nomatch hc⟩ ?_ ?_
    · rintro i σ H3 hi ⟨x0, l, rfl, b3, p3, hD, ll, lo⟩
      refine ⟨_, rfl, a, rfl, p3, fun c H4 hc s4 p4 => ?_⟩
      refine ⟨_, s4 _ _ Da hD, small1000 (by rw [List.length_map]; omega), _, l ++ [c], rfl, but_keep nD0 (b3.trans s4), p4.other Da.symm, (by rw [upd_same, List.map_append]; rfl), (by rw [List.length_append, ll]; rfl), fun x hx => ?_⟩
      rcases List.mem_append.mp hx with hx | hx
      · exact lo x hx
      · rw [List.mem_singleton.mp hx]; exact hc
    · rintro σ H3 ⟨x0, l, rfl, b3, p3, hD, ll, lo⟩
      have e1 : l.map tv = (l.map fun c => tx [c]).map V.str := by rw [List.map_map]; rfl
      refine ⟨_, _, _, rfl, rfl, SqL.of (by rw [← e1]; exact hD), joinOk_of (B := 1) ?_ ?_, ?_⟩
      · intro y hy
        obtain ⟨c, _, rfl⟩ := List.mem_map.mp hy
        exact Nat.le_of_eq (tx_len _)
      · rw [List.length_map]
        show l.length * 1 + l.length * 0 ≤ _
        omega
      · rw [show (Str.ofString "" : Str) = tx [] from rfl, join_tv]
        exact k l H3 ⟨lo, by omega⟩ b3 p3
  rw [decide_eq_false e0]
  refine iteF ?_
  refine ⟨_, rfl, a, 6, rfl, p1, by decide, lit9 (by decide), fun d2 H2 c2 c3 s2 p2 => ?_⟩
  refine ⟨rfl, _, rfl, ?_⟩
  have b2 := s1.trans s2
  by_cases e0 : V.int d2 = V.int 0
  · rw [decide_eq_true e0]
    refine iteT ?_
    exact ⟨_, rfl, a, rfl, p2, fun m H3 t s3 p3 => k m H3 (t.mono (by decide)) (b2.trans s3) p3⟩
  rw [decide_eq_false e0]
  refine iteF ?_
  refine ⟨_, rfl, a, rfl, p2, fun m H3 t s3 p3 => ?_⟩
  refine ⟨_, rfl, a, 4, rfl, p3, by decide, lit9 (by decide), fun n H4 c4 c5 s4 p4 => ?_⟩
  have b4 := (b2.trans s3).trans s4
  refine ⟨n, rfl, by omega, by omega, for_range (lo := 0) (n := n.toNat) (fun i σ H' => ∃ (l : List Nat) (x2 : Option V), σ = [some (.ref a), some (.str (tx l)), x2] ∧ SameBut a H H' ∧ PotAt H' a ∧ Tx (if i = 0 then 3500 else if i = 1 then 7001 else if i = 2 then 14003 else 39000) l) ⟨m, _, rfl, b4, p4, t⟩ ?_ ?_⟩
  · rintro i σ H5 hi ⟨l, x2, rfl, b5, p5, t5⟩
    refine ⟨_, rfl, _, rfl, a, l, (if i = 0 then 3500 else if i = 1 then 7001 else if i = 2 then 14003 else 39000), rfl, p5, t5, ?_, fun m' H6 t6 s6 p6 => ?_⟩
    · rcases (by omega : i = 0 ∨ i = 1 ∨ i = 2) with rfl | rfl | rfl <;> decide
    · refine ⟨_, _, rfl, b5.trans s6, p6, t6.mono ?_⟩
      rcases (by omega : i = 0 ∨ i = 1 ∨ i = 2) with rfl | rfl | rfl <;> decide
  · rintro σ H5 ⟨l, x2, rfl, b5, p5, t5⟩
    refine ⟨_, rfl, k l H5 (t5.mono ?_) b5 p5⟩
    split
    · decide
    · split
      · decide
      · split <;> decide
--SPLIT
open Txs Pic
theorem for_enumS {z : Str} {g : TG} {tb : TS} {D : Ends} {σ : St} {H : Hp} (Pv : Nat → St → Hp → Prop) (h0 : Pv 0 σ H)
    (hs : ∀ i c T σ H, z.cps[i]? = some c → H T = none → Pv i σ H → g (.ref T) σ (upd H T (.tup [.int i, .str ⟨#[c]⟩])) fun σ2 H2 => tb { D with nx := Pv (i + 1), ct := Pv (i + 1), bk := D.nx } σ2 H2) (hd : ∀ σ H, Pv z.cps.size σ H → D.nx σ H) :
    ∃ W : Nat → Nat → St → Hp → Prop, (∃ m, W 0 m σ H) ∧ ∀ i m σ H, W i m σ H →
      ((Ites z).stop i H ∧ D.nx σ H) ∨ ((Ites z).go i H ∧ ∃ N : St → Hp → Prop, (∀ σ' H', N σ' H' → ∃ m', m' < m ∧ W (i + 1) m' σ' H') ∧ ∀ x H', (Ites z).yld i H x H' → g x σ H' fun σ2 H2 => tb { D with nx := N, ct := N, bk := D.nx } σ2 H2) := by
  refine ⟨fun i m σ H => m = z.cps.size - i ∧ i ≤ z.cps.size ∧ Pv i σ H, ⟨z.cps.size, by simp, Nat.zero_le _, h0⟩, ?_⟩
  rintro i m σ H ⟨rfl, hle, p⟩
  by_cases hi : i < z.cps.size
  · refine .inr ⟨hi, Pv (i + 1), fun σ' H' q => ⟨z.cps.size - (i + 1), by omega, rfl, by omega, q⟩, fun x H' hy => ?_⟩
    obtain ⟨T, c, nT, rfl, hc, rfl⟩ := hy
    exact hs i c T σ H hc nT p
  · have : i = z.cps.size := by omega
    subst this
    exact .inl ⟨Nat.le_refl _, hd σ H p⟩
/-- what stood up to the x-th sign of the k-th line -/
structure Tp (ls : List (List Nat)) (k x : Nat) (es : En) : Prop where
  nd : (es.map (·.1)).Nodup
  ok : ∀ e ∈ es, e.1 ∈ SG ∧ ∃ k', e.2.2 = ls.length - 1 - k' ∧ k' < ls.length ∧ (k' < k ∨ k' = k ∧ e.2.1 < x) ∧ ls[k']?.bind (·[e.2.1]?) = some e.1
  all : ∀ x' k' c : Nat, (k' < k ∨ k' = k ∧ x' < x) → ls[k']?.bind (·[x']?) = some c → c ≠ 46 → (c, x', ls.length - 1 - k') ∈ es
theorem Tp.few {ls : List (List Nat)} {k x : Nat} {es : En} (t : Tp ls k x es) : es.length ≤ 40 := by
  have := List.Nodup.length_le_of_subset t.nd (l₂ := SG) fun c hc => by
    obtain ⟨e, he, rfl⟩ := List.mem_map.mp hc
    exact (t.ok e he).1
  rw [List.length_map] at this
  exact this
theorem Tp.skip {ls : List (List Nat)} {k x : Nat} {es : En} (t : Tp ls k x es) (h : ls[k]?.bind (·[x]?) = some 46) : Tp ls k (x + 1) es := by
  refine ⟨t.nd, fun e he => ?_, fun x' k' c h1 h2 h3 => ?_⟩
  · obtain ⟨a, k', b, c, d, e⟩ := t.ok e he
    exact ⟨a, k', b, c, by omega, e⟩
  · by_cases z : k' = k ∧ x' = x
    · obtain ⟨rfl, rfl⟩ := z
      rw [h] at h2
      exact absurd (Option.some.inj h2).symm h3
    · exact t.all x' k' c (by omega) h2 h3
theorem Tp.put {ls : List (List Nat)} {k x c : Nat} {es : En} (t : Tp ls k x es) (h : ls[k]?.bind (·[x]?) = some c) (hc : c ∈ SG) (n : c ∉ es.map (·.1)) : Tp ls k (x + 1) (putE es (c, x, ls.length - 1 - k)) := by
  have hk : k < ls.length := by
    refine Classical.byContradiction fun n => ?_
    rw [List.getElem?_eq_none (by omega)] at h
    cases h
  have ep : putE es (c, x, ls.length - 1 - k) = es ++ [(c, x, ls.length - 1 - k)] := by
    unfold putE
    rw [if_neg]
    intro z
    obtain ⟨f, hf, ef⟩ := List.any_eq_true.mp z
    exact n (List.mem_map.mpr ⟨f, hf, of_decide_eq_true ef⟩)
  rw [ep]
  refine ⟨?_, fun e he => ?_, fun x' k' c' h1 h2 h3 => ?_⟩
  · rw [List.map_append, List.nodup_append]
    exact ⟨t.nd, by simp, fun a ha b hb z => n (by rw [List.map_singleton, List.mem_singleton] at hb; have e : b = c := hb; rw [← e, ← z]; exact ha)⟩
  · rcases List.mem_append.mp he with he | he
    · obtain ⟨a, k', b, c, d, e⟩ := t.ok e he
      exact ⟨a, k', b, c, by omega, e⟩
    · rw [List.mem_singleton.mp he]
      exact ⟨hc, k, rfl, hk, .inr ⟨rfl, Nat.lt_succ_self _⟩, h⟩
  · by_cases z : k' = k ∧ x' = x
    · obtain ⟨rfl, rfl⟩ := z
      rw [h] at h2
      cases h2
      exact List.mem_append_right _ (List.mem_singleton_self _)
    · exact List.mem_append_left _ (t.all x' k' c' (by omega) h2 h3)
theorem Tp.row {ls : List (List Nat)} {k : Nat} {row : List Nat} {es : En} (hr : ls[k]? = some row) (t : Tp ls k row.length es) : Tp ls (k + 1) 0 es := by
  refine ⟨t.nd, fun e he => ?_, fun x' k' c h1 h2 h3 => ?_⟩
  · obtain ⟨a, k', b, c, d, e⟩ := t.ok e he
    exact ⟨a, k', b, c, by omega, e⟩
  · refine t.all x' k' c ?_ h2 h3
    by_cases z : k' = k
    · subst z
      rw [hr] at h2
      exact .inr ⟨rfl, (List.getElem?_eq_some_iff.mp h2).1⟩
    · omega
theorem rev_at (ls : List (List Nat)) {y : Nat} (h : y < ls.length) : ls.reverse[y]? = ls[ls.length - 1 - y]? := List.getElem?_reverse h
theorem Tp.end {ls : List (List Nat)} {es : En} (t : Tp ls ls.length 0 es) : Tight ls es := by
  refine ⟨t.nd, fun e he => ?_, fun x y c h n => ?_⟩
  · obtain ⟨a, k', b, c, d, e⟩ := t.ok e he
    refine ⟨a, ?_⟩
    rw [b, rev_at ls (by omega), show ls.length - 1 - (ls.length - 1 - k') = k' by omega]
    exact e
  · have hy : y < ls.length := by
      refine Classical.byContradiction fun n => ?_
      rw [List.getElem?_eq_none (by rw [List.length_reverse]; omega)] at h
      cases h
    rw [rev_at ls hy] at h
    have := t.all x _ c (.inl (by omega)) h n
    rw [show ls.length - 1 - (ls.length - 1 - y) = y by omega] at this
    exact this
theorem Tp.bad {ls : List (List Nat)} {k x c : Nat} {es : En} (t : Tp ls k x es) (h : ls[k]?.bind (·[x]?) = some c) (n : c ≠ 46) (b : c ∈ es.map (·.1) ∨ c ∉ SG) : Pic.Bad ls := by
  have hk : k < ls.length := by
    refine Classical.byContradiction fun n => ?_
    rw [List.getElem?_eq_none (by omega)] at h
    cases h
  refine ⟨x, ls.length - 1 - k, c, ?_, n, ?_⟩
  · rw [rev_at ls (by omega), show ls.length - 1 - (ls.length - 1 - k) = k by omega]
    exact h
  · rcases b with b | b
    · right
      obtain ⟨e, he, rfl⟩ := List.mem_map.mp b
      obtain ⟨a, k', b, c, d, f⟩ := t.ok e he
      refine ⟨e.2.1, ls.length - 1 - k', fun z => ?_, ?_⟩
      · injection z with z1 z2
        omega
      · rw [rev_at ls (by omega), show ls.length - 1 - (ls.length - 1 - k') = k' by omega]
        exact f
    · exact .inl b
/-- what stands where: none of it if a sign is strange, or twice -/
inductive spSpots (vs : List V) (H : Hp) (Q : VK) (Y : XK) : Prop
  | mk : ∀ (p : Addr) (ls : List (List Nat)), (vs = [.ref p]) → (H p = some (.lst (vL ls))) → (∀ z ∈ ls, ∀ c ∈ z, c < 128) → (tot ls ≤ 40000) → (∀ (d : Addr) (es : En) (R : Nat → Addr) (H' : Hp), Same H H' → H d = none → H' d = some (.dK (enK es R)) → EnAt H' es R → (Tight ls es ∨ es = [] ∧ Pic.Bad ls) → Q (.ref d) H') → spSpots vs H Q Y
theorem ok_law_spots (B : Fx) : Hs "_law_spots" ["_law_lines"] 2 (spSpots) := by
  refine hs_of B.X B.d12 sc_law_spots fun f cdv A outer s H vs Q E nN hr h => ?_
  obtain ⟨p, ls, rfl, hp, ok, tt, k⟩ := h
  refine ⟨_, (pss_cons (pst 1 nN pe_dnewK)
      (pss_cons (pfor (pi_enum true rfl (B.z B.y5) (p1 (pv 0))) (pg_tup (n := 2) rfl (pgs_cons (pgn 2 nN) (pgs_cons (pgn 3 nN) pgs_nil))) (pss_one (pfor (pi_enumS rfl (B.z B.y5) (p1 (pv 3))) (pg_tup (n := 2) rfl (pgs_cons (pgn 4 nN) (pgs_cons (pgn 5 nN) pgs_nil))) (pss_one (ps_if (pt_cmpR op_ne (pv 5) pe_str (nomark _)) (pss_cons (ps_if (PW.pt (pw_or (pt_cmp (pc_din (hu_of hr) (pv 5) (pv 1))) (pw_or1 (pt_cmpR op_notin_str (pv 5) (pf0 (ok_law_signs B) hr) rfl)))) (pss_one (ps_ret pe_dnewK)) pss_nil)
      (pss_one (ps_dput (hu_of hr) (pv 1) (pv 5) (pe_tup (p2 (pv 4) (pe_op op_sub (pe_op op_sub (pe_callB call_len_seq rfl (B.z B.y8) PySem.boot_len (p1 (pv 0))) pe_int) (pv 2)))) rfl))) pss_nil)))))
      (pss_one (ps_ret (pv 1))))), ?_⟩
  try dsimp only [cxOf]
  intro d nd
  have kd := same_new nd (.dK [])
  have ll := tot_len ls
  refine ⟨_, rfl, p, rfl, ⟨_, SqL.of (kd _ _ hp)⟩, for_enum (k := true) (xs := vL ls) (fun i σ H' => ∃ (x2 x3 x4 x5 : Option V) (es : En) (R : Nat → Addr), σ = [some (.ref p), some (.ref d), x2, x3, x4, x5] ∧ Same H H' ∧ H' d = some (.dK (enK es R)) ∧ EnAt H' es R ∧ Tp ls i 0 es) ⟨_, _, _, _, [], fun _ => 0, rfl, kd, upd_same, (fun e he => (nomatch he)), ⟨List.nodup_nil, (fun e he => (nomatch he)), fun x' k' c h => by omega⟩⟩ ?_ ?_ ?_⟩
  · rintro i σ H' _ ⟨x2, x3, x4, x5, es, R, rfl, g2, _⟩
    exact SqL.of (g2 _ _ hp)
  · rintro i x T σ H2 hx nT ⟨x2, x3, x4, x5, es, R, rfl, g2, hd, F2, S2⟩
    unfold vL at hx
    rw [List.getElem?_map] at hx
    obtain ⟨row, hrow, rfl⟩ := Option.map_eq_some_iff.mp hx
    have ro := ok row (List.mem_of_getElem? hrow)
    have rl := tot_at (List.mem_of_getElem? hrow)
    have gT := same_new nT (.tup [.int i, .str (tx row)])
    refine ⟨T, _, rfl, SqT.of upd_same, rfl, _, _, rfl, _, _, rfl, rfl, ?_⟩
    have g4 := g2.trans gT
    have hd4 := gT _ _ hd
    have F4 : EnAt _ es R := fun e he => gT _ _ (F2 e he)
    generalize upd H2 T (.tup [.int i, .str (tx row)]) = H4 at *
    clear g2 hd F2 gT nT
    refine ⟨_, rfl, _, rfl, asc_tx ro, ?_⟩
    refine for_enumS (fun j σ H5 => ∃ (x4 x5 : Option V) (es : En) (R : Nat → Addr), σ = [some (.ref p), some (.ref d), some (vn i), some (.str (tx row)), x4, x5] ∧ Same H H5 ∧ H5 d = some (.dK (enK es R)) ∧ EnAt H5 es R ∧ Tp ls i j es) ⟨_, _, es, R, rfl, g4, hd4, F4, S2⟩ ?_ ?_
    · clear S2 g4 hd4 F4 es R x2 x3 x4 x5 H4 H2
      rintro j c T σ H5 hc nT ⟨x4, x5, es, R, rfl, g5, hd5, F5, S5⟩
      rw [tx_at] at hc
      have ch : ls[i]?.bind (·[j]?) = some c := by rw [hrow]; exact hc
      have gT := same_new nT (.tup [.int j, .str ⟨#[c]⟩])
      refine ⟨T, _, rfl, SqT.of upd_same, rfl, _, _, rfl, _, _, rfl, rfl, ?_⟩
      have g6 := g5.trans gT
      have hd6 := gT _ _ hd5
      have F6 : EnAt _ es R := fun e he => gT _ _ (F5 e he)
      generalize upd H5 T (.tup [.int j, .str ⟨#[c]⟩]) = H6 at *
      clear g5 F5 hd5 nT gT
      refine ⟨_, rfl, rfl, _, rfl, ?_⟩
      have hi := (List.getElem?_eq_some_iff.mp hrow).1
      by_cases c46 : c = 46
      · subst c46
        rw [decide_eq_true (show V.str { cps := #[46] } = V.str (Str.ofString ".") from rfl)]
        refine iteF ?_
        exact ⟨_, _, es, R, rfl, g6, hd6, F6, S5.skip ch⟩
      rw [decide_eq_false fun z => c46 (by have := tx_inj (a := [c]) (b := [46]) (V.str.inj z); injection this)]
      refine iteT ?_
      refine ⟨_, rfl, _, rfl, d, _, rfl, .inl ⟨_, ks c, .inl hd6, rfl, rfl⟩, _, rfl, ?_⟩
      rw [val_en S5.nd]
      by_cases m : c ∈ es.map (·.1)
      · rw [if_pos m]
        refine iteT (iteT ?_)
        exact fun q nq => k q [] R _ (g6.trans (same_new nq _)) (g6.free nq) upd_same (fun e he => nomatch he) (.inr ⟨rfl, S5.bad ch c46 (.inl m)⟩)
      rw [if_neg m]
      refine iteF ?_
      refine ⟨_, rfl, rfl, tx [c], _, rfl, rfl, ?_⟩
      rw [in_one]
      refine ⟨_, rfl, ?_⟩
      by_cases sg : c ∈ SG
      · rw [decide_eq_true sg]
        refine iteF ?_
        refine ⟨_, rfl, _, rfl, p, _, rfl, .inl (SqL.of (g6 _ _ hp)), _, _, rfl, rfl, _, rfl, _, _, rfl, rfl, (by show 2 ≤ sizeLine; decide), fun t nt => ?_⟩
        have ev : (((vL ls).length : Nat) : Int) - 1 - (i : Int) = ((ls.length - 1 - i : Nat) : Int) := by rw [vL_len]; omega
        rw [ev]
        have gt := same_new nt (.tup [vn j, vn (ls.length - 1 - i)])
        have few := S5.few
        refine ⟨_, rfl, _, rfl, d, _, rfl, DPut.k (k := ks c) (gt _ _ hd6) (smallB (by unfold enK; rw [List.length_map]; omega)), ?_⟩
        have td : t ≠ d := fun z => by rw [z, hd6] at nt; cases nt
        refine ⟨_, _, putE es (c, j, ls.length - 1 - i), setR R c t, rfl, keep_upd nd (g6.trans gt), ?_, fun e he => ?_, S5.put ch sg m⟩
        · rw [upd_same]
          exact congrArg (fun z => some (HO.dK z)) (enK_put es R (c, j, ls.length - 1 - i) t)
        · rcases mem_putE he with rfl | ⟨h1, h2⟩
          · rw [setR_same, upd_ne td]
            exact upd_same
          · rw [setR_ne h2]
            have f := F6 e h1
            rw [upd_ne (fun z => by rw [z, hd6] at f; cases f)]
            exact gt _ _ f
      · rw [decide_eq_false sg]
        refine iteT ?_
        exact fun q nq => k q [] R _ (g6.trans (same_new nq _)) (g6.free nq) upd_same (fun e he => nomatch he) (.inr ⟨rfl, S5.bad ch c46 (.inr sg)⟩)
    · rintro σ H5 ⟨x4, x5, es, R, rfl, g5, hd5, F5, S5⟩
      rw [tx_size] at S5
      exact ⟨_, _, _, _, es, R, rfl, g5, hd5, F5, S5.row hrow⟩
  · rintro σ H2 ⟨x2, x3, x4, x5, es, R, rfl, g2, hd, F2, S2⟩
    rw [vL_len] at S2
    exact ⟨_, rfl, k d es R H2 g2 nd hd F2 (.inl S2.end)⟩
--SPLIT
open Txs Pic
theorem tx_cps (l : List Nat) : (tx l).cps.toList = l := by simp [tx]
theorem slice_tail (m : List Nat) (c : Nat) : Txt.slice (tx (m ++ [c])) (some (-1)) none = tx [c] := by
  have := PySem.StrLaws.sliceText_from_neg (x := tx (m ++ [c])) (i := -1) (by decide) (by rw [tx_len, List.length_append]; simp; omega)
  rw [show Txt.slice (tx (m ++ [c])) (some (-1)) none = PySem.StrLaws.sliceText (tx (m ++ [c])) (some (-1)) none from rfl, this, tx_len, List.length_append, tx_cps]
  have e1 : (-1 + ((m.length + [c].length : Nat) : Int)).toNat = m.length := by simp; omega
  rw [e1, List.drop_left' rfl]
  have e2 : (((m ++ [c]).length : Nat) : Int) - (-1 + ((m.length + [c].length : Nat) : Int)) = 1 := by simp; omega
  rw [e2]
  rfl
theorem slice_init (m : List Nat) (c : Nat) : Txt.slice (tx (m ++ [c])) none (some (-1)) = tx m := by
  have := PySem.StrLaws.sliceText_to_neg (x := tx (m ++ [c])) (j := -1) (by decide) (by rw [tx_len, List.length_append]; simp; omega)
  rw [show Txt.slice (tx (m ++ [c])) none (some (-1)) = PySem.StrLaws.sliceText (tx (m ++ [c])) none (some (-1)) from rfl, this, tx_len, List.length_append, tx_cps]
  have e1 : (-1 + ((m.length + [c].length : Nat) : Int) - 0).toNat = m.length := by simp; omega
  rw [e1, List.drop_zero, List.take_left' rfl]
  rfl
theorem spl_pic {m : List Nat} {ps : Pl} {W h : Nat} (o : Pic.Ok ps) (e : m ++ [10] = pic ps W h) : ∀ z ∈ spl 10 m, z.length = W + 1 := fun z hz => by
  rw [pic_lines o e] at hz
  obtain ⟨i, _, rfl⟩ := List.mem_map.mp hz
  exact line_len _ _ _
theorem spl_picl {m : List Nat} {ps : Pl} {W h : Nat} (o : Pic.Ok ps) (e : m ++ [10] = pic ps W h) : (spl 10 m).length = h + 1 := by
  rw [pic_lines o e, lines_len]
def pD (p : Nat × Nat) : PyData := .tuple [.int p.1, .int p.2]
def psD (ps : Pl) : PyData := .tuple (ps.map pD)
theorem pD_lay (p : Nat × Nat) : PyData.canLay0 (pD p) = true ∧ PyData.depth (pD p) ≤ 1 := ⟨by simp [pD, PyData.canLay0, PyData.canLayAll0], by simp [pD, PyData.depth, PyData.depthAll]⟩
theorem pD_ok (p : Nat × Nat) : SeqAt.shaped (pD p) = true := by
  simp [pD, SeqAt.shaped, PyData.canLay0, PyData.canLayAll0, PyData.depth, PyData.depthAll]
theorem psD_ok (ps : Pl) : SeqAt.shaped (psD ps) = true := by
  have : PyData.canLayAll0 (ps.map pD) = true ∧ PyData.depthAll (ps.map pD) ≤ 1 := by
    induction ps with
    | nil => exact ⟨rfl, by decide⟩
    | cons p ps ih =>
      obtain ⟨h1, h2⟩ := pD_lay p
      simp only [List.map_cons, PyData.canLayAll0, PyData.depthAll, h1, ih.1]
      have := ih.2
      refine ⟨rfl, ?_⟩
      omega
  obtain ⟨h1, h2⟩ := this
  unfold psD SeqAt.shaped
  simp only [PyData.canLay0, PyData.depth, h1]
  first | (simp; omega) | (rw [Bool.and_eq_true]; exact ⟨rfl, decide_eq_true (by omega)⟩) | simp_all
theorem pD_eqv (p q : Nat × Nat) : PyData.eqv (pD p) (pD q) = decide (p = q) := by
  rw [Bool.eq_iff_iff]
  obtain ⟨a, b⟩ := p
  obtain ⟨c, d⟩ := q
  simp [pD, PyData.eqv, PyData.eqvAll]
  omega
theorem psD_eqv (ps : Pl) : PyData.eqv (psD ps) (psD ps) = true := by
  unfold psD
  rw [PyData.eqv]
  induction ps with
  | nil => rfl
  | cons p ps ih => rw [List.map_cons, PyData.eqvAll, pD_eqv, ih, decide_eq_true rfl]; rfl
theorem dt_pD {H : Hp} {z : Addr} {p : Nat × Nat} (h : H z = some (.tup [vn p.1, vn p.2])) : Dt K H (pD p) (.ref z) := by
  unfold pD Dt
  exact ⟨z, _, rfl, SqT.of h, by simp only [DtAll, Dt]; exact ⟨_, _, rfl, rfl, _, _, rfl, rfl, rfl⟩⟩
theorem dt_pDs {H : Hp} : ∀ {ps : Pl} {ts : List Addr}, ts.length = ps.length → (∀ (i : Nat) (t : Addr) (p : Nat × Nat), ts[i]? = some t → ps[i]? = some p → H t = some (.tup [vn p.1, vn p.2])) → DtAll K H (ps.map pD) (ts.map V.ref)
  | [], [], _, _ => by unfold DtAll; rfl
  | [], _ :: _, h, _ => by simp at h
  | _ :: _, [], h, _ => by simp at h
  | p :: ps, t :: ts, h, f => by
    rw [List.map_cons, List.map_cons]
    unfold DtAll
    exact ⟨_, _, rfl, dt_pD (f 0 t p rfl rfl), dt_pDs (by simpa using h) fun i t p e1 e2 => f (i + 1) t p e1 e2⟩
theorem PlAt.dt {H : Hp} {a : Addr} {ps : Pl} {ts : List Addr} (P : PlAt H a ps ts) : Dt K H (psD ps) (.ref a) := by
  unfold psD Dt
  exact ⟨a, _, rfl, SqT.of P.top, dt_pDs P.len P.at'⟩
theorem dtAll_str {H : Hp} : ∀ (ls : List (List Nat)), DtAll K H (ls.map fun z => PyData.str (tx z)) (vL ls)
  | [] => rfl
  | z :: r => ⟨_, _, rfl, rfl, dtAll_str r⟩
theorem tx_ok {z : List Nat} (h : ∀ c ∈ z, c < 128) : PyData.strOk (tx z) = true := by
  unfold PyData.strOk
  rw [Array.all_eq_true]
  intro i hi
  have hi' : i < z.length := by simpa [tx] using hi
  have : (tx z).cps[i] ∈ z := by simp [tx]
  have := h _ this
  simp only [decide_eq_true_eq]
  omega
theorem strs_lay (ls : List (List Nat)) (h : ∀ z ∈ ls, ∀ c ∈ z, c < 128) : PyData.canLayAll0 (ls.map fun z => PyData.str (tx z)) = true ∧ PyData.depthAll (ls.map fun z => PyData.str (tx z)) ≤ 1 := by
  induction ls with
  | nil => exact ⟨rfl, by decide⟩
  | cons t T ih =>
    have ih := ih fun z hz => h z (List.mem_cons_of_mem _ hz)
    have h1 : PyData.canLay0 (PyData.str (tx t)) = true := by simp [PyData.canLay0, tx_ok (h t List.mem_cons_self)]
    have h2 : PyData.depth (PyData.str (tx t)) ≤ 1 := by simp [PyData.depth]
    simp only [List.map_cons, PyData.canLayAll0, PyData.depthAll, h1, ih.1]
    have := ih.2
    refine ⟨rfl, ?_⟩
    omega
theorem shaped_strs (ls : List (List Nat)) (h : ∀ z ∈ ls, ∀ c ∈ z, c < 128) : SeqAt.shaped (.list (ls.map fun z => PyData.str (tx z))) = true := by
  obtain ⟨h1, h2⟩ := strs_lay ls h
  unfold SeqAt.shaped
  simp only [PyData.canLay0, PyData.depth, h1]
  first | (simp; omega) | (rw [Bool.and_eq_true]; exact ⟨rfl, decide_eq_true (by omega)⟩) | simp_all
theorem eqv_strs {ls : List (List Nat)} (h : ls ≠ []) : PyData.eqv (.list (ls.map fun z => PyData.str (tx z))) (.list []) = false := by
  cases ls with
  | nil => exact absurd rfl h
  | cons a r => rfl
/-- the places of the picture, or None where it is none -/
inductive spReadL (vs : List V) (H : Hp) (Q : VK) (Y : XK) : Prop
  | mk : ∀ (l : List Nat), (vs = [.str (tx l)]) → (∀ c ∈ l, c < 128) → (l.length ≤ 39000) → (∀ (ps : Pl) (W h : Nat) (a : Addr) (ts : List Addr) (H' : Hp), Pic.Ok ps → Bx ps W h → l = pic ps W h → Same H H' → PlAt H' a ps ts → Q (.ref a) H') →
      ((¬ ∃ (ps : Pl) (W h : Nat), Pic.Ok ps ∧ Bx ps W h ∧ l = pic ps W h) → ∀ H', Same H H' → Q .non H') → spReadL vs H Q Y
theorem ok_law_read (B : Fx) : Hs "_law_read" ["_law_text"] 3 (spReadL) := by
  refine hs_of B.X B.d13 sc_law_read fun f cdv A outer s H vs Q E nN hr h => ?_
  obtain ⟨l, rfl, ok, ll, kq, kn⟩ := h
  refine ⟨_, (pss_cons (ps_if (pt_cmpR op_ne (pe_slice sl_str (pv 0) (po_some (pe_un un_neg pe_int)) po_none) pe_str (nomark _)) (pss_one (ps_ret pe_non)) pss_nil)
      (pss_cons (pst 1 nN (pe_bm PySem.F.plainAttrs_str PySem.F.slot_str_split PySem.F.type_str_split mt_split (pe_slice sl_str (pv 0) po_none (po_some (pe_un un_neg pe_int))) (p1 pe_str)))
      (pss_cons (pst 2 nN (pf (ok_law_spots B) hr (p1 (pv 1))))
      (pss_cons (pst 3 nN (pe_slice sl_str (pf0 (ok_law_signs B) hr) po_none (po_some (pe_callB call_lenD rfl (B.z B.y8) PySem.boot_len (p1 (pv 2))))))
      (pss_cons (ps_if (PW.pt (pw_or (pt_cmpR op_gt (pe_callB call_len_seq rfl (B.z B.y8) PySem.boot_len (p1 (pv 1))) pe_int (nomark _)) (pw_or (pt_cmpR op_gt (pe_callB call_len_str rfl (B.z B.y8) PySem.boot_len (p1 (pix ix_list (pv 1) pe_int))) pe_int (nomark _)) (pw_or1 (pt_cmpR (op_neD hr.units) (pe_lc1x (Nc := ["_law_line", "_law_lines"]) (js := [none, some 1]) rfl rfl (pi_list (pv 1)) (CS.of rfl rfl) rfl (fun C s₂ H₂ fp pins => (pgc 0)) (fun C s₂ H₂ fp pins D L => (pt_tail1 (pt_cmpR op_ne (pe_callB call_len_str rfl (B.z B.y8) PySem.boot_len (p1 (pv 0))) (pe_callB call_len_str rfl (B.z B.y8) PySem.boot_len (p1 (pix (show IxR _ (rIxL K) from ix_list) (pv 1) pe_int))) (nomark _)) (pb_app (pv 0))))) (pe_lst pa_nil) (nomark _)))))) (pss_one (ps_ret pe_non)) pss_nil)
      (pss_cons (ps_if (PW.pt (pw_or (pt_cmpR op_lt (pe_callB call_lenD rfl (B.z B.y8) PySem.boot_len (p1 (pv 2))) pe_int (nomark _)) (pw_or1 (pt_cmpR (op_neD hr.units) (pe_lc1x (Nc := ["_law_letter", "_law_spots_here"]) (js := [none, some 2]) rfl rfl (pi_str (pv 3)) (CS.of rfl rfl) rfl (fun C s₂ H₂ fp pins => (pgc 0)) (fun C s₂ H₂ fp pins D L => (pt_tail1 (pt_cmp (pc_dnotin (hu_of hr) (pv 0) (pv 1))) (pb_app (pv 0))))) (pe_lst pa_nil) (nomark _))))) (pss_one (ps_ret pe_non)) pss_nil)
      (pss_cons (ps_lc1x (i := 4) (Nc := ["_law_letter", "_law_spots_here"]) (js := [none, some 2]) rfl rfl nN rfl (Or.inl rfl) (pi_str (pv 3)) (CS.of rfl rfl) rfl (fun C s₂ H₂ fp pins => (pgc 0)) (fun C s₂ H₂ fp pins D L => (pt_tail0 (pb_app (pe_dget (hu_of hr) (pv 1) (pv 0) (fun _ _ => rfl))))))
      (pss_cons (pst 5 nN (pe_tup (p2 (pe_callB (call_maxL rfl) rfl (B.z B.y0) PyProof.Rows.boot_max (p1 (pe_lc1x (Nc := ["_law_spot"]) (js := [none]) rfl rfl (pi_list (pv 4)) (CS.of rfl rfl) rfl (fun C s₂ H₂ fp pins => (pgc 0)) (fun C s₂ H₂ fp pins D L => (pt_tail0 (pb_app (pix (show IxR _ (rIxT K) from ix_tup) (pv 0) pe_int))))))) (pe_callB (call_maxL rfl) rfl (B.z B.y0) PyProof.Rows.boot_max (p1 (pe_lc1x (Nc := ["_law_spot"]) (js := [none]) rfl rfl (pi_list (pv 4)) (CS.of rfl rfl) rfl (fun C s₂ H₂ fp pins => (pgc 0)) (fun C s₂ H₂ fp pins D L => (pt_tail0 (pb_app (pix (show IxR _ (rIxT K) from ix_tup) (pv 0) pe_int))))))))))
      (pss_cons (ps_if (pt_cmpR (op_neD hr.units) (pv 5) (pe_tup (p2 (pe_op op_sub (pe_callB call_len_str rfl (B.z B.y8) PySem.boot_len (p1 (pix ix_list (pv 1) pe_int))) pe_int) (pe_op op_sub (pe_callB call_len_seq rfl (B.z B.y8) PySem.boot_len (p1 (pv 1))) pe_int))) (nomark _)) (pss_one (ps_ret pe_non)) pss_nil)
      (pss_one (ps_ret (pe_callTy call_tuple_of rfl (B.z B.y10) PyProof.Rows.boot_tuple (p1 (pv 4)))))))))))))), ?_⟩
  try dsimp only [cxOf]
  have sz : (tx l).length ≤ sizeLine := by rw [tx_len]; exact Nat.le_of_lt (smallB (by omega))
  refine ⟨_, rfl, _, rfl, -1, rfl, _, rfl, sz, ?_⟩
  by_cases hl : ∃ m, l = m ++ [10]
  rotate_left
  · have nx : ¬ ∃ (ps : Pl) (W h : Nat), Pic.Ok ps ∧ Bx ps W h ∧ l = pic ps W h := by
      rintro ⟨ps, W, h, _, _, rfl⟩
      exact hl (pic_snoc ps W h)
    obtain ⟨y, ey, ny⟩ : ∃ y : List Nat, Txt.slice (tx l) (some (-1)) none = tx y ∧ y ≠ [10] := by
      rcases List.eq_nil_or_concat l with rfl | ⟨m, c, rfl⟩
      · exact ⟨[], by decide, by decide⟩
      · rw [List.concat_eq_append, slice_tail]
        refine ⟨[c], rfl, fun z => hl ⟨m, ?_⟩⟩
        rw [List.concat_eq_append, z]
    rw [ey]
    refine ⟨rfl, _, rfl, ?_⟩
    rw [decide_eq_false (show ¬ V.str (tx y) = V.str (Str.ofString "\n") from fun z => ny (tx_inj (b := [10]) (V.str.inj z)))]
    exact iteT (kn nx H (Same.refl H))
  obtain ⟨m, rfl⟩ := hl
  rw [slice_tail]
  refine ⟨rfl, _, rfl, ?_⟩
  rw [decide_eq_true (show V.str (tx [10]) = V.str (Str.ofString "\n") from rfl)]
  refine iteF ?_
  refine ⟨_, rfl, _, rfl, -1, rfl, _, rfl, sz, ?_⟩
  rw [slice_init]
  have okm : ∀ c ∈ m, c < 128 := fun c hc => ok c (List.mem_append_left _ hc)
  have lm : m.length ≤ 39000 := by rw [List.length_append] at ll; omega
  have sl := spl_tot 10 m
  have l1 := tot_len (spl 10 m)
  refine ⟨rfl, tx m, tx [10], rfl, rfl, (by rw [tx_len]; decide), (by rw [tx_len]; exact Nat.le_of_lt (smallB (by omega))), ?_, ?_, fun p1 h1 => ?_⟩
  · rw [parts_len]
    exact Nat.le_of_lt (smallB (by omega))
  · rw [split_one okm (by decide), List.length_map]
    exact Nat.le_of_lt (smallB (by omega))
  rw [split_one okm (by decide), vL_map]
  have g1 := same_new h1 (.lst (vL (spl 10 m)))
  have e1 := upd_same (H := H) (a := p1) (o := .lst (vL (spl 10 m)))
  generalize upd H p1 (.lst (vL (spl 10 m))) = H1 at *
  have ok0 : ∀ z ∈ spl 10 m, ∀ c ∈ z, c < 128 := fun z hz c hc => okm c (spl_sub 10 m z hz c hc)
  refine ⟨_, rfl, p1, spl 10 m, rfl, e1, ok0, by omega, fun d es R H2 g2 nd hd F2 tb => ?_⟩
  have few : es.length ≤ 40 := by
    rcases tb with t | ⟨rfl, _⟩
    · exact t.rd.few
    · exact Nat.zero_le _
  have lk : (enK es R).length = es.length := by unfold enK; rw [List.length_map]
  have e2 := g2 _ _ e1
  refine ⟨rfl, _, rfl, d, _, rfl, .inl hd, _, rfl, _, rfl, (by rw [tx_len]; exact small (by decide)), ?_⟩
  rw [lk, slice_to _ (by rw [sg_len]; exact few)]
  obtain ⟨z0, r0, ez⟩ := spl_ne 10 m
  have gg := g1.trans g2
  clear g1 g2 e1 h1 nd
  refine ⟨_, rfl, p1, _, rfl, .inl (SqL.of e2), _, _, rfl, rfl, _, rfl, ?_⟩
  rw [vL_len]
  by_cases hA : (spl 10 m).length ≤ 41
  rotate_left
  · rw [decide_eq_true (show (41 : Int) < (((spl 10 m).length : Nat) : Int) by omega)]
    refine iteT (iteT (kn ?_ H2 gg))
    rintro ⟨ps, W, h, o, b, e⟩
    have := spl_picl o e
    have := b.le o
    omega
  rw [decide_eq_false (show ¬ (41 : Int) < (((spl 10 m).length : Nat) : Int) by omega)]
  refine iteF ?_
  have hz0 : z0 ∈ spl 10 m := by rw [ez]; exact List.mem_cons_self
  have lz0 := tot_at hz0
  have a0 : atI (vL (spl 10 m)) 0 = some (V.str (tx z0)) := by rw [ez]; exact atI_nat (j := 0) rfl
  refine ⟨_, rfl, p1, _, _, _, rfl, rfl, SqL.of e2, a0, _, rfl, (by rw [tx_len]; exact Nat.le_of_lt (smallB (by omega))), _, _, rfl, rfl, _, rfl, ?_⟩
  rw [tx_len]
  by_cases hB : z0.length ≤ 77
  rotate_left
  · rw [decide_eq_true (show (77 : Int) < ((z0.length : Nat) : Int) by omega)]
    refine iteT (iteT (kn ?_ H2 gg))
    rintro ⟨ps, W, h, o, b, e⟩
    have := spl_pic o e z0 hz0
    have := b.le o
    omega
  rw [decide_eq_false (show ¬ (77 : Int) < ((z0.length : Nat) : Int) by omega)]
  refine iteF ?_
  refine ⟨_, rfl, p1, rfl, ⟨_, SqL.of e2⟩, fun D nD => ?_⟩
  have kD := same_new nD (.lst [])
  refine walk_list (xs := vL (spl 10 m)) (fun i σ H' => ∃ (x0 : Option V), σ = [x0, some (.ref p1)] ∧ Same H2 H' ∧ H' D = some (.lst (vL (((spl 10 m).take i).filter fun z => z.length != z0.length)))) ⟨none, rfl, kD, upd_same⟩ ?_ ?_ ?_
  · rintro i σ H' _ ⟨x0, rfl, g2, _⟩
    exact SqL.of (g2 _ _ e2)
  · rintro i x σ H3 hx ⟨x0, rfl, g3, hD⟩
    unfold vL at hx
    rw [List.getElem?_map] at hx
    obtain ⟨z, hz, rfl⟩ := Option.map_eq_some_iff.mp hx
    have lz := tot_at (List.mem_of_getElem? hz)
    have hi := (List.getElem?_eq_some_iff.mp hz).1
    refine ⟨_, rfl, _, rfl, (by rw [tx_len]; exact Nat.le_of_lt (smallB (by omega))), _, rfl, p1, _, _, _, rfl, rfl, SqL.of (g3 _ _ e2), a0, _, rfl, (by rw [tx_len]; exact Nat.le_of_lt (smallB (by omega))), rfl, _, rfl, ?_⟩
    rw [tx_len, tx_len]
    have et : (spl 10 m).take (i + 1) = (spl 10 m).take i ++ [z] := by rw [List.take_add_one, hz]; rfl
    by_cases c : z.length = z0.length
    · rw [decide_eq_true (show V.int (z.length : Nat) = V.int (z0.length : Nat) by rw [c])]
      refine iteF ⟨_, rfl, g3, ?_⟩
      rw [et, List.filter_append, List.filter_cons_of_neg (by simp [c]), List.filter_nil, List.append_nil]
      exact hD
    · rw [decide_eq_false (show ¬ V.int (z.length : Nat) = V.int (z0.length : Nat) from fun q => c (vn_inj q))]
      refine iteT ⟨_, rfl, _, hD, (by rw [vL_len]; exact Nat.lt_of_le_of_lt (List.length_filter_le _ _) (by rw [List.length_take]; exact smallB (by omega))), _, rfl, keep_upd nD g3, ?_⟩
      rw [et, List.filter_append, List.filter_cons_of_pos (by simp [c]), List.filter_nil, upd_same]
      unfold vL
      rw [List.map_append]
      rfl
  rintro σ H3 ⟨x0, rfl, g3, hD⟩
  rw [vL_len, List.take_length] at hD
  refine ⟨(by show 0 ≤ sizeLine; decide), fun q nq => ?_⟩
  have gq := same_new nq (.lst [])
  have eq := upd_same (H := H3) (a := q) (o := .lst [])
  have hD4 := gq _ _ hD
  have g4 := g3.trans gq
  generalize upd H3 q (.lst []) = H4 at *
  refine ⟨.list (((spl 10 m).filter fun z => z.length != z0.length).map fun z => .str (tx z)), .list [], ?_, ?_, ?_, ?_, ?_⟩
  · exact ⟨D, _, rfl, SqL.of hD4, dtAll_str _⟩
  · exact ⟨q, _, rfl, SqL.of eq, rfl⟩
  · exact shaped_strs _ fun z hz => ok0 z (List.mem_filter.mp hz).1
  · rfl
  refine ⟨_, rfl, ?_⟩
  by_cases hC : (spl 10 m).filter (fun z => z.length != z0.length) = []
  rotate_left
  · rw [eqv_strs hC]
    refine iteT (kn ?_ H4 (gg.trans g4))
    rintro ⟨ps, W, h, o, b, e⟩
    refine hC (List.filter_eq_nil_iff.mpr fun z hz => ?_)
    rw [spl_pic o e z hz, spl_pic o e z0 hz0]
    simp
  rw [hC]
  refine iteF ?_
  replace hC : ∀ z ∈ spl 10 m, z.length = z0.length := fun z hz => by
    have := List.filter_eq_nil_iff.mp hC z hz
    simpa using this
  have hd4 := g4 _ _ hd
  have F4 : EnAt H4 es R := fun e he => g4 _ _ (F2 e he)
  have e4 := g4 _ _ e2
  have gg4 := gg.trans g4
  clear hD hD4 eq gq nq kD nD D q g3 H3 g4 gg hd F2 e2
  refine ⟨_, rfl, d, _, rfl, .inl hd4, _, _, rfl, rfl, _, rfl, ?_⟩
  rw [lk]
  by_cases lo : 3 ≤ es.length
  rotate_left
  · rw [decide_eq_true (show ((es.length : Nat) : Int) < 3 by omega)]
    refine iteT (iteT (kn ?_ H4 gg4))
    rintro ⟨ps, W, h, o, b, e⟩
    rcases tb with t | ⟨_, bad⟩
    · have r := t.rd
      rw [e] at r
      have := (r.pic o b).1
      have := o.lo
      omega
    · rw [pic_lines o e] at bad
      exact not_bad o bad
  rw [decide_eq_false (show ¬ ((es.length : Nat) : Int) < 3 by omega)]
  refine iteF ?_
  have t : Tight (spl 10 m) es := by
    rcases tb with t | ⟨rfl, _⟩
    · exact t
    · exact absurd lo (by decide)
  clear tb
  have rd := t.rd
  refine ⟨_, rfl, _, rfl, asc_tx (fun c hc => (sg_lt (List.mem_of_mem_take hc)).1), fun C nC => ?_⟩
  have kC := same_new nC (.lst [])
  refine walk_str (fun i σ H' => ∃ (x0 : Option V), σ = [x0, some (.ref d)] ∧ Same H4 H' ∧ H' C = some (.lst (vL ((((SG.take es.length).take i).filter fun c => !inK es c).map fun c => [c])))) ⟨none, rfl, kC, upd_same⟩ ?_ ?_
  · rintro i c σ H5 hc ⟨x0, rfl, g5, hC'⟩
    rw [tx_at] at hc
    have hi := (List.getElem?_eq_some_iff.mp hc).1
    rw [List.length_take, sg_len] at hi
    have et : (SG.take es.length).take (i + 1) = (SG.take es.length).take i ++ [c] := by rw [List.take_add_one, hc]; rfl
    refine ⟨_, rfl, _, rfl, d, _, rfl, .inl ⟨_, ks c, .inl (g5 _ _ hd4), rfl, rfl⟩, _, rfl, ?_⟩
    rw [val_en rd.nd]
    by_cases mm : c ∈ es.map (·.1)
    · rw [if_pos mm]
      refine iteF ⟨_, rfl, g5, ?_⟩
      rw [et, List.filter_append, List.filter_cons_of_neg (by unfold inK; simp [mm]), List.filter_nil, List.append_nil]
      exact hC'
    · rw [if_neg mm]
      refine iteT ⟨_, rfl, _, hC', (by rw [vL_len, List.length_map]; exact Nat.lt_of_le_of_lt (List.length_filter_le _ _) (by rw [List.length_take, List.length_take, sg_len]; exact smallB (by omega))), _, rfl, keep_upd nC g5, ?_⟩
      rw [et, List.filter_append, List.filter_cons_of_pos (by unfold inK; simp [mm]), List.filter_nil, upd_same]
      unfold vL
      rw [List.map_append, List.map_append]
      rfl
  rintro σ H5 ⟨x0, rfl, g5, hC'⟩
  rw [tx_size, List.take_length] at hC'
  refine ⟨(by show 0 ≤ sizeLine; decide), fun q nq => ?_⟩
  have gq := same_new nq (.lst [])
  have eq := upd_same (H := H5) (a := q) (o := .lst [])
  have hC5 := gq _ _ hC'
  have g6 := g5.trans gq
  generalize upd H5 q (.lst []) = H6 at *
  generalize hfl : ((SG.take es.length).filter fun c => !inK es c) = fl at hC5
  refine ⟨.list ((fl.map fun c => [c]).map fun z => .str (tx z)), .list [], ⟨C, _, rfl, SqL.of hC5, dtAll_str _⟩, ⟨q, _, rfl, SqL.of eq, rfl⟩, shaped_strs _ (fun z hz c hc => ?_), rfl, ?_⟩
  · obtain ⟨c', hc', rfl⟩ := List.mem_map.mp hz
    rw [List.mem_singleton.mp hc]
    rw [← hfl] at hc'
    exact (sg_lt (List.mem_of_mem_take (List.mem_filter.mp hc').1)).1
  refine ⟨_, rfl, ?_⟩
  by_cases hE : fl = []
  rotate_left
  · rw [eqv_strs (fun z => hE (List.map_eq_nil_iff.mp z))]
    refine iteT (kn ?_ H6 (gg4.trans g6))
    rintro ⟨ps, W, h, o, b, e⟩
    have r := rd
    rw [e] at r
    refine hE (hfl ▸ List.filter_eq_nil_iff.mpr fun c hc => ?_)
    obtain ⟨i, hi, ec⟩ := List.getElem_of_mem hc
    rw [List.length_take, sg_len] at hi
    rw [List.getElem_take] at ec
    have e' := sg_at (i := i) (by omega)
    rw [List.getElem?_eq_getElem (by rw [sg_len]; omega), ec] at e'
    have := (r.pic o b).2.2 i (by rw [← (r.pic o b).1]; omega)
    rw [← Option.some.inj e'] at this
    unfold inK
    simp [this]
  rw [hE]
  refine iteF ?_
  have sg : ∀ i, i < es.length → SG.getD i 0 ∈ es.map (·.1) := fun i hi => by
    rw [hE] at hfl
    have := List.filter_eq_nil_iff.mp hfl (SG.getD i 0) (List.mem_of_getElem? (i := i) (by rw [List.getElem?_take_of_lt hi, sg_at (by omega)]))
    unfold inK at this
    simpa using this
  have hd6 := g6 _ _ hd4
  have F6 : EnAt H6 es R := fun e he => g6 _ _ (F4 e he)
  have e6 := g6 _ _ e4
  have gg6 := gg4.trans g6
  clear hfl hE hC5 hC' eq gq nq kC nC C q g5 g6 gg4 hd4 F4 e4 fl x0 H5 H4
  refine ⟨_, rfl, _, rfl, asc_tx (fun c hc => (sg_lt (List.mem_of_mem_take hc)).1), fun C nC => ?_⟩
  have kC := same_new nC (.lst [])
  refine walk_str (fun i σ H' => ∃ (x0 : Option V) (ts : List Addr) (ps : Pl), σ = [x0, some (.ref d)] ∧ Same H6 H' ∧ H' C = some (.lst (ts.map V.ref)) ∧ ts.length = i ∧ ps.length = i ∧ (∀ (j x y : Nat), ps[j]? = some (x, y) → (SG.getD j 0, x, y) ∈ es) ∧ ∀ (j : Nat) (t : Addr) (p : Nat × Nat), ts[j]? = some t → ps[j]? = some p → H' t = some (.tup [vn p.1, vn p.2])) ⟨none, [], [], rfl, kC, upd_same, rfl, rfl, fun j x y e => by simp at e, fun j t p e => by simp at e⟩ ?_ ?_
  · rintro i c σ H3 hc ⟨x0, ts, ps, rfl, g3, hC', tl, pl, hps, ht⟩
    rw [tx_at] at hc
    have hi := (List.getElem?_eq_some_iff.mp hc).1
    rw [List.length_take, sg_len] at hi
    rw [List.getElem?_take_of_lt (by omega), sg_at (by omega)] at hc
    cases hc
    have m' := sg i (by omega)
    obtain ⟨e, he, e1⟩ := List.mem_map.mp m'
    have F3 := g3 _ _ (F6 e he)
    have hd3 : Rd H3 d (.dK (enK es R)) := .inl (g3 _ _ hd6)
    refine ⟨_, rfl, _, rfl, d, _, rfl, .inl ⟨_, ks (SG.getD i 0), hd3, rfl, ((val_en rd.nd _).trans (if_pos m')).symm⟩, ?_⟩
    refine ⟨_, hC', small1000 (by rw [List.length_map]; omega), _, ts ++ [R (SG.getD i 0)], ps ++ [e.2], rfl, keep_upd nC g3, ?_, by rw [List.length_append, tl]; rfl, by rw [List.length_append, pl]; rfl, fun j x y f => ?_, fun j t' p f1 f2 => ?_⟩
    · rw [List.map_append]
      exact upd_same
    · rcases snoc f with ⟨h1, h2⟩ | ⟨rfl, h2⟩
      · exact hps j x y h2
      · have : e = (SG.getD ps.length 0, x, y) := by
          rw [pl, ← e1, ← (Option.some.inj h2 : e.2 = (x, y))]
        rw [← this]
        exact he
    · have : H3 t' = some (.tup [vn p.1, vn p.2]) := by
        rcases snoc f1 with ⟨h1, h2⟩ | ⟨rfl, h2⟩
        · rcases snoc f2 with ⟨h3, h4⟩ | ⟨rfl, h4⟩
          · exact ht j t' p h2 h4
          · omega
        · rcases snoc f2 with ⟨h3, h4⟩ | ⟨_, h4⟩
          · omega
          · cases h2
            cases h4
            rw [← e1]
            exact F3
      rw [upd_ne (fun z => by rw [z, hC'] at this; cases this)]
      exact this
  rintro σ H3 ⟨x0, ts, ps, rfl, g3, hC', tl, pl, hps, ht⟩
  rw [tx_size, List.length_take, sg_len, Nat.min_eq_left few] at tl pl
  have pk : Pk es ps := ⟨by omega, hps⟩
  have bnd : ∀ e ∈ es, e.2.1 < z0.length ∧ e.2.2 < (spl 10 m).length := fun e he => by
    have q := (t.ok e he).2
    have hy : e.2.2 < (spl 10 m).length := by
      refine Classical.byContradiction fun n => ?_
      rw [List.getElem?_eq_none (by rw [List.length_reverse]; omega)] at q
      cases q
    rw [rev_at _ hy, List.getElem?_eq_getElem (by omega)] at q
    have hx := (List.getElem?_eq_some_iff.mp (q : ((spl 10 m)[(spl 10 m).length - 1 - e.2.2])[e.2.1]? = some e.1)).1
    rw [hC _ (List.getElem_mem (by omega))] at hx
    exact ⟨hx, hy⟩
  have o := Pk.ok rd pk lo fun e he => by have := bnd e he; omega
  have gg3 := gg6.trans g3
  have e3 := g3 _ _ e6
  clear hps kC nC F6 e6 hd6 g3 gg6
  -- the greatest of both
  refine ⟨_, rfl, C, rfl, ⟨_, SqL.of hC'⟩, fun D nD => ?_⟩
  have kD := same_new nD (.lst [])
  have gt' : ∀ {H' : Hp} {i : Nat} {x : V}, Same H3 H' → (ts.map V.ref)[i]? = some x → ∃ (t : Addr) (p : Nat × Nat), x = .ref t ∧ ps[i]? = some p ∧ H' t = some (.tup [vn p.1, vn p.2]) := fun {H' i x} g hx => by
    rw [List.getElem?_map] at hx
    obtain ⟨t, ht', rfl⟩ := Option.map_eq_some_iff.mp hx
    have hi := (List.getElem?_eq_some_iff.mp ht').1
    have hp : ps[i]? = some (ps[i]'(by omega)) := List.getElem?_eq_getElem (by omega)
    exact ⟨t, _, rfl, hp, g _ _ (ht i t _ ht' hp)⟩
  refine walk_list (xs := ts.map V.ref) (fun i σ H' => ∃ (x0 : Option V), σ = [x0] ∧ Same H3 H' ∧ H' D = some (.lst ((ps.take i).map fun p => vn p.1))) ⟨none, rfl, kD, upd_same⟩ ?_ ?_ ?_
  · rintro i σ H' _ ⟨x0, rfl, g2, _⟩
    exact SqL.of (g2 _ _ hC')
  · rintro i x σ H' hx ⟨x0, rfl, g2, hD⟩
    obtain ⟨t, p, rfl, hp, har⟩ := gt' g2 hx
    refine ⟨_, rfl, t, _, _, _, rfl, rfl, SqT.of har, at0, _, hD, small1000 (by rw [List.length_map, List.length_take]; omega), ?_⟩
    refine ⟨_, rfl, keep_upd nD g2, ?_⟩
    rw [map_snoc _ hp]
    exact upd_same
  rintro σ H4 ⟨x0, rfl, g4, hD⟩
  rw [List.length_map, tl, ← pl, List.take_length] at hD
  refine ⟨D, ps.map fun p => (p.1 : Int), rfl, SqL.of (by rw [hD, List.map_map]; rfl), by rw [List.length_map]; omega, fun M m1 m2 => ?_⟩
  obtain ⟨W, rfl, w1, w2⟩ := max_of (f := Prod.fst) m1 m2
  refine ⟨_, rfl, C, rfl, ⟨_, SqL.of (g4 _ _ hC')⟩, fun D2 nD2 => ?_⟩
  have kD2 := same_new nD2 (.lst [])
  refine walk_list (xs := ts.map V.ref) (fun i σ H' => ∃ (x0 : Option V), σ = [x0] ∧ Same H4 H' ∧ H' D2 = some (.lst ((ps.take i).map fun p => vn p.2))) ⟨none, rfl, kD2, upd_same⟩ ?_ ?_ ?_
  · rintro i σ H' _ ⟨x0, rfl, g2, _⟩
    exact SqL.of (g2 _ _ (g4 _ _ hC'))
  · rintro i x σ H' hx ⟨x0, rfl, g2, hD⟩
    obtain ⟨t, p, rfl, hp, har⟩ := gt' (g4.trans g2) hx
    refine ⟨_, rfl, t, _, _, _, rfl, rfl, SqT.of har, at1, _, hD, small1000 (by rw [List.length_map, List.length_take]; omega), ?_⟩
    refine ⟨_, rfl, keep_upd nD2 g2, ?_⟩
    rw [map_snoc _ hp]
    exact upd_same
  clear hD kD kD2 m1 m2
  rintro σ H5 ⟨x0, rfl, g5, hD⟩
  rw [List.length_map, tl, ← pl, List.take_length] at hD
  refine ⟨D2, ps.map fun p => (p.2 : Int), rfl, SqL.of (by rw [hD, List.map_map]; rfl), by rw [List.length_map]; omega, fun M m1 m2 => ?_⟩
  obtain ⟨h, rfl, h1, h2⟩ := max_of (f := Prod.snd) m1 m2
  have b : Bx ps W h := ⟨w1, w2, h1, h2⟩
  refine ⟨(by show 2 ≤ sizeLine; decide), fun u nu => ?_⟩
  have gu := same_new nu (.tup [vn W, vn h])
  have eu : upd H5 u (.tup [vn W, vn h]) u = some (.tup [vn (W, h).1, vn (W, h).2]) := upd_same
  have g6 := (g4.trans g5).trans gu
  refine ⟨_, rfl, _, rfl, p1, _, _, _, rfl, rfl, SqL.of (g6 _ _ e3), a0, _, rfl, (by rw [tx_len]; exact Nat.le_of_lt (smallB (by omega))), _, _, rfl, rfl, _, rfl, p1, _, rfl, .inl (SqL.of (g6 _ _ e3)), _, _, rfl, rfl, (by show 2 ≤ sizeLine; decide), fun v nv => ?_⟩
  obtain ⟨w', hw'⟩ : ∃ w', z0.length = w' + 1 := by
    have := (bnd es[0] (List.getElem_mem (by omega))).1
    exact ⟨z0.length - 1, by omega⟩
  obtain ⟨h', hh'⟩ : ∃ h', (spl 10 m).length = h' + 1 := by
    have := (bnd es[0] (List.getElem_mem (by omega))).2
    exact ⟨(spl 10 m).length - 1, by omega⟩
  have ev : (HO.tup [V.int ((((tx z0).length : Nat) : Int) - 1), V.int ((((vL (spl 10 m)).length : Nat) : Int) - 1)]) = HO.tup [vn (w', h').1, vn (w', h').2] := by
    rw [tx_len, vL_len, hw', hh']
    unfold vn
    rw [show (((w' + 1 : Nat) : Int) - 1) = (w' : Int) by omega, show (((h' + 1 : Nat) : Int) - 1) = (h' : Int) by omega]
  rw [ev]
  have gv := same_new nv (.tup [vn (w', h').1, vn (w', h').2])
  refine ⟨pD (W, h), pD (w', h'), dt_pD (gv _ _ eu), dt_pD upd_same, pD_ok _, pD_ok _, ?_⟩
  rw [pD_eqv]
  refine ⟨_, rfl, ?_⟩
  have g7 := g6.trans gv
  by_cases hH : (W, h) = (w', h')
  · rw [decide_eq_true hH]
    refine iteF ?_
    injection hH with hW hh
    subst hW hh
    refine ⟨_, rfl, C, _, rfl, .inl ⟨SqL.of (g7 _ _ hC'), fun a na => ?_⟩⟩
    have ga := same_new na (.tup (ts.map V.ref))
    have ps' := read_pic t pk sg hh' fun z hz => (hC z hz).trans hw'
    exact kq ps W h a ts _ o b (pic_of ps') (gg3.trans (g7.trans ga)) ⟨upd_same, by omega, fun i t p e1 e2 => ga _ _ (g7 _ _ (ht i t p e1 e2))⟩
  · rw [decide_eq_false hH]
    refine iteT (kn ?_ _ (gg3.trans g7))
    rintro ⟨ps', W', h', o', b', e⟩
    have r := rd
    rw [e] at r
    obtain rfl := Pk.same o' b' r pk
    obtain ⟨rfl, rfl⟩ := b.uniq b'
    have := spl_pic o e z0 hz0
    have := spl_picl o e
    refine hH ?_
    congr 1 <;> omega
--SPLIT
open Txs Pic
section
variable {X : Cx} {es : List Expr} {t : TA}
theorem pai_non {k p} (hr : PAi X es t) : PAi X (.Constant .none k p :: es) (tCons (tC .non) t) := by
  rw [pai_of] at hr ⊢
  exact pa_cons pe_non hr
theorem pai_int {i : Int} {k p} (hr : PAi X es t) : PAi X (.Constant (.int i) k p :: es) (tCons (tC (.int i)) t) := by
  rw [pai_of] at hr ⊢
  exact pa_cons pe_int hr
theorem pai_bl {b : Bool} {k p} (hr : PAi X es t) : PAi X (.Constant (.bool b) k p :: es) (tCons (tC (.bl b)) t) := by
  rw [pai_of] at hr ⊢
  exact pa_cons pe_bl hr
theorem pai_tupS {x : Str} {k p k' p'} (hr : PAi X es t) : PAi X (.Tuple [.Constant (.str x) k p] k' p' :: es) (tCons (tTup (tCons (tC (.str x)) tNil)) t) := by
  rw [pai_of] at hr ⊢
  exact pa_cons (pe_tup (pa_cons pe_str pa_nil)) hr se_tup
theorem pai_tup0 {k' p'} (hr : PAi X es t) : PAi X (.Tuple [] k' p' :: es) (tCons (tTup tNil) t) := by
  rw [pai_of] at hr ⊢
  exact pa_cons (pe_tup pa_nil) hr se_tup
theorem pai_lstS {x : Str} {k p p'} (hr : PAi X es t) : PAi X (.List [.Constant (.str x) k p] p' :: es) (tCons (tLst (tCons (tC (.str x)) tNil)) t) := by
  rw [pai_of] at hr ⊢
  exact pa_cons (pe_lst (pa_cons pe_str pa_nil)) hr
theorem pai_dk {p} (hr : PAi X es t) : PAi X (.Dict [] [] p :: es) (tCons tDNewK t) := by
  rw [pai_of] at hr ⊢
  exact pa_cons pe_dnewK hr
theorem psi_mk {st : Stmt} {t : TS} (h : PS X st t) : PSi X st t := by
  rw [psi_of]
  exact h
theorem pssi_mk {l : List Stmt} {t : TS} (h : PSs X l t) : PSsi X l t := by
  rw [pssi_of]
  exact h
theorem pssI_cons {st : Stmt} {rest : List Stmt} {t u : TS} (h : PSi X st t) (hr : PSsi X rest u) : PSsi X (st :: rest) (tSeq t u) := by
  rw [psi_of] at h
  rw [pssi_of] at hr ⊢
  exact pss_cons h hr
theorem pforI {tg iter : Expr} {body : List Stmt} {wi : TI} {g : TG} {tb : TS} {pos : Pos} (hi : PI X tg iter wi) (hg : PG X tg g) (hb : PSsi X body tb) (hp : PassesOwn (model X.prog X.w) X.A X.env X.xe := by exact PassesOwn.never) (hc : X.calm = true := by rfl)
    (hs : ∀ x, foldedSetIterable iter X.env x = pure x := by intro _; rfl) : PSi X (.For tg iter body [] pos) (tFor wi g tb) := by
  rw [pssi_of] at hb
  rw [psi_of]
  exact ps_for hp hc hi hg hb hs
theorem exI {l : List Stmt} {R : TS → Prop} (h : ∃ t, PSsi X l t ∧ R t) : ∃ t, PSs X l t ∧ R t := by
  obtain ⟨t, h1, h2⟩ := h
  rw [pssi_of] at h1
  exact ⟨t, h1, h2⟩
end
--SPLIT
open Txs Pic
theorem rd_of_pic {ps : Pl} (o : Pic.Ok ps) {W h : Nat} (b : Bx ps W h) : ∃ es : En, Rd3 (pic ps W h) es ∧ Pk es ps := by
  have few := o.few
  refine ⟨(List.range ps.length).map fun i => (SG.getD i 0, ps.getD i (0, 0)), ⟨?_, fun e he => ?_, fun x y c e hc => ?_⟩, ⟨by rw [List.length_map, List.length_range], fun i x y e => ?_⟩⟩
  · rw [List.map_map]
    refine List.pairwise_map.mpr (List.nodup_range.imp_of_mem fun {i j} hi hj ne e => ne (sg_inj ?_ ?_ e))
    · have := List.mem_range.mp hi; omega
    · have := List.mem_range.mp hj; omega
  · obtain ⟨i, hi, rfl⟩ := List.mem_map.mp he
    have hi := List.mem_range.mp hi
    have e : ps[i]? = some (ps[i].1, ps[i].2) := List.getElem?_eq_getElem hi
    have m := List.getElem_mem hi
    have eg : ps.getD i (0, 0) = (ps[i].1, ps[i].2) := by rw [List.getD_eq_getElem?_getD, e]; rfl
    refine ⟨sg_mem (by omega), ?_⟩
    show chr (pic ps W h) (ps.getD i (0, 0)).1 (ps.getD i (0, 0)).2 = _
    rw [eg, chr_pic o (by have := b.xl _ m; omega) (by have := b.yl _ m; omega), cell_at o.nd e]
  · obtain ⟨_, _, ec⟩ := chr_some o e
    rcases cell_cases ps o.nd x y with ⟨_, z⟩ | ⟨i, hi, z⟩
    · rw [ec, z] at hc
      exact absurd hc (by decide)
    · rw [List.map_map]
      exact List.mem_map.mpr ⟨i, List.mem_range.mpr (List.getElem?_eq_some_iff.mp hi).1, (ec.trans z).symm⟩
  · refine List.mem_map.mpr ⟨i, List.mem_range.mpr (List.getElem?_eq_some_iff.mp e).1, ?_⟩
    rw [List.getD_eq_getElem?_getD (l := ps), e]
    rfl
theorem pic_inj {ps ps' : Pl} (o : Pic.Ok ps) (o' : Pic.Ok ps') {W h W' h' : Nat} (b : Bx ps W h) (b' : Bx ps' W' h') (e : pic ps W h = pic ps' W' h') : ps = ps' := by
  obtain ⟨es, r, pk⟩ := rd_of_pic o b
  rw [e] at r
  exact Pk.same o' b' r pk
theorem SameX.of {H H' : Hp} (g : Same H H') : SameX H H' := fun b o _ e => g b o e
theorem SameX.trans {H H1 H2 : Hp} (x : SameX H H1) (y : SameX H1 H2) : SameX H H2 := fun b o n e => y b o n (x b o n e)
theorem SameX.seq {H H' : Hp} {a : Addr} {xs : List V} (e : SameX H H') (h : SqL K H a xs) : SqL K H' a xs := by
  rcases h with (h | ⟨o, h⟩) | h
  · exact .inl (.inl (e _ _ (fun φ z => nomatch z) h))
  · exact .inl (.inr ⟨o, e _ _ (fun φ z => nomatch z) h⟩)
  · exact .inr h
theorem PlAt.keptX {H H' : Hp} {a : Addr} {ps : Pl} {ts : List Addr} (x : PlAt H a ps ts) (g : SameX H H') : PlAt H' a ps ts := ⟨g _ _ (fun φ z => nomatch z) x.top, x.len, fun i t p h1 h2 => g _ _ (fun φ z => nomatch z) (x.at' i t p h1 h2)⟩
theorem ok_law (B : Fx) {f : Addr} {fd : FuncData} (F : Fun K "law" "law" s_law f fd) : FnOk P w K mg base CX0 10 f fd ["_law_script"] (spLaw K) := by
  refine F.ok sc_law (fun vs H Q E h => ?_) (fun cdv A outer s H vs Q E hr h => ?_)
  · obtain ⟨a, ns, rfl, _⟩ := h
    rfl
  obtain ⟨a, ns, rfl, hS, h63, q⟩ := h
  refine exI ?_
  refine ⟨_, (pssI_cons (pforI (pi_range1 rfl (B.z B.y6) (p1 (pe_callB (call_max2 rfl) rfl (B.z B.y0) PyProof.Rows.boot_max (p2 pe_int (pe_callB (call_min2 rfl) rfl (B.z B.y12) PyProof.Rows.boot_min (p2 pe_int (pe_callB call_len_seq rfl (B.z B.y8) PySem.boot_len (p1 (pv 0))))))))) (pgn 1 sc_law.nd) (pssI_cons (psi_mk (pst 2 sc_law.nd (pf (ok_law_pot B) hr (p2 (pv 0) (pv 1)))))
      (pssI_cons (psi_pick (pai_non (pai_int (pai_tupS (pai_lstS (pai_bl (pai_dk (pai_tup0 (pai_int pai_nil)))))))) (pf (ok_law_digit B) hr (p2 (pv 2) pe_int)) (pgn 3 sc_law.nd))
      (pssi_mk (pss_cons (pst 4 sc_law.nd (pf (ok_law_drawn B) hr (p1 (pv 2))))
      (pss_cons (pst 5 sc_law.nd (pf (ok_law_read B) hr (p1 (pv 4))))
      (pss_cons (ps_if (pt_cmpR op_isN (pv 5) pe_non (nomark _)) (pss_one (pst 5 sc_law.nd pe_int)) pss_nil)
      (pss_one (ps_if (PW.pt (pw_or (pt_cmpR op_ne (pf (ok_law_told B) hr (p1 (pv 3))) pe_int (nomark _)) (pw_or1 (pt_cmpR (op_neD hr.units) (pf (ok_law_told B) hr (p1 (pv 4))) (pv 5) (nomark _))))) (pss_one (ps_ret pe_bl)) pss_nil)))))))))
      (pssi_mk (pss_one (ps_ret pe_bl)))), ?_⟩
  try dsimp only [cxOf]
  have hl : (ns.map V.int).length = ns.length := List.length_map _
  refine ⟨_, rfl, a, _, rfl, .inl hS, 10, _, rfl, 1, _, rfl, ?_⟩
  rw [hl]
  generalize hj : (if (if (ns.length : Int) < 10 then (ns.length : Int) else 10) > 1 then (if (ns.length : Int) < 10 then (ns.length : Int) else 10) else 1) = j
  have j0 : 0 ≤ j := by rw [← hj]; split <;> omega
  have j1 : j ≤ 63 := by
    rw [← hj]
    split
    · split <;> omega
    · omega
  refine ⟨j, rfl, by omega, by omega, for_range (lo := 0) (n := j.toNat) (fun i σ H2 => ∃ (x1 x2 x3 x4 x5 : Option V), σ = [some (.ref a), x1, x2, x3, x4, x5] ∧ SqL K H2 a (ns.map V.int))
    ⟨none, none, none, none, none, rfl, hS⟩ ?_ ?_⟩
  rotate_left
  · rintro σ H2 ⟨x1, x2, x3, x4, x5, rfl, g⟩
    exact q _
  rintro i σ H2 hi ⟨x1, x2, x3, x4, x5, rfl, hS2⟩
  refine ⟨_, rfl, _, rfl, a, ns, _, rfl, hS2, h63, (by omega), (by omega), fun p x y H3 hx g3 hn hp => ?_⟩
  have pA : PotAt H3 p := ⟨x, y, hp, hx⟩
  refine ⟨(by show 1 ≤ sizeLine; decide), fun t1 n1 => ?_⟩
  refine ⟨(by show 1 ≤ sizeLine; decide), fun l1 n2 => ?_⟩
  intro d1 n3
  refine ⟨(by show 0 ≤ sizeLine; decide), fun t2 n4 => ?_⟩
  refine ⟨(by show 8 ≤ sizeLine; decide), fun l nl => ?_⟩
  have gg : Same H3 (upd (upd (upd (upd (upd H3 t1 (HO.tup [V.str (Str.ofString "a")])) l1 (HO.lst [V.str (Str.ofString "a")])) d1 (HO.dK [])) t2 (HO.tup [])) l (HO.lst [V.non, V.int 5, V.ref t1, V.ref l1, V.bl true, V.ref d1, V.ref t2, V.int 0])) := (same_new n1 _).trans ((same_new n2 _).trans ((same_new n3 _).trans ((same_new n4 _).trans (same_new nl _))))
  have f1 := same_new nl (HO.lst [V.non, V.int 5, V.ref t1, V.ref l1, V.bl true, V.ref d1, V.ref t2, V.int 0]) _ _ (same_new n4 (HO.tup []) _ _ (same_new n3 (HO.dK []) _ _ (same_new n2 (HO.lst [V.str (Str.ofString "a")]) _ _ (upd_same (H := H3) (a := t1) (o := HO.tup [V.str (Str.ofString "a")])))))
  have f2 := same_new nl (HO.lst [V.non, V.int 5, V.ref t1, V.ref l1, V.bl true, V.ref d1, V.ref t2, V.int 0]) _ _ (same_new n4 (HO.tup []) _ _ (same_new n3 (HO.dK []) _ _ (upd_same (H := upd H3 t1 (HO.tup [V.str (Str.ofString "a")])) (a := l1) (o := HO.lst [V.str (Str.ofString "a")]))))
  have f3 := same_new nl (HO.lst [V.non, V.int 5, V.ref t1, V.ref l1, V.bl true, V.ref d1, V.ref t2, V.int 0]) _ _ (same_new n4 (HO.tup []) _ _ (upd_same (H := upd (upd H3 t1 (HO.tup [V.str (Str.ofString "a")])) l1 (HO.lst [V.str (Str.ofString "a")])) (a := d1) (o := HO.dK [])))
  have f4 := same_new nl (HO.lst [V.non, V.int 5, V.ref t1, V.ref l1, V.bl true, V.ref d1, V.ref t2, V.int 0]) _ _ (upd_same (H := upd (upd (upd H3 t1 (HO.tup [V.str (Str.ofString "a")])) l1 (HO.lst [V.str (Str.ofString "a")])) d1 (HO.dK [])) (a := t2) (o := HO.tup []))
  have fl := upd_same (H := upd (upd (upd (upd H3 t1 (HO.tup [V.str (Str.ofString "a")])) l1 (HO.lst [V.str (Str.ofString "a")])) d1 (HO.dK [])) t2 (HO.tup [])) (a := l) (o := HO.lst [V.non, V.int 5, V.ref t1, V.ref l1, V.bl true, V.ref d1, V.ref t2, V.int 0])
  generalize upd (upd (upd (upd (upd H3 t1 (HO.tup [V.str (Str.ofString "a")])) l1 (HO.lst [V.str (Str.ofString "a")])) d1 (HO.dK [])) t2 (HO.tup [])) l (HO.lst [V.non, V.int 5, V.ref t1, V.ref l1, V.bl true, V.ref d1, V.ref t2, V.int 0]) = HL at gg f1 f2 f3 f4 fl ⊢
  clear n1 n2 n3 n4 nl
  have pL := pA.kept gg
  have hpL := gg _ _ hp
  have gL := g3.trans gg
  refine ⟨_, rfl, p, 8, rfl, pL, by decide, lit9 (by decide), fun d H4 d0 d1' s4 p4 => ?_⟩
  obtain ⟨th, eth, oth⟩ : ∃ th, atI [V.non, V.int 5, V.ref t1, V.ref l1, V.bl true, V.ref d1, V.ref t2, V.int 0] d = some th ∧ ∀ H', SameBut p HL H' → ∃ t, TyOf K H' th t ∧ PySem.W.kitOne K t (.type "str") = some false := by
    have np : ∀ {b : Addr} {o : HO}, HL b = some o → o ≠ HO.lst [V.int x, V.int y] → b ≠ p := fun {b o} e n => ne_of e hpL n
    rcases (by omega : d = 0 ∨ d = 1 ∨ d = 2 ∨ d = 3 ∨ d = 4 ∨ d = 5 ∨ d = 6 ∨ d = 7) with rfl | rfl | rfl | rfl | rfl | rfl | rfl | rfl
    · exact ⟨_, rfl, fun H' b => ⟨_, .non, rfl⟩⟩
    · exact ⟨_, rfl, fun H' b => ⟨_, .int 5, rfl⟩⟩
    · exact ⟨_, rfl, fun H' b => ⟨_, .tup (b _ _ (np f1 (fun z => nomatch z)) f1), rfl⟩⟩
    · exact ⟨_, rfl, fun H' b => ⟨_, .lst (b _ _ (np f2 (fun z => by injection z with z; injection z with z _; cases z)) f2), rfl⟩⟩
    · exact ⟨_, rfl, fun H' b => ⟨_, .bl true, rfl⟩⟩
    · exact ⟨_, rfl, fun H' b => ⟨_, .dK (b _ _ (np f3 (fun z => nomatch z)) f3), rfl⟩⟩
    · exact ⟨_, rfl, fun H' b => ⟨_, .tup (b _ _ (np f4 (fun z => nomatch z)) f4), rfl⟩⟩
    · exact ⟨_, rfl, fun H' b => ⟨_, .int 0, rfl⟩⟩
  have lp : l ≠ p := ne_of fl hpL fun z => by injection z with z; injection z with z _; cases z
  refine ⟨l, _, _, _, rfl, rfl, SqL.of (s4 _ _ lp fl), eth, ?_⟩
  refine ⟨_, rfl, p, rfl, p4, fun m H5 tm s5 p5 => ?_⟩
  have s45 := s4.trans s5
  have g5 : Same H2 H5 := keep gL hn s45
  clear f1 f2 f3 f4 fl lp eth s4 s5 gg pL p4 d0 d1'
  refine ⟨_, rfl, m, rfl, tm.lt, tm.le, fun ps W h a' ts H6 o b em g6 P => ?_, fun nx H6 g6 => ?_⟩
  · obtain ⟨t, ty, kt⟩ := oth H6 (s45.trans (SameBut.of g6))
    refine ⟨_, rfl, rfl, _, rfl, ?_⟩
    rw [decide_eq_false (fun z => nomatch z)]
    refine iteF ?_
    refine ⟨_, rfl, th, rfl, .oth t ty kt fun H7 g7 => ?_⟩
    refine ⟨rfl, _, rfl, ?_⟩
    rw [decide_eq_true rfl]
    refine iteF ?_
    refine ⟨_, rfl, .str (tx m), rfl, .txt m rfl tm.lt (Nat.le_trans tm.le (by decide)) (fun ps' W' h' a2 us H8 o' b' e' g8 P' => ?_) fun nx => ?_⟩
    · obtain rfl := pic_inj o o' b b' (em.symm.trans e')
      refine ⟨_, rfl, psD ps, psD ps, P'.dt, ((P.keptX g7).kept g8).dt, psD_ok _, psD_ok _, ?_⟩
      rw [psD_eqv]
      refine ⟨_, rfl, ?_⟩
      refine iteF ?_
      exact ⟨_, _, _, _, _, rfl, (((SameX.of (g5.trans g6)).trans g7).trans (SameX.of g8)).seq hS2⟩
    · exact absurd ⟨ps, W, h, o, b, em⟩ nx
  · obtain ⟨t, ty, kt⟩ := oth H6 (s45.trans (SameBut.of g6))
    refine ⟨_, rfl, rfl, _, rfl, ?_⟩
    rw [decide_eq_true rfl]
    refine iteT ?_
    refine ⟨_, rfl, th, rfl, .oth t ty kt fun H7 g7 => ?_⟩
    refine ⟨rfl, _, rfl, ?_⟩
    rw [decide_eq_true rfl]
    refine iteF ?_
    refine ⟨_, rfl, .str (tx m), rfl, .txt m rfl tm.lt (Nat.le_trans tm.le (by decide)) (fun ps' W' h' a2 us H8 o' b' e' g8 P' => absurd ⟨ps', W', h', o', b', e'⟩ nx) fun _ H8 g8 => ?_⟩
    refine ⟨_, rfl, .int 13, .int 13, rfl, rfl, by decide, by decide, ?_⟩
    refine ⟨_, rfl, ?_⟩
    rw [show (if true = true then !PyData.eqv (.int 13) (.int 13) else PyData.eqv (.int 13) (.int 13)) = false by decide]
    refine iteF ?_
    exact ⟨_, _, _, _, _, rfl, (((SameX.of (g5.trans g6)).trans g7).trans g8).seq hS2⟩
--SPLIT
theorem all_mk {l : PySem.W.OpenLaw} {w : World} {K : PySem.W.Frag} {h : Heap} {mg : Str → Option Value} {fa : Addr} (X : K.In h) (G : h.Ns mainGlobals mg) (hfa : mg "law" = some (.ref fa)) (B : FxG K mg) : ∃ fd : FuncData, (∀ (s : Shared) (v : Value), BindsTo s fd ⟨[v], []⟩ [("_law_script", v)]) ∧ ∀ base : Heap, K.In base → base.Ns mainGlobals mg → FnOk l.prog w K mg base CX0 10 fa fd ["_law_script"] (spLaw K) := by
  obtain ⟨f, fd, e, F⟩ := B.d17
  cases hfa.symm.trans (PySem.W.mg_of X G e)
  refine ⟨fd, fun s v => ?_, fun base _ _ => ?_⟩
  · obtain ⟨oc, od, kV, doc, pm, an, cdv, ct, osl, rfl, _⟩ := F.ex
    exact .of_eq rfl
  refine Classical.byContradiction fun n => ?_
  obtain ⟨B', f', fd', F', n'⟩ : Bad c0 := Classical.epsilon_spec ⟨⟨l.prog, w, K, mg, base⟩, B, fa, fd, F, n⟩
  exact n' (ok_law B' F')
theorem walk {l : PySem.W.OpenLaw} {q : Program} {loose : List Str} {XP : (Str → Option Value) → Heap → Prop} {YP : World → Heap → Prop} {d : DefRec} {K : Params → PySem.W.Frag} (hn : l.most = some 63) (hdf : d.params.defaults = [])
    (hY : ∀ (w : World) (h : Heap), YP w h → (K w.params).In h)
    (F : ∀ (w : World) (mg : Str → Option Value) (fa : Addr) (h : Heap), (K w.params).In h → h.Ns mainGlobals mg → mg d.name = some (.ref fa) →
      ∃ fd : FuncData, (∀ (s : Shared) (u : Value), BindsTo s fd ⟨[u], []⟩ [("_law_script", u)]) ∧ ∀ base : Heap, (K w.params).In base → base.Ns mainGlobals mg → FnOk l.prog w (K w.params) mg base CX0 10 fa fd ["_law_script"] (spLaw (K w.params))) :
    PySem.W.WalkO q loose XP YP l.row.toRowW d [] (fun f vs => PySem.call f vs) :=
  L2.walk_of (n := 63) (k := 10) (x := "_law_script") (CX := fun _ => CX0) (sp := fun w => spLaw (K w.params)) hn (by decide) hdf ⟨rfl, by decide, by decide, rfl⟩ hY F (fun _ _ a ns hl _ hS => ⟨a, ns, rfl, hS, hl, fun _ => rfl⟩) fun _ _ _ _ _ z => z
end Prf
def PySem.W.Fast.tw15328523618665424992 : Nat := 0
def PySem.W.Fast.tw1425034420378553250 : Nat := 0
def PySem.W.Fast.tw6258402446881273539 : Nat := 0
def PySem.W.Fast.tw4582030691028420645 : Nat := 0
def PySem.W.Fast.tw14490509829736413318 : Nat := 0
def PySem.W.Fast.tw5626540050638356871 : Nat := 0
def PySem.W.Fast.tw12776157722403926637 : Nat := 0
def PySem.W.Fast.tw9448192147744787823 : Nat := 0
def PySem.W.Fast.tw9048833233020720240 : Nat := 0
def PySem.W.Fast.tw10461727199605922128 : Nat := 0
def PySem.W.Fast.tw3921693776212828880 : Nat := 0
def PySem.W.Fast.tw5425184491403018130 : Nat := 0
def PySem.W.Fast.tw4003349171843581363 : Nat := 0
def PySem.W.Fast.tw6687914197599074356 : Nat := 0
def PySem.W.Fast.tw9195024241589406807 : Nat := 0
def PySem.W.Fast.tw6033009820228539800 : Nat := 0
def PySem.W.Fast.tw16312858666091019160 : Nat := 0
def PySem.W.Fast.tw11622673557885318203 : Nat := 0
def PySem.W.Fast.tw14620348640548114620 : Nat := 0
def PySem.W.Fast.tw18438264762056529117 : Nat := 0
def PySem.W.Fast.tw12294146278914429341 : Nat := 0
def PySem.W.Fast.tw1115868913465307773 : Nat := 0
def PySem.W.Fast.tw14417829727895274750 : Nat := 0
def PySem.W.Fast.tw2272040515333991615 : Nat := 0
open PySem PySem.W PyProof.Rows
set_option maxRecDepth 100000 in
set_option maxHeartbeats 0 in
theorem PySem.Challenge.cw_restdraw_k92_texts_that_are_no_pictures_holds : PySem.Challenge.rw_restdraw_k92_texts_that_are_no_pictures.Holds := by
  w_on; o_law; k_head; (case hw => w_witness2)
  k_fill
  refine Prf.walk (l := PySem.Challenge.rw_restdraw_k92_texts_that_are_no_pictures) rfl rfl (fun w h Y => PySem.W.kIn_of Y) ?F
  case F =>
    intro w mg fa h KX G hmg
    refine' Prf.all_mk KX G hmg ?_
    apply Prf.FxG.mk ⟨_, KX, G⟩ <;> first | (refine' L2.df_mk ?a ?l ?c ?k; (case a => k_is); (case l => k_is); (case c => k_is); (case k => k_is)) | (refine' L2.cn_mk ?a ?l ?v; (case a => k_is); (case l => k_is); (case v => first | rfl | decide)) | (refine' L2.cv_mk ?a ?v; (case a => k_is); (case v => first | rfl | decide +kernel)) | (refine' L2.XgAt.mk ?a ?b; (case a => k_is); (case b => k_is)) | (refine' L2.dx_mk ?a ?l ?t ?sa ?ga ?gh ?cl ?cg ?ct ?it; (case a => k_is); (case l => k_is); (case t => k_is); (case sa => k_is); (case ga => k_is); (case gh => k_is); (case cl => k_is); (case cg => k_is); (case ct => k_is); (case it => k_is)) | (refine' L2.wx_mk ?a ?d ?l ?t ?sa ?ga ?gh ?cl ?cg ?ct ?i ?f ?k ?fl ?fc ?fk; (case a => k_is); (case d => k_is); (case l => k_is); (case t => k_is); (case sa => k_is); (case ga => k_is); (case gh => k_is); (case cl => k_is); (case cg => k_is); (case ct => k_is); (case i => k_is); (case f => k_is); (case k => k_is); (case fl => k_is); (case fc => k_is); (case fk => k_is)) | (refine' L2.kd_mk ?a ?d ?i ?t ?s ?ss; (case a => k_is); (case d => k_is); (case i => k_is); (case t => k_is); (case s => k_is); (case ss => k_is)) | (refine' L2.kv_mk' ?a ?s; (case a => k_is); (case s => k_is)) | k_is
