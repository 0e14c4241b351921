import PyProof.Rows.All
import Wide.All
import OpenK.AllK
import Wide.FinOn
import Lean
import PyProof.EqAt
import PyProof.EqKinds
import PyProof.TupleCall
import PyProof.ListRange
import PyProof.StrCalls2
import PyProof.StrWalks
import PyProof.EnumMake
import PyProof.Rows.Range3
import PyProof.SliceStr
import PyProof.StrLawsChain
import PyProof.DictValues
import PyProof.StrLawsIdx
import KE.KDictList
import PyProof.ExcInit
import PyProof.StationsW
import PyProof.ExcArgsOwn
import PyProof.InstStoreFacts
import KE.KIsAll
import PyProof.ExcBaseAll.ValueError
import PyProof.RulesAs
import PyProof.NsDelKeeps
import PyProof.Rows.StrJoin2
import KE.KIntText
import PyProof.MeetsStr
import PyProof.StrCalls
import PyProof.Rows.StrNews2
import PySem.Challenge.RW_restdraw_k12_fractions_written
set_option Elab.async false
set_option linter.all false
set_option maxRecDepth 100000
local macro_rules | `(tactic| omega) => `(tactic| lia)
noncomputable section
namespace L2
open PySem PySem.Spec PyProof.Rows

/-- a key: an int or a str -/
abbrev Key := Sum Int Str
def keyIs : Key → Value → Bool
  | .inl k, v => Value.isInt k v
  | .inr x, v => Value.isStrOf x v
def keyH (w : World) : Key → Int
  | .inl k => hashInt k
  | .inr x => hashStr w x
theorem keyIs_shape : ∀ {k : Key} {v : Value}, keyIs k v = true → (∃ i t, k = Sum.inl i ∧ v = Value.int i t) ∨ (∃ x t, k = Sum.inr x ∧ v = Value.str x t)
  | .inl i, v, h => by
    obtain ⟨t, e⟩ := Value.isInt_shape (k := i) (v := v) h
    exact .inl ⟨i, t, rfl, e⟩
  | .inr x, v, h => by
    obtain ⟨t, e⟩ := Value.isStrOf_shape (x := x) (v := v) h
    exact .inr ⟨x, t, rfl, e⟩
theorem key_ll (a b : Int) : decide ((Sum.inl a : Key) = Sum.inl b) = (a == b) := by
  by_cases e : a = b
  · subst e; simp
  · have h : ¬ (Sum.inl a : Key) = Sum.inl b := fun q => e (Sum.inl.inj q)
    rw [decide_eq_false h]
    exact (beq_eq_false_iff_ne.mpr e).symm
theorem key_rr (a b : Str) : decide ((Sum.inr a : Key) = Sum.inr b) = decide (a = b) := by
  by_cases e : a = b
  · subst e; simp
  · have h : ¬ (Sum.inr a : Key) = Sum.inr b := fun q => e (Sum.inr.inj q)
    rw [decide_eq_false h, decide_eq_false e]
theorem key_lr (a : Int) (b : Str) : decide ((Sum.inl a : Key) = Sum.inr b) = false := decide_eq_false (fun q => nomatch q)
theorem key_rl (a : Str) (b : Int) : decide ((Sum.inr a : Key) = Sum.inl b) = false := decide_eq_false (fun q => nomatch q)

def mixKind (prog : Program) (w : World) : PySem.KeyKind prog w Key where
  is := keyIs
  hash := keyH w
  inj := fun v a b ha hb => by
    rcases keyIs_shape ha with ⟨i, t, rfl, rfl⟩ | ⟨x, t, rfl, rfl⟩
    · rcases keyIs_shape hb with ⟨j, u, rfl, e⟩ | ⟨y, u, rfl, e⟩
      · injection e with e1 _; rw [e1]
      · exact nomatch e
    · rcases keyIs_shape hb with ⟨j, u, rfl, e⟩ | ⟨y, u, rfl, e⟩
      · exact nomatch e
      · injection e with e1 _; rw [e1]
  byValue := fun k v h => by
    rcases keyIs_shape h with ⟨i, t, rfl, rfl⟩ | ⟨x, t, rfl, rfl⟩ <;> rfl
  pyHash := fun hv h => by
    rcases keyIs_shape hv with ⟨i, t, rfl, rfl⟩ | ⟨x, t, rfl, rfl⟩
    · exact wpAny_pyHash_int h
    · exact wpAny_pyHash_str h
  eqBool := fun hu hv h => by
    rcases keyIs_shape hu with ⟨i, t, rfl, rfl⟩ | ⟨x, t, rfl, rfl⟩
    · rcases keyIs_shape hv with ⟨j, u, rfl, rfl⟩ | ⟨y, u, rfl, rfl⟩
      · rw [key_ll] at h; exact wpAny_eqBool_int h
      · rw [key_lr] at h; exact SeqAt.EqAt.int_str i t y u _ _ _ _ h
    · rcases keyIs_shape hv with ⟨j, u, rfl, rfl⟩ | ⟨y, u, rfl, rfl⟩
      · rw [key_rl] at h; exact SeqAt.EqAt.str_int x t j u _ _ _ _ h
      · rw [key_rr] at h; exact wpAny_eqBool_str h
  «strs» := fun k x t v h => by
    rcases keyIs_shape h with ⟨i, u, rfl, e⟩ | ⟨y, u, rfl, e⟩
    · exact nomatch e
    · injection e with e1 _
      subst e1
      cases v <;> rfl

end L2

namespace L2
open PySem PySem.Spec PyProof.Rows

/-- a value, without the heap -/
inductive V where
  | non | bl (b : Bool) | int (i : Int) | str (x : Str) | byt (b : Array UInt8) | flt (b : UInt64) | ref (a : Addr) | ty (n : String)
  deriving DecidableEq

def RelV : V → Value → Prop
  | .non, u => u = Value.none
  | .bl b, u => u = Value.bool b
  | .int i, u => ∃ t, u = Value.int i t
  | .str x, u => ∃ t, u = Value.str x t
  | .byt b, u => ∃ t, u = Value.bytes b t
  | .flt b, u => ∃ t, u = Value.float b t
  | .ref a, u => u = Value.ref a
  | .ty n, u => u = Value.type n

abbrev Vals : List V → List Value → Prop := Paired RelV
theorem Vals.length {xs : List V} {us : List Value} (r : Vals xs us) : xs.length = us.length := Paired.length r
theorem Vals.get : ∀ {xs : List V} {us : List Value} {i : Nat} {x : V}, Vals xs us → xs[i]? = some x → ∃ u, us[i]? = some u ∧ RelV x u
  | _, _, _, _, .nil, e => by simp at e
  | _, _, 0, _, .cons r _, e => by simp at e; subst e; exact ⟨_, rfl, r⟩
  | _, _, i + 1, x, .cons _ t, e => by
    obtain ⟨u, h1, h2⟩ := Vals.get (i := i) (x := x) t (by simpa using e)
    exact ⟨u, by simpa using h1, h2⟩
theorem Vals.set {x : V} {u : Value} (r : RelV x u) : ∀ {xs : List V} {us : List Value} (i : Nat), Vals xs us → Vals (xs.set i x) (us.set i u)
  | _, _, _, .nil => .nil
  | _, _, 0, .cons _ t => .cons r t
  | _, _, i + 1, .cons q t => .cons q (Vals.set r i t)
theorem Vals.append : ∀ {xs ys : List V} {us ws : List Value}, Vals xs us → Vals ys ws → Vals (xs ++ ys) (us ++ ws)
  | _, _, _, _, .nil, s => s
  | _, _, _, _, .cons r t, s => .cons r (Vals.append t s)
theorem Vals.take : ∀ {xs : List V} {us : List Value} (n : Nat), Vals xs us → Vals (xs.take n) (us.take n)
  | _, _, 0, _ => .nil
  | _, _, _ + 1, .nil => .nil
  | _, _, n + 1, .cons r t => .cons r (Vals.take n t)
theorem Vals.drop : ∀ {xs : List V} {us : List Value} (n : Nat), Vals xs us → Vals (xs.drop n) (us.drop n)
  | _, _, 0, r => r
  | _, _, _ + 1, .nil => .nil
  | _, _, n + 1, .cons _ t => Vals.drop n t
def RelO : Option V → Option Value → Prop
  | some v, some u => RelV v u
  | none, none => True
  | _, _ => False
def KV {κ : Type} : List (κ × V) → List (κ × Value) → Prop := Paired fun (p : κ × V) (q : κ × Value) => p.1 = q.1 ∧ RelV p.2 q.2

/-- a key of a dict (00_mix): an int or a text -/
def kV : Key → V
  | .inl i => .int i
  | .inr x => .str x

/-- what stands at a tracked address -/
inductive HO where
  /-- a list -/
  | lst (xs : List V)
  /-- a tuple (never changes) -/
  | tup (xs : List V)
  /-- a dict whose keys are ints and texts; one whose keys are tuples of ints and texts (the empty one is both) -/
  | dK (kvs : List (Key × V)) | dT (kvs : List (List Key × V))
  /-- a set of ints: its members, its size -/
  | set (S : Int → Bool) (n : Nat)
  /-- an instance of the class at C, its dict at dx, its attributes -/
  | ins (C dx : Addr) (fs : List (Str × V))
  /-- the dict of the instance at x -/
  | own (x : Addr)
  /-- the dict of an exception -/
  | xd (fs : List (Str × V))
  /-- a bound method, f of x -/
  | met (f x : Addr)
  /-- a range object lo, lo + 1, .. below hi -/
  | rng (lo hi : Int)
  /-- a thing that is known to the object (the script; a dict while a loop walks it): read, never written while it is so -/
  | frz (o : Obj) (u : HO)
  /-- a code object's table -/
  | tbl (ps : Array Value)
  /-- any other thing, by what is true of its one object (a def of one's own: SetO a S n := HO.ext fun h => ..) -/
  | ext (φ : Heap → Prop)

abbrev Hp := Addr → Option HO
def upd (H : Hp) (a : Addr) (o : HO) : Hp := fun b => if b = a then some o else H b
theorem upd_same {H : Hp} {a : Addr} {o : HO} : upd H a o a = some o := by unfold upd; rw [if_pos rfl]
theorem upd_ne {H : Hp} {a b : Addr} {o : HO} (h : b ≠ a) : upd H a o b = H b := by unfold upd; rw [if_neg h]
/-- two objects of different content stand apart -/
theorem ne_of {H : Hp} {a b : Addr} {o u : HO} (h : H a = some o) (h' : H b = some u) (d : o ≠ u) : a ≠ b := by
  intro e; subst e; rw [h] at h'; exact d (Option.some.inj h')
theorem ne_of_none {H : Hp} {a b : Addr} {o : HO} (h : H a = some o) (h' : H b = none) : a ≠ b := by
  intro e; subst e; rw [h] at h'; cases h'

section
/-- a tuple that has no dict of its own -/
def IsTupN (h : Heap) (a : Addr) (items : Array Value) : Prop := ∃ o, h.get? a = some o ∧ o.cls = .type "tuple" ∧ ∃ n, o.data = .seq items n ∧ o.dict = none
theorem IsTupN.isTup {h : Heap} {a : Addr} {items : Array Value} : IsTupN h a items → IsTup h a items := fun ⟨o, e, c, n, d, _⟩ => ⟨o, e, c, n, d⟩
theorem IsTupN.lt {h : Heap} {a : Addr} {items : Array Value} (x : IsTupN h a items) : a < h.objs.size := x.isTup.lt
theorem IsTupN.new (h : Heap) (items : Array Value) : IsTupN (h.push { cls := .type "tuple", data := .seq items }) h.objs.size items := ⟨_, Heap.get?_push_size _ rfl, rfl, _, rfl, rfl⟩
variable (P : Program) (w : World)
def ObjOk (H : Hp) (h : Heap) (a : Addr) : HO → Prop
  | .lst xs => xs.length ≤ sizeLine ∧ ∃ (its : List Value) (n : Nat), Vals xs its ∧ h.get? a = some { cls := .type "list", data := .seq its.toArray n }
  | .tup xs => xs.length ≤ sizeLine ∧ ∃ its : List Value, Vals xs its ∧ IsTupN h a its.toArray
  | .dK kvs => kvs.length ≤ sizeLine ∧ (a == sysModules) = false ∧ ∃ vs, KV kvs vs ∧ h.DictOf (mixKind P w) a vs
  | .dT kvs => kvs.length ≤ sizeLine ∧ (a == sysModules) = false ∧ ∃ xs : List (List Key × Addr × Value),
      Paired (fun (p : List Key × V) (q : List Key × Addr × Value) => p.1 = q.1 ∧ H q.2.1 = some (.tup (p.1.map kV)) ∧ RelV p.2 q.2.2) kvs xs ∧
      ∃ o es ep, h.get? a = some o ∧ o.ExactDict ∧ o.data = .dict es ep ∧ es.toList = xs.map (entryOfKey (tupleKind (mixKind P w))) ∧ (xs.map (·.1)).Nodup
  | .set S n => h.SetOf (intKind P w) a S n
  | .ins C dx fs => H dx = some (.own a) ∧ fs.length ≤ 1000 ∧ dx ≠ a ∧ h.get? a = some (PySem.W.instObj C dx) ∧
      ∃ mA, h.Ns1 dx mA ∧ (∀ f, RelO (fs.lookup f) (mA f)) ∧ PySem.Within mA (fs.map (·.1))
  | .own _ => ∃ o, h.get? a = some o
  | .xd fs => ∃ mA, h.Ns1 a mA ∧ ∀ f, RelO (fs.lookup f) (mA f)
  | .rng lo hi => ∃ t u v, h.get? a = some { cls := .type "range", data := .fields #[.int lo t, .int hi u, .int 1 v] }
  | .frz o u => h.get? a = some o ∧ ObjOk H h a u
  | .tbl ps => h.get? a = some { cls := .none, data := .fields ps }
  | .met f x => h.get? a = some (PySem.W.methodObj (.ref f) (.ref x))
  | .ext φ => φ h ∧ (∃ o, h.get? a = some o) ∧ ∀ h1 h2 : Heap, φ h1 → (∀ o, h1.get? a = some o → h2.get? a = some o) → φ h2
/-- the abstract heap is held -/
def HOk (H : Hp) (h : Heap) : Prop := ∀ a o, H a = some o → ObjOk P w H h a o
end

section
variable {P : Program} {w : World} {H H' : Hp} {h h' : Heap} {a : Addr} {o : HO}
theorem ObjOk.lt (x : ObjOk P w H h a o) : a < h.objs.size := by
  cases o with
  | lst xs => obtain ⟨_, _, _, _, e⟩ := x; exact Heap.lt_size e
  | tup xs => obtain ⟨_, _, _, p⟩ := x; exact p.lt
  | dK kvs => obtain ⟨_, _, _, _, o, _, _, e, _⟩ := x; exact Heap.lt_size e
  | dT kvs => obtain ⟨_, _, _, _, o, _, _, e, _⟩ := x; exact Heap.lt_size e
  | set S n => obtain ⟨o, _, _, _, e, _⟩ := x; exact Heap.lt_size e
  | ins C dx fs => obtain ⟨_, _, _, e, _⟩ := x; exact Heap.lt_size e
  | own y => obtain ⟨_, e⟩ := x; exact Heap.lt_size e
  | xd fs => obtain ⟨_, ⟨_, _, _, e, _⟩, _⟩ := x; exact Heap.lt_size e
  | rng lo hi => obtain ⟨_, _, _, e⟩ := x; exact Heap.lt_size e
  | frz ob u => obtain ⟨e, _⟩ := x; exact Heap.lt_size e
  | tbl ps => exact Heap.lt_size (show h.get? a = some _ from x)
  | met f y => exact Heap.lt_size (show h.get? a = some _ from x)
  | ext φ => obtain ⟨_, ⟨_, e⟩, _⟩ := x; exact Heap.lt_size e
theorem Paired.mapP {α β : Type} {F G : α → β → Prop} : ∀ {l₁ : List α} {l₂ : List β}, Paired F l₁ l₂ → (∀ a b, F a b → G a b) → Paired G l₁ l₂
  | _, _, .nil, _ => .nil
  | _, _, .cons r t, f => .cons (f _ _ r) (Paired.mapP t f)
/-- what an object's description leans on: its own object, its own dict, the tuples -/
theorem ObjOk.stay (x : ObjOk P w H h a o) (k : ∀ b u, (b = a ∨ H b = some (.own a)) → h.get? b = some u → h'.get? b = some u)
    (ho : ∀ b, H b = some (.own a) → H' b = some (.own a)) (ht : ∀ b xs, H b = some (.tup xs) → H' b = some (.tup xs)) : ObjOk P w H' h' a o := by
  induction o with
  | lst xs => obtain ⟨z, its, n, r, e⟩ := x; exact ⟨z, its, n, r, k _ _ (.inl rfl) e⟩
  | tup xs => obtain ⟨z, its, r, ob, e, c⟩ := x; exact ⟨z, its, r, ob, k _ _ (.inl rfl) e, c⟩
  | dK kvs => obtain ⟨z, y, vs, r, ob, es, ep, e, c⟩ := x; exact ⟨z, y, vs, r, ob, es, ep, k _ _ (.inl rfl) e, c⟩
  | dT kvs =>
    obtain ⟨z, y, xs, r, ob, es, ep, e, c⟩ := x
    exact ⟨z, y, xs, Paired.mapP r fun p q z => ⟨z.1, ht _ _ z.2.1, z.2.2⟩, ob, es, ep, k _ _ (.inl rfl) e, c⟩
  | set S n => obtain ⟨ob, es, ep, t, e, c⟩ := x; exact ⟨ob, es, ep, t, k _ _ (.inl rfl) e, c⟩
  | ins C dx fs =>
    obtain ⟨d, z, ne, e, mA, ⟨od, es, ep, e2, c⟩, r⟩ := x
    exact ⟨ho _ d, z, ne, k _ _ (.inl rfl) e, mA, ⟨od, es, ep, k _ _ (.inr d) e2, c⟩, r⟩
  | own y => obtain ⟨ob, e⟩ := x; exact ⟨ob, k _ _ (.inl rfl) e⟩
  | xd fs => obtain ⟨mA, ⟨od, es, ep, e, c⟩, r⟩ := x; exact ⟨mA, ⟨od, es, ep, k _ _ (.inl rfl) e, c⟩, r⟩
  | rng lo hi => obtain ⟨t, u, v, e⟩ := x; exact ⟨t, u, v, k _ _ (.inl rfl) e⟩
  | frz ob u ih => obtain ⟨e, q⟩ := x; exact ⟨k _ _ (.inl rfl) e, ih q⟩
  | tbl ps =>
    have e : h.get? a = some { cls := .none, data := .fields ps } := x
    show h'.get? a = some { cls := .none, data := .fields ps }
    exact k a _ (.inl rfl) e
  | met f y =>
    have e : h.get? a = some (PySem.W.methodObj (.ref f) (.ref y)) := x
    show h'.get? a = some (PySem.W.methodObj (.ref f) (.ref y))
    exact k a _ (.inl rfl) e
  | ext φ => obtain ⟨p, ⟨o, e⟩, st⟩ := x; exact ⟨st _ _ p fun o q => k _ _ (.inl rfl) q, ⟨o, k _ _ (.inl rfl) e⟩, st⟩
theorem HOk.lt (x : HOk P w H h) (e : H a = some o) : a < h.objs.size := (x a o e).lt
theorem HOk.fresh (x : HOk P w H h) (e : h.objs.size ≤ a) : H a = none := by
  cases q : H a with
  | none => rfl
  | some u => exact absurd (Nat.lt_of_lt_of_le (x.lt q) e) (Nat.lt_irrefl _)
/-- every object of the heap is kept -/
theorem HOk.kept (x : HOk P w H h) (k : ∀ b u, h.get? b = some u → h'.get? b = some u) : HOk P w H h' := fun a o e =>
  (x a o e).stay (fun b u _ q => k b u q) (fun _ q => q) fun _ _ q => q
/-- a new object is laid and tracked -/
theorem HOk.laid (x : HOk P w H h) (k : ∀ b u, h.get? b = some u → h'.get? b = some u) (hp : h.objs.size ≤ a) (new : ObjOk P w (upd H a o) h' a o) : HOk P w (upd H a o) h' := fun b u e => by
  have hn := x.fresh hp
  by_cases hb : b = a
  · subst hb; rw [upd_same] at e; cases e; exact new
  · rw [upd_ne hb] at e
    exact (x b u e).stay (fun c v _ q => k c v q) (fun c q => by rw [upd_ne (ne_of_none q hn)]; exact q) fun c xs q => by rw [upd_ne (ne_of_none q hn)]; exact q
end

/-- what may be read as u: it is u, or a known u -/
def Rd (H : Hp) (a : Addr) (u : HO) : Prop := H a = some u ∨ ∃ o, H a = some (.frz o u)
theorem Rd.of {H : Hp} {a : Addr} {u : HO} (h : H a = some u) : Rd H a u := .inl h
theorem Rd.ok {P : Program} {w : World} {H : Hp} {h : Heap} {a : Addr} {u : HO} (r : Rd H a u) (x : HOk P w H h) : ObjOk P w H h a u := by
  rcases r with r | ⟨o, r⟩
  · exact x a u r
  · obtain ⟨_, q⟩ := x a _ r
    exact q
/-- what may be written -/
def Mut : Option HO → Prop
  | some (.lst _) => True
  | some (.dK _) => True
  | some (.dT _) => True
  | some (.set _ _) => True
  | some (.ins _ _ _) => True
  | some (.ext _) => True
  | _ => False
section
variable {P : Program} {w : World} {H : Hp} {h h' : Heap} {x e : Addr} {o' : HO}
/-- the object at e is changed: x itself, or the dict of the instance x -/
theorem HOk.write (ok : HOk P w H h) (mu : Mut (H x)) (he : e = x ∨ H e = some (.own x)) (k : ∀ b u, b ≠ e → h.get? b = some u → h'.get? b = some u) (heo : ∃ u, h'.get? e = some u)
    (new : ObjOk P w (upd H x o') h' x o') : HOk P w (upd H x o') h' := fun b u q => by
  have nown : ∀ c y, H c = some (.own y) → c ≠ x := fun c y r z => by subst z; rw [r] at mu; exact mu
  have ntup : ∀ c xs, H c = some (.tup xs) → c ≠ x := fun c xs r z => by subst z; rw [r] at mu; exact mu
  by_cases hb : b = x
  · subst hb; rw [upd_same] at q; cases q; exact new
  · rw [upd_ne hb] at q
    by_cases hbe : b = e
    · have q' : H b = some (.own x) := by
        rcases he with z | z
        · exact absurd (hbe.trans z) hb
        · rw [hbe]; exact z
      rw [q] at q'; cases q'
      obtain ⟨v, hv⟩ := heo
      exact ⟨v, by rw [hbe]; exact hv⟩
    · refine (ok b u q).stay (fun c v hc r => k c v ?_ r) (fun c r => by rw [upd_ne (nown c b r)]; exact r) fun c xs r => by rw [upd_ne (ntup c xs r)]; exact r
      rcases hc with rfl | hc
      · exact hbe
      · rintro rfl
        rcases he with z | z
        · exact nown c b hc z
        · rw [hc] at z; cases z; exact hb rfl
end

structure Un (fs ex : List Addr) (H H' : Hp) (h h' : Heap) : Prop where
  keep : ∀ b o, h.get? b = some o → H b = none → b ∉ fs → b ∉ ex → h'.get? b = some o
  slot : ∀ b o, h.get? b = some o → H b = none → b ∈ fs → b ∉ ex → ∃ sl, h'.get? b = some { o with slots := sl }
  free : ∀ b o, h.get? b = some o → H b = none → b ∉ ex → H' b = none
  there : ∀ b o, h.get? b = some o → b ∉ ex → ∃ o', h'.get? b = some o'
  tups : ∀ b xs, H b = some (.tup xs) → H' b = some (.tup xs)
  frzs : ∀ b o u, H b = some (.frz o u) → H' b = some (.frz o u)
  tbls : ∀ b ps, H b = some (.tbl ps) → ∃ more, H' b = some (.tbl (ps ++ more))
section
variable {fs fs' ex ex' : List Addr} {H H1 H2 : Hp} {h h1 h2 h' : Heap} {a x e : Addr} {o : HO}
theorem Un.any (u : Un fs ex H H1 h h1) {b : Addr} {ob : Obj} (q : h.get? b = some ob) (n : H b = none) (hx : b ∉ ex) : ∃ sl, h1.get? b = some { ob with slots := sl } := by
  by_cases hb : b ∈ fs
  · exact u.slot b ob q n hb hx
  · exact ⟨ob.slots, u.keep b ob q n hb hx⟩
theorem Un.trans (a : Un fs ex H H1 h h1) (b : Un fs ex H1 H2 h1 h2) : Un fs ex H H2 h h2 where
  keep := fun c ob q n hc hx => b.keep c ob (a.keep c ob q n hc hx) (a.free c ob q n hx) hc hx
  slot := fun c ob q n hc hx => by
    obtain ⟨sl, e1⟩ := a.slot c ob q n hc hx
    obtain ⟨sl', e2⟩ := b.slot c _ e1 (a.free c ob q n hx) hc hx
    exact ⟨sl', e2⟩
  free := fun c ob q n hx => by
    obtain ⟨o', e1⟩ := a.there c ob q hx
    exact b.free c o' e1 (a.free c ob q n hx) hx
  there := fun c ob q hx => by
    obtain ⟨o', e1⟩ := a.there c ob q hx
    exact b.there c o' e1 hx
  tups := fun c xs q => b.tups c xs (a.tups c xs q)
  frzs := fun c ob xs q => b.frzs c ob xs (a.frzs c ob xs q)
  tbls := fun c ps q => by
    obtain ⟨m1, e1⟩ := a.tbls c ps q
    obtain ⟨m2, e2⟩ := b.tbls c _ e1
    exact ⟨m1 ++ m2, by rw [e2, Array.append_assoc]⟩
theorem Un.kept (k : ∀ b u, h.get? b = some u → h'.get? b = some u) : Un fs ex H H h h' :=
  ⟨fun b ob q _ _ _ => k b ob q, fun b ob q _ _ _ => ⟨ob.slots, k b ob q⟩, fun _ _ _ n _ => n, fun b ob q _ => ⟨ob, k b ob q⟩, fun _ _ q => q, fun _ _ _ q => q, fun _ ps q => ⟨#[], by rw [q]; simp⟩⟩
theorem Un.refl : Un fs ex H H h h := Un.kept fun _ _ q => q
theorem Un.laid (k : ∀ b u, h.get? b = some u → h'.get? b = some u) (hp : h.objs.size ≤ a) (hn : H a = none) : Un fs ex H (upd H a o) h h' where
  keep := fun b u q _ _ _ => k b u q
  slot := fun b u q _ _ _ => ⟨u.slots, k b u q⟩
  free := fun b u q n _ => by rw [upd_ne (Nat.ne_of_lt (Nat.lt_of_lt_of_le (Heap.lt_size q) hp))]; exact n
  there := fun b u q _ => ⟨u, k b u q⟩
  tups := fun b xs q => by rw [upd_ne (ne_of_none q hn)]; exact q
  frzs := fun b u xs q => by rw [upd_ne (ne_of_none q hn)]; exact q
  tbls := fun b ps q => ⟨#[], by rw [upd_ne (ne_of_none q hn), q]; simp⟩
theorem Un.write (mu : Mut (H x)) (he : e = x ∨ H e = some (.own x)) (k : ∀ b u, b ≠ e → h.get? b = some u → h'.get? b = some u) (heo : ∃ u, h'.get? e = some u) : Un fs ex H (upd H x o) h h' := by
  have hx : ∀ b, H b = none → b ≠ x := fun b n z => by subst z; rw [n] at mu; exact mu
  have hb : ∀ b, H b = none → b ≠ e := fun b n z => by
    subst z
    rcases he with r | r
    · exact hx b n r
    · rw [n] at r; cases r
  have hm : ∀ b u, H b = some u → ¬ Mut (some u) → b ≠ x := fun b u q nm z => by subst z; rw [q] at mu; exact nm mu
  refine ⟨fun b u q n _ _ => k b u (hb b n) q, fun b u q n _ _ => ⟨u.slots, k b u (hb b n) q⟩, fun b u q n _ => by rw [upd_ne (hx b n)]; exact n, fun b u q _ => ?_,
    fun b xs q => by rw [upd_ne (hm b _ q fun z => z)]; exact q, fun b u xs q => by rw [upd_ne (hm b _ q fun z => z)]; exact q, fun b ps q => ⟨#[], by rw [upd_ne (hm b _ q fun z => z), q]; simp⟩⟩
  by_cases hbe : b = e
  · subst hbe; exact heo
  · exact ⟨u, k b u hbe q⟩
theorem Un.mono (u : Un fs ex H H1 h h1) (hs : ∀ b ∈ fs, b ∈ fs') (hx : ∀ b ∈ ex, b ∈ ex') : Un fs' ex' H H1 h h1 :=
  ⟨fun b ob q n hb he => u.keep b ob q n (fun z => hb (hs b z)) fun z => he (hx b z), fun _ _ q n _ he => u.any q n fun z => he (hx _ z), fun b ob q n he => u.free b ob q n fun z => he (hx b z), fun b ob q he => u.there b ob q fun z => he (hx b z), u.tups, u.frzs, u.tbls⟩
end

def trk (h : Heap) (H : Hp) : List Addr := (List.range h.objs.size).filter fun a => (H a).isSome
def hidT (h : Heap) (H : Hp) : Heap := PySem.W.hideAll h (trk h H)
theorem hidT_size (h : Heap) (H : Hp) : (hidT h H).objs.size = h.objs.size := PySem.W.hideAll_size _ _
theorem hidT_get {h : Heap} {H : Hp} {b : Addr} {o : Obj} (e : h.get? b = some o) (n : H b = none) : (hidT h H).get? b = some o :=
  PySem.W.hideAll_get _ e fun hm => by
    have q : (H b).isSome = true := (List.mem_filter.mp hm).2
    rw [n] at q; simp at q
theorem of_hidT {h : Heap} {H : Hp} {b : Addr} {o : Obj} (e : (hidT h H).get? b = some o) : h.get? b = some o ∧ H b = none := by
  have e' : h.get? b = some o := PySem.W.of_hideAll (trk h H) e
  refine ⟨e', ?_⟩
  cases q : H b with
  | none => rfl
  | some x =>
    have hm : b ∈ trk h H := List.mem_filter.mpr ⟨List.mem_range.mpr (Heap.lt_size e'), by simp [q]⟩
    have z : (hidT h H).get? b = none := PySem.W.hideAll_none (trk h H) hm
    rw [z] at e; cases e

def allNews (g h : Heap) (L : Addr) : List (Addr × Obj) := (List.range h.objs.size).filterMap fun a => if a = L ∨ (g.get? a).isSome = true then none else (h.get? a).map fun o => (a, o)
def rest (g h : Heap) (L d : Addr) : List (Addr × Obj) := (allNews g h L).filter fun p => decide (p.1 ≠ d)
end L2

namespace L2
open PySem PySem.Spec PyProof.Rows

/-- the module's facts, over the base: the heap at the law's entry without what is tracked there -/
structure Mod (K : PySem.W.Frag) (mg : Str → Option Value) (base : Heap) : Prop where
  kin : K.In base
  glob : base.Ns mainGlobals mg
  blt : ∃ mb, base.Ns builtinsNs mb ∧ ∀ x : Str, x ≠ "__name__" → mb x = bootBuiltins x
  nolimit : base.NoLimit

/-- the context: a def's body (or a comprehension's block) running. base: fixed through the whole law; s₀, H₀: the entry; outer: the frames whose slots others may change (a def's callers); stack: all frames that run;
   ex: iterators that were made ahead of the entry and are walked here (a comprehension's); fn: the names whose cells were made at the entry (a def: all; a comprehension's block: its own); calm: not within an except suite; pn: pins that every state bears; xe: what is wanted of an exception that leaves the code -/
structure Cx where
  prog : Program
  w : World
  K : PySem.W.Frag
  mg : Str → Option Value
  base : Heap
  A : Around
  N : List Str
  s₀ : Shared
  H₀ : Hp
  env : Env
  outer : List Env
  stack : List Env
  ex : List Addr
  fn : Str → Bool
  calm : Bool
  pn : List (Addr × Obj)
  xe : Value → Shared → Prop
/-- the callers' frames -/
def frs (l : List Env) : List Addr := l.filterMap (·.frame)
abbrev Cx.fs (X : Cx) : List Addr := frs X.outer

def Vis (sc : Scope) (x : Str) : Prop := sc.names.lookup x = some .local ∨ sc.names.lookup x = some .cell ∨ sc.names.lookup x = some .free
def Loc (sc : Scope) (x : Str) : Prop := sc.names.lookup x = some .local ∨ sc.names.lookup x = some .cell
def Look (env : Env) (h : Heap) (m : Str → Option Value) (x : Str) (u : Value) : Prop :=
  (env.kindOf x = some .local ∧ m x = some u) ∨ ((env.kindOf x = some .cell ∨ env.kindOf x = some .free) ∧ ∃ c, env.cells.lookup x = some c ∧ h.IsCell c (some u))

structure Cx.Ok (X : Cx) : Prop where
  mod : Mod X.K X.mg X.base
  kind : X.env.scope.kind = .function
  glob : X.env.globals = mainGlobals
  blt : X.env.builtins = builtinsNs
  above : X.s₀.heap.objs.size ≤ X.env.locals
  inj : ∀ x y c, X.env.cells.lookup x = some c → X.env.cells.lookup y = some c → x = y
  has : ∀ x, (X.env.kindOf x = some .cell ∨ X.env.kindOf x = some .free) → ∃ c, X.env.cells.lookup x = some c
  cab : ∀ x c, X.fn x = true → X.env.cells.lookup x = some c → X.s₀.heap.objs.size ≤ c
  hd : X.calm = true → X.A.handled = none
  frames : X.A.frames = some X.stack
  stk : X.stack = X.outer ∨ (X.stack = X.env :: X.outer ∧ X.env.frame = some X.env.locals)
  exf : ∀ b ∈ X.ex, b ≠ X.env.locals ∧ ∀ x c, X.env.cells.lookup x = some c → c ≠ b
  bs : ∀ b o, X.base.get? b = some o → X.s₀.heap.get? b = some o ∧ X.H₀ b = none
  bsz : X.base.objs.size ≤ X.s₀.heap.objs.size
  noex : ∀ b o, X.base.get? b = some o → b ∉ X.ex
  exfs : ∀ b ∈ X.ex, b ∉ X.fs
  funs : X.s₀.heap.FunFrames X.base X.outer
  frf : ∀ b ∈ X.fs, X.H₀ b = none

structure Inv (X : Cx) (pins : List (Addr × Obj)) (σ : List (Option V)) (H : Hp) (s : Shared) : Prop where
  ok : X.Ok
  os : s.os = X.s₀.os
  bare : AllBare s.gens
  base : Un X.fs X.ex X.H₀ H X.s₀.heap s.heap
  loc : ∃ m, s.heap.Ns X.env.locals m ∧ ∀ (i : Nat) (x : Str) (v : V), X.N[i]? = some x → σ[i]? = some (some v) → Vis X.env.scope x → ∃ u, RelV v u ∧ Look X.env s.heap m x u
  cell : ∀ x c, X.env.cells.lookup x = some c → ∃ v, s.heap.IsCell c v
  free : H X.env.locals = none
  freeC : ∀ x c, X.env.cells.lookup x = some c → H c = none
  pin : ∀ p ∈ X.pn ++ pins, s.heap.get? p.1 = some p.2 ∧ H p.1 = none ∧ p.1 ≠ X.env.locals ∧ p.1 ∉ X.fs ∧ ∀ v, p.2.data ≠ .cell v
  hok : HOk X.prog X.w H s.heap
  len : σ.length = X.N.length

section
variable {X : Cx} {pins : List (Addr × Obj)} {σ : List (Option V)} {H H' : Hp} {s : Shared} {h' : Heap}

theorem Cx.Ok.nofr (ok : X.Ok) {b : Addr} {o : Obj} (e : X.base.get? b = some o) : b ∉ X.fs := fun hb => by
  have := (ok.funs.mem hb).1
  rw [e] at this; cases this
theorem Inv.bs (I : Inv X pins σ H s) : ∀ b o, X.base.get? b = some o → s.heap.get? b = some o ∧ H b = none := fun b o e =>
  ⟨I.base.keep b o (I.ok.bs b o e).1 (I.ok.bs b o e).2 (I.ok.nofr e) (I.ok.noex b o e), I.base.free b o (I.ok.bs b o e).1 (I.ok.bs b o e).2 (I.ok.noex b o e)⟩
theorem Inv.bk (I : Inv X pins σ H s) : ∀ b o, X.base.get? b = some o → s.heap.get? b = some o := fun b o e => (I.bs b o e).1
theorem Inv.mod (I : Inv X pins σ H s) : Mod X.K X.mg X.base := I.ok.mod
theorem Inv.kIn (I : Inv X pins σ H s) : X.K.In s.heap := I.ok.mod.kin.keeps I.bk
theorem Inv.nolimit (I : Inv X pins σ H s) : s.heap.NoLimit := I.ok.mod.nolimit.keeps I.bk
/-- the frame over the base: for OpenK's rules (K.In X.base is I.mod.kin) -/
theorem Inv.fr (I : Inv X pins σ H s) : ∃ m, Fr X.base X.env.locals s.heap m :=
  let ⟨m, hn, _⟩ := I.loc
  ⟨m, hn, I.bk, Nat.le_trans I.ok.bsz I.ok.above⟩
theorem Inv.lt (I : Inv X pins σ H s) : X.env.locals < s.heap.objs.size := let ⟨_, hn, _⟩ := I.loc; hn.lt
theorem Inv.sz (I : Inv X pins σ H s) : X.s₀.heap.objs.size ≤ s.heap.objs.size := Nat.le_trans I.ok.above (Nat.le_of_lt I.lt)
theorem Inv.nofs (I : Inv X pins σ H s) {a : Addr} (h : s.heap.objs.size ≤ a) : a ∉ X.fs := fun hb => by
  obtain ⟨_, o, ho, _⟩ := I.ok.funs.mem hb
  exact absurd (Nat.lt_of_lt_of_le (Heap.lt_size ho) (Nat.le_trans I.sz h)) (Nat.lt_irrefl _)
theorem Inv.cne (I : Inv X pins σ H s) : ∀ x c, X.env.cells.lookup x = some c → c ≠ X.env.locals := fun x c e z => by
  obtain ⟨v, o, ho, hd⟩ := I.cell x c e
  obtain ⟨m, ⟨o', es, ep, ho', hd', _⟩, _⟩ := I.loc
  rw [z, ho'] at ho; cases ho; rw [hd'] at hd; cases hd
theorem Inv.funs (I : Inv X pins σ H s) : s.heap.FunFrames X.base X.outer := by
  have all : ∀ (l : List Env), (∀ b ∈ frs l, b ∈ X.fs) → X.s₀.heap.FunFrames X.base l → s.heap.FunFrames X.base l := by
    intro l
    induction l with
    | nil => intro _ _; trivial
    | cons env r ih =>
      intro hs hl
      obtain ⟨hk, ⟨L, o, hf, hn, ho, hd⟩, hr⟩ := hl
      have hL : L ∈ X.fs := hs L (by unfold frs; rw [List.filterMap_cons, hf]; exact List.mem_cons_self)
      obtain ⟨sl, e⟩ := I.base.slot L o ho (I.ok.frf L hL) hL fun z => I.ok.exfs L z hL
      exact ⟨hk, ⟨L, _, hf, hn, e, hd⟩, ih (fun b hb => hs b (by unfold frs; rw [List.filterMap_cons, hf]; exact List.mem_cons_of_mem _ hb)) hr⟩
  exact all X.outer (fun _ hb => hb) I.ok.funs

/-- the frames that run, for a call -/
theorem Inv.stack (I : Inv X pins σ H s) : s.heap.FunFrames X.base X.stack := by
  rcases I.ok.stk with e | ⟨e, hf⟩
  · rw [e]; exact I.funs
  · rw [e]
    obtain ⟨m, hn, _⟩ := I.loc
    refine .cons (by rw [I.ok.kind]; decide) hf hn ?_ I.funs
    exact Heap.get?_none_of_le (Nat.le_trans I.ok.bsz I.ok.above)
theorem Inv.stkSub (I : Inv X pins σ H s) : ∀ b ∈ frs X.stack, b ∈ X.env.locals :: X.fs := fun b hb => by
  rcases I.ok.stk with e | ⟨e, hf⟩
  · rw [e] at hb; exact List.mem_cons_of_mem _ hb
  · rw [e] at hb
    unfold frs at hb
    rw [List.filterMap_cons, hf] at hb
    exact hb
theorem Inv.stkFree (I : Inv X pins σ H s) : ∀ b ∈ frs X.stack, H b = none := fun b hb => by
  rcases List.mem_cons.mp (I.stkSub b hb) with e | hb
  · rw [e]; exact I.free
  · obtain ⟨_, o, ho, _⟩ := I.ok.funs.mem hb
    exact I.base.free b o ho (I.ok.frf b hb) fun z => I.ok.exfs b z hb

/-- THE STEP: the untracked objects but the frame and the records at ch are kept (the callers' frames up to slots), the frame's map is kept, the new abstract heap is held -/
theorem Inv.step {g' : Array GenState} {t' : Nat} {d' : Drawn} {ch : List Addr} (I : Inv X pins σ H s)
    (hch : ∀ b ∈ ch, (b ∈ X.ex ∨ X.s₀.heap.objs.size ≤ b) ∧ b ≠ X.env.locals ∧ (∀ x c, X.env.cells.lookup x = some c → c ≠ b) ∧ ∀ p ∈ X.pn ++ pins, p.1 ≠ b)
    (keep : ∀ b o, b ≠ X.env.locals → b ∉ X.fs → b ∉ ch → s.heap.get? b = some o → H b = none → h'.get? b = some o)
    (slot : ∀ b o, b ≠ X.env.locals → b ∈ X.fs → b ∉ ch → s.heap.get? b = some o → H b = none → ∃ sl, h'.get? b = some { o with slots := sl }) (free : ∀ b o, b ∉ ch → s.heap.get? b = some o → H b = none → H' b = none)
    (there : ∀ b o, b ∉ ch → s.heap.get? b = some o → ∃ o', h'.get? b = some o')
    (tups : ∀ b xs, H b = some (.tup xs) → H' b = some (.tup xs)) (frzs : ∀ b o u, H b = some (.frz o u) → H' b = some (.frz o u)) (tbls : ∀ b ps, H b = some (.tbl ps) → ∃ more, H' b = some (.tbl (ps ++ more)))
    (ns : ∀ m, s.heap.Ns X.env.locals m → h'.Ns X.env.locals m) (hok : HOk X.prog X.w H' h') (hg : AllBare g') :
    Inv X pins σ H' { s with heap := h', gens := g', drawn := d', toks := t' } := by
  have neL : ∀ b o, X.s₀.heap.get? b = some o → b ≠ X.env.locals := fun b o e => Nat.ne_of_lt (Nat.lt_of_lt_of_le (Heap.lt_size e) I.ok.above)
  have neC : ∀ b o, X.s₀.heap.get? b = some o → b ∉ X.ex → b ∉ ch := fun b o e hx hb => by
    rcases (hch b hb).1 with z | z
    · exact hx z
    · exact absurd (Nat.lt_of_lt_of_le (Heap.lt_size e) z) (Nat.lt_irrefl _)
  have cellK : ∀ x c, X.env.cells.lookup x = some c → ∀ v, s.heap.IsCell c v → h'.IsCell c v := fun x c e v ⟨o, ho, hd⟩ => by
    have nch : c ∉ ch := fun z => (hch c z).2.2.1 x c e rfl
    by_cases hc : c ∈ X.fs
    · obtain ⟨sl, q⟩ := slot c o (I.cne x c e) hc nch ho (I.freeC x c e)
      exact ⟨_, q, hd⟩
    · exact ⟨o, keep c o (I.cne x c e) hc nch ho (I.freeC x c e), hd⟩
  refine ⟨I.ok, I.os, hg, ⟨fun b o e n hb hx => ?_, fun b o e n hb hx => ?_, fun b o e n hx => ?_, fun b o e hx => ?_, fun b xs e => tups b xs (I.base.tups b xs e), fun b o xs e => frzs b o xs (I.base.frzs b o xs e), fun b ps e => ?_⟩, ?_, fun x c e => ?_, ?_, fun x c e => ?_, fun p hp => ?_, hok, I.len⟩
  · exact keep b o (neL b o e) hb (neC b o e hx) (I.base.keep b o e n hb hx) (I.base.free b o e n hx)
  · obtain ⟨sl, e1⟩ := I.base.slot b o e n hb hx
    obtain ⟨sl', e2⟩ := slot b _ (neL b o e) hb (neC b o e hx) e1 (I.base.free b o e n hx)
    exact ⟨sl', e2⟩
  · obtain ⟨o', e1⟩ := I.base.there b o e hx
    exact free b o' (neC b o e hx) e1 (I.base.free b o e n hx)
  · obtain ⟨o', e1⟩ := I.base.there b o e hx
    exact there b o' (neC b o e hx) e1
  · obtain ⟨m1, e1⟩ := I.base.tbls b ps e
    obtain ⟨m2, e2⟩ := tbls b _ e1
    exact ⟨m1 ++ m2, by rw [e2, Array.append_assoc]⟩
  · obtain ⟨m, hn, hl⟩ := I.loc
    refine ⟨m, ns m hn, fun i x v e1 e2 e3 => ?_⟩
    obtain ⟨u, r, l⟩ := hl i x v e1 e2 e3
    refine ⟨u, r, ?_⟩
    rcases l with l | ⟨k, c, e, z⟩
    · exact .inl l
    · exact .inr ⟨k, c, e, cellK x c e _ z⟩
  · obtain ⟨v, z⟩ := I.cell x c e
    exact ⟨v, cellK x c e v z⟩
  · obtain ⟨m, ⟨o, _, _, ho, _⟩, _⟩ := I.loc
    exact free _ o (fun z => (hch _ z).2.1 rfl) ho I.free
  · obtain ⟨v, o, ho, hd⟩ := I.cell x c e
    exact free c o (fun z => (hch c z).2.2.1 x c e rfl) ho (I.freeC x c e)
  · obtain ⟨e, n, ne, nf, d⟩ := I.pin p hp
    have nch : p.1 ∉ ch := fun z => (hch p.1 z).2.2.2 p hp rfl
    exact ⟨keep p.1 p.2 ne nf nch e n, free p.1 p.2 nch e n, ne, nf, d⟩
/-- .. where the frame's own object is kept too -/
theorem Inv.un {t' : Nat} (I : Inv X pins σ H s) (u : Un X.fs [] H H' s.heap h') (hok : HOk X.prog X.w H' h') : Inv X pins σ H' { s with heap := h', toks := t' } := by
  obtain ⟨m, ⟨o, es, ep, ho, r⟩, _⟩ := id I.loc
  obtain ⟨sl, hL⟩ := u.any ho I.free (by simp)
  exact I.step (g' := s.gens) (d' := s.drawn) (ch := []) (fun _ z => nomatch z) (fun b o _ hb _ e n => u.keep b o e n hb (by simp)) (fun b o _ hb _ e n => u.slot b o e n hb (by simp)) (fun b o _ e n => u.free b o e n (by simp)) (fun b o _ e => u.there b o e (by simp)) u.tups u.frzs u.tbls (fun m' hm => by
    obtain ⟨o', es', ep', ho', r'⟩ := hm
    rw [ho] at ho'; cases ho'
    exact ⟨_, es', ep', hL, r'⟩) hok I.bare
/-- behind a call (or a comprehension's block): the slots of this frame may have changed too, the records at ch may have turned -/
theorem Inv.call {g' : Array GenState} {t' : Nat} {d' : Drawn} {ch : List Addr} (I : Inv X pins σ H s) (u : Un (frs X.stack) ch H H' s.heap h') (hok : HOk X.prog X.w H' h') (hg : AllBare g')
    (hch : ∀ b ∈ ch, (b ∈ X.ex ∨ X.s₀.heap.objs.size ≤ b) ∧ b ≠ X.env.locals ∧ (∀ x c, X.env.cells.lookup x = some c → c ≠ b) ∧ ∀ p ∈ X.pn ++ pins, p.1 ≠ b) :
    Inv X pins σ H' { s with heap := h', gens := g', drawn := d', toks := t' } := by
  obtain ⟨m, ⟨o, es, ep, ho, r⟩, _⟩ := id I.loc
  obtain ⟨sl, hL⟩ := u.any ho I.free fun z => (hch _ z).2.1 rfl
  exact I.step (ch := ch) hch (fun b o hL hb hc e n => u.keep b o e n (fun z => (List.mem_cons.mp (I.stkSub b z)).elim hL hb) hc) (fun b o _ _ hc e n => u.any e n hc) (fun b o hc e n => u.free b o e n hc) (fun b o hc e => u.there b o e hc) u.tups u.frzs u.tbls (fun m' hm => by
    obtain ⟨o', es', ep', ho', r'⟩ := hm
    rw [ho] at ho'; cases ho'
    exact ⟨_, es', ep', hL, r'⟩) hok hg
/-- an untracked record of ours (an iterator) has turned -/
theorem Inv.turned {t' : Nat} {it : Addr} (I : Inv X pins σ H s) (k : ∀ b o, b ≠ it → s.heap.get? b = some o → h'.get? b = some o) (hn : H it = none) (hL : it ≠ X.env.locals)
    (h1 : it ∈ X.ex ∨ X.s₀.heap.objs.size ≤ it) (h2 : ∀ x c, X.env.cells.lookup x = some c → c ≠ it) (h3 : ∀ p ∈ X.pn ++ pins, p.1 ≠ it) : Inv X pins σ H { s with heap := h', toks := t' } := by
  have nit : ∀ b u, H b = some u → b ≠ it := fun b u e z => by rw [z, hn] at e; cases e
  refine I.step (g' := s.gens) (d' := s.drawn) (ch := [it]) (fun b hb => ?_) (fun b o _ _ hc e _ => k b o (fun z => hc (by simp [z])) e) (fun b o _ _ hc e _ => ⟨o.slots, k b o (fun z => hc (by simp [z])) e⟩) (fun _ _ _ _ n => n)
    (fun b o hc e => ⟨o, k b o (fun z => hc (by simp [z])) e⟩) (fun _ _ e => e) (fun _ _ _ e => e) (fun b ps e => ⟨#[], by rw [e]; simp⟩) (fun m hm => ?_) (fun b u e => ?_) I.bare
  · have e : b = it := by simpa using hb
    subst e
    exact ⟨h1, hL, h2, h3⟩
  · obtain ⟨o, es, ep, ho, r⟩ := hm
    exact ⟨o, es, ep, k _ o (Ne.symm hL) ho, r⟩
  · refine (I.hok b u e).stay (fun c v hc q => k c v ?_ q) (fun _ q => q) fun _ _ q => q
    rcases hc with z | z
    · rw [z]; exact nit b u e
    · exact nit c _ z
theorem Inv.tok (I : Inv X pins σ H s) (t : Nat) : Inv X pins σ H { s with toks := t } := I.un (h' := s.heap) (t' := t) Un.refl I.hok
/-- all objects kept -/
theorem Inv.kept {t' : Nat} (I : Inv X pins σ H s) (k : ∀ b u, s.heap.get? b = some u → h'.get? b = some u) : Inv X pins σ H { s with heap := h', toks := t' } := I.un (Un.kept k) (I.hok.kept k)
/-- a new object laid and tracked -/
theorem Inv.laid {a : Addr} {o : HO} {t' : Nat} (I : Inv X pins σ H s) (k : ∀ b u, s.heap.get? b = some u → h'.get? b = some u) (hp : s.heap.objs.size ≤ a) (new : ObjOk X.prog X.w (upd H a o) h' a o) :
    Inv X pins σ (upd H a o) { s with heap := h', toks := t' } := I.un (Un.laid k hp (I.hok.fresh hp)) (I.hok.laid k hp new)
/-- an object written -/
theorem Inv.write {x e : Addr} {o : HO} {t' : Nat} (I : Inv X pins σ H s) (mu : Mut (H x)) (he : e = x ∨ H e = some (.own x)) (k : ∀ b u, b ≠ e → s.heap.get? b = some u → h'.get? b = some u) (heo : ∃ u, h'.get? e = some u)
    (new : ObjOk X.prog X.w (upd H x o) h' x o) : Inv X pins σ (upd H x o) { s with heap := h', toks := t' } := I.un (Un.write mu he k heo) (I.hok.write mu he k heo new)
theorem Inv.pins_of {pins' : List (Addr × Obj)} (I : Inv X pins σ H s) (h : ∀ p ∈ pins', s.heap.get? p.1 = some p.2 ∧ H p.1 = none ∧ p.1 ≠ X.env.locals ∧ p.1 ∉ X.fs ∧ ∀ v, p.2.data ≠ .cell v) : Inv X pins' σ H s :=
  ⟨I.ok, I.os, I.bare, I.base, I.loc, I.cell, I.free, I.freeC, fun p hp => (List.mem_append.mp hp).elim (fun z => I.pin p (List.mem_append_left _ z)) (h p), I.hok, I.len⟩

theorem nodup_ix {N : List Str} (hN : N.Nodup) {i j : Nat} {x : Str} (a : N[i]? = some x) (b : N[j]? = some x) : i = j := by
  obtain ⟨h1, e1⟩ := List.getElem?_eq_some_iff.mp a
  obtain ⟨h2, e2⟩ := List.getElem?_eq_some_iff.mp b
  exact (List.getElem_inj hN).mp (e1.trans e2.symm)

/-- a name is stored; what changed -/
theorem store_ok2 {M : Model} {A : Around} {E : Value → Shared → Prop} {i : Nat} {x : Str} {v : V} {u : Value} {Q : Unit → Shared → Prop} (I : Inv X pins σ H s) (hN : X.N.Nodup) (hi : X.N[i]? = some x) (hx : Loc X.env.scope x) (r : RelV v u)
    (h : ∀ s', Inv X pins (σ.set i (some v)) H s' → (∃ a, Heap.SameBut a s.heap s'.heap ∧ (a = X.env.locals ∨ X.env.cells.lookup x = some a)) → Q () s') (hf : X.fn x = true ∨ X.env.scope.names.lookup x = some .local := by first | exact .inl rfl | exact .inr rfl | assumption) : wpAny M A (storeName X.env x u) Q E s := by
  obtain ⟨m, hn, hl⟩ := id I.loc
  have hcls : (X.env.scope.kind == .class || (X.env.scope.kind == .module && X.env.locals != X.env.globals)) = false := by rw [I.ok.kind]; rfl
  have hiσ : i < σ.length := by rw [I.len]; exact (List.getElem?_eq_some_iff.mp hi).1
  have cne := I.cne
  have tracked : ∀ {a : Addr} {h' : Heap}, (∃ o, s.heap.get? a = some o ∧ H a = none) → Heap.SameBut a s.heap h' → HOk X.prog X.w H h' := fun {a h'} ha hs b ob e => by
    obtain ⟨_, _, hfree⟩ := ha
    refine (I.hok b ob e).stay (fun c w' hc q => (hs.2 c ?_).trans q) (fun _ q => q) fun _ _ q => q
    rintro rfl
    rcases hc with rfl | hc
    · rw [hfree] at e; cases e
    · rw [hfree] at hc; cases hc
  rcases hx with hk | hk
  · refine wpAny_storeName_local hk hn (fun h' hn' hs => ?_) hcls
    obtain ⟨oL, _, _, hoL, _⟩ := id hn
    refine h _ ⟨I.ok, I.os, I.bare, ⟨fun b o e n hb hx => ?_, fun b o e n hb hx => ?_, I.base.free, fun b o e hx => ?_, I.base.tups, I.base.frzs, I.base.tbls⟩, ⟨_, hn', fun j y v' e1 e2 e3 => ?_⟩, fun y c e => ?_, I.free, I.freeC, fun p hp => ?_, tracked ⟨oL, hoL, I.free⟩ hs, by simpa using I.len⟩ ⟨_, hs, .inl rfl⟩
    · exact (hs.2 b (Nat.ne_of_lt (Nat.lt_of_lt_of_le (Heap.lt_size e) I.ok.above))).trans (I.base.keep b o e n hb hx)
    · obtain ⟨sl, e1⟩ := I.base.slot b o e n hb hx
      exact ⟨sl, (hs.2 b (Nat.ne_of_lt (Nat.lt_of_lt_of_le (Heap.lt_size e) I.ok.above))).trans e1⟩
    · obtain ⟨o', e1⟩ := I.base.there b o e hx
      exact ⟨o', (hs.2 b (Nat.ne_of_lt (Nat.lt_of_lt_of_le (Heap.lt_size e) I.ok.above))).trans e1⟩
    · by_cases hj : j = i
      · subst hj
        rw [hi] at e1; cases e1
        rw [List.getElem?_set_self hiσ] at e2
        cases e2
        exact ⟨u, r, .inl ⟨hk, by simp⟩⟩
      · rw [List.getElem?_set_ne (Ne.symm hj)] at e2
        obtain ⟨u', r', q⟩ := hl j y v' e1 e2 e3
        refine ⟨u', r', ?_⟩
        rcases q with ⟨k, e⟩ | ⟨k, c, e, z⟩
        · refine .inl ⟨k, ?_⟩
          have : y ≠ x := fun e => hj (nodup_ix hN e1 (e ▸ hi))
          simp [this, e]
        · exact .inr ⟨k, c, e, z.sameBut hs (cne y c e)⟩
    · obtain ⟨w', z⟩ := I.cell y c e
      exact ⟨w', z.sameBut hs (cne y c e)⟩
    · obtain ⟨e, n, ne, nf, d⟩ := I.pin p hp
      exact ⟨(hs.2 p.1 ne).trans e, n, ne, nf, d⟩
  · have hfn : X.fn x = true := by
      rcases hf with z | z
      · exact z
      · rw [z] at hk; cases hk
    obtain ⟨c, hc⟩ := I.ok.has x (.inl hk)
    obtain ⟨w', z⟩ := I.cell x c hc
    refine wpAny_storeName_cell I.ok.kind hk hc z (fun h' hc' hs => ?_)
    obtain ⟨oc, hoc, hocd⟩ := id z
    refine h { s with heap := h' } ⟨I.ok, I.os, I.bare, ⟨fun b o e n hb hx => ?_, fun b o e n hb hx => ?_, I.base.free, fun b o e hx => ?_, I.base.tups, I.base.frzs, I.base.tbls⟩, ⟨m, hn.sameBut hs (Ne.symm (cne x c hc)), fun j y v' e1 e2 e3 => ?_⟩, fun y c' e => ?_, I.free, I.freeC, fun p hp => ?_, tracked ⟨oc, hoc, I.freeC x c hc⟩ hs, by simpa using I.len⟩ ⟨c, hs, .inr hc⟩
    · exact (hs.2 b (Nat.ne_of_lt (Nat.lt_of_lt_of_le (Heap.lt_size e) (I.ok.cab x c hfn hc)))).trans (I.base.keep b o e n hb hx)
    · obtain ⟨sl, e1⟩ := I.base.slot b o e n hb hx
      exact ⟨sl, (hs.2 b (Nat.ne_of_lt (Nat.lt_of_lt_of_le (Heap.lt_size e) (I.ok.cab x c hfn hc)))).trans e1⟩
    · obtain ⟨o', e1⟩ := I.base.there b o e hx
      exact ⟨o', (hs.2 b (Nat.ne_of_lt (Nat.lt_of_lt_of_le (Heap.lt_size e) (I.ok.cab x c hfn hc)))).trans e1⟩
    · by_cases hj : j = i
      · subst hj
        rw [hi] at e1; cases e1
        rw [List.getElem?_set_self hiσ] at e2
        cases e2
        exact ⟨u, r, .inr ⟨.inl hk, c, hc, hc'⟩⟩
      · rw [List.getElem?_set_ne (Ne.symm hj)] at e2
        obtain ⟨u', r', q⟩ := hl j y v' e1 e2 e3
        refine ⟨u', r', ?_⟩
        rcases q with q | ⟨k, c', e, z'⟩
        · exact .inl q
        · refine .inr ⟨k, c', e, z'.sameBut hs ?_⟩
          rintro rfl
          exact hj (nodup_ix hN e1 (I.ok.inj _ _ _ e hc ▸ hi))
    · by_cases hcc : c' = c
      · subst hcc; exact ⟨_, hc'⟩
      · obtain ⟨w2, z2⟩ := I.cell y c' e
        exact ⟨w2, z2.sameBut hs hcc⟩
    · obtain ⟨e, n, ne, nf, d⟩ := I.pin p hp
      refine ⟨(hs.2 p.1 ?_).trans e, n, ne, nf, d⟩
      intro q
      rw [q, hoc] at e
      have q' : oc = p.2 := Option.some.inj e
      exact d w' (by rw [← q']; exact hocd)
theorem store_ok {M : Model} {A : Around} {E : Value → Shared → Prop} {i : Nat} {x : Str} {v : V} {u : Value} {Q : Unit → Shared → Prop} (I : Inv X pins σ H s) (hN : X.N.Nodup) (hi : X.N[i]? = some x) (hx : Loc X.env.scope x) (r : RelV v u)
    (h : ∀ s', Inv X pins (σ.set i (some v)) H s' → Q () s') (hf : X.fn x = true ∨ X.env.scope.names.lookup x = some .local := by first | exact .inl rfl | exact .inr rfl | assumption) : wpAny M A (storeName X.env x u) Q E s :=
  store_ok2 I hN hi hx r (fun s' I' _ => h s' I') hf
/-- behind a call or a block, the state as it is -/
theorem Inv.call' {s' : Shared} {ch : List Addr} (I : Inv X pins σ H s) (ho : s'.os = s.os) (u : Un (frs X.stack) ch H H' s.heap s'.heap) (hok : HOk X.prog X.w H' s'.heap) (hg : AllBare s'.gens)
    (hch : ∀ b ∈ ch, (b ∈ X.ex ∨ X.s₀.heap.objs.size ≤ b) ∧ b ≠ X.env.locals ∧ (∀ x c, X.env.cells.lookup x = some c → c ≠ b) ∧ ∀ p ∈ X.pn ++ pins, p.1 ≠ b) : Inv X pins σ H' s' := by
  obtain ⟨h', g', d', t', o'⟩ := s'
  have e : o' = s.os := ho
  subst e
  exact I.call (g' := g') (t' := t') (d' := d') u hok hg hch
end

/-- an exception: its class, its own dict's address (where it has one), the abstract heap behind it -/
abbrev XK := Value → Option Addr → Hp → Prop
abbrev St := List (Option V)
abbrev VK := V → Hp → Prop
/-- an expression's reading; a test's; an argument list's -/
abbrev TE := St → Hp → VK → Prop
abbrev TT := St → Hp → (Bool → Hp → Prop) → Prop
abbrev TA := St → Hp → (List V → Hp → Prop) → Prop
/-- what is wanted behind a statement -/
structure Ends where
  nx : St → Hp → Prop
  rt : VK
  bk : St → Hp → Prop := fun _ _ => False
  ct : St → Hp → Prop := fun _ _ => False
abbrev TS := Ends → St → Hp → Prop

def EP (X : Cx) (pins : List (Addr × Obj)) (σ : St) (Q : VK) (u : Value) (s' : Shared) : Prop := ∃ v H', Inv X pins σ H' s' ∧ RelV v u ∧ Q v H'
def TP (X : Cx) (pins : List (Addr × Obj)) (σ : St) (Q : Bool → Hp → Prop) (b : Bool) (s' : Shared) : Prop := ∃ H', Inv X pins σ H' s' ∧ Q b H'
def AP (X : Cx) (pins : List (Addr × Obj)) (σ : St) (Q : List V → Hp → Prop) (us : List Value) (s' : Shared) : Prop := ∃ vs H', Inv X pins σ H' s' ∧ Vals vs us ∧ Q vs H'
def SP (X : Cx) (pins : List (Addr × Obj)) (D : Ends) (f : Flow) (s' : Shared) : Prop :=
  match f with
  | .next => ∃ σ' H', Inv X pins σ' H' s' ∧ D.nx σ' H'
  | .brk => ∃ σ' H', Inv X pins σ' H' s' ∧ D.bk σ' H'
  | .cont => ∃ σ' H', Inv X pins σ' H' s' ∧ D.ct σ' H'
  | .ret u => ∃ v σ' H', Inv X pins σ' H' s' ∧ RelV v u ∧ D.rt v H'

def PE (X : Cx) (e : Expr) (t : TE) : Prop :=
  ∀ (pins : List (Addr × Obj)) (s : Shared) (σ : St) (H : Hp) (Q : VK), Inv X pins σ H s → t σ H Q → wpAny (model X.prog X.w) X.A (eval e X.env) (EP X pins σ Q) X.xe s
def PT (X : Cx) (e : Expr) (t : TT) : Prop :=
  ∀ (pins : List (Addr × Obj)) (s : Shared) (σ : St) (H : Hp) (Q : Bool → Hp → Prop), Inv X pins σ H s → t σ H Q → wpAny (model X.prog X.w) X.A (isTrue e X.env (eval e X.env)) (TP X pins σ Q) X.xe s
/-- a test whatever its 'whole' is (and, or) -/
def PW (X : Cx) (e : Expr) (t : TT) : Prop :=
  ∀ (whole : Sem Value) (pins : List (Addr × Obj)) (s : Shared) (σ : St) (H : Hp) (Q : Bool → Hp → Prop), Inv X pins σ H s → t σ H Q → wpAny (model X.prog X.w) X.A (isTrue e X.env whole) (TP X pins σ Q) X.xe s
theorem PW.pt {X : Cx} {e : Expr} {t : TT} (h : PW X e t) : PT X e t := h _
/-- an argument list (no star), from the left -/
def PA (X : Cx) (es : List Expr) (t : TA) : Prop :=
  ∀ (pos : Pos) (pins : List (Addr × Obj)) (s : Shared) (σ : St) (H : Hp) (Q : List V → Hp → Prop), Inv X pins σ H s → t σ H Q → wpAny (model X.prog X.w) X.A (spliced (backTo pos (starEach es X.env))) (AP X pins σ Q) X.xe s
def PS (X : Cx) (st : Stmt) (t : TS) : Prop :=
  ∀ (pins : List (Addr × Obj)) (s : Shared) (σ : St) (H : Hp) (D : Ends), Inv X pins σ H s → t D σ H → wpAny (model X.prog X.w) X.A (exec st X.env) (SP X pins D) X.xe s
def PSs (X : Cx) (st : List Stmt) (t : TS) : Prop :=
  ∀ (pins : List (Addr × Obj)) (s : Shared) (σ : St) (H : Hp) (D : Ends), Inv X pins σ H s → t D σ H → wpAny (model X.prog X.w) X.A (execs st X.env) (SP X pins D) X.xe s
/-- weaken the end -/
theorem thn {α : Type} {t : Sem α} {Q Q' : α → Shared → Prop} {M : Model} {A : Around} {E : Value → Shared → Prop} {s : Shared} (h : wpAny M A t Q E s) (hQ : ∀ a s, Q a s → Q' a s) : wpAny M A t Q' E s := wpAny_mono h hQ fun _ _ x => x
end L2

namespace L2
open PySem PySem.Spec PyProof.Rows
section
variable {X : Cx}

inductive tVar (i : Nat) (σ : St) (H : Hp) (Q : VK) : Prop
  | mk : ∀ v, (σ[i]? = some (some v)) → (Q v H) → tVar i σ H Q
def tC (v : V) : TE := fun _ H Q => Q v H
theorem pe_var {i : Nat} {x : Str} {pos : Pos} (hN : X.N[i]? = some x) (hv : Vis X.env.scope x) (hd : (x == ("__debug__" : Str)) = false := by decide) (hcd : (x == ("__classdict__" : Str)) = false := by decide) : PE X (.Name x pos) (tVar i) := by
  intro pins s σ H Q I h
  obtain ⟨v, e, h⟩ := h
  obtain ⟨m, hn, hl⟩ := I.loc
  obtain ⟨u, r, l⟩ := hl i x v hN e hv
  have fin : EP X pins σ Q u s := ⟨v, H, I, r, h⟩
  rcases l with ⟨hk, hm⟩ | ⟨hk, c, hc, hcell⟩
  · exact wpAny_Name (wpAny_loadName_local I.ok.kind hk hn hm fin) hd
  · rcases hk with hk | hk
    · exact wpAny_Name (wpAny_loadName_cell I.ok.kind hk hc hcell fin) hd
    · exact wpAny_Name (wpAny_loadName_free I.ok.kind hk hc hcell fin hcd) hd
theorem pe_int {i j pos} : PE X (.Constant (.int i) j pos) (tC (.int i)) := fun _ _ _ H _ I h => wpAny_Constant_int ⟨.int i, H, I.tok _, ⟨_, rfl⟩, h⟩
theorem pe_bl {b j pos} : PE X (.Constant (.bool b) j pos) (tC (.bl b)) := fun _ _ _ H _ I h => Constant_bool ⟨.bl b, H, I, rfl, h⟩
theorem pe_non {j pos} : PE X (.Constant .none j pos) (tC .non) := fun _ _ _ H _ I h => Constant_none ⟨.non, H, I, rfl, h⟩
theorem pe_str {x j pos} : PE X (.Constant (.str x) j pos) (tC (.str x)) := fun _ _ _ H _ I h => Calls.Constant_str ⟨.str x, H, I.tok _, ⟨_, rfl⟩, h⟩

/-- a global name of the def -/
def Gl (X : Cx) (x : Str) : Prop := X.env.kindOf x = some .globalImplicit
theorem ld_glob {E : Value → Shared → Prop} {pins : List (Addr × Obj)} {s : Shared} {σ : St} {H : Hp} {x : Str} {u : Value} {pos : Pos} {Q : Value → Shared → Prop} (I : Inv X pins σ H s) (hg : Gl X x) (hm : X.mg x = some u) (h : Q u s)
    (hd : (x == ("__debug__" : Str)) = false := by decide) : wpAny (model X.prog X.w) X.A (eval (.Name x pos) X.env) Q E s :=
  Calls.Name_function_global I.ok.kind hg (Calls.loadGlobal_global (by rw [I.ok.glob]; exact I.mod.glob.keeps I.bk) hm h) hd
theorem ld_blt {E : Value → Shared → Prop} {pins : List (Addr × Obj)} {s : Shared} {σ : St} {H : Hp} {x : Str} {u : Value} {pos : Pos} {Q : Value → Shared → Prop} (I : Inv X pins σ H s) (hg : Gl X x) (hm : X.mg x = none) (hv : bootBuiltins x = some u) (h : Q u s)
    (hn : x ≠ "__name__" := by decide) (hd : (x == ("__debug__" : Str)) = false := by decide) : wpAny (model X.prog X.w) X.A (eval (.Name x pos) X.env) Q E s := by
  obtain ⟨mb, h1, h2⟩ := I.mod.blt
  exact Calls.Name_function_global I.ok.kind hg (Calls.loadGlobal_builtin (by rw [I.ok.glob]; exact I.mod.glob.keeps I.bk) hm (by rw [I.ok.blt]; exact h1.keeps I.bk) ((h2 x hn).trans hv) h) hd
/-- a module's constant, a class, a function, as a value -/
theorem pe_glob {x : Str} {v : V} {u : Value} {pos : Pos} (hg : Gl X x) (hm : X.mg x = some u) (r : RelV v u) (hd : (x == ("__debug__" : Str)) = false := by decide) : PE X (.Name x pos) (tC v) :=
  fun _ _ _ H _ I h => ld_glob I hg hm ⟨v, H, I, r, h⟩ hd
theorem pe_bltn {x : Str} {v : V} {u : Value} {pos : Pos} (hg : Gl X x) (hm : X.mg x = none) (hv : bootBuiltins x = some u) (r : RelV v u) (hn : x ≠ "__name__" := by decide) (hd : (x == ("__debug__" : Str)) = false := by decide) : PE X (.Name x pos) (tC v) :=
  fun _ _ _ H _ I h => ld_blt I hg hm hv ⟨v, H, I, r, h⟩ hn hd

variable {a b : Expr} {ta tb : TE} {pos : Pos}
/-- a comparison as a value, as a test -/
inductive tBY (Q : Bool → Hp → Prop) (x : V) (H1 : Hp) : Prop
  | mk : ∀ c, (x = .bl c) → (Q c H1) → tBY Q x H1
def tB (t : TE) : TT := fun σ H Q => t σ H fun x H1 => tBY Q x H1
/-- an expression whose value is a bool, as a test -/
theorem pt_val {e : Expr} {t : TE} (h : PE X e t) (he : ∀ whole, isTrue e X.env whole = (do let v ← whole; standAt e.pos; holding [v] (truthy v)) := by intro _; rfl) : PT X e (tB t) := by
  intro pins s σ H Q I hw
  refine isTrue_plain (thn (h pins s σ H _ I hw) fun v s1 ⟨x, H1, I1, r1, q1⟩ => ?_) (he _)
  obtain ⟨d, rfl, q⟩ := q1
  cases r1
  exact wpAny_truthy_bool ⟨H1, I1, q⟩

variable {tA tB' : TT} {rest : List Expr}
def tAnd (t u : TT) : TT := fun σ H Q => t σ H fun c H1 => if c = true then u σ H1 Q else Q false H1
def tOr (t u : TT) : TT := fun σ H Q => t σ H fun c H1 => if c = true then Q true H1 else u σ H1 Q
def tNot (t : TT) : TT := fun σ H Q => t σ H fun c H1 => Q (!c) H1
theorem pw_and1 (ha : PT X a tA) : PW X (.BoolOp .And [a] pos) tA := by
  intro wh pins s σ H Q I h
  refine isTrue_and (thn (ha pins s σ H Q I h) fun c s1 e => ?_)
  cases c with
  | true => exact isTrue_and_nil e
  | false => exact e
theorem pw_or1 (ha : PT X a tA) : PW X (.BoolOp .Or [a] pos) tA := by
  intro wh pins s σ H Q I h
  refine isTrue_or (thn (ha pins s σ H Q I h) fun c s1 e => ?_)
  cases c with
  | false => exact isTrue_or_nil e
  | true => exact e
theorem pw_and (ha : PT X a tA) (hb : PW X (.BoolOp .And (b :: rest) pos) tB') : PW X (.BoolOp .And (a :: b :: rest) pos) (tAnd tA tB') := by
  intro wh pins s σ H Q I h
  refine isTrue_and (thn (ha pins s σ H _ I h) fun c s1 ⟨H1, I1, q1⟩ => ?_)
  cases c with
  | true => exact hb wh pins s1 σ H1 Q I1 q1
  | false => exact ⟨H1, I1, q1⟩
theorem pw_or (ha : PT X a tA) (hb : PW X (.BoolOp .Or (b :: rest) pos) tB') : PW X (.BoolOp .Or (a :: b :: rest) pos) (tOr tA tB') := by
  intro wh pins s σ H Q I h
  refine isTrue_or (thn (ha pins s σ H _ I h) fun c s1 ⟨H1, I1, q1⟩ => ?_)
  cases c with
  | true => exact ⟨H1, I1, q1⟩
  | false => exact hb wh pins s1 σ H1 Q I1 q1
theorem pt_not (ha : PT X a tA) : PT X (.UnaryOp .Not a pos) (tNot tA) := by
  intro pins s σ H Q I h
  exact isTrue_not (ha pins s σ H (fun c H1 => Q (!c) H1) I h)
/-- .. as values (bools) -/
inductive tAndVY (tb : TE) (σ : St) (Q : VK) (x : V) (H1 : Hp) : Prop
  | mk : ∀ c, (x = .bl c) → (if c = true then tb σ H1 Q else Q (.bl false) H1) → tAndVY tb σ Q x H1
def tAndV (ta tb : TE) : TE := fun σ H Q => ta σ H fun x H1 => tAndVY tb σ Q x H1
inductive tOrVY (tb : TE) (σ : St) (Q : VK) (x : V) (H1 : Hp) : Prop
  | mk : ∀ c, (x = .bl c) → (if c = true then Q (.bl true) H1 else tb σ H1 Q) → tOrVY tb σ Q x H1
def tOrV (ta tb : TE) : TE := fun σ H Q => ta σ H fun x H1 => tOrVY tb σ Q x H1
inductive tNotVY (Q : VK) (x : V) (H1 : Hp) : Prop
  | mk : ∀ c, (x = .bl c) → (Q (.bl (!c)) H1) → tNotVY Q x H1
def tNotV (ta : TE) : TE := fun σ H Q => ta σ H fun x H1 => tNotVY Q x H1
theorem pe_one {op} {t : TE} (h : PE X a t) : PE X (.BoolOp op [a] pos) t := fun pins s σ H Q I hw => BoolOp_one (h pins s σ H Q I hw)
theorem pe_and (ha : PE X a ta) (hb : PE X (.BoolOp .And (b :: rest) pos) tb) : PE X (.BoolOp .And (a :: b :: rest) pos) (tAndV ta tb) := by
  intro pins s σ H Q I h
  refine BoolOp_and (thn (ha pins s σ H _ I h) fun v s1 ⟨x, H1, I1, r1, q1⟩ => ?_)
  obtain ⟨c, rfl, q1⟩ := q1
  cases r1
  refine wpAny_truthy_bool ?_
  cases c with
  | true => exact hb pins s1 σ H1 Q I1 q1
  | false => exact ⟨.bl false, H1, I1, rfl, q1⟩
theorem pe_or (ha : PE X a ta) (hb : PE X (.BoolOp .Or (b :: rest) pos) tb) : PE X (.BoolOp .Or (a :: b :: rest) pos) (tOrV ta tb) := by
  intro pins s σ H Q I h
  refine BoolOp_or (thn (ha pins s σ H _ I h) fun v s1 ⟨x, H1, I1, r1, q1⟩ => ?_)
  obtain ⟨c, rfl, q1⟩ := q1
  cases r1
  refine wpAny_truthy_bool ?_
  cases c with
  | false => exact hb pins s1 σ H1 Q I1 q1
  | true => exact ⟨.bl true, H1, I1, rfl, q1⟩
theorem pe_not (ha : PE X a ta) : PE X (.UnaryOp .Not a pos) (tNotV ta) := by
  intro pins s σ H Q I h
  refine UnaryOp_ (thn (ha pins s σ H _ I h) fun v s1 ⟨x, H1, I1, r1, q1⟩ => ?_)
  obtain ⟨c, rfl, q1⟩ := q1
  cases r1
  exact not_of (wpAny_truthy_bool ⟨.bl (!c), H1, I1, rfl, q1⟩)
/-- a if t else b -/
def tIf (t : TT) (ta tb : TE) : TE := fun σ H Q => t σ H fun c H1 => if c = true then ta σ H1 Q else tb σ H1 Q
theorem pe_ifExp {c : Expr} (hc : PT X c tA) (ha : PE X a ta) (hb : PE X b tb) : PE X (.IfExp c a b pos) (tIf tA ta tb) := by
  intro pins s σ H Q I h
  refine wpAny_IfExp (thn (hc pins s σ H _ I h) fun d s1 ⟨H1, I1, q1⟩ => ?_)
  cases d with
  | true => exact ha pins s1 σ H1 Q I1 q1
  | false => exact hb pins s1 σ H1 Q I1 q1
end
end L2

namespace L2
open PySem PySem.Spec PyProof.Rows

def SqL (K : PySem.W.Frag) (H : Hp) (a : Addr) (xs : List V) : Prop :=
  Rd H a (.lst xs) ∨
    ∃ (o : Obj) (its : Array Value) (n : Nat), K.lookup a = some o ∧ o.cls = .type "list" ∧ o.dict = none ∧ o.data = .seq its n ∧ its.size ≤ sizeLine ∧ Vals xs its.toList
def SqT (K : PySem.W.Frag) (H : Hp) (a : Addr) (xs : List V) : Prop :=
  Rd H a (.tup xs) ∨
    ∃ (o : Obj) (its : Array Value) (n : Nat), K.lookup a = some o ∧ o.cls = .type "tuple" ∧ o.data = .seq its n ∧ its.size ≤ sizeLine ∧ Vals xs its.toList
def absV : Value → Option V
  | .none => some .non
  | .bool b => some (.bl b)
  | .int i _ => some (.int i)
  | .str x _ => some (.str x)
  | .bytes b _ => some (.byt b)
  | .float b _ => some (.flt b)
  | .ref a => some (.ref a)
  | .type n => some (.ty n)
  | _ => none
theorem RelV.abs {x : V} {u : Value} (r : RelV x u) : absV u = some x := by
  cases x with
  | non => cases r; rfl
  | bl _ => cases r; rfl
  | int _ => obtain ⟨t, rfl⟩ := r; rfl
  | str _ => obtain ⟨t, rfl⟩ := r; rfl
  | byt _ => obtain ⟨t, rfl⟩ := r; rfl
  | flt _ => obtain ⟨t, rfl⟩ := r; rfl
  | ref _ => cases r; rfl
  | ty _ => cases r; rfl
theorem RelV.inj {x y : V} {u : Value} (r : RelV x u) (q : RelV y u) : x = y := Option.some.inj (r.abs.symm.trans q.abs)
theorem Vals.inj : ∀ {xs ys : List V} {us : List Value}, Vals xs us → Vals ys us → xs = ys
  | _, _, _, .nil, .nil => rfl
  | _, _, _, .cons r t, .cons r' t' => by rw [r.inj r', Vals.inj t t']
section
variable {X : Cx} {pins : List (Addr × Obj)} {σ : St} {H : Hp} {s : Shared} {a : Addr} {xs ys : List V}
theorem SqL.of {K : PySem.W.Frag} (h : H a = some (.lst xs)) : SqL K H a xs := .inl (.inl h)
theorem SqT.of {K : PySem.W.Frag} (h : H a = some (.tup xs)) : SqT K H a xs := .inl (.inl h)
theorem Inv.list (I : Inv X pins σ H s) (h : SqL X.K H a xs) : ∃ its : List Value, Vals xs its ∧ PlainL s.heap a its.toArray ∧ xs.length ≤ sizeLine := by
  rcases h with h | ⟨o, its, n, hk, hc, hd, hs, hz, r⟩
  · obtain ⟨z, its, n, r, e⟩ := h.ok I.hok
    exact ⟨its, r, ⟨_, n, e, rfl, rfl, rfl⟩, z⟩
  · refine ⟨its.toList, r, ⟨o, n, I.kIn a o hk, hc, hd, by simpa using hs⟩, ?_⟩
    have e := r.length
    simp only [Array.length_toList] at e
    omega
theorem Inv.tuple (I : Inv X pins σ H s) (h : SqT X.K H a xs) : ∃ its : List Value, Vals xs its ∧ IsTup s.heap a its.toArray ∧ xs.length ≤ sizeLine := by
  rcases h with h | ⟨o, its, n, hk, hc, hs, hz, r⟩
  · obtain ⟨z, its, r, p⟩ := h.ok I.hok
    exact ⟨its, r, p.isTup, z⟩
  · refine ⟨its.toList, r, ⟨o, I.kIn a o hk, hc, n, by simpa using hs⟩, ?_⟩
    have e := r.length
    simp only [Array.length_toList] at e
    omega
theorem Inv.list_inj (I : Inv X pins σ H s) (h : SqL X.K H a xs) (h' : SqL X.K H a ys) : xs = ys := by
  obtain ⟨its, r, ⟨o, n, e, _, _, d⟩, _⟩ := I.list h
  obtain ⟨its', r', ⟨o', n', e', _, _, d'⟩, _⟩ := I.list h'
  rw [e] at e'; cases e'
  rw [d] at d'
  injection d' with d1 _
  have : its = its' := by simpa using congrArg Array.toList d1
  subst this
  exact r.inj r'
end

abbrev Cx.wish (X : Cx) (E : Value → Shared → Prop) : Cx := { X with xe := E }
/-- no exception leaves -/
abbrev Cx.nox (X : Cx) : Cx := X.wish fun _ _ => False
theorem Cx.Ok.wish {X : Cx} (ok : X.Ok) (E : Value → Shared → Prop) : (X.wish E).Ok :=
  ⟨ok.mod, ok.kind, ok.glob, ok.blt, ok.above, ok.inj, ok.has, ok.cab, ok.hd, ok.frames, ok.stk, ok.exf, ok.bs, ok.bsz, ok.noex, ok.exfs, ok.funs, ok.frf⟩
theorem Cx.Ok.unwish {X : Cx} {E : Value → Shared → Prop} (ok : (X.wish E).Ok) : X.Ok :=
  ⟨ok.mod, ok.kind, ok.glob, ok.blt, ok.above, ok.inj, ok.has, ok.cab, ok.hd, ok.frames, ok.stk, ok.exf, ok.bs, ok.bsz, ok.noex, ok.exfs, ok.funs, ok.frf⟩
section
variable {X : Cx} {pins : List (Addr × Obj)} {σ : St} {H : Hp} {s : Shared} {E : Value → Shared → Prop}
theorem Inv.wish (I : Inv X pins σ H s) (E : Value → Shared → Prop) : Inv (X.wish E) pins σ H s := ⟨I.ok.wish E, I.os, I.bare, I.base, I.loc, I.cell, I.free, I.freeC, I.pin, I.hok, I.len⟩
theorem Inv.unwish (I : Inv (X.wish E) pins σ H s) : Inv X pins σ H s := ⟨I.ok.unwish, I.os, I.bare, I.base, I.loc, I.cell, I.free, I.freeC, I.pin, I.hok, I.len⟩
theorem SP.unwish {D : Ends} {f : Flow} {s' : Shared} (h : SP (X.wish E) pins D f s') : SP X pins D f s' := by
  cases f with
  | next => obtain ⟨σ', H', I, q⟩ := h; exact ⟨σ', H', I.unwish, q⟩
  | brk => obtain ⟨σ', H', I, q⟩ := h; exact ⟨σ', H', I.unwish, q⟩
  | cont => obtain ⟨σ', H', I, q⟩ := h; exact ⟨σ', H', I.unwish, q⟩
  | ret u => obtain ⟨v, σ', H', I, r, q⟩ := h; exact ⟨v, σ', H', I.unwish, r, q⟩
theorem PE.nox {e : Expr} {t : TE} (h : PE X.nox e t) : PE X e t := fun pins s σ H Q I hw =>
  wpAny_mono (h pins s σ H Q (I.wish _) hw) (fun _ _ ⟨v, H', I', r, q⟩ => ⟨v, H', I'.unwish, r, q⟩) fun _ _ z => False.elim z
theorem PT.nox {e : Expr} {t : TT} (h : PT X.nox e t) : PT X e t := fun pins s σ H Q I hw =>
  wpAny_mono (h pins s σ H Q (I.wish _) hw) (fun _ _ ⟨H', I', q⟩ => ⟨H', I'.unwish, q⟩) fun _ _ z => False.elim z
theorem PSs.nox {st : List Stmt} {t : TS} (h : PSs X.nox st t) : PSs X st t := fun pins s σ H D I hw =>
  wpAny_mono (h pins s σ H D (I.wish _) hw) (fun _ _ q => q.unwish) fun _ _ z => False.elim z
end

section
variable {X : Cx} {st : Stmt} {rest : List Stmt} {t u : TS} {e : Expr} {te : TE} {pos : Pos}
def tNext : TS := fun D σ H => D.nx σ H
def tSeq (t u : TS) : TS := fun D σ H => t { D with nx := u D } σ H
theorem pss_nil : PSs X [] tNext := fun _ _ σ H _ I h => wpAny_execs_nil ⟨σ, H, I, h⟩
theorem pss_cons (h1 : PS X st t) (h2 : PSs X rest u) : PSs X (st :: rest) (tSeq t u) := by
  intro pins s σ H D I h
  refine wpAny_execs_cons (thn (h1 pins s σ H { D with nx := u D } I h) fun f s1 q => ?_)
  cases f with
  | next =>
    obtain ⟨σ', H', I', q⟩ := q
    exact h2 pins s1 σ' H' D I' q
  | ret v => exact q
  | brk => exact q
  | cont => exact q
theorem pss_one (h1 : PS X st t) : PSs X [st] t := by
  intro pins s σ H D I h
  refine wpAny_execs_cons (thn (h1 pins s σ H D I h) fun f s1 q => ?_)
  cases f with
  | next => exact wpAny_execs_nil q
  | ret v => exact q
  | brk => exact q
  | cont => exact q
/-- in a def's body nothing is shown -/
theorem Inv.quiet {pins : List (Addr × Obj)} {σ : St} {H : Hp} {s : Shared} (I : Inv X pins σ H s) : interactive X.env = false := by simp [interactive, I.ok.kind]
/-- an expression whose value is dropped -/
def tDrop (te : TE) : TS := fun D σ H => te σ H fun _ H1 => D.nx σ H1
theorem ps_expr (he : PE X e te) (hs : swapsWith e none pos.line X.env = pure false := by rfl) : PS X (.Expr e pos) (tDrop te) := by
  intro pins s σ H D I h
  exact wpAny_Expr_any (thn (he pins s σ H _ I h) fun v s1 ⟨x, H1, I1, r1, q1⟩ => ⟨σ, H1, I1, q1⟩) I.quiet hs
def tRet (te : TE) : TS := fun D σ H => te σ H D.rt
theorem ps_ret (he : PE X e te) : PS X (.Return (some e) pos) (tRet te) := by
  intro pins s σ H D I h
  exact wpAny_Return_some (thn (he pins s σ H _ I h) fun v s1 ⟨x, H1, I1, r1, q1⟩ => ⟨x, σ, H1, I1, r1, q1⟩)
def tIfS (c : TT) (t u : TS) : TS := fun D σ H => c σ H fun b H1 => if b = true then t D σ H1 else u D σ H1
theorem ps_if {c : Expr} {a b : List Stmt} {tc : TT} (hc : PT X c tc) (ha : PSs X a t) (hb : PSs X b u) : PS X (.If c a b pos) (tIfS tc t u) := by
  intro pins s σ H D I h
  refine wpAny_If (thn (hc pins s σ H _ I h) fun d s1 ⟨H1, I1, q1⟩ => ?_)
  cases d with
  | true => exact ha pins s1 σ H1 D I1 q1
  | false => exact hb pins s1 σ H1 D I1 q1
end

abbrev TG := V → St → Hp → (St → Hp → Prop) → Prop
abbrev TGs := List V → St → Hp → (St → Hp → Prop) → Prop
def PG (X : Cx) (target : Expr) (t : TG) : Prop :=
  ∀ (pins : List (Addr × Obj)) (s : Shared) (σ : St) (H : Hp) (v : V) (u : Value) (Q : St → Hp → Prop), Inv X pins σ H s → RelV v u → t v σ H Q →
    wpAny (model X.prog X.w) X.A (assign target X.env u) (fun _ s' => ∃ σ' H', Inv X pins σ' H' s' ∧ Q σ' H') X.xe s
/-- several targets, one after another -/
def PGs (X : Cx) (ts : List Expr) (t : TGs) : Prop :=
  ∀ (pins : List (Addr × Obj)) (s : Shared) (σ : St) (H : Hp) (vs : List V) (us : List Value) (Q : St → Hp → Prop), Inv X pins σ H s → Vals vs us → t vs σ H Q →
    wpAny (model X.prog X.w) X.A (assignInOrder ((assignEach ts X.env).map (·.2)) us) (fun _ s' => ∃ σ' H', Inv X pins σ' H' s' ∧ Q σ' H') X.xe s
/-- o[i] = v, by values -/
abbrev TSet := V → V → V → Hp → (Hp → Prop) → Prop
def PSet (X : Cx) (t : TSet) : Prop :=
  ∀ (pins : List (Addr × Obj)) (s : Shared) (σ : St) (H : Hp) (o i v : V) (ov iv u : Value) (Q : Hp → Prop), Inv X pins σ H s → RelV o ov → RelV i iv → RelV v u → t o i v H Q →
    wpAny (model X.prog X.w) X.A (setItem ov iv u) (fun _ s' => ∃ H', Inv X pins σ H' s' ∧ Q H') X.xe s
section
variable {X : Cx} {pos : Pos}
def gName (i : Nat) : TG := fun v σ H Q => Q (σ.set i (some v)) H
theorem pg_name {i : Nat} {x : Str} (hN : X.N.Nodup) (hi : X.N[i]? = some x) (hx : Loc X.env.scope x) (hf : X.fn x = true ∨ X.env.scope.names.lookup x = some .local := by first | exact .inl rfl | exact .inr rfl | assumption) : PG X (.Name x pos) (gName i) := by
  intro pins s σ H v u Q I r h
  exact wpAny_assign_Name (store_ok I hN hi hx r (fun s' I' => ⟨_, H, I', h⟩) hf)
inductive gNil (vs : List V) (σ : St) (H : Hp) (Q : St → Hp → Prop) : Prop
  | mk : (vs = []) → (Q σ H) → gNil vs σ H Q
inductive gCons (t : TG) (u : TGs) (vs : List V) (σ : St) (H : Hp) (Q : St → Hp → Prop) : Prop
  | mk : ∀ v r, (vs = v :: r) → (t v σ H fun σ' H' => u r σ' H' Q) → gCons t u vs σ H Q
theorem pgs_nil : PGs X [] gNil := by
  intro pins s σ H vs us Q I r h
  obtain ⟨e, h⟩ := h
  subst e
  cases r
  exact assignInOrder_nil ⟨σ, H, I, h⟩
theorem pgs_cons {e : Expr} {es : List Expr} {t : TG} {u : TGs} (h1 : PG X e t) (h2 : PGs X es u)
    (hs : (assignEach (e :: es) X.env).map (·.2) = assign e X.env :: (assignEach es X.env).map (·.2) := by rfl) : PGs X (e :: es) (gCons t u) := by
  intro pins s σ H vs us Q I r h
  obtain ⟨v, vr, e1, h⟩ := h
  subst e1
  cases r with
  | cons r rr =>
    rw [hs]
    refine assignInOrder_cons (thn (h1 pins s σ H _ _ _ I r h) fun _ s1 ⟨σ1, H1, I1, q1⟩ => ?_)
    exact h2 pins s1 σ1 H1 _ _ Q I1 rr q1
/-- (a, b, ..) = a tuple of that length -/
inductive gTup (K : PySem.W.Frag) (n : Nat) (t : TGs) (v : V) (σ : St) (H : Hp) (Q : St → Hp → Prop) : Prop
  | mk : ∀ a xs, (v = .ref a) → (SqT K H a xs) → (xs.length = n) → (t xs σ H Q) → gTup K n t v σ H Q
theorem pg_tup {es : List Expr} {k : Nat} {t : TGs} {n : Nat} (hc : X.calm = true) (h : PGs X es t)
    (hn : (assignEach es X.env).length = n := by rfl) (hst : (assignEach es X.env).findIdx? (·.1) = none := by rfl) : PG X (.Tuple es k pos) (gTup X.K n t) := by
  intro pins s σ H v u Q I r hw
  obtain ⟨a, xs, e1, hq, hl, hw⟩ := hw
  subst e1
  cases r
  obtain ⟨its, rv, ht, hz⟩ := I.tuple hq
  refine assign_Tuple_tuple (I.ok.hd hc) ht (by simp [hn, ← hl, rv.length]) hst fun h' hx => ?_
  have I1 : Inv X pins σ H { s with heap := h' } := I.kept (t' := s.toks) fun b o e => hx b o (Nat.ne_of_lt (Heap.lt_size e)) e
  exact h pins _ σ H xs _ Q I1 (by simpa using rv) hw
/-- o[i] = .. -/
def gSub (to ti : TE) (t : TSet) : TG := fun v σ H Q => to σ H fun o H1 => ti σ H1 fun i H2 => t o i v H2 fun H3 => Q σ H3
theorem pg_sub {o i : Expr} {to ti : TE} {t : TSet} (ho : PE X o to) (hi : PE X i ti) (hs : PSet X t)
    (ha : ∀ v, assign (.Subscript o i pos) X.env v = (do
      let ov ← holding [v] (eval o X.env)
      let iv ← holding [v, ov] (eval i X.env)
      standAt pos
      holding [v, ov, iv] (setItem ov iv v)
      release [v, ov, iv] []) := by intro _; rfl) : PG X (.Subscript o i pos) (gSub to ti t) := by
  intro pins s σ H v u Q I r h
  rw [ha]
  refine wpAny_bind (wpAny_holding (thn (ho pins s σ H _ I h) fun ov s1 ⟨x, H1, I1, r1, q1⟩ => ?_))
  refine wpAny_bind (wpAny_holding (thn (hi pins s1 σ H1 _ I1 q1) fun iv s2 ⟨y, H2, I2, r2, q2⟩ => ?_))
  refine wpAny_bind (wpAny_standAt (wpAny_bind (wpAny_holding (thn (hs pins s2 σ H2 x y v ov iv u _ I2 r1 r2 r q2) fun _ s3 ⟨H3, I3, q3⟩ => ?_))))
  exact wpAny_release ⟨σ, H3, I3, q3⟩
/-- target = value -/
def tAsg (te : TE) (g : TG) : TS := fun D σ H => te σ H fun x H1 => g x σ H1 D.nx
theorem ps_asg {tg e : Expr} {te : TE} {g : TG} (he : PE X e te) (hg : PG X tg g) (hs : swapsWithSole [tg] e pos.line X.env = pure false := by rfl) (hw : swappedStores [tg] e X.env = pure none := by rfl)
    (h1 : (assignEach [tg] X.env).map (·.2) = [assign tg X.env] := by rfl) : PS X (.Assign [tg] e pos) (tAsg te g) := by
  intro pins s σ H D I h
  refine wpAny_Assign_stores (thn (he pins s σ H _ I h) fun v s1 ⟨x, H1, I1, r1, q1⟩ => ?_) hs hw
  rw [h1]
  exact thn (hg pins s1 σ H1 x v _ I1 r1 q1) fun _ s2 q => q
/-- name = value -/
theorem ps_set {i : Nat} {x : Str} {e : Expr} {te : TE} {pos' : Pos} (hN : X.N.Nodup) (hi : X.N[i]? = some x) (hx : Loc X.env.scope x) (he : PE X e te) (hs : swapsWith e (some (.Name x pos')) pos.line X.env = pure false := by rfl) (hf : X.fn x = true ∨ X.env.scope.names.lookup x = some .local := by first | exact .inl rfl | exact .inr rfl | assumption) :
    PS X (.Assign [.Name x pos'] e pos) (tAsg te (gName i)) := by
  intro pins s σ H D I h
  refine wpAny_Assign_Name (thn (he pins s σ H _ I h) fun v s1 ⟨y, H1, I1, r1, q1⟩ => ?_) hs
  exact store_ok I1 hN hi hx r1 (fun s2 I2 => ⟨_, H1, I2, q1⟩) hf
/-- a, b = x, y with plain local names: stored from the right; the pair itself is not tracked (the opening rows as in PyProof/Rows/TupAssign.lean:23) -/
inductive tParY (i : Nat) (j : Nat) (D : Ends) (σ : St) (vs : List V) (H1 : Hp) : Prop
  | mk : ∀ v w, (vs = [v, w]) → (D.nx ((σ.set i (some v)).set j (some w)) H1) → tParY i j D σ vs H1
def tPar (i j : Nat) (ta : TA) : TS := fun D σ H => ta σ H fun vs H1 => tParY i j D σ vs H1
theorem ps_par {i j : Nat} {x y : Str} {a b : Expr} {ta : TA} {px py pt : Pos} {kt k2 pt2} (hc : X.calm = true) (hN : X.N.Nodup) (hi : X.N[i]? = some x) (hj : X.N[j]? = some y) (hij : i ≠ j)
    (hx : X.env.scope.names.lookup x = some .local) (hy : X.env.scope.names.lookup y = some .local) (ha : PA X [a, b] ta)
    (hw : swappedStores [.Tuple [.Name x px, .Name y py] kt pt] (.Tuple [a, b] k2 pt2) X.env = pure (some [x, y]))
    (hs : swapsWithSole [.Tuple [.Name x px, .Name y py] kt pt] (.Tuple [a, b] k2 pt2) pos.line X.env = pure false := by rfl) :
    PS X (.Assign [.Tuple [.Name x px, .Name y py] kt pt] (.Tuple [a, b] k2 pt2) pos) (tPar i j ta) := by
  intro pins s σ H D I h
  rw [exec_Assign_arm]
  refine wpAny_bind (wpAny_standAt ?_)
  rw [hs]
  refine wpAny_bind (wpAny_pure ?_)
  rw [if_neg (by decide)]
  refine wpAny_bind (Tuple_ (thn (ha _ pins s σ H _ I h) fun us s1 ⟨vs, H1, I1, r1, q1⟩ => ?_))
  obtain ⟨v, w, e1, q1⟩ := q1
  subst e1
  obtain ⟨u1, u2, rfl, rv, rw'⟩ : ∃ u1 u2, us = [u1, u2] ∧ RelV v u1 ∧ RelV w u2 := by
    cases r1 with
    | cons p q =>
      cases q with
      | cons p' q' =>
        cases q'
        exact ⟨_, _, rfl, p, p'⟩
  refine wpAny_newObj_type ?_ (by show 2 ≤ sizeLine; decide)
  have I2 : Inv X pins σ H1 { s1 with heap := s1.heap.push { cls := .type "tuple", data := .seq [u1, u2].toArray } } := I1.kept (t' := s1.toks) fun b o e => Heap.get?_push_of_some _ e
  rw [hw]
  refine wpAny_bind (wpAny_pure ?_)
  show wpAny (model X.prog X.w) X.A (do rule "assign.swapped-stores"; let items ← unpackItems (.ref s1.heap.objs.size) 2 none; assignInOrder [fun v => bindName X.env y v, fun v => bindName X.env x v] items.reverse; pure Flow.next) _ _ _
  refine wpAny_bind (wpAny_rule (wpAny_bind (unpackItems_tuple (items := #[u1, u2]) (I.ok.hd hc) (IsTup.new s1.heap _) fun h' hx' => ?_)))
  have I3 := I2.kept (h' := h') (t' := s1.toks) fun b o e => hx' b o (Nat.ne_of_lt (Heap.lt_size e)) e
  show wpAny _ _ (assignInOrder [fun v => bindName X.env y v, fun v => bindName X.env x v] [u2, u1] >>= fun _ => pure Flow.next) _ _ _
  refine wpAny_bind (assignInOrder_cons (wpAny_bindName (store_ok I3 hN hj (.inl hy) rw' (fun s2 I4 => ?_) (.inr hy))))
  refine assignInOrder_cons (wpAny_bindName (store_ok I4 hN hi (.inl hx) rv (fun s3 I5 => assignInOrder_nil (wpAny_pure ?_)) (.inr hx)))
  rw [List.set_comm _ _ (Ne.symm hij)] at I5
  exact ⟨_, H1, I5, q1⟩
end

section
variable {X : Cx} {pos : Pos}
/-- the invariant W with its measure -/
def tWhile (c : TT) (tb : TS) : TS := fun D σ H => ∃ W : Nat → St → Hp → Prop, (∃ m, W m σ H) ∧ ∀ m σ H, W m σ H →
  c σ H fun b H1 => if b = true then ∃ N : St → Hp → Prop, (∀ σ' H', N σ' H' → ∃ m', m' < m ∧ W m' σ' H') ∧ tb { D with nx := N, ct := N, bk := D.nx } σ H1 else D.nx σ H1
theorem ps_while {c : Expr} {body : List Stmt} {tc : TT} {tb : TS} (hp : PassesOwn (model X.prog X.w) X.A X.env X.xe) (hc : PT X c tc) (hb : PSs X body tb) : PS X (.While c body [] pos) (tWhile tc tb) := by
  intro pins s σ H D I h
  obtain ⟨W, ⟨m0, w0⟩, turn⟩ := h
  refine wpAny_While (codeAny_whileLoop (fun n s' => ∃ σ' H', Inv X pins σ' H' s' ∧ W n σ' H') ?_ m0 ⟨σ, H, I, w0⟩)
  rintro n s1 ⟨σ1, H1, I1, w1⟩
  refine wpAny_passesOwn hp (thn (hc pins s1 σ1 H1 _ I1 (turn n σ1 H1 w1)) fun b s2 ⟨H2, I2, q2⟩ => ?_)
  cases b with
  | true =>
    obtain ⟨N, hN, q2⟩ := q2
    rw [if_pos rfl]
    refine wpAny_passesOwn hp (thn (hb pins s2 σ1 H2 _ I2 q2) fun f s3 q3 => ?_)
    cases f with
    | next =>
      obtain ⟨σ3, H3, I3, n3⟩ := q3
      obtain ⟨m', hm, w3⟩ := hN σ3 H3 n3
      exact ⟨m', hm, σ3, H3, I3, w3⟩
    | cont =>
      obtain ⟨σ3, H3, I3, n3⟩ := q3
      obtain ⟨m', hm, w3⟩ := hN σ3 H3 n3
      exact ⟨m', hm, σ3, H3, I3, w3⟩
    | brk => exact q3
    | ret v => exact q3
  | false =>
    rw [if_neg Bool.false_ne_true]
    exact wpAny_execs_nil ⟨σ1, H2, I2, q2⟩
end

/-- at turn i: it yields x (the heap may grow), or it stops -/
structure It where
  go : Nat → Hp → Prop
  yld : Nat → Hp → V → Hp → Prop
  stop : Nat → Hp → Prop
/-- the iterator's own objects may turn: they are not the frame's, not pinned, younger than the entry (or a comprehension's own) -/
def FpOk (X : Cx) (pins : List (Addr × Obj)) (H : Hp) (b : Addr) : Prop :=
  H b = none ∧ b ≠ X.env.locals ∧ b ∉ X.fs ∧ (b ∈ X.ex ∨ X.s₀.heap.objs.size ≤ b) ∧ (∀ x c, X.env.cells.lookup x = some c → c ≠ b) ∧ ∀ p ∈ X.pn ++ pins, p.1 ≠ b
theorem Inv.fpOk {X : Cx} {pins : List (Addr × Obj)} {σ : St} {H H' : Hp} {s : Shared} {b : Addr} (I : Inv X pins σ H s) (hb : s.heap.objs.size ≤ b) (hn : H' b = none) : FpOk X pins H' b := by
  refine ⟨hn, Nat.ne_of_gt (Nat.lt_of_lt_of_le I.lt hb), I.nofs hb, .inr (Nat.le_trans I.sz hb), fun x c e z => ?_, fun p hp z => ?_⟩
  · obtain ⟨v, q⟩ := I.cell x c e
    exact absurd (Nat.lt_of_lt_of_le q.lt (by rw [z]; exact hb)) (Nat.lt_irrefl _)
  · exact absurd (Nat.lt_of_lt_of_le (Heap.lt_size (I.pin p hp).1) (by rw [z]; exact hb)) (Nat.lt_irrefl _)
structure Turn (P : Program) (w : World) (K : PySem.W.Frag) (tg : Expr) (J : It) (fp : List Addr) (it : Addr) (tn : Nat → Heap → Prop) : Prop where
  mem : it ∈ fp
  obj : ∀ i h, tn i h → ∀ b ∈ fp, ∃ o, h.get? b = some o ∧ ∀ v, o.data ≠ .cell v
  keep : ∀ i h h', tn i h → (∀ b ∈ fp, ∀ o, h.get? b = some o → h'.get? b = some o) → tn i h'
  item : ∀ (X : Cx), X.prog = P → X.w = w → X.K = K → X.calm = true → ∀ (i : Nat) (pins : List (Addr × Obj)) (s : Shared) (σ : St) (H : Hp) (E : Value → Shared → Prop), Inv X pins σ H s → (∀ b ∈ fp, FpOk X pins H b) → tn i s.heap → J.go i H →
    wpAny (model P w) X.A (pyNext (.ref it)) (fun r s1 => ∃ u, r = some u ∧
      wpAny (model P w) X.A (letOwnedTupleGo tg (.ref it) u) (fun _ s2 => ∃ x H', Inv X pins σ H' s2 ∧ RelV x u ∧ J.yld i H x H' ∧ tn (i + 1) s2.heap ∧ ∀ b ∈ fp, H' b = none) E s1) E s
  done : ∀ (X : Cx), X.prog = P → X.w = w → X.K = K → X.calm = true → ∀ (i : Nat) (pins : List (Addr × Obj)) (s : Shared) (σ : St) (H : Hp) (E : Value → Shared → Prop), Inv X pins σ H s → (∀ b ∈ fp, FpOk X pins H b) → tn i s.heap → J.stop i H →
    wpAny (model P w) X.A (pyNext (.ref it)) (fun r s1 => r = none ∧ Inv X pins σ H s1) E s
  self : ∀ (A : Around) (i : Nat) (s : Shared) (Q : Value → Shared → Prop) (E : Value → Shared → Prop), tn i s.heap → Q (.ref it) s → wpAny (model P w) A (pyIter (.ref it)) Q E s
abbrev TI := St → Hp → (It → Hp → Prop) → Prop
/-- an iterator has come -/
def PIE (X : Cx) (pins : List (Addr × Obj)) (σ : St) (tg : Expr) (R : It → Hp → Prop) (itv : Value) (s2 : Shared) : Prop :=
  ∃ (it : Addr) (fp : List Addr) (tn : Nat → Heap → Prop) (J : It) (H' : Hp), itv = .ref it ∧ Inv X pins σ H' s2 ∧ Turn X.prog X.w X.K tg J fp it tn ∧ tn 0 s2.heap ∧ (∀ b ∈ fp, FpOk X pins H' b) ∧ R J H'
def PI (X : Cx) (tg iter : Expr) (wi : TI) : Prop :=
  ∀ (pins : List (Addr × Obj)) (s : Shared) (σ : St) (H : Hp) (R : It → Hp → Prop), Inv X pins σ H s → wi σ H R →
    wpAny (model X.prog X.w) X.A (eval iter X.env) (fun v s1 => wpAny (model X.prog X.w) X.A (pyIter v) (PIE X pins σ tg R) X.xe s1) X.xe s

/-- the step ahead of the store is nothing for an iterator that keeps no tuple -/
theorem go_of {M : Model} {A : Around} {E : Value → Shared → Prop} {s : Shared} {tg : Expr} {it : Addr} {u : Value} {o : Obj} {n : String} {vs : Array Value} {Q : Unit → Shared → Prop} (ho : s.heap.get? it = some o) (hc : o.cls = .type n) (hd : o.data = .fields vs)
    (hn : ["enumerate", "zip", "dict_itemiterator", "dict_reverseitemiterator", "odict_iterator", "itertools.zip_longest", "itertools.pairwise"].contains n = false) (hQ : Q () s) : wpAny M A (letOwnedTupleGo tg (.ref it) u) Q E s := by
  unfold letOwnedTupleGo
  cases tg <;> first
    | exact wpAny_pure hQ
    | (cases u <;> first
        | exact wpAny_pure hQ
        | (refine wpAny_bind (wpAny_load ho ?_)
           rw [hc, hd]
           show wpAny M A (if (["enumerate", "zip", "dict_itemiterator", "dict_reverseitemiterator", "odict_iterator", "itertools.zip_longest", "itertools.pairwise"].contains n && vs[0]? == some (rawInt _)) = true then _ else _) Q E s
           rw [if_neg (by intro h; rw [hn, Bool.false_and] at h; cases h)]
           exact wpAny_pure hQ))

/-- the list at a, as it stands at each turn (a loop may append to it) -/
def Itl (K : PySem.W.Frag) (a : Addr) : It :=
  ⟨fun i H => ∃ xs x, SqL K H a xs ∧ xs[i]? = some x, fun i H x H' => H' = H ∧ ∀ xs, SqL K H a xs → xs[i]? = some x, fun i H => ∃ xs, SqL K H a xs ∧ xs.length ≤ i⟩
/-- lo, lo + 1, .. (n of them) -/
def Itr (lo : Int) (n : Nat) : It := ⟨fun i _ => i < n, fun i H x H' => H' = H ∧ x = .int (lo + i), fun i _ => n ≤ i⟩
theorem turn_list {P : Program} {w : World} {K : PySem.W.Frag} {tg : Expr} (a it : Addr) : Turn P w K tg (Itl K a) [it] it (fun i h => h.IsListIter it a i) where
  mem := by simp
  obj := fun i h st b hb => by
    have e : b = it := by simpa using hb
    subst e
    obtain ⟨o, e, c, d⟩ := st
    exact ⟨o, e, fun v z => by rw [d] at z; cases z⟩
  keep := fun i h h' st k => st.at fun o e => k it (by simp) o e
  item := by
    intro X hP hw hK hc i pins s σ H E I hf st hg
    subst hP hw hK
    obtain ⟨xs, x, hq, hx⟩ := hg
    obtain ⟨its, rv, p, hz⟩ := I.list hq
    obtain ⟨u, hu, ru⟩ := rv.get hx
    obtain ⟨f0, f1, f2, f3, f4, f5⟩ := hf it (by simp)
    refine wpAny_pyNext_list_item st p.isList (x := u) (by simpa using hu) fun h' st' sb => ?_
    have I1 : Inv X pins σ H { s with heap := h' } := I.turned (t' := s.toks) (fun b o hb e => (sb.2 b hb).trans e) f0 f1 f3 f4 f5
    obtain ⟨o, e, c, d⟩ := id st'
    exact ⟨u, rfl, go_of (s := { s with heap := h' }) e c d (by decide) ⟨x, H, I1, ru, ⟨rfl, fun ys hy => by rw [I.list_inj hy hq]; exact hx⟩, st', fun b hb => (hf b hb).1⟩⟩
  done := by
    intro X hP hw hK hc i pins s σ H E I hf st hg
    subst hP hw hK
    obtain ⟨xs, hq, hx⟩ := hg
    obtain ⟨its, rv, p, hz⟩ := I.list hq
    obtain ⟨f0, f1, f2, f3, f4, f5⟩ := hf it (by simp)
    have hl := rv.length
    exact wpAny_pyNext_list_end (I.ok.hd hc) st p.isList (by simp; omega) fun h' eb => ⟨rfl, I.turned (t' := s.toks) (fun b o hb e => eb b o hb e) f0 f1 f3 f4 f5⟩
  self := fun _ _ _ _ _ st h => wpAny_pyIter_listiter st h
theorem turn_range {P : Program} {w : World} {K : PySem.W.Frag} {tg : Expr} (it : Addr) (lo : Int) (n : Nat) : Turn P w K tg (Itr lo n) [it] it (fun i h => IsRangeIter h it (lo + (i : Nat) * 1) ((n : Int) - (i : Nat)) 1) where
  mem := by simp
  obj := fun i h st b hb => by
    have e : b = it := by simpa using hb
    subst e
    exact ⟨_, st, fun v z => by
      have z' : Data.fields _ = Data.cell v := z
      cases z'⟩
  keep := fun i h h' st k => k it (by simp) _ st
  item := by
    intro X hP hw hK hc i pins s σ H E I hf st hg
    subst hP hw hK
    obtain ⟨f0, f1, f2, f3, f4, f5⟩ := hf it (by simp)
    have W := Walks.range (prog := X.prog) (w := X.w) (I.ok.hd hc) it lo 1 n
    refine W.item i s _ _ hg st fun v h' tk hv st' kk => ?_
    obtain ⟨t, rfl⟩ := hv
    have I1 : Inv X pins σ H { s with heap := h', toks := tk } := I.turned (fun b o hb e => kk b o (by simpa using hb) e) f0 f1 f3 f4 f5
    refine ⟨_, rfl, go_of (s := { s with heap := h', toks := tk }) (n := "range_iterator") st' rfl rfl (by decide) ⟨.int (lo + i), H, I1, ⟨t, ?_⟩, ⟨rfl, rfl⟩, st', fun b hb => (hf b hb).1⟩⟩
    rw [Int.mul_one]
  done := by
    intro X hP hw hK hc i pins s σ H E I hf st hg
    subst hP hw hK
    obtain ⟨f0, f1, f2, f3, f4, f5⟩ := hf it (by simp)
    exact wpAny_pyNext_range_end (I.ok.hd hc) st (by have : n ≤ i := hg; omega) fun h' eb => ⟨rfl, I.turned (t' := s.toks) (fun b o hb e => eb b o hb e) f0 f1 f3 f4 f5⟩
  self := fun _ _ _ _ _ st h => wpAny_pyIter_rangeiter st h
end L2

namespace L2
open PySem PySem.Spec PyProof.Rows
section
variable {X : Cx} {tg : Expr}
inductive iListY (K : PySem.W.Frag) (R : It → Hp → Prop) (x : V) (H1 : Hp) : Prop
  | mk : ∀ a, (x = .ref a) → ((∃ xs, SqL K H1 a xs)) → (R (Itl K a) H1) → iListY K R x H1
def iList (K : PySem.W.Frag) (tl : TE) : TI := fun σ H R => tl σ H fun x H1 => iListY K R x H1
theorem pi_list {l : Expr} {tl : TE} (hl : PE X l tl) : PI X tg l (iList X.K tl) := by
  intro pins s σ H R I h
  refine thn (hl pins s σ H _ I h) fun v s1 ⟨x, H1, I1, r1, q1⟩ => ?_
  obtain ⟨a, e, ⟨xs, hq⟩, q⟩ := q1
  subst e
  cases r1
  obtain ⟨its, rv, p, hz⟩ := I1.list hq
  refine wpAny_pyIter_list p.isList ?_
  refine ⟨s1.heap.objs.size, [s1.heap.objs.size], _, _, H1, rfl, I1.kept (t' := s1.toks) fun b o e => Heap.get?_push_of_some _ e, turn_list a _, ⟨_, Heap.get?_push_size _ rfl, rfl, rfl⟩, fun b hb => ?_, q⟩
  have e : b = s1.heap.objs.size := by simpa using hb
  subst e
  exact I1.fpOk (Nat.le_refl _) (I1.hok.fresh (Nat.le_refl _))
/-- a range object just made, walked -/
theorem range_it {pins : List (Addr × Obj)} {σ : St} {H : Hp} {s : Shared} {R : It → Hp → Prop} {E : Value → Shared → Prop} {lo hi : Int} {t u v : Tok} {tk : Nat} (I : Inv X pins σ H s) (h1 : -(2 ^ 62) ≤ lo) (h2 : lo < 2 ^ 62) (h3 : -(2 ^ 62) ≤ hi) (h4 : hi < 2 ^ 62)
    (q : R (Itr lo (hi - lo).toNat) H) : wpAny (model X.prog X.w) X.A (pyIter (.ref s.heap.objs.size)) (PIE X pins σ tg R) E { s with heap := s.heap.push { cls := .type "range", data := .fields #[.int lo t, .int hi u, .int 1 v] }, toks := tk } := by
  refine wpAny_pyIter_range (IsRange.new ..) (small_one h1 h2 h3 h4) ?_
  have I1 : Inv X pins σ H { s with heap := s.heap.push { cls := .type "range", data := .fields #[.int lo t, .int hi u, .int 1 v] }, toks := tk } := I.kept fun b o e => Heap.get?_push_of_some _ e
  refine ⟨(s.heap.push { cls := .type "range", data := .fields #[.int lo t, .int hi u, .int 1 v] }).objs.size, [(s.heap.push { cls := .type "range", data := .fields #[.int lo t, .int hi u, .int 1 v] }).objs.size], _, _, H, rfl,
    I1.kept (t' := tk) fun b o e => Heap.get?_push_of_some _ e, turn_range _ lo (hi - lo).toNat, ?_, fun b hb => ?_, q⟩
  · have e1 : lo + ((0 : Nat) : Int) * 1 = lo := by simp
    have e2 : (((hi - lo).toNat : Nat) : Int) - ((0 : Nat) : Int) = Builtin.Range.rangeSize lo hi 1 := by rw [rangeSize_one]; split <;> omega
    show IsRangeIter _ _ (lo + ((0 : Nat) : Int) * 1) ((((hi - lo).toNat : Nat) : Int) - ((0 : Nat) : Int)) 1
    rw [e1, e2]
    exact Heap.get?_push_size _ rfl
  · have e : b = (s.heap.push { cls := .type "range", data := .fields #[.int lo t, .int hi u, .int 1 v] }).objs.size := by simpa using hb
    subst e
    exact I1.fpOk (Nat.le_refl _) (I1.hok.fresh (Nat.le_refl _))
inductive iRng1Y (R : It → Hp → Prop) (vs : List V) (H1 : Hp) : Prop
  | mk : ∀ (j : Int), (vs = [.int j]) → (-(2 ^ 62) ≤ j) → (j < 2 ^ 62) → (R (Itr 0 j.toNat) H1) → iRng1Y R vs H1
def iRng1 (ta : TA) : TI := fun σ H R => ta σ H fun vs H1 => iRng1Y R vs H1
theorem pi_range1 {a : Expr} {ta : TA} {p pos : Pos} (hg : Gl X "range") (hm : X.mg "range" = none) (ha : PA X [a] ta) (hs : starEach [a] X.env = [(false, eval a X.env)] := by rfl) : PI X tg (.Call (.Name "range" p) [a] [] pos) (iRng1 ta) := by
  intro pins s σ H R I h
  refine Call_ (ld_blt I hg hm boot_range (PyProof.Rows.callWith_type1 (thn (ha pos pins s σ H _ I h) fun us s1 ⟨vs, H1, I1, r1, q1⟩ => ?_) hs rfl))
  obtain ⟨j, e, q1, q2, q⟩ := q1
  subst e
  cases r1 with
  | cons r rr =>
    cases rr
    obtain ⟨t, rfl⟩ := r
    exact call_range_1 (range_it I1 (by omega) (by omega) q1 q2 (by simpa using q))
/-- W: the invariant by the turn and a measure; N: what the body is to reach -/
def tFor (wi : TI) (g : TG) (tb : TS) : TS := fun D σ H => wi σ H fun J H1 => ∃ W : Nat → Nat → St → Hp → Prop, (∃ m, W 0 m σ H1) ∧ ∀ i m σ H, W i m σ H →
  (J.stop i H ∧ D.nx σ H) ∨ (J.go i H ∧ ∃ N : St → Hp → Prop, (∀ σ' H', N σ' H' → ∃ m', m' < m ∧ W (i + 1) m' σ' H') ∧ ∀ x H', J.yld i H x H' → g x σ H' fun σ2 H2 => tb { D with nx := N, ct := N, bk := D.nx } σ2 H2)
/-- the records at fp as they stand -/
def pinsAt (fp : List Addr) (h : Heap) : List (Addr × Obj) := fp.filterMap fun b => (h.get? b).map fun o => (b, o)
theorem mem_pinsAt {fp : List Addr} {h : Heap} {b : Addr} {o : Obj} (hb : b ∈ fp) (e : h.get? b = some o) : (b, o) ∈ pinsAt fp h := List.mem_filterMap.mpr ⟨b, hb, by rw [e]; rfl⟩
theorem of_pinsAt {fp : List Addr} {h : Heap} {p : Addr × Obj} (hp : p ∈ pinsAt fp h) : p.1 ∈ fp ∧ h.get? p.1 = some p.2 := by
  obtain ⟨b, hb, e⟩ := List.mem_filterMap.mp hp
  cases q : h.get? b with
  | none => rw [q] at e; cases e
  | some o =>
    rw [q] at e
    have e' : (b, o) = p := Option.some.inj e
    subst e'
    exact ⟨hb, q⟩
theorem Inv.pinned {pins : List (Addr × Obj)} {σ : St} {H : Hp} {s : Shared} {fp : List Addr} (I : Inv X pins σ H s) (hf : ∀ b ∈ fp, FpOk X pins H b) (ho : ∀ b ∈ fp, ∃ o, s.heap.get? b = some o ∧ ∀ v, o.data ≠ .cell v) : Inv X (pins ++ pinsAt fp s.heap) σ H s :=
  I.pins_of fun p hp => (List.mem_append.mp hp).elim (fun z => I.pin p (List.mem_append_right _ z)) fun z => by
    obtain ⟨hb, e⟩ := of_pinsAt z
    obtain ⟨f0, f1, f2, _⟩ := hf p.1 hb
    obtain ⟨o, e', d⟩ := ho p.1 hb
    rw [e] at e'; cases e'
    exact ⟨e, f0, f1, f2, d⟩
theorem Inv.unpinned {pins pl : List (Addr × Obj)} {σ : St} {H : Hp} {s : Shared} (I : Inv X (pins ++ pl) σ H s) : Inv X pins σ H s := I.pins_of fun p hp => I.pin p (List.mem_append_right _ (List.mem_append_left _ hp))
theorem ps_for {iter : Expr} {body : List Stmt} {wi : TI} {g : TG} {tb : TS} {pos : Pos} (hp : PassesOwn (model X.prog X.w) X.A X.env X.xe) (hc : X.calm = true) (hi : PI X tg iter wi) (hg : PG X tg g) (hb : PSs X body tb)
    (hs : ∀ x, foldedSetIterable iter X.env x = pure x := by intro _; rfl) : PS X (.For tg iter body [] pos) (tFor wi g tb) := by
  intro pins s σ H D I h
  refine wpAny_For (thn (hi pins s σ H _ I h) fun v s1 h1 => thn h1 fun itv s2 h2 => ?_) hs
  obtain ⟨it, fp, tn, J, H2, e, I2, T, st2, f2, W, ⟨m0, w0⟩, turn⟩ := h2
  subst e
  -- what stays true of the iterator's objects through the loop
  have stat : ∀ {H' : Hp}, (∀ b ∈ fp, H' b = none) → ∀ b ∈ fp, FpOk X pins H' b := fun hn b hb => ⟨hn b hb, (f2 b hb).2⟩
  refine codeAny_forLoop_any (fun n s' => ∃ i σ' H', Inv X pins σ' H' s' ∧ tn i s'.heap ∧ (∀ b ∈ fp, H' b = none) ∧ W i n σ' H') ?_ m0 ⟨0, σ, H2, I2, st2, fun b hb => (f2 b hb).1, w0⟩
  rintro n s3 ⟨i, σ3, H3, I3, st3, fr3, w3⟩
  rcases turn i n σ3 H3 w3 with ⟨stop, qn⟩ | ⟨go, N, hN, step⟩
  · refine wpAny_passesOwn hp (thn (T.done X rfl rfl rfl hc i pins s3 σ3 H3 X.xe I3 (stat fr3) st3 stop) fun r s4 ⟨hr, I4⟩ => ?_)
    subst hr
    exact wpAny_execs_nil ⟨σ3, H3, I4, qn⟩
  · refine wpAny_passesOwn hp (thn (T.item X rfl rfl rfl hc i pins s3 σ3 H3 X.xe I3 (stat fr3) st3 go) fun r s4 ⟨u, hr, h4⟩ => ?_)
    subst hr
    refine wpAny_passesOwn hp (thn h4 fun _ s5 ⟨x, H5, I5, r5, y5, st5, fr5⟩ => ?_)
    have I5' := I5.pinned (stat fr5) (T.obj _ _ st5)
    refine wpAny_passesOwn hp (thn (hg _ s5 σ3 H5 x u _ I5' r5 (step x H5 y5)) fun _ s6 ⟨σ6, H6, I6, q6⟩ => ?_)
    refine wpAny_passesOwn hp (thn (hb _ s6 σ6 H6 _ I6 q6) fun f s7 q7 => ?_)
    have again : ∀ {σ7 : St} {H7 : Hp}, Inv X (pins ++ pinsAt fp s5.heap) σ7 H7 s7 → N σ7 H7 → ∃ m, m < n ∧ ∃ i σ' H', Inv X pins σ' H' s7 ∧ tn i s7.heap ∧ (∀ b ∈ fp, H' b = none) ∧ W i m σ' H' := fun {σ7 H7} I7 n7 => by
      obtain ⟨m', hm, w7⟩ := hN σ7 H7 n7
      refine ⟨m', hm, i + 1, σ7, H7, I7.unpinned, T.keep _ _ _ st5 fun b hb o e => (I7.pin (b, o) (List.mem_append_right _ (List.mem_append_right _ (mem_pinsAt hb e)))).1, fun b hb => ?_, w7⟩
      obtain ⟨o, e, d⟩ := T.obj _ _ st5 b hb
      exact (I7.pin (b, o) (List.mem_append_right _ (List.mem_append_right _ (mem_pinsAt hb e)))).2.1
    cases f with
    | next => obtain ⟨σ7, H7, I7, n7⟩ := q7; exact again I7 n7
    | cont => obtain ⟨σ7, H7, I7, n7⟩ := q7; exact again I7 n7
    | brk => obtain ⟨σ7, H7, I7, q7⟩ := q7; exact ⟨σ7, H7, I7.unpinned, q7⟩
    | ret v => obtain ⟨x7, σ7, H7, I7, r7, q7⟩ := q7; exact ⟨x7, σ7, H7, I7.unpinned, r7, q7⟩
end

theorem for_range {lo : Int} {n : Nat} {g : TG} {tb : TS} {D : Ends} {σ : St} {H : Hp} (Pv : Nat → St → Hp → Prop) (h0 : Pv 0 σ H)
    (hs : ∀ i σ H, i < n → Pv i σ H → g (.int (lo + i)) σ H fun σ2 H2 => tb { D with nx := Pv (i + 1), ct := Pv (i + 1), bk := D.nx } σ2 H2) (hd : ∀ σ H, Pv n σ H → D.nx σ H) :
    ∃ W : Nat → Nat → St → Hp → Prop, (∃ m, W 0 m σ H) ∧ ∀ i m σ H, W i m σ H →
      ((Itr lo n).stop i H ∧ D.nx σ H) ∨ ((Itr lo n).go i H ∧ ∃ N : St → Hp → Prop, (∀ σ' H', N σ' H' → ∃ m', m' < m ∧ W (i + 1) m' σ' H') ∧ ∀ x H', (Itr lo n).yld i H x H' → g x σ H' fun σ2 H2 => tb { D with nx := N, ct := N, bk := D.nx } σ2 H2) := by
  refine ⟨fun i m σ H => m = n - i ∧ i ≤ n ∧ Pv i σ H, ⟨n, by simp, Nat.zero_le _, h0⟩, ?_⟩
  rintro i m σ H ⟨rfl, hi, p⟩
  by_cases hlt : i < n
  · refine .inr ⟨hlt, Pv (i + 1), fun σ' H' p' => ⟨n - (i + 1), by omega, rfl, hlt, p'⟩, fun x H' y => ?_⟩
    obtain ⟨e, y⟩ := y
    subst e y
    exact hs i σ _ hlt p
  · have e : i = n := by omega
    subst e
    exact .inl ⟨Nat.le_refl _, hd σ H p⟩
/-- while, by a word and a measure of the state -/
theorem while_by {c : TT} {tb : TS} {D : Ends} {σ : St} {H : Hp} (Pv : St → Hp → Prop) (μ : St → Hp → Nat) (h0 : Pv σ H)
    (hs : ∀ σ H, Pv σ H → c σ H fun b H1 => if b = true then tb { D with nx := fun σ' H' => Pv σ' H' ∧ μ σ' H' < μ σ H, ct := fun σ' H' => Pv σ' H' ∧ μ σ' H' < μ σ H, bk := D.nx } σ H1 else D.nx σ H1)
    (mono : ∀ σ H Q Q', (∀ b H1, Q b H1 → Q' b H1) → c σ H Q → c σ H Q') : tWhile c tb D σ H := by
  refine ⟨fun m σ H => m = μ σ H ∧ Pv σ H, ⟨_, rfl, h0⟩, ?_⟩
  rintro m σ H ⟨rfl, p⟩
  refine mono σ H _ _ (fun b H1 q => ?_) (hs σ H p)
  cases b with
  | true => exact ⟨_, fun σ' H' ⟨p', l⟩ => ⟨_, l, rfl, p'⟩, q⟩
  | false => exact q
end L2

namespace L2
open PySem PySem.Spec PyProof.Rows

abbrev R2 := V → V → Hp → VK → Prop
/-- a two-place operation on values: f is binaryOp op, inplaceOp op or compareOp op -/
def OpR (X : Cx) (f : Value → Value → Sem Value) (r : R2) : Prop :=
  ∀ (pins : List (Addr × Obj)) (s : Shared) (σ : St) (H : Hp) (x y : V) (v u : Value) (Q : VK), Inv X pins σ H s → RelV x v → RelV y u → r x y H Q →
    wpAny (model X.prog X.w) X.A (f v u) (EP X pins σ Q) X.xe s
/-- a one-place operation -/
def UnR (X : Cx) (f : Value → Sem Value) (r : V → Hp → VK → Prop) : Prop :=
  ∀ (pins : List (Addr × Obj)) (s : Shared) (σ : St) (H : Hp) (x : V) (v : Value) (Q : VK), Inv X pins σ H s → RelV x v → r x H Q →
    wpAny (model X.prog X.w) X.A (f v) (EP X pins σ Q) X.xe s
/-- a call of a value that is known (a builtin, a type) with values -/
def CallR (X : Cx) (f : Value) (r : List V → Hp → VK → Prop) : Prop :=
  ∀ (pins : List (Addr × Obj)) (s : Shared) (σ : St) (H : Hp) (xs : List V) (us : List Value) (Q : VK), Inv X pins σ H s → Vals xs us → r xs H Q →
    wpAny (model X.prog X.w) X.A (call f us) (EP X pins σ Q) X.xe s
def tOp (r : R2) (ta tb : TE) : TE := fun σ H Q => ta σ H fun x H1 => tb σ H1 fun y H2 => r x y H2 Q
def tUn (r : V → Hp → VK → Prop) (ta : TE) : TE := fun σ H Q => ta σ H fun x H1 => r x H1 Q
/-- ints in, under C, and a value out -/
inductive rI (C : Int → Int → Prop) (g : Int → Int → V) (x : V) (y : V) (H : Hp) (Q : VK) : Prop
  | mk : ∀ i j, (x = .int i) → (y = .int j) → (C i j) → (Q (g i j) H) → rI C g x y H Q
inductive rI0 (g : Int → Int → V) (x : V) (y : V) (H : Hp) (Q : VK) : Prop
  | mk : ∀ i j, (x = .int i) → (y = .int j) → (Q (g i j) H) → rI0 g x y H Q
inductive rU (g : Int → V) (x : V) (H : Hp) (Q : VK) : Prop
  | mk : ∀ i, (x = .int i) → (Q (g i) H) → rU g x H Q
section
variable {X : Cx} {a b c : Expr} {ta tb tc : TE} {pos : Pos}

theorem binT (ha : PE X a ta) (hb : PE X b tb) {pins : List (Addr × Obj)} {s : Shared} {σ : St} {H : Hp} {R : V → V → Hp → Prop} (I : Inv X pins σ H s)
    (h : ta σ H fun x H1 => tb σ H1 fun y H2 => R x y H2) {Q : Value → Shared → Prop} {f : Value → Value → Sem Value}
    (hf : ∀ v u s2 x y H2, Inv X pins σ H2 s2 → RelV x v → RelV y u → R x y H2 → wpAny (model X.prog X.w) X.A (f v u) Q X.xe s2) :
    wpAny (model X.prog X.w) X.A (eval a X.env) (fun v s₁ => wpAny (model X.prog X.w) X.A (eval b X.env) (fun u s₂ => wpAny (model X.prog X.w) X.A (f v u) Q X.xe s₂) X.xe s₁) X.xe s := by
  refine thn (ha pins s σ H _ I h) fun v s1 ⟨x, H1, I1, r1, q1⟩ => ?_
  refine thn (hb pins s1 σ H1 _ I1 q1) fun u s2 ⟨y, H2, I2, r2, q2⟩ => ?_
  exact hf v u s2 x y H2 I2 r1 r2 q2

theorem pe_op {op : Operator} {r : R2} (ho : OpR X (binaryOp op) r) (ha : PE X a ta) (hb : PE X b tb) : PE X (.BinOp a op b pos) (tOp r ta tb) := by
  intro pins s σ H Q I h
  exact wpAny_BinOp (binT ha hb I h fun v u s2 x y H2 I2 rx ry q => ho pins s2 σ H2 x y v u Q I2 rx ry q)
theorem pe_un {op : UnaryOp} {r : V → Hp → VK → Prop} (ho : UnR X (unaryOp op) r) (ha : PE X a ta) : PE X (.UnaryOp op a pos) (tUn r ta) := by
  intro pins s σ H Q I h
  exact UnaryOp_ (thn (ha pins s σ H _ I h) fun v s1 ⟨x, H1, I1, r1, q1⟩ => ho pins s1 σ H1 x v Q I1 r1 q1)
theorem opI {f : Value → Value → Sem Value} {C : Int → Int → Prop} {g : Int → Int → Int}
    (rule : ∀ (i j : Int) (t u : Tok) (s : Shared) (Q : Value → Shared → Prop) (E : Value → Shared → Prop), C i j → Q (.int (g i j) s.toks) { s with toks := s.toks + 1 } → wpAny (model X.prog X.w) X.A (f (.int i t) (.int j u)) Q E s) :
    OpR X f (rI C fun i j => .int (g i j)) := by
  intro pins s σ H x y v u Q I rx ry h
  obtain ⟨i, j, rfl, rfl, hc, q⟩ := h
  obtain ⟨t, rfl⟩ := rx
  obtain ⟨t', rfl⟩ := ry
  exact rule i j t t' s _ _ hc ⟨.int (g i j), H, I.tok _, ⟨_, rfl⟩, q⟩
theorem opI0 {f : Value → Value → Sem Value} {g : Int → Int → Int}
    (rule : ∀ (i j : Int) (t u : Tok) (s : Shared) (Q : Value → Shared → Prop) (E : Value → Shared → Prop), Q (.int (g i j) s.toks) { s with toks := s.toks + 1 } → wpAny (model X.prog X.w) X.A (f (.int i t) (.int j u)) Q E s) :
    OpR X f (rI0 fun i j => .int (g i j)) := by
  intro pins s σ H x y v u Q I rx ry h
  obtain ⟨i, j, rfl, rfl, q⟩ := h
  obtain ⟨t, rfl⟩ := rx
  obtain ⟨t', rfl⟩ := ry
  exact rule i j t t' s _ _ ⟨.int (g i j), H, I.tok _, ⟨_, rfl⟩, q⟩
theorem opB0 {f : Value → Value → Sem Value} {g : Int → Int → Bool}
    (rule : ∀ (i j : Int) (t u : Tok) (s : Shared) (Q : Value → Shared → Prop) (E : Value → Shared → Prop), Q (.bool (g i j)) s → wpAny (model X.prog X.w) X.A (f (.int i t) (.int j u)) Q E s) :
    OpR X f (rI0 fun i j => .bl (g i j)) := by
  intro pins s σ H x y v u Q I rx ry h
  obtain ⟨i, j, rfl, rfl, q⟩ := h
  obtain ⟨t, rfl⟩ := rx
  obtain ⟨t', rfl⟩ := ry
  exact rule i j t t' s _ _ ⟨.bl (g i j), H, I, rfl, q⟩

def CDiv (i j : Int) : Prop := 0 < j ∧ j < 1073741824
def CPow (i j : Int) : Prop := 0 ≤ j ∧ j ≤ 1000000 ∧ i.natAbs < 2 ^ 64
def CMul (i j : Int) : Prop := (-(2 ^ 64) < i ∧ i < 2 ^ 64) ∨ (-(2 ^ 64) < j ∧ j < 2 ^ 64)
theorem CMul.ok {i j : Int} (h : CMul i j) : IntMulOk i j := by
  rcases h with ⟨h1, h2⟩ | ⟨h1, h2⟩
  · exact .of_left (intBits_le_64 h1 h2)
  · exact .of_right (intBits_le_64 h1 h2)
theorem op_add : OpR X (binaryOp .Add) (rI0 fun i j => .int (i + j)) := opI0 fun _ _ _ _ _ _ _ q => add_int q
theorem op_sub : OpR X (binaryOp .Sub) (rI0 fun i j => .int (i - j)) := opI0 fun _ _ _ _ _ _ _ q => sub_int q
theorem op_mul : OpR X (binaryOp .Mult) (rI CMul fun i j => .int (i * j)) := opI fun _ _ _ _ _ _ _ hc q => mul_int q hc.ok
/-- // by a positive divisor -/
theorem op_fdiv : OpR X (binaryOp .FloorDiv) (rI CDiv fun i j => .int (i / j)) := opI fun i j _ _ _ _ _ hc q => by
  have h1 : (0 : Int) < j := hc.1
  have h2 : j < 1073741824 := hc.2
  exact floordiv_int (by omega) (by rw [Int.fdiv_eq_ediv_of_nonneg i (by omega)]; exact q) (.inl (PyProof.noPylong_small (by omega)))
/-- % by a positive divisor of any size -/
theorem op_mod : OpR X (binaryOp .Mod) (rI (fun _ j => 0 < j) fun i j => .int (i % j)) := opI fun i j _ _ _ _ _ hc q => by
  have h1 : (0 : Int) < j := hc
  exact mod_int' (by omega) (by rw [Int.fmod_eq_emod_of_nonneg i (by omega)]; exact q)
theorem op_pow : OpR X (binaryOp .Pow) (rI CPow fun i j => .int (i ^ j.toNat)) := opI fun _ _ _ _ _ _ _ hc q => pow_int_small hc.1 hc.2.1 hc.2.2 q
theorem unI {f : Value → Sem Value} {g : Int → Int}
    (rule : ∀ (i : Int) (t : Tok) (s : Shared) (Q : Value → Shared → Prop) (E : Value → Shared → Prop), Q (.int (g i) s.toks) { s with toks := s.toks + 1 } → wpAny (model X.prog X.w) X.A (f (.int i t)) Q E s) :
    UnR X f (rU fun i => .int (g i)) := by
  intro pins s σ H x v Q I rx h
  obtain ⟨i, rfl, q⟩ := h
  obtain ⟨t, rfl⟩ := rx
  exact rule i t s _ _ ⟨.int (g i), H, I.tok _, ⟨_, rfl⟩, q⟩
theorem un_neg : UnR X (unaryOp .USub) (rU fun i => .int (-i)) := unI fun _ _ _ _ _ q => neg_int q
end

/-- the scalars that == tells apart as data does -/
def scal : V → V → Bool
  | .non, .non => true | .non, .int _ => true | .int _, .non => true | .non, .bl _ => true | .bl _, .non => true | .non, .str _ => true | .str _, .non => true
  | .int _, .int _ => true | .bl _, .bl _ => true | .str _, .str _ => true | .byt _, .byt _ => true
  | .int _, .str _ => true | .str _, .int _ => true | .bl _, .str _ => true | .str _, .bl _ => true
  | _, _ => false
inductive rEq (x : V) (y : V) (H : Hp) (Q : VK) : Prop
  | mk : (scal x y = true) → (Q (.bl (decide (x = y))) H) → rEq x y H Q
inductive rNe (x : V) (y : V) (H : Hp) (Q : VK) : Prop
  | mk : (scal x y = true) → (Q (.bl (!decide (x = y))) H) → rNe x y H Q
theorem dec_int {i j : Int} : decide (V.int i = V.int j) = (i == j) := by
  rw [Bool.eq_iff_iff]
  simp
theorem dec_bl {i j : Bool} : decide (V.bl i = V.bl j) = (i == j) := by
  rw [Bool.eq_iff_iff]
  simp
theorem dec_str {i j : Str} : decide (V.str i = V.str j) = (i == j) := by
  rw [Bool.eq_iff_iff]
  simp
theorem dec_byt {i j : Array UInt8} : decide (V.byt i = V.byt j) = (i.toList == j.toList) := by
  rw [Bool.eq_iff_iff]
  cases i
  cases j
  simp

section
variable {X : Cx} {a b c : Expr} {ta tb tc : TE} {pos : Pos}
theorem fin_bl {pins : List (Addr × Obj)} {σ : St} {H : Hp} {s : Shared} {Q : VK} {k k' : Bool} (I : Inv X pins σ H s) (q : Q (.bl k) H) (e : k = k') : EP X pins σ Q (.bool k') s := by
  subst e
  exact ⟨.bl k, H, I, rfl, q⟩
theorem op_eq : OpR X (compareOp .Eq) rEq := by
  intro pins s σ H x y v u Q I rx ry h
  obtain ⟨hs, q⟩ := h
  cases x with
  | non =>
    cases rx
    cases y with
    | non => cases ry; exact PySem.EqNone.eq_none_none (fin_bl I q (by simp))
    | bl j => cases ry; exact PySem.EqNone.eq_none_bool (fin_bl I q (by simp))
    | int j => obtain ⟨t', rfl⟩ := ry; exact PySem.EqNone.eq_none_int (fin_bl I q (by simp))
    | str j => obtain ⟨t', rfl⟩ := ry; exact PySem.EqNone.eq_none_str (fin_bl I q (by simp))
    | _ => exact absurd (show false = true from hs) Bool.false_ne_true
  | bl i =>
    cases rx
    cases y with
    | non => cases ry; exact PySem.EqNone.eq_bool_none (fin_bl I q (by simp))
    | bl j => cases ry; exact eq_bool (fin_bl I q dec_bl)
    | str j => obtain ⟨t', rfl⟩ := ry; exact PySem.EqMixed.eq_bool_str (fin_bl I q (by simp))
    | _ => exact absurd (show false = true from hs) Bool.false_ne_true
  | int i =>
    obtain ⟨t, rfl⟩ := rx
    cases y with
    | non => cases ry; exact PySem.EqNone.eq_int_none (fin_bl I q (by simp))
    | int j => obtain ⟨t', rfl⟩ := ry; exact eq_int (fin_bl I q dec_int)
    | str j => obtain ⟨t', rfl⟩ := ry; exact PySem.EqMixed.eq_int_str (fin_bl I q (by simp))
    | _ => exact absurd (show false = true from hs) Bool.false_ne_true
  | str i =>
    obtain ⟨t, rfl⟩ := rx
    cases y with
    | non => cases ry; exact PySem.EqNone.eq_str_none (fin_bl I q (by simp))
    | bl j => cases ry; exact PySem.EqMixed.eq_str_bool (fin_bl I q (by simp))
    | int j => obtain ⟨t', rfl⟩ := ry; exact PySem.EqMixed.eq_str_int (fin_bl I q (by simp))
    | str j => obtain ⟨t', rfl⟩ := ry; exact eq_str (fin_bl I q dec_str)
    | _ => exact absurd (show false = true from hs) Bool.false_ne_true
  | byt i =>
    obtain ⟨t, rfl⟩ := rx
    cases y with
    | byt j => obtain ⟨t', rfl⟩ := ry; exact PySem.W.eq_bytes (fin_bl I q dec_byt)
    | _ => exact absurd (show false = true from hs) Bool.false_ne_true
  | _ => cases y <;> exact absurd (show false = true from hs) Bool.false_ne_true
theorem op_ne : OpR X (compareOp .NotEq) rNe := by
  intro pins s σ H x y v u Q I rx ry h
  obtain ⟨hs, q⟩ := h
  cases x with
  | non =>
    cases rx
    cases y with
    | non => cases ry; exact PySem.EqNone.ne_none_none (fin_bl I q (by simp))
    | bl j => cases ry; exact PySem.EqNone.ne_none_bool (fin_bl I q (by simp))
    | int j => obtain ⟨t', rfl⟩ := ry; exact PySem.EqNone.ne_none_int (fin_bl I q (by simp))
    | str j => obtain ⟨t', rfl⟩ := ry; exact PySem.EqNone.ne_none_str (fin_bl I q (by simp))
    | _ => exact absurd (show false = true from hs) Bool.false_ne_true
  | bl i =>
    cases rx
    cases y with
    | non => cases ry; exact PySem.EqNone.ne_bool_none (fin_bl I q (by simp))
    | bl j => cases ry; exact ne_bool (fin_bl I q (congrArg not dec_bl))
    | str j => obtain ⟨t', rfl⟩ := ry; exact PySem.EqMixed.ne_bool_str (fin_bl I q (by simp))
    | _ => exact absurd (show false = true from hs) Bool.false_ne_true
  | int i =>
    obtain ⟨t, rfl⟩ := rx
    cases y with
    | non => cases ry; exact PySem.EqNone.ne_int_none (fin_bl I q (by simp))
    | int j => obtain ⟨t', rfl⟩ := ry; exact ne_int (fin_bl I q (congrArg not dec_int))
    | str j => obtain ⟨t', rfl⟩ := ry; exact PySem.EqMixed.ne_int_str (fin_bl I q (by simp))
    | _ => exact absurd (show false = true from hs) Bool.false_ne_true
  | str i =>
    obtain ⟨t, rfl⟩ := rx
    cases y with
    | non => cases ry; exact PySem.EqNone.ne_str_none (fin_bl I q (by simp))
    | bl j => cases ry; exact PySem.EqMixed.ne_str_bool (fin_bl I q (by simp))
    | int j => obtain ⟨t', rfl⟩ := ry; exact PySem.EqMixed.ne_str_int (fin_bl I q (by simp))
    | str j => obtain ⟨t', rfl⟩ := ry; exact ne_str (fin_bl I q (congrArg not dec_str))
    | _ => exact absurd (show false = true from hs) Bool.false_ne_true
  | byt i =>
    obtain ⟨t, rfl⟩ := rx
    cases y with
    | byt j => obtain ⟨t', rfl⟩ := ry; exact PySem.W.ne_bytes (fin_bl I q (congrArg not dec_byt))
    | _ => exact absurd (show false = true from hs) Bool.false_ne_true
  | _ => cases y <;> exact absurd (show false = true from hs) Bool.false_ne_true

theorem op_lt : OpR X (compareOp .Lt) (rI0 fun i j => .bl (decide (i < j))) := opB0 fun _ _ _ _ _ _ _ q => lt_int q
theorem op_gt : OpR X (compareOp .Gt) (rI0 fun i j => .bl (decide (j < i))) := opB0 fun _ _ _ _ _ _ _ q => gt_int q
theorem op_ge : OpR X (compareOp .GtE) (rI0 fun i j => .bl (decide (j ≤ i))) := opB0 fun _ _ _ _ _ _ _ q => ge_int q
/-- the one string within the other -/
inductive op_in_strY (x : V) (y : V) (H : Hp) (Q : VK) : Prop
  | mk : ∀ i j, (x = .str i) → (y = .str j) → (Q (.bl (!(Builtin.Str.occurrences j i 0 j.length 1).isEmpty)) H) → op_in_strY x y H Q
theorem op_in_str : OpR X (compareOp .In) op_in_strY := by
  intro pins s σ H x y v u Q I rx ry h
  obtain ⟨i, j, rfl, rfl, q⟩ := h
  obtain ⟨t, rfl⟩ := rx
  obtain ⟨t', rfl⟩ := ry
  exact in_str (fin_bl I q rfl)

/-- is None, is not None: the right side a value none -/
inductive op_isNY (x : V) (y : V) (H : Hp) (Q : VK) : Prop
  | mk : (y = .non) → (Q (.bl (decide (x = .non))) H) → op_isNY x y H Q
theorem op_isN : OpR X (compareOp .Is) op_isNY := by
  intro pins s σ H x y v u Q I rx ry h
  obtain ⟨rfl, q⟩ := h
  cases ry
  refine is_none_gen (fin_bl I q ?_)
  cases x <;> first
    | (cases rx; rfl)
    | (obtain ⟨t, rfl⟩ := rx; rfl)
inductive op_notin_strY (x : V) (y : V) (H : Hp) (Q : VK) : Prop
  | mk : ∀ i j, (x = .str i) → (y = .str j) → (Q (.bl (!(!(Builtin.Str.occurrences j i 0 j.length 1).isEmpty))) H) → op_notin_strY x y H Q
theorem op_notin_str : OpR X (compareOp .NotIn) op_notin_strY := by
  intro pins s σ H x y v u Q I rx ry h
  obtain ⟨i, j, rfl, rfl, q⟩ := h
  obtain ⟨t, rfl⟩ := rx
  obtain ⟨t', rfl⟩ := ry
  exact notIn_str (fin_bl I q rfl)
/-- two rules for one operation: by cases -/
theorem OpR.or {f : Value → Value → Sem Value} {r r' : R2} (h : OpR X f r) (h' : OpR X f r') : OpR X f (fun x y H Q => r x y H Q ∨ r' x y H Q) := by
  intro pins s σ H x y v u Q I rx ry q
  rcases q with q | q
  · exact h pins s σ H x y v u Q I rx ry q
  · exact h' pins s σ H x y v u Q I rx ry q

theorem nomark (b : Expr) {op : CmpOp} (h : op ≠ .In := by decide) (h2 : op ≠ .NotIn := by decide) : behindInMarks op b = false := by
  have e1 : (op == CmpOp.In) = false := by cases op <;> first | rfl | exact absurd rfl h
  have e2 : (op == CmpOp.NotIn) = false := by cases op <;> first | rfl | exact absurd rfl h2
  cases b <;> simp [behindInMarks, e1, e2]
/-- a comparison as a value; hm: nomark b, or (for in, not in) by with_unfolding_all rfl -/
theorem pe_cmpR {op : CmpOp} {r : R2} (ho : OpR X (compareOp op) r) (ha : PE X a ta) (hb : PE X b tb) (hm : behindInMarks op b = false) : PE X (.Compare a [op] [b] pos) (tOp r ta tb) := by
  intro pins s σ H Q I h
  exact wpAny_Compare1 (binT ha hb I h fun v u s2 x y H2 I2 rx ry q => ho pins s2 σ H2 x y v u Q I2 rx ry q) hm
/-- a reading of a value as a test -/
inductive tTestY (Q : Bool → Hp → Prop) (x : V) (H' : Hp) : Prop
  | mk : ∀ k, (x = .bl k) → (Q k H') → tTestY Q x H'
def tTest (t : TE) : TT := fun σ H Q => t σ H fun x H' => tTestY Q x H'
theorem pt_cmpR {op : CmpOp} {r : R2} (ho : OpR X (compareOp op) r) (ha : PE X a ta) (hb : PE X b tb) (hm : behindInMarks op b = false) : PT X (.Compare a [op] [b] pos) (tTest (tOp r ta tb)) := by
  intro pins s σ H Q I h
  refine wpAny_isTrue_Compare1 (thn (ha pins s σ H _ I h) fun v s1 ⟨x, H1, I1, r1, q1⟩ => thn (hb pins s1 σ H1 _ I1 q1) fun u s2 ⟨y, H2, I2, r2, q2⟩ =>
    thn (ho pins s2 σ H2 x y v u _ I2 r1 r2 q2) fun c s3 ⟨z, H3, I3, r3, k, e, q3⟩ => ?_) hm
  subst e
  cases r3
  exact wpAny_truthy_bool ⟨H3, I3, q3⟩
theorem line63 : (sizeLine : Nat) < 2 ^ 63 := by rw [sizeLine_eq]; decide
inductive op_add_strY (x : V) (y : V) (H : Hp) (Q : VK) : Prop
  | mk : ∀ i j, (x = .str i) → (y = .str j) → (i.length + j.length ≤ sizeLine) → (Q (.str (i ++ j)) H) → op_add_strY x y H Q
theorem op_add_str : OpR X (binaryOp .Add) op_add_strY := by
  intro pins s σ H x y v u Q I rx ry h
  obtain ⟨i, j, rfl, rfl, hz, q⟩ := h
  obtain ⟨t, rfl⟩ := rx
  obtain ⟨t', rfl⟩ := ry
  exact add_str (fun t' tk => ⟨.str (i ++ j), H, I.tok _, ⟨_, rfl⟩, q⟩) hz
theorem vals1 {x : V} {us : List Value} (r : Vals [x] us) : ∃ u, us = [u] ∧ RelV x u := by
  cases r with
  | cons r1 r2 => cases r2; exact ⟨_, rfl, r1⟩
theorem vals2 {x y : V} {us : List Value} (r : Vals [x, y] us) : ∃ u w', us = [u, w'] ∧ RelV x u ∧ RelV y w' := by
  cases r with
  | cons r1 r2 =>
    cases r2 with
    | cons r3 r4 => cases r4; exact ⟨_, _, rfl, r1, r3⟩
inductive call_absY (xs : List V) (H : Hp) (Q : VK) : Prop
  | mk : ∀ i, (xs = [.int i]) → (Q (.int (if i < 0 then -i else i)) H) → call_absY xs H Q
theorem call_abs : CallR X (.builtin "abs") call_absY := by
  intro pins s σ H xs us Q I r h
  obtain ⟨i, rfl, q⟩ := h
  obtain ⟨u, rfl, t, rfl⟩ := vals1 r
  exact call_abs_int fun u tk => ⟨.int (if i < 0 then -i else i), H, I.tok _, ⟨_, rfl⟩, q⟩
inductive call_max2Y (xs : List V) (H : Hp) (Q : VK) : Prop
  | mk : ∀ i j, (xs = [.int i, .int j]) → (Q (.int (if j > i then j else i)) H) → call_max2Y xs H Q
theorem call_max2 (hc : X.calm = true) : CallR X (.builtin "max") call_max2Y := by
  intro pins s σ H xs us Q I r h
  obtain ⟨i, j, rfl, q⟩ := h
  obtain ⟨u, w', rfl, ⟨t, rfl⟩, ⟨t', rfl⟩⟩ := vals2 r
  refine max_two_ints (I.ok.hd hc) fun h' tk k => ⟨_, H, I.kept k, ?_, q⟩
  by_cases hj : j > i
  · rw [if_pos hj, if_pos hj]; exact ⟨_, rfl⟩
  · rw [if_neg hj, if_neg hj]; exact ⟨_, rfl⟩
inductive call_min2Y (xs : List V) (H : Hp) (Q : VK) : Prop
  | mk : ∀ i j, (xs = [.int i, .int j]) → (Q (.int (if j < i then j else i)) H) → call_min2Y xs H Q
theorem call_min2 (hc : X.calm = true) : CallR X (.builtin "min") call_min2Y := by
  intro pins s σ H xs us Q I r h
  obtain ⟨i, j, rfl, q⟩ := h
  obtain ⟨u, w', rfl, ⟨t, rfl⟩, ⟨t', rfl⟩⟩ := vals2 r
  refine min_two_ints (I.ok.hd hc) fun h' tk k => ⟨_, H, I.kept k, ?_, q⟩
  by_cases hj : j < i
  · rw [if_pos hj, if_pos hj]; exact ⟨_, rfl⟩
  · rw [if_neg hj, if_neg hj]; exact ⟨_, rfl⟩
theorem call_int1 : CallR X (.type "int") (fun xs H Q => (∃ i, xs = [.int i] ∧ Q (.int i) H) ∨ ∃ k, xs = [.bl k] ∧ Q (.int (if k then 1 else 0)) H) := by
  intro pins s σ H xs us Q I r h
  rcases h with ⟨i, rfl, q⟩ | ⟨k, rfl, q⟩
  · obtain ⟨u, rfl, t, rfl⟩ := vals1 r
    exact call_int_int ⟨.int i, H, I, ⟨_, rfl⟩, q⟩
  · obtain ⟨u, rfl, r1⟩ := vals1 r
    cases r1
    exact call_int_bool ⟨.int (if k then 1 else 0), H, I.tok _, ⟨_, rfl⟩, q⟩
inductive call_str_intY (xs : List V) (H : Hp) (Q : VK) : Prop
  | mk : ∀ i, (xs = [.int i]) → (i.natAbs.log2 < 1920) → (Q (.str (toString i)) H) → call_str_intY xs H Q
theorem call_str_int : CallR X (.type "str") call_str_intY := by
  intro pins s σ H xs us Q I r h
  obtain ⟨i, rfl, hz, q⟩ := h
  obtain ⟨u, rfl, t, rfl⟩ := vals1 r
  exact PySem.P.str_of_int hz ⟨.str _, H, I.tok _, ⟨_, rfl⟩, q⟩
end
end L2

namespace L2
open PySem PySem.Spec PyProof.Rows

structure ObjM (h : Heap) (x dx C : Addr) (mA : Str → Option Value) : Prop where
  obj : h.get? x = some (PySem.W.instObj C dx)
  ns : h.Ns1 dx mA
  ne : dx ≠ x

theorem lookIn_ns {h : Heap} {dx : Addr} {mA : Str → Option Value} (n : h.Ns1 dx mA) : ∃ od, h.get? dx = some od ∧ ∀ name, PySem.W.lookIn name od = some (mA name) := by
  obtain ⟨o, es, ep, ho, hd, hk, _, hm⟩ := n
  refine ⟨o, ho, fun name => ?_⟩
  have e := hm name
  unfold nsFind findBy at e
  rw [← Array.find?_toList] at e
  unfold PySem.W.lookIn
  rw [hd]
  dsimp only
  split
  · rename_i y q
    rw [q] at e
    exact congrArg some e
  · rename_i q
    rw [q] at e
    have a : es.toList.any (·.refKey) = false := by
      rw [List.any_eq_false]
      intro y hy
      obtain ⟨z, t, hkey⟩ := hk y (Array.mem_toList_iff.mp hy)
      simp [DictEntry.refKey, hkey]
    have a' : ¬ es.toList.any (·.refKey) = true := by rw [a]; exact Bool.false_ne_true
    rw [if_neg a']
    exact congrArg some e

theorem ObjM.look {h : Heap} {x dx C : Addr} {mA : Str → Option Value} (I : ObjM h x dx C mA) : ∃ od, PySem.W.InstAt h x (PySem.W.instObj C dx) C (some od) ∧ ∀ name, PySem.W.lookIn name od = some (mA name) :=
  let ⟨od, ho, hl⟩ := lookIn_ns I.ns
  ⟨od, ⟨I.obj, rfl, rfl, ho⟩, hl⟩

section
variable {prog : Program} {w : World} {A : Around} {E : Value → Shared → Prop} {s : Shared} {K : PySem.W.Frag} {x dx C f : Addr} {mA : Str → Option Value} {name : Str} {v : Value}

end

section
variable {P : Program} {w : World} {H H' : Hp} {h h' : Heap} {a C dx : Addr} {fs fs' : List (Str × V)}
theorem ins_get (hok : HOk P w H h) (e : H a = some (.ins C dx fs)) : ∃ mA, ObjM h a dx C mA ∧ (∀ f, RelO (fs.lookup f) (mA f)) ∧ PySem.Within mA (fs.map (·.1)) ∧ fs.length ≤ 1000 ∧ H dx = some (.own a) := by
  obtain ⟨d, z, ne, ob, mA, n, r, q⟩ := (show ObjOk P w H h a (.ins C dx fs) from hok a _ e)
  exact ⟨mA, ⟨ob, n, ne⟩, r, q, z, d⟩
end

structure Cls (K : PySem.W.Frag) (C : Addr) : Prop where
  pg : PySem.W.plainGet K C Str.empty = true
  hd : PySem.W.hasDictIn K C = true
  po : PySem.W.plainOver K C = true
  sa : PySem.W.findIn K (.ref C) "__setattr__" = some (some (.builtin "object.__setattr__"))
theorem Cls.get {K : PySem.W.Frag} {C : Addr} (c : Cls K C) (f : Str) : PySem.W.plainGet K C f = true := c.pg
section
variable {X : Cx} {pins : List (Addr × Obj)} {σ : St} {H : Hp} {s : Shared} {a C dx : Addr} {fs : List (Str × V)} {f : Str} {v : V} {A : Around} {E : Value → Shared → Prop}

/-- a new instance, tracked, without attributes -/
theorem Inv.made (I : Inv X pins σ H s) : Inv X pins σ (upd (upd H s.heap.objs.size (.own (s.heap.objs.size + 1))) (s.heap.objs.size + 1) (.ins C s.heap.objs.size []))
    { s with heap := (s.heap.push PySem.W.emptyDict).push (PySem.W.instObj C s.heap.objs.size) } := by
  have e1 : (s.heap.push PySem.W.emptyDict).get? s.heap.objs.size = some PySem.W.emptyDict := Heap.get?_push_size s.heap rfl
  have e2 : ((s.heap.push PySem.W.emptyDict).push (PySem.W.instObj C s.heap.objs.size)).get? (s.heap.objs.size + 1) = some (PySem.W.instObj C s.heap.objs.size) := by
    have := Heap.get?_push_size (s.heap.push PySem.W.emptyDict) (o := PySem.W.instObj C s.heap.objs.size) rfl
    rwa [Heap.size_push] at this
  have e3 : (s.heap.push PySem.W.emptyDict).Ns s.heap.objs.size (fun _ => none) := ⟨PySem.W.emptyDict, #[], _, e1, rfl, (fun e he => absurd he (by simp)), fun _ => rfl⟩
  have I1 := I.laid (a := s.heap.objs.size) (o := .own (s.heap.objs.size + 1)) (h' := s.heap.push PySem.W.emptyDict) (t' := s.toks) (fun b u q => Heap.get?_push_of_some _ q) (Nat.le_refl _) ⟨_, e1⟩
  refine I1.laid (a := s.heap.objs.size + 1) (o := .ins C s.heap.objs.size []) (t' := s.toks) (fun b u q => Heap.get?_push_of_some _ q) (Nat.le_of_eq (Heap.size_push _ _)) ?_
  have ne : s.heap.objs.size ≠ s.heap.objs.size + 1 := Nat.ne_of_lt (Nat.lt_succ_self _)
  refine ⟨by rw [upd_ne ne, upd_same], Nat.zero_le _, ne, e2, fun _ => none, (Heap.Ns1.of_empty e3).at fun o q => Heap.get?_push_of_some _ q, fun _ => True.intro, fun y hy => absurd rfl hy⟩

end

section
variable {X : Cx} {o e value : Expr} {f : Str} {pos pos' tpos : Pos} {ta tv : TE}
end

section
variable {X : Cx} {pins : List (Addr × Obj)} {σ : St} {H : Hp} {s : Shared} {A : Around} {E : Value → Shared → Prop} {Q : Value → Shared → Prop} {c : Value} {b : Bool}
/-- the type of a value, as the fragment's deciders take it; for an instance its class -/
inductive TyOf (K : PySem.W.Frag) (H : Hp) : V → Value → Prop where
  | non : TyOf K H .non (.type "NoneType")
  | bl (x : Bool) : TyOf K H (.bl x) (.type "bool")
  | int (i : Int) : TyOf K H (.int i) (.type "int")
  | str (x : Str) : TyOf K H (.str x) (.type "str")
  | flt (x : UInt64) : TyOf K H (.flt x) (.type "float")
  | lst {a : Addr} {xs : List V} (e : H a = some (.lst xs)) : TyOf K H (.ref a) (.type "list")
  | frz {a : Addr} {o : Obj} {xs : List V} (e : H a = some (.frz o (.lst xs))) : TyOf K H (.ref a) (.type "list")
  | tup {a : Addr} {xs : List V} (e : H a = some (.tup xs)) : TyOf K H (.ref a) (.type "tuple")
  | dK {a : Addr} {kvs : List (Key × V)} (e : H a = some (.dK kvs)) : TyOf K H (.ref a) (.type "dict")
  | dT {a : Addr} {kvs : List (List Key × V)} (e : H a = some (.dT kvs)) : TyOf K H (.ref a) (.type "dict")
  | ins {a C dx : Addr} {fs : List (Str × V)} (e : H a = some (.ins C dx fs)) (cl : Cls K C) (ha : PySem.W.findIn K (.ref C) "__class__" = some (some (.builtin "object.__class__")))
      (hn : PySem.W.specialIn K (.builtin "object.__class__") "__get__" = some (some (.builtin "getset_descriptor.__get__"))) (htk : PySem.W.takesIn K (.builtin "object.__class__") = some true)
      (hm : PySem.W.mroIn K C (.type "object") = some true) : TyOf K H (.ref a) (.ref C)
/-- isinstance(x, c) for one class c, a built-in or an own one: kitOne's answer -/
theorem isinst_ok {x : V} {u t : Value} (I : Inv X pins σ H s) (rx : RelV x u) (ty : TyOf X.K H x t) (e : PySem.W.kitOne X.K t c = some b) (h : ∀ tk, Q (.bool b) { s with toks := tk }) :
    wpAny (model X.prog X.w) A (call (.builtin "isinstance") [u, c]) Q E s := by
  cases ty with
  | non => cases (show u = Value.none from rx); exact PySem.W.kia_one PySem.W.kitx_none I.kIn True.intro e (fun z => nomatch z) h
  | bl y => cases (show u = Value.bool y from rx); exact PySem.W.kia_one PySem.W.kitx_bool I.kIn True.intro e (fun z => nomatch z) h
  | int i => obtain ⟨t, q⟩ := (show ∃ t, u = Value.int i t from rx); cases q; exact PySem.W.kia_one PySem.W.kitx_int I.kIn True.intro e (fun z => nomatch z) h
  | str y => obtain ⟨t, q⟩ := (show ∃ t, u = Value.str y t from rx); cases q; exact PySem.W.kia_one PySem.W.kitx_str I.kIn True.intro e (fun z => nomatch z) h
  | flt y => obtain ⟨t, q⟩ := (show ∃ t, u = Value.float y t from rx); cases q; exact PySem.W.kia_one PySem.W.kitx_float I.kIn True.intro e (fun z => nomatch z) h
  | @lst a xs ea =>
    cases (show u = Value.ref a from rx)
    obtain ⟨_, _, n, _, h1⟩ := (show ObjOk X.prog X.w H s.heap a (.lst xs) from I.hok a _ ea)
    exact PySem.W.kia_one PySem.W.kitx_list I.kIn ⟨_, h1, rfl⟩ e (fun z => nomatch z) h
  | @frz a ob xs ea =>
    cases (show u = Value.ref a from rx)
    obtain ⟨_, _, _, n, _, h1⟩ := (show ObjOk X.prog X.w H s.heap a (.frz ob (.lst xs)) from I.hok a _ ea)
    exact PySem.W.kia_one PySem.W.kitx_list I.kIn ⟨_, h1, rfl⟩ e (fun z => nomatch z) h
  | @tup a xs ea =>
    cases (show u = Value.ref a from rx)
    obtain ⟨_, _, _, p⟩ := (show ObjOk X.prog X.w H s.heap a (.tup xs) from I.hok a _ ea)
    obtain ⟨o, h1, h2, _⟩ := p
    exact PySem.W.kia_one PySem.W.kitx_tuple I.kIn ⟨o, h1, h2⟩ e (fun z => nomatch z) h
  | @dK a kvs ea =>
    cases (show u = Value.ref a from rx)
    obtain ⟨_, _, vs, _, p⟩ := (show ObjOk X.prog X.w H s.heap a (.dK kvs) from I.hok a _ ea)
    obtain ⟨o, es, ep, h1, h2, _⟩ := p
    exact PySem.W.kia_one PySem.W.kitx_dict I.kIn ⟨o, h1, h2.1⟩ e (fun z => nomatch z) h
  | @dT a kvs ea =>
    cases (show u = Value.ref a from rx)
    obtain ⟨_, _, xs, _, o, es, ep, h1, h2, _⟩ := (show ObjOk X.prog X.w H s.heap a (.dT kvs) from I.hok a _ ea)
    exact PySem.W.kia_one PySem.W.kitx_dict I.kIn ⟨o, h1, h2.1⟩ e (fun z => nomatch z) h
  | @ins a C dx fs ea cl ha hn htk hm =>
    cases (show u = Value.ref a from rx)
    obtain ⟨mA, O, _⟩ := ins_get I.hok ea
    obtain ⟨od, J, _⟩ := O.look
    exact PySem.W.kia_one (PySem.W.kitx_own (cl.get _) cl.hd ha hn htk hm) I.kIn J e (fun z => nomatch z) h
end
end L2

namespace L2
open PySem PySem.Spec PyProof.Rows

structure Room (k : Nat) (A : Around) : Prop where
  hd : A.handled = none
  dp : A.depth + 3 * k + 5 < recursionLimit
  un : A.units + 16 * k + 200 < cLine
  gd : A.guards = some []
theorem Room.mono {j k : Nat} {A : Around} (r : Room k A) (h : j ≤ k) : Room j A := ⟨r.hd, by have := r.dp; omega, by have := r.un; omega, r.gd⟩
theorem Room.deeper {k : Nat} {A : Around} (r : Room (k + 1) A) (env : Env) : Room k (A.deeper env) :=
  ⟨r.hd, by have := r.dp; show A.depth + 1 + 3 * k + 5 < _; omega, by have := r.un; show A.units + 3 + 16 * k + 200 < _; omega, r.gd⟩
theorem Room.in1 {k : Nat} {A : Around} (r : Room (k + 1) A) : Room k A.in1 :=
  ⟨r.hd, by have := r.dp; show A.depth + 3 * k + 5 < _; omega, by have := r.un; show A.units + 1 + 16 * k + 200 < _; omega, r.gd⟩
theorem make_depth {A : Around} {C : Addr} {us : List Value} {kw : List (Str × Value)} : (A.under (.builtin "type.__call__" ⟨.ref C :: us, kw⟩)).depth = A.depth + 1 := by
  first | rfl | simp [Around.under, Code.weight, Code.isCreation, Code.isGuard, Code.isCaller, Code.frames, Code.isFrame, guardIds]
theorem make_units {A : Around} {C : Addr} {us : List Value} {kw : List (Str × Value)} : (A.under (.builtin "type.__call__" ⟨.ref C :: us, kw⟩)).units = A.units + 1 := by
  first | rfl | simp [Around.under, Code.cUnits, Code.frames, Code.isFrame]
theorem make_guards {A : Around} {C : Addr} {us : List Value} {kw : List (Str × Value)} : (A.under (.builtin "type.__call__" ⟨.ref C :: us, kw⟩)).guards = A.guards := by
  first | rfl | simp [Around.under, Code.guards, Code.isGuard, guardIds, pushGuards]
theorem Room.make {k : Nat} {A : Around} (r : Room (k + 1) A) (C : Addr) (us : List Value) (kw : List (Str × Value)) : Room k (A.under (.builtin "type.__call__" ⟨.ref C :: us, kw⟩)) :=
  ⟨r.hd, by have := r.dp; rw [make_depth]; omega, by have := r.un; rw [make_units]; omega, (by rw [make_guards]; exact r.gd)⟩
theorem Room.depth {k : Nat} {A : Around} (r : Room k A) : A.depth < recursionLimit := by have := r.dp; omega
theorem Room.units {k : Nat} {A : Around} (r : Room k A) : A.units + 64 < cLine := by have := r.un; omega
def tNil : TA := fun _ H Q => Q [] H
def tCons (ta : TE) (tr : TA) : TA := fun σ H Q => ta σ H fun x H1 => tr σ H1 fun xs H2 => Q (x :: xs) H2
section
variable {X : Cx} {e : Expr} {es : List Expr} {te : TE} {t : TA} {pos : Pos}
theorem pa_nil : PA X [] tNil := fun _ _ _ _ H Q I h => Calls.spliced_nil ⟨[], H, I, .nil, h⟩
theorem pa_cons (ha : PE X e te) (hr : PA X es t) (hs : starEach (e :: es) X.env = (false, eval e X.env) :: starEach es X.env := by rfl) : PA X (e :: es) (tCons te t) := by
  intro pos pins s σ H Q I h
  rw [hs]
  show wpAny _ _ (spliced ((false, eval e X.env) :: backTo pos (starEach es X.env))) _ _ s
  refine Calls.spliced_cons (thn (ha pins s σ H _ I h) fun u s1 ⟨x, H1, I1, r1, q1⟩ => ?_)
  exact thn (hr pos pins s1 σ H1 _ I1 q1) fun us s2 ⟨xs, H2, I2, r2, q2⟩ => ⟨x :: xs, H2, I2, .cons r1 r2, q2⟩

/-- a tuple, a list of written items -/
inductive tTupY (Q : VK) (xs : List V) (H1 : Hp) : Prop
  | mk : (xs.length ≤ sizeLine) → (∀ p, H1 p = none → Q (.ref p) (upd H1 p (.tup xs))) → tTupY Q xs H1
def tTup (t : TA) : TE := fun σ H Q => t σ H fun xs H1 => tTupY Q xs H1
inductive tLstY (Q : VK) (xs : List V) (H1 : Hp) : Prop
  | mk : (xs.length ≤ sizeLine) → (∀ p, H1 p = none → Q (.ref p) (upd H1 p (.lst xs))) → tLstY Q xs H1
def tLst (t : TA) : TE := fun σ H Q => t σ H fun xs H1 => tLstY Q xs H1
theorem pe_tup {x1} (h : PA X es t) : PE X (.Tuple es x1 pos) (tTup t) := by
  intro pins s σ H Q I hq
  refine wpAny_Tuple_spliced (thn (h pos pins s σ H _ I hq) fun us s1 ⟨xs, H1, I1, r, z, q⟩ => ⟨by rw [← r.length]; exact z, ?_⟩)
  have hf : H1 s1.heap.objs.size = none := I1.hok.fresh (Nat.le_refl _)
  refine ⟨.ref s1.heap.objs.size, upd H1 s1.heap.objs.size (.tup xs), I1.laid (t' := s1.toks) (fun b u e => Heap.get?_push_of_some _ e) (Nat.le_refl _) ?_, rfl, q _ hf⟩
  exact ⟨z, us, r, ⟨_, Heap.get?_push_size _ rfl, rfl, _, rfl, rfl⟩⟩
theorem pe_lst (h : PA X es t) : PE X (.List es pos) (tLst t) := by
  intro pins s σ H Q I hq
  refine wpAny_List_spliced (thn (h pos pins s σ H _ I hq) fun us s1 ⟨xs, H1, I1, r, z, q⟩ => ⟨by rw [← r.length]; exact z, ?_⟩)
  have hf : H1 s1.heap.objs.size = none := I1.hok.fresh (Nat.le_refl _)
  refine ⟨.ref s1.heap.objs.size, upd H1 s1.heap.objs.size (.lst xs), I1.laid (t' := s1.toks) (fun b u e => Heap.get?_push_of_some _ e) (Nat.le_refl _) ?_, rfl, q _ hf⟩
  exact ⟨z, us, 0, r, Heap.get?_push_size _ rfl⟩
end

/-- a def's promise: the bound arguments in the parameters' order, the heap, the wanted end, the wanted exception -/
abbrev Sp := List V → Hp → VK → XK → Prop
/-- how an exception lies behind a call (file 08 gives it): the callers' frames, abstract heap and state ahead of the call, the wish, the exception, the state -/
abbrev CXT := List Env → Hp → Shared → XK → Value → Shared → Prop

/-- the state at a call -/
structure Env0 (P : Program) (w : World) (K : PySem.W.Frag) (mg : Str → Option Value) (base : Heap) (A : Around) (outer : List Env) (s : Shared) (H : Hp) : Prop where
  frames : A.frames = some outer
  mod : Mod K mg base
  bs : ∀ b o, base.get? b = some o → s.heap.get? b = some o ∧ H b = none
  bsz : base.objs.size ≤ s.heap.objs.size
  funs : s.heap.FunFrames base outer
  frf : ∀ b ∈ frs outer, H b = none
  hok : HOk P w H s.heap
  bare : AllBare s.gens
/-- a call's end -/
def CE (outer : List Env) (P : Program) (w : World) (H : Hp) (s : Shared) (Q : VK) (u : Value) (s' : Shared) : Prop :=
  ∃ v H', s'.os = s.os ∧ AllBare s'.gens ∧ Un (frs outer) [] H H' s.heap s'.heap ∧ HOk P w H' s'.heap ∧ RelV v u ∧ Q v H'
def CR (CX : CXT) (outer : List Env) (P : Program) (w : World) (H : Hp) (s : Shared) (Q : VK) (E : XK) (r : Result) (s' : Shared) : Prop :=
  match r with
  | .ok (.ret u) => CE outer P w H s Q u s'
  | .ok _ => False
  | .error e => CX outer H s E e s'
structure FnOk (P : Program) (w : World) (K : PySem.W.Frag) (mg : Str → Option Value) (base : Heap) (CX : CXT) (k : Nat) (f : Addr) (fd : FuncData) (ps : List Str) (sp : Sp) : Prop where
  len : ∀ vs H Q E, sp vs H Q E → vs.length = ps.length
  run : ∀ (A : Around) (outer : List Env) (s : Shared) (H : Hp) (args : Args) (us : List Value) (vs : List V) (Q : VK) (E : XK), Room k A → Env0 P w K mg base A outer s H → BindsTo s fd args (ps.zip us) → Vals vs us → sp vs H Q E →
    codeAny (model P w) A (.call (.ref f) args) (CR CX outer P w H s Q E) s
theorem FnOk.mono {P : Program} {w : World} {K : PySem.W.Frag} {mg : Str → Option Value} {base : Heap} {CX : CXT} {j k : Nat} {f : Addr} {fd : FuncData} {ps : List Str} {sp : Sp} (F : FnOk P w K mg base CX j f fd ps sp) (h : j ≤ k) :
    FnOk P w K mg base CX k f fd ps sp := ⟨F.len, fun A outer s H args us vs Q E hr => F.run A outer s H args us vs Q E (hr.mono h)⟩
/-- a weaker promise -/
theorem FnOk.imp {P : Program} {w : World} {K : PySem.W.Frag} {mg : Str → Option Value} {base : Heap} {CX : CXT} {k : Nat} {f : Addr} {fd : FuncData} {ps : List Str} {sp sp' : Sp} (F : FnOk P w K mg base CX k f fd ps sp)
    (h : ∀ vs H Q E, sp' vs H Q E → sp vs H Q E) : FnOk P w K mg base CX k f fd ps sp' :=
  ⟨fun vs H Q E q => F.len vs H Q E (h _ _ _ _ q), fun A outer s H args us vs Q E hr he hb hv hs => F.run A outer s H args us vs Q E hr he hb hv (h _ _ _ _ hs)⟩

theorem Env0.make {P : Program} {w : World} {K : PySem.W.Frag} {mg : Str → Option Value} {base : Heap} {A : Around} {outer : List Env} {s : Shared} {H : Hp} (e : Env0 P w K mg base A outer s H) (C : Addr) (us : List Value) (kw : List (Str × Value)) :
    Env0 P w K mg base (A.under (.builtin "type.__call__" ⟨.ref C :: us, kw⟩)) outer s H := ⟨by first | exact e.frames | (simpa [Around.under, Code.envs, Code.isFrame, pushEnvs] using e.frames), e.mod, e.bs, e.bsz, e.funs, e.frf, e.hok, e.bare⟩
theorem Env0.in1 {P : Program} {w : World} {K : PySem.W.Frag} {mg : Str → Option Value} {base : Heap} {A : Around} {outer : List Env} {s : Shared} {H : Hp} (e : Env0 P w K mg base A outer s H) :
    Env0 P w K mg base A.in1 outer s H := ⟨e.frames, e.mod, e.bs, e.bsz, e.funs, e.frf, e.hok, e.bare⟩

section
variable {X : Cx} {pins : List (Addr × Obj)} {σ : St} {H : Hp} {s s' : Shared}
/-- from a body: what a callee wants -/
theorem Inv.env0 (I : Inv X pins σ H s) : Env0 X.prog X.w X.K X.mg X.base X.A X.stack s H :=
  ⟨I.ok.frames, I.ok.mod, I.bs, Nat.le_trans I.ok.bsz I.sz, I.stack, I.stkFree, I.hok, I.bare⟩
/-- behind a call -/
theorem Inv.after {Q : VK} {u : Value} (I : Inv X pins σ H s) (h : CE X.stack X.prog X.w H s Q u s') : EP X pins σ Q u s' := by
  obtain ⟨v, H', os, bare, un, hok, r, q⟩ := h
  obtain ⟨hh, g, d, t, os'⟩ := s'
  obtain rfl : os' = s.os := os
  exact ⟨v, H', I.call (h' := hh) (g' := g) (d' := d) (t' := t) (ch := []) un hok bare (fun b z => absurd z (by simp)), r, q⟩
end

/-- f(..): the written arguments, then the defaults dvs; E: what is wanted of an exception -/
def tCall (sp : Sp) (dvs : List V) (E : XK) (t : TA) : TE := fun σ H Q => t σ H fun vs H1 => sp (vs ++ dvs) H1 Q E
/-- how the parameters are bound: us the positional arguments, kw the keywords' values by name, ds the defaults that fill up -/
def Binds (K : PySem.W.Frag) (fd : FuncData) (ps : List Str) (ds : List Value) : Prop :=
  ∀ (s : Shared) (us : List Value), K.In s.heap → (us ++ ds).length = ps.length → BindsTo s fd ⟨us, []⟩ (ps.zip (us ++ ds))
/-- every parameter is given -/
theorem Binds.all {K : PySem.W.Frag} {fd : FuncData} {ps : List Str} (h : ∀ us : List Value, us.length = ps.length → bindArgs fd ⟨us, []⟩ = pure (ps.zip us)) : Binds K fd ps [] := fun s us _ hl => by
  rw [List.append_nil] at hl ⊢
  exact .of_eq (h us hl)

/-- an exception of a callee reaches what this body wants of exceptions -/
def Passes (CX : CXT) (X : Cx) (E : XK) : Prop := ∀ (pins : List (Addr × Obj)) (σ : St) (H : Hp) (s : Shared) (e : Value) (s' : Shared), Inv X pins σ H s → CX X.stack H s E e s' → X.xe e s'

section
variable {X : Cx} {CX : CXT} {k : Nat} {f C : Addr} {fd : FuncData} {ps : List Str} {sp : Sp} {dvs : List V} {ds : List Value} {E : XK} {x m : Str} {p pos apos : Pos} {e o : Expr} {es : List Expr} {ta : TE} {t : TA}

/-- the callee runs -/
theorem run_fn {pins : List (Addr × Obj)} {σ : St} {H : Hp} {s : Shared} {Q : VK} {us : List Value} {vs : List V} (F : FnOk X.prog X.w X.K X.mg X.base CX k f fd ps sp) (hr : Room k X.A) (hb : Binds X.K fd ps ds) (hd : Vals dvs ds) (hx : Passes CX X E)
    (I : Inv X pins σ H s) (r : Vals vs us) (h : sp (vs ++ dvs) H Q E) : wpAny (model X.prog X.w) X.A (call (.ref f) us) (EP X pins σ Q) X.xe s := by
  have r2 : Vals (vs ++ dvs) (us ++ ds) := r.append hd
  have hl : (us ++ ds).length = ps.length := by rw [← r2.length]; exact F.len _ _ _ _ h
  refine wpAny_call (codeAny_mono (F.run X.A X.stack s H ⟨us, []⟩ (us ++ ds) (vs ++ dvs) Q E hr I.env0 (hb s us I.kIn hl) r2 h) fun r s' hq => ?_)
  cases r with
  | error e => exact hx pins σ H s e s' I hq
  | ok fl =>
    cases fl with
    | ret u => exact I.after hq
    | next => exact False.elim hq
    | brk => exact False.elim hq
    | cont => exact False.elim hq

theorem pe_call (F : FnOk X.prog X.w X.K X.mg X.base CX k f fd ps sp) (hr : Room k X.A) (hg : Gl X x) (hm : X.mg x = some (.ref f)) (hk : PySem.W.keepIn X.K (.ref f) = true) (hb : Binds X.K fd ps ds) (hd : Vals dvs ds) (hx : Passes CX X E)
    (ha : PA X (e :: es) t) (hdb : (x == ("__debug__" : Str)) = false := by decide) (he : starEach (e :: es) X.env = (false, eval e X.env) :: starEach es X.env := by rfl) (hpl : (backTo pos (starEach es X.env)).any (·.1) = false := by rfl) :
    PE X (.Call (.Name x p) (e :: es) [] pos) (tCall sp dvs E t) := by
  intro pins s σ H Q I h
  refine wpAny_Call_Name_kw (ld_glob I hg hm ?_ hdb)
  refine PySem.W.callWith_K (h₀ := X.base) I.ok.mod.kin hk (thn (ha pos pins s σ H _ I h) fun us s1 ⟨vs, H1, I1, r, q⟩ => ⟨I1.kIn, ?_⟩) he hpl
  exact run_fn F hr hb hd hx I1 r q
end

section
variable {X : Cx} {CX : CXT} {k : Nat} {f C : Addr} {fd : FuncData} {ps ks : List Str} {sp : Sp} {E : XK} {x m : Str} {p pos apos kpos : Pos} {e o : Expr} {es : List Expr} {kws : List Keyword} {te ta : TE} {t tk : TA} {nm : Option Str}
variable {g : List Value → List Value → List Value} {gV : List V → List V → List V}
end

/-- names: the parameters first -/
structure FnScope (N P : List Str) (sc : Scope) : Prop where
  kind : sc.kind = .function
  co : sc.isCoroutine = false
  gen : sc.isGenerator = false
  nd : N.Nodup
  pre : N.take P.length = P
  par : ∀ x ∈ P, sc.names.lookup x = some .local ∨ sc.names.lookup x = some .cell
  nofree : ∀ y ∈ sc.names, y.2 ≠ .free

theorem bindL_out {kindOf : Str → Option NameKind} {x : Str} : ∀ {binds : List (Str × Value)} {m : Str → Option Value}, (∀ v, (x, v) ∉ binds) → bindL kindOf binds m x = m x
  | [], _, _ => rfl
  | (n, v) :: r, m, h => by
    unfold bindL
    rw [bindL_out fun w hw => h w (List.mem_cons_of_mem _ hw)]
    split
    · have : x ≠ n := by rintro rfl; exact h v List.mem_cons_self
      simp [this]
    · rfl
theorem bindC_out {kindOf : Str → Option NameKind} {x : Str} : ∀ {binds : List (Str × Value)} {m : Str → Option Value}, (∀ v, (x, v) ∉ binds) → bindC kindOf binds m x = m x
  | [], _, _ => rfl
  | (n, v) :: r, m, h => by
    unfold bindC
    rw [bindC_out fun w hw => h w (List.mem_cons_of_mem _ hw)]
    split
    · rfl
    · have : x ≠ n := by rintro rfl; exact h v List.mem_cons_self
      simp [this]
theorem bindL_get {kindOf : Str → Option NameKind} {x : Str} {v : Value} : ∀ {P : List Str} {vs : List Value} {i : Nat} {m : Str → Option Value}, P.Nodup → P[i]? = some x → vs[i]? = some v → kindOf x = some .local →
    bindL kindOf (P.zip vs) m x = some v
  | [], _, _, _, _, h, _, _ => by simp at h
  | _ :: _, [], _, _, _, _, h, _ => by simp at h
  | p :: P, w :: vs, 0, m, nd, h1, h2, hk => by
    simp at h1 h2; subst h1; subst h2
    show bindL kindOf ((p, w) :: P.zip vs) m p = _
    unfold bindL
    rw [bindL_out fun v hv => (List.nodup_cons.mp nd).1 (List.of_mem_zip hv).1, if_pos hk]
    simp
  | p :: P, w :: vs, i + 1, m, nd, h1, h2, hk => by
    show bindL kindOf ((p, w) :: P.zip vs) m x = _
    unfold bindL
    exact bindL_get (i := i) (List.nodup_cons.mp nd).2 (by simpa using h1) (by simpa using h2) hk
theorem bindC_get {kindOf : Str → Option NameKind} {x : Str} {v : Value} : ∀ {P : List Str} {vs : List Value} {i : Nat} {m : Str → Option Value}, P.Nodup → P[i]? = some x → vs[i]? = some v → kindOf x ≠ some .local →
    bindC kindOf (P.zip vs) m x = some v
  | [], _, _, _, _, h, _, _ => by simp at h
  | _ :: _, [], _, _, _, _, h, _ => by simp at h
  | p :: P, w :: vs, 0, m, nd, h1, h2, hk => by
    simp at h1 h2; subst h1; subst h2
    show bindC kindOf ((p, w) :: P.zip vs) m p = _
    unfold bindC
    rw [bindC_out fun v hv => (List.nodup_cons.mp nd).1 (List.of_mem_zip hv).1, if_neg hk]
    simp
  | p :: P, w :: vs, i + 1, m, nd, h1, h2, hk => by
    show bindC kindOf ((p, w) :: P.zip vs) m x = _
    unfold bindC
    exact bindC_get (i := i) (List.nodup_cons.mp nd).2 (by simpa using h1) (by simpa using h2) hk

/-- the names' values at the entry -/
def start (N : List Str) (vs : List V) : St := vs.map some ++ List.replicate (N.length - vs.length) none

/-- the context of a def's body, at its entry; an exception leaves the frame, then lies as CX says -/
def cxOf (CX : CXT) (P : Program) (w : World) (K : PySem.W.Frag) (mg : Str → Option Value) (base : Heap) (N : List Str) (qual : Str) (scope : Scope) (f : Addr) (cd : Value) (A : Around) (outer : List Env) (s : Shared) (H : Hp) (E : XK) : Cx where
  prog := P
  w := w
  K := K
  mg := mg
  base := base
  A := A.deeper (envOfC qual scope s.heap.objs.size f cd)
  N := N
  s₀ := s
  H₀ := H
  env := envOfC qual scope s.heap.objs.size f cd
  outer := outer
  stack := envOfC qual scope s.heap.objs.size f cd :: outer
  ex := []
  calm := true
  fn := fun _ => true
  pn := []
  xe := fun e s' => wpAny (model P w) (A.deeper (envOfC qual scope s.heap.objs.size f cd)) (leaving (envOfC qual scope s.heap.objs.size f cd) e) (fun _ s'' => CX outer H s E e s'') (fun e' s'' => CX outer H s E e' s'') s'

theorem cell_has {sc : Scope} {n : Nat} {x : Str} (h : sc.names.lookup x = some .cell) : ∃ c, (cellsFrom n sc.names []).lookup x = some c := by
  have q := PySem.W.cellsFrom_some sc.names n [] (.inl h)
  exact Option.isSome_iff_exists.mp q

theorem inv_start {CX : CXT} {P : Program} {w : World} {K : PySem.W.Frag} {mg : Str → Option Value} {base : Heap} {N ps : List Str} {qual : Str} {scope : Scope} {f : Addr} {cd : Value} {A : Around} {outer : List Env} {s s1 : Shared} {H : Hp} {E : XK} {us : List Value} {vs : List V}
    (S : FnScope N ps scope) (hd : A.handled = none) (e0 : Env0 P w K mg base A outer s H) (hl : vs.length = ps.length) (r : Vals vs us)
    (x : InCallC s s.heap.objs.size (bindL (envOfC qual scope s.heap.objs.size f cd).kindOf (ps.zip us) fun _ => none) (cellsFrom (s.heap.objs.size + 1) scope.names []) (bindC (envOfC qual scope s.heap.objs.size f cd).kindOf (ps.zip us) fun _ => none) s1) :
    Inv (cxOf CX P w K mg base N qual scope f cd A outer s H E) [] (start N vs) H s1 := by
  have hpl : ps.length ≤ N.length := by have := congrArg List.length S.pre; rw [List.length_take] at this; omega
  obtain ⟨h1, tk, rfl, hk⟩ := x.done
  have noA : ∀ b : Addr, b ∉ (cxOf CX P w K mg base N qual scope f cd A outer s H E).ex := fun b z => absurd (show b ∈ ([] : List Addr) from z) (by simp)
  refine ⟨⟨e0.mod, S.kind, rfl, rfl, Nat.le_refl _, fun y z c h1 h2 => ?_, fun y hy => ?_, fun y c _ h => ?_, fun _ => hd, Around.frames_deeper e0.frames, .inr ⟨rfl, rfl⟩, fun b z => absurd z (noA b), e0.bs, e0.bsz, fun b _ _ => noA b, fun b z => absurd z (noA b), e0.funs, e0.frf⟩,
    rfl, e0.bare, Un.kept hk, ⟨_, x.toInCall.ns, fun i y v h1 h2 h3 => ?_⟩, fun y c h => ⟨_, x.cell y c h⟩, e0.hok.fresh (Nat.le_refl _), fun y c h => ?_, fun p hp => absurd (show p ∈ ([] : List (Addr × Obj)) from hp) (by simp), e0.hok.kept hk, ?_⟩
  · exact name_of_addr x.apart (PySem.mem_of_lookup h1) (PySem.mem_of_lookup h2)
  · have hy : scope.names.lookup y = some .cell ∨ scope.names.lookup y = some .free := hy
    rcases hy with hy | hy
    · exact cell_has hy
    · exact absurd rfl (S.nofree _ (PySem.mem_of_lookup hy))
  · exact Nat.le_of_lt (x.above y c (PySem.mem_of_lookup h))
  · have hi : i < vs.length := by
      unfold start at h2
      by_cases hi : i < vs.length
      · exact hi
      · rw [List.getElem?_append_right (by simpa using hi)] at h2
        rw [List.getElem?_replicate] at h2
        split at h2 <;> cases h2
    have ha : vs[i]? = some v := by
      unfold start at h2
      rw [List.getElem?_append_left (by simpa using hi), List.getElem?_map] at h2
      cases e : vs[i]? with
      | none => rw [e] at h2; cases h2
      | some a => rw [e] at h2; cases h2; rfl
    obtain ⟨u, hu, rv⟩ := r.get ha
    have hp : ps[i]? = some y := by
      rw [← S.pre, List.getElem?_take_of_lt (by omega)]; exact h1
    have ndP : ps.Nodup := by rw [← S.pre]; exact S.nd.sublist (List.take_sublist _ _)
    refine ⟨u, rv, ?_⟩
    rcases S.par y (List.mem_of_getElem? hp) with k | k
    · exact .inl ⟨k, bindL_get ndP hp hu k⟩
    · obtain ⟨c, e⟩ := cell_has (n := s.heap.objs.size + 1) k
      refine .inr ⟨.inl k, c, e, ?_⟩
      have q := x.cell y c e
      rw [bindC_get ndP hp hu (by show scope.names.lookup y ≠ _; rw [k]; decide)] at q
      exact q
  · exact e0.hok.fresh (Nat.le_of_lt (x.above y c (PySem.mem_of_lookup h)))
  · unfold start
    show _ = N.length
    rw [List.length_append, List.length_map, List.length_replicate]
    omega

/-- THE RULE: a def (or a method) of the text, by its body. The body's reading t is chosen for each entry; it is run at the parameters' values -/
theorem fn_of {CX : CXT} {P : Program} {w : World} {K : PySem.W.Frag} {mg : Str → Option Value} {base : Heap} {k : Nat} {f : Addr} {name qual : Str} {params : Arguments} {body : List Stmt} {scope : Scope} {dV kV doc pm cdv ct oc : Value} {an od : Option Addr}
    {osl : Array (Option Value)} {N ps : List Str} {sp : Sp} (lk : K.lookup f = some ⟨oc, od, .func (PySem.W.fnOf name qual params body scope dV kV doc pm an cdv ct), osl⟩) (hcd : PySem.W.codeIn K cdv qual = true) (S : FnScope N ps scope)
    (len : ∀ vs H Q E, sp vs H Q E → vs.length = ps.length)
    (hbody : ∀ (A : Around) (outer : List Env) (s : Shared) (H : Hp) (vs : List V) (Q : VK) (E : XK), Room k (A.deeper (envOfC qual scope s.heap.objs.size f cdv)) → sp vs H Q E →
      ∃ t, PSs (cxOf CX P w K mg base N qual scope f cdv A outer s H E) body t ∧ t { nx := fun _ H' => Q .non H', rt := Q } (start N vs) H) :
    FnOk P w K mg base CX (k + 1) f (PySem.W.fnOf name qual params body scope dV kV doc pm an cdv ct) ps sp := by
  refine ⟨len, fun A outer s H args us vs Q E hr e0 hb r hsp => ?_⟩
  have hl := len _ _ _ _ hsp
  have KX : K.In s.heap := e0.mod.kin.keeps fun b o e => (e0.bs b o e).1
  have lim : s.heap.NoLimit := e0.mod.nolimit.keeps fun b o e => (e0.bs b o e).1
  have hkind : ∀ y ∈ ps.zip us, scope.names.lookup y.1 = some .local ∨ (scope.names.lookup y.1 = some .cell ∧ ((cellsFrom (s.heap.objs.size + 1) scope.names []).lookup y.1).isSome = true) := fun ⟨n, v⟩ hy => by
    rcases S.par n (List.of_mem_zip hy).1 with q | q
    · exact .inl q
    · exact .inr ⟨q, PySem.W.cellsFrom_some _ _ _ (.inl q)⟩
  refine codeAny_call_function hr.depth (KX _ _ lk) rfl S.co S.gen rfl (PySem.W.codeRec_of KX hcd) (hb _ _ _ _ ?_)
  refine wpAny_newFunctionEnv_cells S.kind hkind fun env he s1 x => ?_
  subst he
  refine ⟨lim.keeps x.toInCall.keep, codeAny_func ?_⟩
  obtain ⟨t, ht, hq⟩ := hbody A outer s H vs Q E (hr.deeper _) hsp
  have I : Inv (cxOf CX P w K mg base N qual scope f cdv A outer s H E) [] (start N vs) H s1 := inv_start S hr.hd e0 hl r x
  refine wpAny_mono (ht [] s1 (start N vs) H _ I hq) (fun fl s' hs => ?_) fun e s' hs => hs
  have fin : ∀ {σ' : St} {H' : Hp} {v : V} {u : Value}, Inv (cxOf CX P w K mg base N qual scope f cdv A outer s H E) [] σ' H' s' → RelV v u → Q v H' → CE outer P w H s Q u s' :=
    fun {σ' H' v u} J rv q => ⟨v, H', J.os, J.bare, J.base, J.hok, rv, q⟩
  cases fl with
  | ret u =>
    obtain ⟨v, σ', H', J, rv, q⟩ := hs
    exact fin J rv q
  | next =>
    obtain ⟨σ', H', J, q⟩ := hs
    exact fin (v := V.non) (u := Value.none) J rfl q
  | brk =>
    obtain ⟨_, _, _, q⟩ := hs
    exact False.elim q
  | cont =>
    obtain ⟨_, _, _, q⟩ := hs
    exact False.elim q
end L2

namespace L2
open PySem PySem.Spec PyProof.Rows
section
variable {X : Cx} {x : Str} {p pos : Pos} {e : Expr} {es : List Expr} {t : TA} {id T : String} {r : List V → Hp → VK → Prop}

def tCB (r : List V → Hp → VK → Prop) (t : TA) : TE := fun σ H Q => t σ H fun vs H1 => r vs H1 Q
/-- f(e, ..), f a built-in function -/
theorem pe_callB (hc : CallR X (.builtin id) r) (hg : Gl X x) (hm : X.mg x = none) (hv : bootBuiltins x = some (.builtin id)) (ha : PA X (e :: es) t) (hn : x ≠ "__name__" := by decide) (hdb : (x == ("__debug__" : Str)) = false := by decide)
    (he : starEach (e :: es) X.env = (false, eval e X.env) :: starEach es X.env := by rfl) (hpl : (backTo pos (starEach es X.env)).any (·.1) = false := by rfl) : PE X (.Call (.Name x p) (e :: es) [] pos) (tCB r t) := by
  intro pins s σ H Q I h
  refine wpAny_Call_Name_kw (ld_blt I hg hm hv ?_ hn hdb)
  exact PyProof.Rows.callWith_builtin1 (thn (ha pos pins s σ H _ I h) fun us s1 ⟨vs, H1, I1, r1, q1⟩ => hc pins s1 σ H1 vs us Q I1 r1 q1) he hpl
/-- T(e, ..), T a built-in type -/
theorem pe_callTy (hc : CallR X (.type T) r) (hg : Gl X x) (hm : X.mg x = none) (hv : bootBuiltins x = some (.type T)) (ha : PA X (e :: es) t) (hn : x ≠ "__name__" := by decide) (hdb : (x == ("__debug__" : Str)) = false := by decide)
    (he : starEach (e :: es) X.env = (false, eval e X.env) :: starEach es X.env := by rfl) (hpl : (backTo pos (starEach es X.env)).any (·.1) = false := by rfl) : PE X (.Call (.Name x p) (e :: es) [] pos) (tCB r t) := by
  intro pins s σ H Q I h
  refine wpAny_Call_Name_kw (ld_blt I hg hm hv ?_ hn hdb)
  exact PyProof.Rows.callWith_type1 (thn (ha pos pins s σ H _ I h) fun us s1 ⟨vs, H1, I1, r1, q1⟩ => hc pins s1 σ H1 vs us Q I1 r1 q1) he hpl
end
end L2

namespace HT
open PySem PyProof.Rows

section
open PySem.SeqAt
open PySem.AutoSeq1 (wpAny_loadPart')
open PySem.MeetsSeq PySem.MeetsSeq2 PySem.MeetsSeq3

end

section
variable {prog : Program} {w : World} {A : Around} {E : Value → Shared → Prop} {s : Shared}

/-- a slice's bound as a place among n (d where it is left out) -/
def sIx (n d : Nat) : Option Int → Nat
  | none => d
  | some v => if v < 0 then (v + (n : Int)).toNat else min v.toNat n
end
end HT

namespace L2
open PySem PySem.Spec PyProof.Rows

abbrev TO := St → Hp → (Option Int → Hp → Prop) → Prop
/-- a slice's part (left out, or an int) -/
def PO (X : Cx) (e : Option Expr) (t : TO) : Prop :=
  ∀ (pins : List (Addr × Obj)) (s : Shared) (σ : St) (H : Hp) (Q : Option Int → Hp → Prop), Inv X pins σ H s → t σ H Q →
    wpAny (model X.prog X.w) X.A (evalPart e X.env) (fun u s' => ∃ o H', Inv X pins σ H' s' ∧ IsPart u o ∧ Q o H') X.xe s
def tNoPart : TO := fun _ H Q => Q none H
inductive tPartY (Q : Option Int → Hp → Prop) (x : V) (H1 : Hp) : Prop
  | mk : ∀ i, (x = .int i) → (Q (some i) H1) → tPartY Q x H1
def tPart (t : TE) : TO := fun σ H Q => t σ H fun x H1 => tPartY Q x H1
section
variable {X : Cx} {e : Expr} {te : TE} {lo hi : Option Expr} {tl th : TO} {pos p2 : Pos}

theorem po_none : PO X none tNoPart := by
  intro pins s σ H Q I h
  rw [evalPart_none]
  exact wpAny_pure ⟨none, H, I, .none, h⟩
theorem po_some (h : PE X e te) : PO X (some e) (tPart te) := by
  intro pins s σ H Q I hw
  rw [evalPart_some]
  refine thn (h pins s σ H _ I hw) fun u s1 ⟨x, H1, I1, r1, q1⟩ => ?_
  obtain ⟨i, rfl, q⟩ := q1
  obtain ⟨t, rfl⟩ := r1
  exact ⟨some i, H1, I1, .int i t, q⟩

/-- what a slice of a value is, by values: the slice object stands at sl -/
def SlR (X : Cx) (r : V → Option Int → Option Int → Hp → VK → Prop) : Prop :=
  ∀ (pins : List (Addr × Obj)) (s : Shared) (σ : St) (H : Hp) (x : V) (v vl vu : Value) (lo hi : Option Int) (sl : Addr) (Q : VK), Inv X pins σ H s → RelV x v → s.heap.IsSliceOf sl vl vu .none → IsPart vl lo → IsPart vu hi → r x lo hi H Q →
    ∃ T id, typeLookup (.type T) "__getitem__" = pure (some (.builtin id)) ∧ s.TypeIs v T ∧ wpAny (model X.prog X.w) X.A (getItem v (.ref sl)) (EP X pins σ Q) X.xe s
theorem SlR.or {r r' : V → Option Int → Option Int → Hp → VK → Prop} (h : SlR X r) (h' : SlR X r') : SlR X (fun x lo hi H Q => r x lo hi H Q ∨ r' x lo hi H Q) := by
  intro pins s σ H x v vl vu lo hi sl Q I rx hs pl pu q
  rcases q with q | q
  · exact h pins s σ H x v vl vu lo hi sl Q I rx hs pl pu q
  · exact h' pins s σ H x v vl vu lo hi sl Q I rx hs pl pu q
def tSl (r : V → Option Int → Option Int → Hp → VK → Prop) (te : TE) (tl th : TO) : TE := fun σ H Q => te σ H fun x H1 => tl σ H1 fun l H2 => th σ H2 fun u H3 => r x l u H3 Q
/-- a[lo:hi], any a -/
theorem pe_slice {r : V → Option Int → Option Int → Hp → VK → Prop} (hr : SlR X r) (he : PE X e te) (hl : PO X lo tl) (hu : PO X hi th) : PE X (.Subscript e (.Slice lo hi none p2) pos) (tSl r te tl th) := by
  intro pins s σ H Q I h
  refine Subscript_ (thn (he pins s σ H _ I h) fun v s1 ⟨x, H1, I1, r1, q1⟩ => ?_)
  refine wpAny_Slice (thn (hl pins s1 σ H1 _ I1 q1) fun vl s2 ⟨l, H2, I2, pl, q2⟩ => thn (hu pins s2 σ H2 _ I2 q2) fun vu s3 ⟨u, H3, I3, pu, q3⟩ => ?_)
  rw [evalPart_none]
  refine wpAny_pure ?_
  have I4 : Inv X pins σ H3 { s3 with heap := s3.heap.push { cls := .type "slice", data := .fields #[vl, vu, .none] } } := I3.kept (t' := s3.toks) fun b ob q => Heap.get?_push_of_some _ q
  obtain ⟨T, id, hT, ht, hg⟩ := hr pins { s3 with heap := s3.heap.push { cls := .type "slice", data := .fields #[vl, vu, .none] } } σ H3 x v vl vu l u s3.heap.objs.size Q I4 r1 (Heap.IsSliceOf.new ..) pl pu q3
  show wpAny (model X.prog X.w) X.A (subscriptTail e (.Slice lo hi none p2) v (.ref s3.heap.objs.size)) (EP X pins σ Q) X.xe { s3 with heap := s3.heap.push { cls := .type "slice", data := .fields #[vl, vu, .none] } }
  exact tail_any (ops := [.ref s3.heap.objs.size, v]) ht hT hg (by with_unfolding_all rfl)

/-- the items of xs[lo:hi] -/
def cutV (xs : List V) (lo hi : Option Int) : List V := (xs.drop (HT.sIx xs.length 0 lo)).take (HT.sIx xs.length xs.length hi - HT.sIx xs.length 0 lo)
theorem cutV_length (xs : List V) (lo hi : Option Int) : (cutV xs lo hi).length ≤ xs.length := by
  unfold cutV
  rw [List.length_take, List.length_drop]
  omega
end
end L2

namespace L2
open PySem PySem.Spec PyProof.Rows

/-- the place that an index of any sign means -/
def ixN (n : Nat) (i : Int) : Option Nat := if 0 ≤ i then (if i < n then some i.toNat else none) else if -(n : Int) ≤ i then some (i + n).toNat else none
def atI {α : Type} (xs : List α) (i : Int) : Option α := (ixN xs.length i).bind fun j => xs[j]?
theorem ixN_seq {n : Nat} {i : Int} {j : Nat} (h : ixN n i = some j) : seqIndex? i n = some j ∧ j < n ∧ -(n : Int) ≤ i ∧ i < n := by
  unfold ixN at h
  by_cases h0 : 0 ≤ i
  · rw [if_pos h0] at h
    by_cases h1 : i < n
    · rw [if_pos h1] at h
      have e : i.toNat = j := Option.some.inj h
      exact ⟨by rw [seqIndex_of h0 h1, e], by omega, by omega, h1⟩
    · rw [if_neg h1] at h; cases h
  · rw [if_neg h0] at h
    by_cases h1 : -(n : Int) ≤ i
    · rw [if_pos h1] at h
      have e : (i + n).toNat = j := Option.some.inj h
      exact ⟨by rw [seqIndex_neg (by omega) h1, e], by omega, h1, by omega⟩
    · rw [if_neg h1] at h; cases h
theorem atI_get {α : Type} {xs : List α} {i : Int} {v : α} (h : atI xs i = some v) : ∃ j, seqIndex? i xs.length = some j ∧ xs[j]? = some v ∧ j < xs.length ∧ -(xs.length : Int) ≤ i ∧ i < xs.length := by
  unfold atI at h
  cases e : ixN xs.length i with
  | none => rw [e] at h; cases h
  | some j =>
    rw [e] at h
    obtain ⟨h1, h2, h3, h4⟩ := ixN_seq e
    exact ⟨j, h1, h, h2, h3, h4⟩
theorem atI_nat {α : Type} {xs : List α} {j : Nat} {v : α} (h : xs[j]? = some v) : atI xs (j : Int) = some v := by
  have hj : j < xs.length := (List.getElem?_eq_some_iff.mp h).1
  have e : ixN xs.length (j : Int) = some j := by
    unfold ixN
    rw [if_pos (by omega), if_pos (by omega)]; simp
  unfold atI; rw [e]; exact h
/-- what stands as an index of a plain subscript -/
def PlainIx (b : Expr) : Prop := ∀ o i, subscripted b false o i = operate [o, i] (getItem o i)
/-- a subscript by values -/
def IxR (X : Cx) (r : R2) : Prop :=
  ∀ (value slice : Expr) (pins : List (Addr × Obj)) (s : Shared) (σ : St) (H : Hp) (x y : V) (v u : Value) (Q : VK), Inv X pins σ H s → RelV x v → RelV y u → r x y H Q →
    subscripted slice false v u = operate [v, u] (getItem v u) → wpAny (model X.prog X.w) X.A (subscriptTail value slice v u) (EP X pins σ Q) X.xe s
/-- a call of a builtin's method by values: the receiver, the arguments -/
def MtR (X : Cx) (id : String) (r : V → List V → Hp → VK → Prop) : Prop :=
  ∀ (pins : List (Addr × Obj)) (s : Shared) (σ : St) (H : Hp) (x : V) (xs : List V) (v : Value) (us : List Value) (Q : VK), Inv X pins σ H s → RelV x v → Vals xs us → r x xs H Q →
    wpAny (model X.prog X.w) X.A (call (.builtin id) (v :: us)) (EP X pins σ Q) X.xe s
section
variable {X : Cx} {a b : Expr} {ta tb : TE} {pos : Pos}
theorem IxR.or {r r' : R2} (h : IxR X r) (h' : IxR X r') : IxR X (fun x y H Q => r x y H Q ∨ r' x y H Q) := by
  intro value slice pins s σ H x y v u Q I rx ry q hs
  rcases q with q | q
  · exact h value slice pins s σ H x y v u Q I rx ry q hs
  · exact h' value slice pins s σ H x y v u Q I rx ry q hs
theorem MtR.or {id : String} {r r' : V → List V → Hp → VK → Prop} (h : MtR X id r) (h' : MtR X id r') : MtR X id (fun x xs H Q => r x xs H Q ∨ r' x xs H Q) := by
  intro pins s σ H x xs v us Q I rx rs q
  rcases q with q | q
  · exact h pins s σ H x xs v us Q I rx rs q
  · exact h' pins s σ H x xs v us Q I rx rs q
/-- a[b] -/
theorem pe_ix {r : R2} (hr : IxR X r) (ha : PE X a ta) (hb : PE X b tb) (hs : PlainIx b) : PE X (.Subscript a b pos) (tOp r ta tb) := by
  intro pins s σ H Q I h
  exact Subscript_ (binT ha hb I h fun v u s2 x y H2 I2 rx ry q => hr a b pins s2 σ H2 x y v u Q I2 rx ry q (hs _ _))

inductive rIxL (K : PySem.W.Frag) (x : V) (y : V) (H : Hp) (Q : VK) : Prop
  | mk : ∀ p xs i v, (x = .ref p) → (y = .int i) → (SqL K H p xs) → (atI xs i = some v) → (Q v H) → rIxL K x y H Q
inductive rIxT (K : PySem.W.Frag) (x : V) (y : V) (H : Hp) (Q : VK) : Prop
  | mk : ∀ p xs i v, (x = .ref p) → (y = .int i) → (SqT K H p xs) → (atI xs i = some v) → (Q v H) → rIxT K x y H Q
inductive rIxS (x : V) (y : V) (H : Hp) (Q : VK) : Prop
  | mk : ∀ z i c, (x = .str z) → (y = .int i) → (z.length ≤ sizeLine) → (atI z.cps.toList i = some c) → (Q (.str ⟨#[c]⟩) H) → rIxS x y H Q
theorem ix_list : IxR X (rIxL X.K) := by
  intro value slice pins s σ H x y v u Q I rx ry h hs
  obtain ⟨p, xs, i, z, rfl, rfl, hq, he, q⟩ := h
  cases rx
  obtain ⟨t, rfl⟩ := ry
  obtain ⟨its, r, pl, hz⟩ := I.list hq
  obtain ⟨j, h1, h2, h3, h4, h5⟩ := atI_get he
  obtain ⟨w, ew, rw'⟩ := r.get h2
  have hl := r.length
  have hn := line63
  have fin : EP X pins σ Q w s := ⟨z, H, I, rw', q⟩
  by_cases h0 : 0 ≤ i
  · have hj : i.toNat = j := by
      rw [seqIndex_of h0 h5] at h1
      exact Option.some.inj h1
    exact item_listR pl.isList h0 (by omega) (by rw [hj]; simpa using ew) fin hs
  · have hj : (i + (its.toArray.size : Int)).toNat = j := by
      rw [seqIndex_neg (by omega) h4] at h1
      rw [List.size_toArray, ← hl]
      exact Option.some.inj h1
    exact subscriptTail_builtinR (x := w) pl.isList.typeIs slot_list_getitem.lookup
      (wpAny_getItem_list_neg (Q := fun r s' => r = w ∧ EP X pins σ Q r s') pl.isList (by omega) (by rw [List.size_toArray] <;> omega) (by omega) (by rw [hj]; simpa using ew) ⟨rfl, fin⟩) hs
theorem ix_tup : IxR X (rIxT X.K) := by
  intro value slice pins s σ H x y v u Q I rx ry h hs
  obtain ⟨p, xs, i, z, rfl, rfl, hq, he, q⟩ := h
  cases rx
  obtain ⟨t, rfl⟩ := ry
  obtain ⟨its, r, pl, hz⟩ := I.tuple hq
  obtain ⟨j, h1, h2, h3, h4, h5⟩ := atI_get he
  obtain ⟨w, ew, rw'⟩ := r.get h2
  have hl := r.length
  have hn := line63
  have fin : EP X pins σ Q w s := ⟨z, H, I, rw', q⟩
  exact subscriptTail_builtinR (x := w) pl.typeIs slot_tuple_getitem.lookup
    (getItem_tuple (j := j) (Q := fun r s' => r = w ∧ EP X pins σ Q r s') pl (by omega) (by omega) (by rw [List.size_toArray, ← hl]; exact h1) (by simpa using ew) ⟨rfl, fin⟩) hs
theorem ix_str : IxR X rIxS := by
  intro value slice pins s σ H x y v u Q I rx ry h hs
  obtain ⟨z, i, c, rfl, rfl, hz, he, q⟩ := h
  obtain ⟨t, rfl⟩ := rx
  obtain ⟨t', rfl⟩ := ry
  obtain ⟨j, h1, h2, h3, h4, h5⟩ := atI_get he
  have hl : z.cps.toList.length = z.length := by simp [Str.length]
  rw [hl] at h1 h4 h5
  have hn := line63
  exact tail_any (typeIs_str s z t) slot_str_getitem.lookup (getItem_str (c := c) (by
    have e1 : decide (i < -(2 ^ 63 : Int)) = false := decide_eq_false (by omega)
    have e2 : decide (i ≥ 2 ^ 63) = false := decide_eq_false (by omega)
    rw [e1, e2, Bool.or_false]) (by rw [h1]; simpa using h2) ⟨.str ⟨#[c]⟩, H, I.tok _, ⟨_, rfl⟩, q⟩) hs
/-- the list's object behind a store -/
theorem mapSeq_set (its : List Value) (n j : Nat) (u : Value) : Obj.mapSeq (·.setIfInBounds j u) { cls := .type "list", data := .seq its.toArray n } = { cls := .type "list", data := .seq (its.set j u).toArray n } := by
  simp [Obj.mapSeq]
theorem Inv.lst {pins : List (Addr × Obj)} {σ : St} {H : Hp} {s : Shared} {p : Addr} {xs : List V} (I : Inv X pins σ H s) (h : H p = some (.lst xs)) :
    ∃ (its : List Value) (n : Nat), Vals xs its ∧ s.heap.get? p = some { cls := .type "list", data := .seq its.toArray n } ∧ xs.length ≤ sizeLine := by
  obtain ⟨z, its, n, r, e⟩ := I.hok p _ h
  exact ⟨its, n, r, e, z⟩
/-- the list at p is written by an update of its object -/
theorem Inv.lstUpd {pins : List (Addr × Obj)} {σ : St} {H : Hp} {s : Shared} {p : Addr} {xs ys : List V} {its its' : List Value} {n n' : Nat} {f : Obj → Obj} (I : Inv X pins σ H s) (h : H p = some (.lst xs))
    (ho : s.heap.get? p = some { cls := .type "list", data := .seq its.toArray n }) (hf : f { cls := .type "list", data := .seq its.toArray n } = { cls := .type "list", data := .seq its'.toArray n' }) (r : Vals ys its') (hz : ys.length ≤ sizeLine) (t : Nat) :
    Inv X pins σ (upd H p (.lst ys)) { s with heap := s.heap.update p f, toks := t } := by
  have e : (s.heap.update p f).get? p = some { cls := .type "list", data := .seq its'.toArray n' } := by
    rw [Heap.get?_update_self f ho (by rw [hf] <;> rfl), hf]
  refine I.write (x := p) (e := p) (by rw [h]; trivial) (.inl rfl) (fun b u hb q => (Heap.get?_update_other _ _ (Ne.symm hb)).trans q) ⟨_, e⟩ ?_
  exact ⟨hz, its', n', r, e⟩
inductive rSetL (o : V) (i : V) (v : V) (H : Hp) (Q : Hp → Prop) : Prop
  | mk : ∀ p xs k j, (o = .ref p) → (i = .int k) → (H p = some (.lst xs)) → (ixN xs.length k = some j) → (Q (upd H p (.lst (xs.set j v)))) → rSetL o i v H Q
theorem set_list : PSet X rSetL := by
  intro pins s σ H o i v ov iv u Q I ro ri rv h
  obtain ⟨p, xs, k, j, rfl, rfl, hp, hj, q⟩ := h
  cases ro
  obtain ⟨t, rfl⟩ := ri
  obtain ⟨its, n, r, ho, hz⟩ := I.lst hp
  obtain ⟨h1, h2, h3, h4⟩ := ixN_seq hj
  have hl := r.length
  have hn := line63
  have I' : Inv X pins σ (upd H p (.lst (xs.set j v))) { s with heap := s.heap.update p (Obj.mapSeq (·.setIfInBounds j u)) } :=
    I.lstUpd hp ho (mapSeq_set its n j u) (r.set rv j) (by rw [List.length_set]; exact hz) s.toks
  by_cases h0 : 0 ≤ k
  · have hk : k.toNat = j := by
      rw [seqIndex_of h0 h4] at h1
      exact Option.some.inj h1
    exact PySem.W.ki_setAt ho h0 (by omega) (by rw [List.size_toArray, ← hl]; exact h4) (by rw [hk]; exact ⟨_, I', q⟩)
  · have hk : (k + (its.toArray.size : Int)).toNat = j := by
      rw [seqIndex_neg (by omega) h3] at h1
      rw [List.size_toArray, ← hl]
      exact Option.some.inj h1
    exact PySem.W.ki_setBack ho (by omega) (by rw [List.size_toArray, ← hl]; exact h3) (by omega) (by rw [hk]; exact ⟨_, I', q⟩)

theorem slice_bounds (lo hi : Option Int) (n : Nat) : (sliceBounds lo hi none n).1 = ((HT.sIx n 0 lo : Nat) : Int) ∧ (sliceBounds lo hi none n).2.1 = ((HT.sIx n n hi : Nat) : Int) ∧ (sliceBounds lo hi none n).2.2 = 1 := by
  refine ⟨?_, ?_, rfl⟩
  · cases lo with
    | none => simp [sliceBounds, HT.sIx]
    | some i =>
      simp only [sliceBounds, HT.sIx, Option.getD_none, show (1 : Int) > 0 by decide, if_true]
      by_cases h : i < 0
      · simp only [h, if_true] <;> omega
      · simp only [h, if_false] <;> omega
  · cases hi with
    | none => simp [sliceBounds, HT.sIx]
    | some i =>
      simp only [sliceBounds, HT.sIx, Option.getD_none, show (1 : Int) > 0 by decide, if_true]
      by_cases h : i < 0
      · simp only [h, if_true] <;> omega
      · simp only [h, if_false] <;> omega
theorem slicePick_cut (its : List Value) (lo hi : Option Int) : slicePick its.toArray lo hi none = ((its.drop (HT.sIx its.length 0 lo)).take (HT.sIx its.length its.length hi - HT.sIx its.length 0 lo)).toArray := by
  obtain ⟨h1, h2, h3⟩ := slice_bounds lo hi its.toArray.size
  unfold slicePick
  rw [h1, h2, h3]
  simp only [sliceRange_one, pick_run, List.size_toArray] <;> rfl
/-- xs[lo:hi] of a list: a new list -/
inductive rSlL (K : PySem.W.Frag) (x : V) (lo : Option Int) (hi : Option Int) (H : Hp) (Q : VK) : Prop
  | mk : ∀ a xs, (x = .ref a) → (SqL K H a xs) → (∀ p, H p = none → Q (.ref p) (upd H p (.lst (cutV xs lo hi)))) → rSlL K x lo hi H Q
theorem sl_list : SlR X (rSlL X.K) := by
  intro pins s σ H x v vl vu lo hi sl Q I rx hs pl pu h
  obtain ⟨a, xs, rfl, hx, q⟩ := h
  cases rx
  obtain ⟨its, r, ht, hz⟩ := I.list hx
  have hlen := r.length
  refine ⟨"list", _, slot_list_getitem.lookup, ht.isList.typeIs, ?_⟩
  refine wpAny_getItem_list_slice ht.isList hs pl pu .none (by simp) ?_ (by rw [List.size_toArray] <;> omega)
  rw [slicePick_cut, ← hlen]
  refine ⟨.ref s.heap.objs.size, _, I.laid (t' := s.toks) (o := .lst (cutV xs lo hi)) (fun b ob q => Heap.get?_push_of_some _ q) (Nat.le_refl _) ?_, rfl, q _ (I.hok.fresh (Nat.le_refl _))⟩
  exact ⟨Nat.le_trans (cutV_length xs lo hi) hz, _, 0, (r.drop (HT.sIx xs.length 0 lo)).take (HT.sIx xs.length xs.length hi - HT.sIx xs.length 0 lo), Heap.get?_push_size _ rfl⟩

inductive call_len_seqY (K : PySem.W.Frag) (xs : List V) (H : Hp) (Q : VK) : Prop
  | mk : ∀ p ys, (xs = [.ref p]) → ((SqL K H p ys ∨ SqT K H p ys)) → (Q (.int ys.length) H) → call_len_seqY K xs H Q
theorem call_len_seq : CallR X (.builtin "len") (call_len_seqY X.K) := by
  intro pins s σ H xs us Q I r h
  obtain ⟨p, ys, rfl, hq, q⟩ := h
  obtain ⟨u, rfl, rx⟩ := vals1 r
  cases rx
  have hn := line63
  rcases hq with hq | hq
  · obtain ⟨its, r', pl, hz⟩ := I.list hq
    have hlen := r'.length
    exact Calls.call_len_list pl.isList (by simp only [List.size_toArray] <;> omega) ⟨.int ys.length, H, I.tok _, ⟨s.toks + 1, by rw [List.size_toArray, hlen]⟩, q⟩
  · obtain ⟨its, r', pl, hz⟩ := I.tuple hq
    have hlen := r'.length
    exact len_tuple pl (by simp only [List.size_toArray] <;> omega) ⟨.int ys.length, H, I.tok _, ⟨s.toks + 1, by rw [List.size_toArray, hlen]⟩, q⟩
inductive call_len_strY (xs : List V) (H : Hp) (Q : VK) : Prop
  | mk : ∀ z, (xs = [.str z]) → (z.length ≤ sizeLine) → (Q (.int z.length) H) → call_len_strY xs H Q
theorem call_len_str : CallR X (.builtin "len") call_len_strY := by
  intro pins s σ H xs us Q I r h
  obtain ⟨z, rfl, hz, q⟩ := h
  obtain ⟨u, rfl, t, rfl⟩ := vals1 r
  have hn := line63
  exact len_str (by omega) ⟨.int z.length, H, I.tok _, ⟨_, rfl⟩, q⟩
theorem CallR.or {f : Value} {r r' : List V → Hp → VK → Prop} (h : CallR X f r) (h' : CallR X f r') : CallR X f (fun xs H Q => r xs H Q ∨ r' xs H Q) := by
  intro pins s σ H xs us Q I rs q
  rcases q with q | q
  · exact h pins s σ H xs us Q I rs q
  · exact h' pins s σ H xs us Q I rs q
/-- the value is of that builtin type -/
def tyV (K : PySem.W.Frag) (T : String) (x : V) (H : Hp) : Prop := match x with
  | .str _ => T = "str"
  | .int _ => T = "int"
  | .ref p => (T = "list" ∧ ∃ xs, SqL K H p xs) ∨ (T = "tuple" ∧ ((∃ o, K.lookup p = some o ∧ o.cls = .type "tuple" ∧ o.dict = none) ∨ ∃ xs, H p = some (.tup xs))) ∨
      (T = "dict" ∧ ((∃ kvs, H p = some (.dK kvs)) ∨ ∃ kvs, H p = some (.dT kvs))) ∨ (T = "set" ∧ ∃ S n, H p = some (.set S n))
  | _ => False
theorem tyV_is {pins : List (Addr × Obj)} {σ : St} {H : Hp} {s : Shared} {T : String} {x : V} {v : Value} (I : Inv X pins σ H s) (r : RelV x v) (ty : tyV X.K T x H) :
    s.TypeIs v T ∧ ∀ a, v = .ref a → ∃ ob, s.heap.get? a = some ob ∧ ob.dict = none := by
  cases x with
  | str z =>
    obtain ⟨t, rfl⟩ := r
    cases (show T = "str" from ty)
    exact ⟨typeIs_str s z t, fun _ e => nomatch e⟩
  | int i =>
    obtain ⟨t, rfl⟩ := r
    cases (show T = "int" from ty)
    exact ⟨typeIs_int s i t, fun _ e => nomatch e⟩
  | ref p =>
    cases r
    rcases ty with ⟨rfl, xs, hq⟩ | ⟨rfl, ⟨o, hk, hc, hd⟩ | ⟨xs, hq⟩⟩ | ⟨rfl, hk⟩ | ⟨rfl, S, n, hk⟩
    · obtain ⟨its, _, pl, _⟩ := I.list hq
      refine ⟨pl.isList.typeIs, fun a e => ?_⟩
      cases e
      obtain ⟨o, n, e, c, hd, _⟩ := pl
      exact ⟨o, e, hd⟩
    · refine ⟨⟨o, I.kIn p o hk, hc⟩, fun a e => ?_⟩
      cases e
      exact ⟨o, I.kIn _ o hk, hd⟩
    · obtain ⟨_, its, _, o, e, c, n, _, hd⟩ := (show ObjOk X.prog X.w H s.heap p (.tup xs) from I.hok p _ hq)
      refine ⟨⟨o, e, c⟩, fun a e2 => ?_⟩
      cases e2
      exact ⟨o, e, hd⟩
    · have z : ∃ o, s.heap.get? p = some o ∧ o.ExactDict := by
        rcases hk with ⟨kvs, hk⟩ | ⟨kvs, hk⟩
        · obtain ⟨_, _, _, _, o, _, _, e, ex, _⟩ := I.hok p _ hk
          exact ⟨o, e, ex⟩
        · obtain ⟨_, _, _, _, o, _, _, e, ex, _⟩ := I.hok p _ hk
          exact ⟨o, e, ex⟩
      obtain ⟨o, e, ex⟩ := z
      refine ⟨⟨o, e, ex.1⟩, fun a e2 => ?_⟩
      cases e2
      exact ⟨o, e, ex.2.1⟩
    · obtain ⟨o, _, _, _, e, ex, _⟩ := I.hok p _ hk
      refine ⟨⟨o, e, ex.1⟩, fun a e2 => ?_⟩
      cases e2
      exact ⟨o, e, ex.2.1⟩
  | _ => exact False.elim ty
inductive tBMY (K : PySem.W.Frag) (T : String) (r : V → List V → Hp → VK → Prop) (t : TA) (σ : St) (Q : VK) (x : V) (H1 : Hp) : Prop
  | mk : (tyV K T x H1) → (t σ H1 fun xs H2 => r x xs H2 Q) → tBMY K T r t σ Q x H1
def tBM (K : PySem.W.Frag) (T : String) (r : V → List V → Hp → VK → Prop) (to : TE) (t : TA) : TE := fun σ H Q => to σ H fun x H1 => tBMY K T r t σ Q x H1
variable {o e : Expr} {es : List Expr} {to : TE} {t : TA} {name : Str} {apos cpos : Pos} {T id : String} {r : V → List V → Hp → VK → Prop}
theorem pe_bm (pa : PlainAttrs T) (slot : Slot T name id) (hty : typeOf (.builtin id) = pure (.type "method_descriptor")) (hm : MtR X id r) (ho : PE X o to) (ha : PA X (e :: es) t)
    (hbase : attributeBase o name X.env (eval o X.env) = eval o X.env := by rfl)
    (hfew : ((backTo cpos (starEach (e :: es) X.env)).all (fun x => !x.1) && (backToKw cpos (keywordEach [] X.env)).all (fun x => x.1.isSome)
      && decide ((e :: es).length + ([] : List Keyword).length + (if ([] : List Keyword).isEmpty then 0 else 1) < 30)) = true := by rfl)
    (hline : (apos.endLine == cpos.line) = true := by rfl) (hs : starEach (e :: es) X.env = (false, eval e X.env) :: starEach es X.env := by rfl) (hplain : (backTo cpos (starEach es X.env)).any (·.1) = false := by rfl) :
    PE X (.Call (.Attribute o name apos) (e :: es) [] cpos) (tBM X.K T r to t) := by
  intro pins s σ H Q I h
  refine wpAny_Call_method_late hbase hfew hline rfl (thn (ho pins s σ H _ I h) fun v s1 ⟨x, H1, I1, r1, ty, q1⟩ => ?_)
  obtain ⟨h1, h2⟩ := tyV_is I1 r1 ty
  refine ⟨T, id, pa, slot, hty, h1, h2, ?_⟩
  have hA := ha cpos pins s1 σ H1 _ I1 q1
  rw [hs] at hA ⊢
  refine Calls.callWith_builtin (by show (false || (backTo cpos (starEach es X.env)).any (·.1)) = false; rw [hplain] <;> rfl) (Calls.evalArgs_plain ?_)
  exact thn hA fun us s2 ⟨vs, H2, I2, r2, q2⟩ => hm pins s2 σ H2 x vs v us Q I2 r1 r2 q2
end
end L2

namespace L2
open PySem PySem.Spec PyProof.Rows

def MtM (X : Cx) (id : String) (r : V → List V → Hp → VK → Prop) : Prop :=
  ∀ (pins : List (Addr × Obj)) (s : Shared) (σ : St) (H : Hp) (x : V) (xs : List V) (v : Value) (us : List Value) (Q : VK), Inv X pins σ H s → RelV x v → Vals xs us → r x xs H Q →
    wpAny (model X.prog X.w) X.A (call (.builtin id) (v :: us)) (EP X pins σ Q) X.xe s

theorem Vals.one : ∀ {x : V} {us : List Value}, Vals [x] us → ∃ u, us = [u] ∧ RelV x u
  | _, _, .cons r .nil => ⟨_, rfl, r⟩
theorem Vals.two : ∀ {x y : V} {us : List Value}, Vals [x, y] us → ∃ u v, us = [u, v] ∧ RelV x u ∧ RelV y v
  | _, _, _, .cons r (.cons q .nil) => ⟨_, _, rfl, r, q⟩
theorem Vals.zero : ∀ {us : List Value}, Vals [] us → us = []
  | _, .nil => rfl
theorem Vals.dropLast {xs : List V} {us : List Value} (h : Vals xs us) : Vals xs.dropLast us.dropLast := by
  induction h with
  | nil => exact .nil
  | cons r t ih =>
    cases t with
    | nil => exact .nil
    | cons q t' => exact .cons r ih
theorem Vals.reverse {xs : List V} {us : List Value} (h : Vals xs us) : Vals xs.reverse us.reverse := by
  induction h with
  | nil => exact .nil
  | cons r t ih => rw [List.reverse_cons, List.reverse_cons]; exact Vals.append ih (.cons r .nil)
section
variable {X : Cx} {pins : List (Addr × Obj)} {σ : St} {H : Hp} {s : Shared} {l b : Addr} {xs ys zs : List V}

theorem Inv.lset {its its' : List Value} {n : Nat} {f : Array Value → Array Value} {t' : Nat} (I : Inv X pins σ H s) (hH : H l = some (.lst xs))
    (e : s.heap.get? l = some { cls := .type "list", data := .seq its.toArray n }) (hf : f its.toArray = its'.toArray) (hv : Vals ys its') (hz : ys.length ≤ sizeLine) :
    Inv X pins σ (upd H l (.lst ys)) { s with heap := s.heap.update l (Obj.mapSeq f), toks := t' } := by
  have q := PySem.IsL.update e f
  rw [hf] at q
  refine I.write (x := l) (e := l) (by rw [hH]; exact trivial) (.inl rfl) (fun b' u hb hu => (Heap.get?_update_other s.heap (Obj.mapSeq f) (Ne.symm hb)).trans hu) ⟨_, q⟩ ?_
  exact ⟨hz, its', _, hv, q⟩
theorem Inv.lnew {its : List Value} {t' : Nat} (I : Inv X pins σ H s) (hv : Vals ys its) (hz : ys.length ≤ sizeLine) :
    Inv X pins σ (upd H s.heap.objs.size (.lst ys)) { s with heap := s.heap.push { cls := .type "list", data := .seq its.toArray }, toks := t' } :=
  I.laid (fun _ _ q => Heap.get?_push_of_some _ q) (Nat.le_refl _) ⟨hz, its, 0, hv, Heap.get?_push_size _ rfl⟩
theorem Inv.fresh (I : Inv X pins σ H s) : H s.heap.objs.size = none := I.hok.fresh (Nat.le_refl _)
theorem Inv.lstM (I : Inv X pins σ H s) (hH : H l = some (.lst xs)) : xs.length ≤ sizeLine ∧ ∃ (its : List Value) (n : Nat), Vals xs its ∧ xs.length = its.length ∧ s.heap.get? l = some { cls := .type "list", data := .seq its.toArray n } := by
  obtain ⟨z, its, n, r, e⟩ := I.hok l _ hH
  exact ⟨z, its, n, r, r.length, e⟩

end

section
variable {X : Cx}

inductive rAppend (x : V) (vs : List V) (H : Hp) (Q : VK) : Prop
  | mk : ∀ l xs y, (x = .ref l) → (vs = [y]) → (H l = some (.lst xs)) → (xs.length < sizeLine) → (Q .non (upd H l (.lst (xs ++ [y])))) → rAppend x vs H Q
theorem mt_append : MtM X "list.append" rAppend := by
  intro pins s σ H x vs v us Q I rx rv h
  obtain ⟨l, xs, y, rfl, rfl, hH, hz, q⟩ := h
  cases rx
  obtain ⟨u, rfl, ru⟩ := rv.one
  obtain ⟨z, its, n, r, hl, e⟩ := I.lstM hH
  refine call_meets F.slot_list_append ⟨_, e, rfl⟩ F.entry_list_append (F.args_list_append_2 _ _) (PySem.list_append l its.toArray n u (by rw [List.size_toArray]; omega)) ⟨e, ?_⟩
  refine ⟨.non, _, I.lset (its' := its ++ [u]) hH e (by simp) (r.append (.cons ru .nil)) ?_, rfl, q⟩
  rw [List.length_append, List.length_singleton]
  omega

inductive rCat (x : V) (y : V) (H : Hp) (Q : VK) : Prop
  | mk : ∀ l b xs zs, (x = .ref l) → (y = .ref b) → (H l = some (.lst xs)) → (H b = some (.lst zs)) → (xs.length + zs.length ≤ sizeLine) → (∀ p, H p = none → Q (.ref p) (upd H p (.lst (xs ++ zs)))) → rCat x y H Q
theorem op_cat : OpR X (binaryOp .Add) rCat := by
  intro pins s σ H x y v u Q I rx ry h
  obtain ⟨l, b, xs, zs, rfl, rfl, hH, hB, hz, q⟩ := h
  cases rx
  cases ry
  obtain ⟨z, its, n, r, hl, e⟩ := I.lstM hH
  obtain ⟨z2, its2, n2, r2, hl2, e2⟩ := I.lstM hB
  refine PySem.P.add_list e e2 ?_ (by rw [List.size_toArray, List.size_toArray]; omega)
  have ea : its.toArray ++ its2.toArray = (its ++ its2).toArray := by simp
  rw [ea]
  exact ⟨.ref _, _, I.lnew (t' := s.toks) (r.append r2) (by rw [List.length_append]; omega), rfl, q _ I.fresh⟩
end

section
variable {prog : Program} {w : World} {A : Around} {E : Value → Shared → Prop} {s : Shared}
end

section
variable {X : Cx}
end
end L2

namespace Att
open PySem PySem.W PySem.Calls PyProof.Rows

theorem ints_of_wellAll {P : Params} {h : Heap} : ∀ (ns : List Int) (vs : List Value), WellAll P h vs (ns.map WData.int) → IntsAre vs ns := by
  intro ns
  induction ns with
  | nil =>
    intro vs w
    rw [List.map_nil] at w
    cases w
    exact .nil
  | cons n ns ih =>
    intro vs w
    rw [List.map_cons] at w
    cases w with
    | cons a b =>
      cases a
      exact .cons _ _ (ih _ b)

theorem script_of {l : OpenLaw} {n : Nat} (hn : l.most = some n) {P : Params} {h : Heap} {args : List WData} {vals : List Value}
    (hpre : l.row.toRowW.claim.pre args = true) (hwl : WellAll P h vals args) :
    ∃ a vs ns, vals = [Value.ref a] ∧ args = [WData.list (ns.map WData.int)] ∧ h.get? a = some { cls := .type "list", data := .seq vs.toArray } ∧ IntsAre vs ns ∧ ns.length ≤ n := by
  have hsh : WShape.hasAll [] args [.list .int] = true := (pre_splitW hpre).1
  have hc : l.pre.holds [] { args := args } = true := (pre_splitW hpre).2
  obtain ⟨d, r, rfl, h1, h2⟩ := hasAllW_cons hsh
  obtain rfl := hasAllW_nil h2
  obtain ⟨xs, rfl, h3⟩ := hasW_list h1
  obtain ⟨ns, rfl⟩ := items_int h3
  have hlen : ns.length ≤ n := by
    unfold OpenLaw.pre at hc
    have h4 : (WTm.not (.lt (.lit (.int (n : Int))) (.len (.arg 0)))).holds [] { args := [.list (ns.map .int)] } = true := by
      have h4 := (holds_andW hc).1
      rw [hn] at h4
      exact h4
    have h5 := condW_of h4 (w_not (w_lt w_lit (w_len_list (w_arg rfl))))
    rw [List.length_map] at h5
    refine Nat.le_of_not_lt fun q => ?_
    have q' : (n : Int) < ((ns.length : Nat) : Int) := by omega
    first
      | (rw [decide_eq_true q'] at h5; exact absurd h5 (by decide))
      | (simp at h5; omega)
  cases hwl with
  | cons w1 w2 =>
    cases w2
    cases w1 with
    | list ho hall => exact ⟨_, _, ns, rfl, rfl, ho, ints_of_wellAll ns _ hall, hlen⟩

theorem post_true (l : OpenLaw) (args : List WData) : l.row.toRowW.claim.post args (.bool true) args = true :=
  postW_of (r := l.row.toRowW) (X := (true == true))
    (show WShape.has [] (.bool true) .bool = true by first | rfl | decide | simp [WShape.has, WShape.arms, WShape.armsAll])
    (show (WTm.eq .res (.lit (.bool true))).value [] { args := args, res := some (.bool true), after := args } = some (.bool (true == true)) from w_eq_bool (w_res rfl) w_lit) rfl

/-- the same from a codeAny of the CALL (for a layer whose function contracts speak of calls) -/
theorem attach_call {l : OpenLaw} {n : Nat} {q : Program} {loose : List Str} {XP : (Str → Option Value) → Heap → Prop} {YP : World → Heap → Prop} {d : DefRec}
    (hn : l.most = some n) (hdf : d.params.defaults = [])
    (call : ∀ (w : World) (s₀ s₁ : Shared) (mg mb : Str → Option Value) (fa : Addr) (o : Obj) (pm cd doc : Value) (a : Addr) (vs : List Value) (ns : List Int),
      Ground q loose [] XP w s₀ mg mb s₁.heap → YP w s₁.heap →
      s₁.heap.get? fa = some o → o.data = .func (docDef d.name d.params d.body d.scope pm cd doc) → s₁.heap.CodeRec cd d.name → mg d.name = some (.ref fa) →
      s₁.heap.get? a = some { cls := .type "list", data := .seq vs.toArray } → IntsAre vs ns → ns.length ≤ n → s₁.gens = #[] →
      codeAny (model l.prog w) callerA (.call (.ref fa) ⟨[.ref a], []⟩) (fun r s' => r = .ok (.ret (.bool true)) ∧ OldK s₁.heap s'.heap ∧ s'.os = s₁.os ∧ AllBare s'.gens) s₁) :
    WalkO q loose XP YP l.row.toRowW d [] (fun f vs => PySem.call f vs) := by
  intro w s₀ s₁ mg mb G Y fa o pm cd doc dV kV ho hd hcd hD hmg hg args vals as hpre hlay hrd hwl hlo
  obtain rfl : dV = .none := Dflts.none hD hdf
  obtain rfl : kV = .none := Dflts.noKw hD
  obtain ⟨a, vs, ns, rfl, rfl, hobj, hints, hlen⟩ := script_of hn hpre hwl
  refine enter_call (codeAny_mono (call w s₀ s₁ mg mb fa o pm cd doc a vs ns G Y ho (fd_plain hd) hcd hmg hobj hints hlen hg) fun r s' hq => ?_)
  obtain ⟨rfl, h2, h3, h4⟩ := hq
  exact ⟨.inl ⟨.bool true, .bool true, [], rfl, fun _ => rfl, .bool true, post_true l _, fun _ => ⟨List.Pairwise.nil, fun _ hm => (nomatch hm)⟩⟩, h2, h3, h4⟩

section
variable {prog : Program} {w : World} {A : Around} {E : Value → Shared → Prop} {s : Shared} {K : Frag}

end
end Att

namespace L2
open PySem PySem.Spec PyProof.Rows

theorem vals_ints : ∀ {vs : List Value} {ns : List Int}, IntsAre vs ns → Vals (ns.map V.int) vs
  | _, _, .nil => .nil
  | _, _, .cons n t h => .cons ⟨t, rfl⟩ (vals_ints h)

/-- nothing is tracked but the script, known to the object (or it is an object of the module) -/
def Only (H : Hp) : Prop := ∀ b, H b = none ∨ ∃ o xs, H b = some (.frz o (.lst xs))

/-- THE HEAD: the law's promise, at the heap behind the top. F, the promise of the law's def, may use that base is part of the heap (so K.In base, base.Ns mainGlobals mg stand in Mod) -/
theorem law_call {P : Program} {w : World} {K : PySem.W.Frag} {mg mb : Str → Option Value} {CX : CXT} {k : Nat} {fa a : Addr} {fd : FuncData} {x : Str} {sp : Sp} {s₁ : Shared} {vs : List Value} {ns : List Int}
    (KX : K.In s₁.heap) (hns : s₁.heap.Ns mainGlobals mg) (hb : s₁.heap.Ns builtinsNs mb) (hbb : ∀ x : Str, x ≠ "__name__" → mb x = bootBuiltins x) (hlim : s₁.heap.NoLimit) (hg : s₁.gens = #[])
    (ha : s₁.heap.get? a = some { cls := .type "list", data := .seq vs.toArray }) (hi : IntsAre vs ns) (hl : ns.length ≤ sizeLine) (hr : Room k callerA)
    (F : ∀ base : Heap, K.In base → base.Ns mainGlobals mg → FnOk P w K mg base CX k fa fd [x] sp) (hbind : ∀ (s : Shared) (u : Value), BindsTo s fd ⟨[u], []⟩ [(x, u)])
    (hsp : ∀ H : Hp, Only H → SqL K H a (ns.map V.int) → sp [.ref a] H (fun v _ => v = .bl true) fun _ _ _ => False)
    (hCX : ∀ H e s', CX [] H s₁ (fun _ _ _ => False) e s' → False) :
    codeAny (model P w) callerA (.call (.ref fa) ⟨[.ref a], []⟩) (fun r s' => r = .ok (.ret (.bool true)) ∧ OldK s₁.heap s'.heap ∧ s'.os = s₁.os ∧ AllBare s'.gens) s₁ := by
  have rv := vals_ints hi
  have lenV := hi.length
  -- from an abstract heap in which nothing but the script may be tracked
  have core : ∀ H : Hp, Only H → SqL K H a (ns.map V.int) → HOk P w H s₁.heap → (∀ b, H b ≠ none → b = a) → (H a ≠ none → K.lookup a = none) →
      codeAny (model P w) callerA (.call (.ref fa) ⟨[.ref a], []⟩) (fun r s' => r = .ok (.ret (.bool true)) ∧ OldK s₁.heap s'.heap ∧ s'.os = s₁.os ∧ AllBare s'.gens) s₁ := by
    intro H hO hS hok hA hK
    have base_of : ∀ {b : Addr} {o : Obj}, s₁.heap.get? b = some o → H b = none → (hidT s₁.heap H).get? b = some o := fun e n => hidT_get e n
    have noA : ∀ {b : Addr} {o : Obj} {es : Array DictEntry} {ep : Nat}, s₁.heap.get? b = some o → o.data = .dict es ep → H b = none := fun {b o es ep} e d => by
      cases q : H b with
      | none => rfl
      | some u =>
        have e' : b = a := hA b (by rw [q]; simp)
        subst e'
        rw [ha] at e; cases e
        have d' : Data.seq vs.toArray _ = Data.dict es ep := d
        cases d'
    have nsK : ∀ {b : Addr} {m : Str → Option Value}, s₁.heap.Ns b m → (hidT s₁.heap H).Ns b m := fun {b m} ⟨o, es, ep, e, d, r⟩ => ⟨o, es, ep, base_of e (noA e d), d, r⟩
    have hKb : K.In (hidT s₁.heap H) := fun b o e => base_of (KX b o e) (by
      cases q : H b with
      | none => rfl
      | some u =>
        have e' : b = a := hA b (by rw [q]; simp)
        subst e'
        rw [hK (by rw [q]; simp)] at e; cases e)
    have hM : Mod K mg (hidT s₁.heap H) := ⟨hKb, nsK hns, ⟨mb, nsK hb, hbb⟩, let ⟨mc, h1, h2⟩ := hlim; ⟨mc, nsK h1, h2⟩⟩
    have e0 : Env0 P w K mg (hidT s₁.heap H) callerA [] s₁ H := ⟨rfl, hM, fun b o e => of_hidT e, Nat.le_of_eq (hidT_size _ _), trivial, fun b hb => absurd (show b ∈ ([] : List Addr) from hb) (by simp), hok, .of_eq hg⟩
    refine codeAny_mono ((F _ hKb (nsK hns)).run callerA [] s₁ H ⟨[.ref a], []⟩ [.ref a] [.ref a] _ _ hr e0 (hbind s₁ (.ref a)) (.cons rfl .nil) (hsp H hO hS)) fun r s' h => ?_
    cases r with
    | error e => exact (hCX H e s' h).elim
    | ok fl =>
      cases fl with
      | next => exact False.elim h
      | brk => exact False.elim h
      | cont => exact False.elim h
      | ret u =>
        obtain ⟨v, H', os, bare, un, hok', r', q⟩ := h
        have q' : v = .bl true := q
        subst q'
        obtain rfl : u = Value.bool true := r'
        refine ⟨rfl, OldK.of_keep fun b o e => ?_, os, bare⟩
        cases q : H b with
        | none => exact un.keep b o e q (by intro z; exact absurd (show b ∈ ([] : List Addr) from z) (by simp)) (by simp)
        | some u =>
          rcases hO b with z | ⟨ob, xs, z⟩
          · rw [q] at z; cases z
          · have z2 := un.frzs b ob _ z
            obtain ⟨e1, _⟩ := hok b _ z
            obtain ⟨e2, _⟩ := hok' b _ z2
            rw [e] at e1; cases e1
            exact e2
  cases hk : K.lookup a with
  | some o =>
    -- the script is one of the module's own objects
    have e := KX a o hk
    rw [ha] at e
    cases e
    refine core (fun _ => none) (fun _ => .inl rfl) (.inr ⟨_, vs.toArray, _, hk, rfl, rfl, rfl, by rw [List.size_toArray, lenV]; exact hl, by simpa using rv⟩) (fun b u z => by have z' : (none : Option HO) = some u := z; cases z') (fun b z => absurd rfl z) fun z => absurd rfl z
  | none =>
    refine core (fun b => if b = a then some (.frz { cls := .type "list", data := .seq vs.toArray } (.lst (ns.map V.int))) else none) (fun b => ?_) (.inl (.inr ⟨{ cls := .type "list", data := .seq vs.toArray }, if_pos rfl⟩)) (fun b u z => ?_) (fun b z => ?_) fun _ => hk
    · by_cases hb : b = a
      · exact .inr ⟨_, _, if_pos hb⟩
      · exact .inl (if_neg hb)
    · by_cases hb : b = a
      · have z' := (if_pos hb).symm.trans z
        cases z'
        subst hb
        exact ⟨ha, by rw [List.length_map]; exact hl, vs, _, rv, ha⟩
      · have z' := (if_neg hb).symm.trans z
        cases z'
    · by_cases hb : b = a
      · exact hb
      · exact absurd (if_neg hb) z
end L2

namespace L2
open PySem PySem.Spec PyProof.Rows

/-- the goal that k_head leaves (case hc), from the law's promise. F gives the function object fd (K's own) once, then the promise over every base -/
theorem walk_of {l : PySem.W.OpenLaw} {n k : Nat} {q : Program} {loose : List Str} {XP : (Str → Option Value) → Heap → Prop} {YP : World → Heap → Prop} {d : DefRec} {K : Params → PySem.W.Frag} {CX : World → CXT} {sp : World → Sp} {x : Str}
    (hn : l.most = some n) (hn2 : n ≤ sizeLine) (hdf : d.params.defaults = []) (hr : Room k callerA)
    (hY : ∀ (w : World) (h : Heap), YP w h → (K w.params).In h)
    (F : ∀ (w : World) (mg : Str → Option Value) (fa : Addr) (h : Heap), (K w.params).In h → h.Ns mainGlobals mg → mg d.name = some (.ref fa) →
      ∃ fd : FuncData, (∀ (s : Shared) (u : Value), BindsTo s fd ⟨[u], []⟩ [(x, u)]) ∧
        ∀ base : Heap, (K w.params).In base → base.Ns mainGlobals mg → FnOk l.prog w (K w.params) mg base (CX w) k fa fd [x] (sp w))
    (hsp : ∀ (w : World) (H : Hp) (a : Addr) (ns : List Int), ns.length ≤ n → Only H → SqL (K w.params) H a (ns.map V.int) → sp w [.ref a] H (fun v _ => v = .bl true) fun _ _ _ => False)
    (hCX : ∀ (w : World) (H : Hp) (s : Shared) (e : Value) (s' : Shared), CX w [] H s (fun _ _ _ => False) e s' → False) :
    PySem.W.WalkO q loose XP YP l.row.toRowW d [] (fun f vs => PySem.call f vs) := by
  refine Att.attach_call hn hdf fun w s₀ s₁ mg mb fa o pm cd doc a vs ns G Y ho hd hcd hmg hobj hints hlen hg => ?_
  have KX := hY w _ Y
  obtain ⟨fd, hb, hF⟩ := F w mg fa _ KX G.T.g hmg
  exact law_call KX G.T.g G.T.b G.T.builtins G.T.nolimit hg hobj hints (Nat.le_trans hlen hn2) hr hF hb (fun H hO hS => hsp w H a ns hlen hO hS) fun H e s' => hCX w H s₁ e s'
end L2


namespace L2
open PySem PySem.Spec PyProof.Rows

def defArgs (s : Stmt) : Arguments := match s with
  | .FunctionDef _ a _ _ _ _ _ _ _ _ => a
  | _ => { posonlyargs := [], args := [], vararg := none, kwonlyargs := [], kw_defaults := [], kwarg := none, defaults := [] }
def defBody (s : Stmt) : List Stmt := match s with
  | .FunctionDef _ _ b _ _ _ _ _ _ _ => b
  | _ => []
def defScope (s : Stmt) : Scope := match s with
  | .FunctionDef _ _ _ _ _ _ sc _ _ _ => sc
  | _ => { kind := .function, names := [], isGenerator := false, isCoroutine := false }

abbrev CX0 : CXT := fun _ _ _ _ _ _ => False
abbrev E0 : XK := fun _ _ _ => False
theorem pass0 {X : Cx} : Passes CX0 X E0 := fun _ _ _ _ _ _ _ h => h.elim

structure Fun (K : PySem.W.Frag) (x qual : Str) (st : Stmt) (f : Addr) (fd : FuncData) : Prop where
  ex : ∃ (oc : Value) (od : Option Addr) (kV doc pm : Value) (an : Option Addr) (cdv ct : Value) (osl : Array (Option Value)),
    fd = PySem.W.fnOf x qual (defArgs st) (defBody st) (defScope st) .none kV doc pm an cdv ct ∧ K.lookup f = some ⟨oc, od, .func fd, osl⟩ ∧ PySem.W.codeIn K cdv qual = true
  kp : PySem.W.keepIn K (.ref f) = true
section
variable {P : Program} {w : World} {K : PySem.W.Frag} {mg : Str → Option Value} {base : Heap}
/-- THE RULE for a def: its body as a term of rules, and the reading of that term -/
theorem Fun.ok {x qual : Str} {st : Stmt} {f : Addr} {fd : FuncData} {N ps : List Str} {k : Nat} {sp : Sp} (F : Fun K x qual st f fd) (S : FnScope N ps (defScope st)) (len : ∀ vs H Q E, sp vs H Q E → vs.length = ps.length)
    (hbody : ∀ (cdv : Value) (A : Around) (outer : List Env) (s : Shared) (H : Hp) (vs : List V) (Q : VK) (E : XK), Room k (A.deeper (envOfC qual (defScope st) s.heap.objs.size f cdv)) → sp vs H Q E →
      ∃ t, PSs (cxOf CX0 P w K mg base N qual (defScope st) f cdv A outer s H E).nox (defBody st) t ∧ t { nx := fun _ H' => Q .non H', rt := Q } (start N vs) H) : FnOk P w K mg base CX0 (k + 1) f fd ps sp := by
  obtain ⟨oc, od, kV, doc, pm, an, cdv, ct, osl, rfl, lk, hcd⟩ := F.ex
  refine fn_of lk hcd S len fun A outer s H vs Q E hr hsp => ?_
  obtain ⟨t, h, q⟩ := hbody cdv A outer s H vs Q E hr hsp
  exact ⟨t, h.nox, q⟩
/-- how its arguments bind (no defaults): h is «fun _ _ _ _ _ _ us hl => match us, hl with | [_, _], _ => rfl», one _ a parameter -/
theorem Fun.binds {x qual : Str} {st : Stmt} {f : Addr} {fd : FuncData} {ps : List Str} (F : Fun K x qual st f fd)
    (h : ∀ (kV doc pm : Value) (an : Option Addr) (cdv ct : Value) (us : List Value), us.length = ps.length → bindArgs (PySem.W.fnOf x qual (defArgs st) (defBody st) (defScope st) .none kV doc pm an cdv ct) ⟨us, []⟩ = pure (ps.zip us)) : Binds K fd ps [] := by
  obtain ⟨oc, od, kV, doc, pm, an, cdv, ct, osl, rfl, lk, hcd⟩ := F.ex
  exact .all (h kV doc pm an cdv ct)
theorem fun_mk {x qual : Str} {st : Stmt} {f : Addr} {oc : Value} {od an : Option Addr} {osl : Array (Option Value)} {kV doc pm cdv ct : Value} (l : K.lookup f = some ⟨oc, od, .func (PySem.W.fnOf x qual (defArgs st) (defBody st) (defScope st) .none kV doc pm an cdv ct), osl⟩)
    (c : PySem.W.codeIn K cdv qual = true) (k : PySem.W.keepIn K (.ref f) = true) : Fun K x qual st f (PySem.W.fnOf x qual (defArgs st) (defBody st) (defScope st) .none kV doc pm an cdv ct) := ⟨⟨oc, od, kV, doc, pm, an, cdv, ct, osl, rfl, l, c⟩, k⟩
end
theorem small1000 {n : Nat} (h : n ≤ 1000) : n < sizeLine := Nat.lt_of_le_of_lt h (by decide)

section
variable {X : Cx}
theorem pv (i : Nat) {x : Str} {pos : Pos} (hN : X.N[i]? = some x := by rfl) (hv : Vis X.env.scope x := by first | exact Or.inl rfl | exact Or.inr (Or.inl rfl) | exact Or.inr (Or.inr rfl)) (hd : (x == ("__debug__" : Str)) = false := by decide)
    (hcd : (x == ("__classdict__" : Str)) = false := by decide) : PE X (.Name x pos) (tVar i) := pe_var hN hv hd hcd
end

theorem iteF {A B : Prop} (h : B) : if false = true then A else B := by
  rw [if_neg Bool.false_ne_true]
  exact h
theorem iteT {A B : Prop} (h : A) : if true = true then A else B := by
  rw [if_pos rfl]
  exact h
theorem ite2 {c A B : Prop} [Decidable c] (h1 : c → A) (h2 : ¬ c → B) : if c then A else B := by
  by_cases h : c
  · rw [if_pos h]
    exact h1 h
  · rw [if_neg h]
    exact h2 h
/-- all that was tracked is as it was -/
def Same (H H' : Hp) : Prop := ∀ b o, H b = some o → H' b = some o
theorem Same.refl (H : Hp) : Same H H := fun _ _ h => h
theorem Same.trans {H H1 H2 : Hp} (a : Same H H1) (b : Same H1 H2) : Same H H2 := fun c o h => b c o (a c o h)
theorem Same.free {H H' : Hp} (e : Same H H') {l : Addr} (h : H' l = Option.none) : H l = Option.none := by
  cases q : H l with
  | none => rfl
  | some o =>
    rw [e l o q] at h
    cases h
theorem Same.seq {K : PySem.W.Frag} {H H' : Hp} {a : Addr} {xs : List V} (e : Same H H') (h : SqL K H a xs) : SqL K H' a xs := by
  rcases h with (h | ⟨o, h⟩) | h
  · exact .inl (.inl (e _ _ h))
  · exact .inl (.inr ⟨o, e _ _ h⟩)
  · exact .inr h

end L2
set_option Elab.async false
set_option linter.all false
set_option maxRecDepth 100000
namespace Own
open PySem PySem.Spec PyProof.Rows L2

def Has (P : Program) (w : World) (K : PySem.W.Frag) (mg : Str → Option Value) (base : Heap) (x : Str) (ps : List Str) (k : Nat) (sp : Sp) : Prop :=
  ∃ (f : Addr) (fd : FuncData), FnOk P w K mg base CX0 k f fd ps sp ∧ Binds K fd ps [] ∧ PySem.W.keepIn K (.ref f) = true ∧ mg x = some (.ref f)
theorem Has.mono {P : Program} {w : World} {K : PySem.W.Frag} {mg : Str → Option Value} {base : Heap} {x : Str} {ps : List Str} {j k : Nat} {sp : Sp} (h : Has P w K mg base x ps j sp) (hk : j ≤ k) : Has P w K mg base x ps k sp := by
  obtain ⟨f, fd, F, r⟩ := h
  exact ⟨f, fd, F.mono hk, r⟩
section
variable {X : Cx} {k : Nat} {ps : List Str} {sp : Sp} {x : Str} {p pos : Pos} {e : Expr} {es : List Expr} {t : TA}
theorem pe_has (h : Has X.prog X.w X.K X.mg X.base x ps k sp) (hr : Room k X.A) (hg : Gl X x)
    (ha : PA X (e :: es) t) (hdb : (x == ("__debug__" : Str)) = false := by decide) (he : starEach (e :: es) X.env = (false, eval e X.env) :: starEach es X.env := by rfl) (hpl : (backTo pos (starEach es X.env)).any (·.1) = false := by rfl) :
    PE X (.Call (.Name x p) (e :: es) [] pos) (tCall sp [] E0 t) := by
  obtain ⟨f, fd, F, b, kp, m⟩ := h
  exact pe_call F hr hg m kp b .nil pass0 ha hdb he hpl
end
def CDivW (i j : Int) : Prop := j ≠ 0 ∧ j.natAbs < 2 ^ 9000
section
variable {X : Cx}
theorem log2_lt {n : Nat} (h : n < 2 ^ 9000) : n.log2 < 9000 := by
  by_cases h0 : n = 0
  · subst h0; decide
  · exact (Nat.log2_lt h0).mpr h
theorem op_fdivW : OpR X (binaryOp .FloorDiv) (rI CDivW fun i j => .int (i.fdiv j)) := opI fun _ _ _ _ _ _ _ hc q => floordiv_int hc.1 q (.inl (PyProof.noPylong_of_log2 (log2_lt hc.2)))
/-- isinstance(x, T), T a built-in type -/
inductive call_isiY (K : PySem.W.Frag) (xs : List V) (H : Hp) (Q : VK) : Prop
  | mk : ∀ x t T b, (xs = [x, .ty T]) → (TyOf K H x t) → (PySem.W.kitOne K t (.type T) = some b) → (Q (.bl b) H) → call_isiY K xs H Q
theorem call_isi : CallR X (.builtin "isinstance") (call_isiY X.K) := by
  intro pins s σ H xs us Q I r h
  obtain ⟨x, t, T, b, rfl, ty, e, q⟩ := h
  obtain ⟨u, w', rfl, r1, r2⟩ := vals2 r
  cases r2
  exact isinst_ok I r1 ty e fun tk => ⟨.bl b, H, I.tok _, rfl, q⟩
end
end Own
set_option linter.all false
namespace L2
open PySem
/-- a def as it lies at the top -/
def DfAt (K : PySem.W.Frag) (n : Str) (st : Stmt) : Prop := ∃ (f : Addr) (fd : FuncData), PySem.W.nsIn K mainGlobals n = some (some (.ref f)) ∧ Fun K n n st f fd
theorem df_mk {K : PySem.W.Frag} {n : Str} {st : Stmt} {f : Addr} {oc : Value} {od an : Option Addr} {osl : Array (Option Value)} {kV doc pm cdv ct : Value} (a : PySem.W.nsIn K mainGlobals n = some (some (.ref f))) (l : K.lookup f = some ⟨oc, od, .func (PySem.W.fnOf n n (defArgs st) (defBody st) (defScope st) .none kV doc pm an cdv ct), osl⟩) (c : PySem.W.codeIn K cdv n = true) (k : PySem.W.keepIn K (.ref f) = true) : DfAt K n st := ⟨f, _, a, fun_mk l c k⟩
theorem has_mk {P : Program} {w : World} {K : PySem.W.Frag} {mg : Str → Option Value} {h base : Heap} (X : K.In h) (G : h.Ns mainGlobals mg) {n : Str} {st : Stmt} {ps : List Str} {lv : Nat} {sp : Sp} (d : DfAt K n st)
    (ok : ∀ (f : Addr) (fd : FuncData), Fun K n n st f fd → FnOk P w K mg base CX0 lv f fd ps sp) (b : ∀ (kV doc pm : Value) (an : Option Addr) (cdv ct : Value) (us : List Value), us.length = ps.length → bindArgs (PySem.W.fnOf n n (defArgs st) (defBody st) (defScope st) .none kV doc pm an cdv ct) ⟨us, []⟩ = pure (ps.zip us)) : Own.Has P w K mg base n ps lv sp := by
  obtain ⟨f, fd, a, F⟩ := d
  exact ⟨f, fd, ok f fd F, F.binds b, F.kp, PySem.W.mg_of X G a⟩
end L2
set_option Elab.async false
set_option linter.all false
set_option maxRecDepth 100000
namespace L2
open PySem PySem.Spec PyProof.Rows

section
variable {κ : Type} [DecidableEq κ]
def valV (kvs : List (κ × V)) (k : κ) : Option V := (kvs.find? fun kv => decide (kv.1 = k)).map (·.2)
/-- in its place, or at the end -/
def putK (kvs : List (κ × V)) (k : κ) (v : V) : List (κ × V) :=
  if (kvs.any fun kv => decide (kv.1 = k)) = true then kvs.map (fun kv => if kv.1 = k then (kv.1, v) else kv) else kvs ++ [(k, v)]
def dropK (kvs : List (κ × V)) (k : κ) : List (κ × V) := kvs.filter fun kv => decide (kv.1 ≠ k)

theorem valV_pos {p : κ × V} {r : List (κ × V)} {k : κ} (e : p.1 = k) : valV (p :: r) k = some p.2 := by simp [valV, List.find?_cons, e]
theorem valV_neg {p : κ × V} {r : List (κ × V)} {k : κ} (e : ¬ p.1 = k) : valV (p :: r) k = valV r k := by simp [valV, List.find?_cons, e]
theorem RelO.getD {o : Option V} {u : Option Value} {d : V} {d' : Value} (r : RelO o u) (rd : RelV d d') : RelV (o.getD d) (u.getD d') := by
  cases o with
  | none => cases u with
    | none => exact rd
    | some _ => exact (show False from r).elim
  | some _ => cases u with
    | none => exact (show False from r).elim
    | some _ => exact r

/-- raw tables of the same keys -/
theorem KV.val {kvs : List (κ × V)} {vs : List (κ × Value)} (r : KV kvs vs) (k : κ) : RelO (valV kvs k) (valueAt vs k) := by
  unfold KV at r
  induction r with
  | nil => exact True.intro
  | @cons p q ps qs h t ih =>
    obtain ⟨h1, h2⟩ := h
    by_cases e : p.1 = k
    · have e' : q.1 = k := h1.symm.trans e
      have b : valueAt (q :: qs) k = some q.2 := by simp [valueAt, List.find?_cons, e']
      rw [valV_pos e, b]; exact h2
    · have e' : ¬ q.1 = k := fun z => e (h1.trans z)
      have b : valueAt (q :: qs) k = valueAt qs k := by simp [valueAt, List.find?_cons, e']
      rw [valV_neg e, b]; exact ih
theorem KV.any {kvs : List (κ × V)} {vs : List (κ × Value)} (r : KV kvs vs) (k : κ) : (kvs.any fun kv => decide (kv.1 = k)) = vs.any fun kv => decide (kv.1 = k) := by
  unfold KV at r
  induction r with
  | nil => rfl
  | cons h t ih => rw [List.any_cons, List.any_cons, ih, h.1]
theorem KV.drop {kvs : List (κ × V)} {vs : List (κ × Value)} (r : KV kvs vs) (k : κ) : KV (dropK kvs k) (without vs k) := by
  unfold KV at r ⊢
  unfold dropK without
  induction r with
  | nil => exact .nil
  | @cons p q ps qs h t ih =>
    obtain ⟨h1, h2⟩ := h
    rw [List.filter_cons, List.filter_cons]
    by_cases e : p.1 = k
    · have a : ¬ decide (p.1 ≠ k) = true := by simp [e]
      have b : ¬ decide (q.1 ≠ k) = true := by simp [h1.symm.trans e]
      rw [if_neg a, if_neg b]; exact ih
    · have e' : ¬ q.1 = k := fun z => e (h1.trans z)
      have a : decide (p.1 ≠ k) = true := by simp [e]
      have b : decide (q.1 ≠ k) = true := by simp [e']
      rw [if_pos a, if_pos b]; exact .cons ⟨h1, h2⟩ ih
theorem KV.keys {kvs : List (κ × V)} {vs : List (κ × Value)} (r : KV kvs vs) : kvs.map (·.1) = vs.map (·.1) := by
  unfold KV at r
  induction r with
  | nil => rfl
  | cons h t ih => rw [List.map_cons, List.map_cons, ih, h.1]
theorem KV.length {kvs : List (κ × V)} {vs : List (κ × Value)} (r : KV kvs vs) : kvs.length = vs.length := Paired.length r
end


/-- raw entries of a dict with tuple keys -/
abbrev KT (H : Hp) : List (List Key × V) → List (List Key × Addr × Value) → Prop := Paired fun p q => p.1 = q.1 ∧ H q.2.1 = some (.tup (p.1.map kV)) ∧ RelV p.2 q.2.2
theorem KT.val {H : Hp} {kvs : List (List Key × V)} {xs : List (List Key × Addr × Value)} (r : KT H kvs xs) (k : List Key) : RelO (valV kvs k) ((atKey xs k).map (·.2)) := by
  induction r with
  | nil => exact True.intro
  | @cons p q ps qs h t ih =>
    obtain ⟨h1, _, h2⟩ := h
    by_cases e : p.1 = k
    · have e' : q.1 = k := h1.symm.trans e
      have b : atKey (q :: qs) k = some q.2 := by simp [atKey, List.find?_cons, e']
      rw [valV_pos e, b]; exact h2
    · have e' : ¬ q.1 = k := fun z => e (h1.trans z)
      have b : atKey (q :: qs) k = atKey qs k := by simp [atKey, List.find?_cons, e']
      rw [valV_neg e, b]; exact ih
theorem KT.keeps {H H' : Hp} {kvs : List (List Key × V)} {xs : List (List Key × Addr × Value)} (r : KT H kvs xs) (ht : ∀ b ys, H b = some (.tup ys) → H' b = some (.tup ys)) : KT H' kvs xs :=
  Paired.mapP r fun _ _ z => ⟨z.1, ht _ _ z.2.1, z.2.2⟩

section
variable {P : Program} {w : World} {H : Hp} {h : Heap} {a : Addr}
end

/-- what the dict at a holds at the key y -/
def DGet (H : Hp) (a : Addr) (y : V) (r : Option V) : Prop :=
  (∃ kvs k, Rd H a (.dK kvs) ∧ y = kV k ∧ r = valV kvs k) ∨ ∃ kvs k b, Rd H a (.dT kvs) ∧ y = .ref b ∧ H b = some (.tup (k.map kV)) ∧ r = valV kvs k
/-- the heap behind a[y] = v -/
def DPut (H : Hp) (a : Addr) (y v : V) (H' : Hp) : Prop :=
  (∃ kvs k, H a = some (.dK kvs) ∧ y = kV k ∧ kvs.length < sizeLine ∧ H' = upd H a (.dK (putK kvs k v))) ∨
  ∃ kvs k b, H a = some (.dT kvs) ∧ y = .ref b ∧ H b = some (.tup (k.map kV)) ∧ kvs.length < sizeLine ∧ H' = upd H a (.dT (putK kvs k v))
theorem DGet.k {H : Hp} {a : Addr} {kvs : List (Key × V)} {k : Key} (e : H a = some (.dK kvs)) : DGet H a (kV k) (valV kvs k) := .inl ⟨kvs, k, .inl e, rfl, rfl⟩
theorem DGet.t {H : Hp} {a b : Addr} {kvs : List (List Key × V)} {k : List Key} (e : H a = some (.dT kvs)) (eb : H b = some (.tup (k.map kV))) : DGet H a (.ref b) (valV kvs k) := .inr ⟨kvs, k, b, .inl e, rfl, eb, rfl⟩
theorem DPut.k {H : Hp} {a : Addr} {kvs : List (Key × V)} {k : Key} {v : V} (e : H a = some (.dK kvs)) (hl : kvs.length < sizeLine) : DPut H a (kV k) v (upd H a (.dK (putK kvs k v))) := .inl ⟨kvs, k, e, rfl, hl, rfl⟩
theorem DPut.t {H : Hp} {a b : Addr} {kvs : List (List Key × V)} {k : List Key} {v : V} (e : H a = some (.dT kvs)) (eb : H b = some (.tup (k.map kV))) (hl : kvs.length < sizeLine) :
    DPut H a (.ref b) v (upd H a (.dT (putK kvs k v))) := .inr ⟨kvs, k, b, e, rfl, eb, hl, rfl⟩


section
variable {X : Cx} {pins : List (Addr × Obj)} {σ : St} {H : Hp} {s : Shared} {a : Addr} {y v : V} {u r : Value} {o : Option V} {A : Around} {E : Value → Shared → Prop}

theorem Inv.big (I : Inv X pins σ H s) : sysModules < s.heap.objs.size := by
  have h : mainGlobals < s.heap.objs.size := (I.mod.glob.keeps I.bk).lt
  exact Nat.lt_trans (by decide) h

end

section
variable {X : Cx} {pins : List (Addr × Obj)} {σ : St} {H : Hp} {s : Shared} {a : Addr} {kvs : List (Key × V)} {k : Key} {u : Value} {A : Around} {E : Value → Shared → Prop}
end


section
variable {X : Cx} {o i e value : Expr} {pos pos' tpos : Pos} {td ty tv : TE}
end


theorem dk_empty {P : Program} {w : World} {H : Hp} (h : Heap) (hb : sysModules < h.objs.size) : ObjOk P w H (h.push { cls := .type "dict", data := .dict #[] }) h.objs.size (.dK []) :=
  ⟨Nat.zero_le _, beq_eq_false_iff_ne.mpr (Ne.symm (Nat.ne_of_lt hb)), [], .nil, Heap.DictOf.new h⟩
/-- {}, to be a dict of the kind that is wanted -/
def tDNewK : TE := fun _ H Q => ∀ p, H p = none → Q (.ref p) (upd H p (.dK []))
section
variable {X : Cx} {pos : Pos}
theorem pe_dnewK : PE X (.Dict [] [] pos) tDNewK := fun pins s σ H Q I h =>
  wpAny_Dict_empty ⟨.ref s.heap.objs.size, _, I.laid (a := s.heap.objs.size) (o := .dK []) (t' := s.toks) (fun _ _ q => Heap.get?_push_of_some _ q) (Nat.le_refl _) (dk_empty s.heap I.big), rfl, h _ (I.hok.fresh (Nat.le_refl _))⟩
end

section
variable {X : Cx} {pins : List (Addr × Obj)} {σ : St} {H : Hp} {s : Shared} {a : Addr} {y d : V} {u r : Value} {o : Option V} {A : Around} {E : Value → Shared → Prop}
end

section
variable {X : Cx} {o e f : Expr} {apos cpos : Pos} {td ty tx : TE}
end

section
variable {X : Cx} {pins : List (Addr × Obj)} {σ : St} {H : Hp} {s : Shared} {a : Addr} {kvs : List (Key × V)} {A : Around} {E : Value → Shared → Prop}
end


section
variable {X : Cx} {pins : List (Addr × Obj)} {σ : St} {H : Hp} {s : Shared} {a : Addr} {y : V} {u : Value} {A : Around} {E : Value → Shared → Prop}
end
end L2

namespace L2
open PySem PySem.Spec PyProof.Rows
section
variable {κ : Type} [DecidableEq κ]
end
end L2
set_option Elab.async false
set_option linter.all false
set_option maxRecDepth 100000
set_option maxHeartbeats 4000000
namespace L2
open PySem PySem.Spec PyProof.Rows

abbrev TB := (St → Hp → Prop) → St → Hp → Prop
/-- a piece of code within a comprehension's turn -/
def PBd (X : Cx) (code : Sem Unit) (b : TB) : Prop :=
  ∀ (pins : List (Addr × Obj)) (s : Shared) (σ : St) (H : Hp) (N : St → Hp → Prop), Inv X pins σ H s → b N σ H →
    wpAny (model X.prog X.w) X.A code (fun _ s' => ∃ σ' H', Inv X pins σ' H' s' ∧ N σ' H') X.xe s
/-- the rest of a turn: it ends with the loop again -/
def PTl (X : Cx) (tail : Sem PySem.Fin) (L : Code) (b : TB) : Prop :=
  ∀ (pins : List (Addr × Obj)) (s : Shared) (σ : St) (H : Hp) (N : St → Hp → Prop), Inv X pins σ H s → b N σ H →
    wpAny (model X.prog X.w) X.A tail (fun fin s' => fin = .again L ∧ ∃ σ' H', Inv X pins σ' H' s' ∧ N σ' H') X.xe s
def tailOf (ifs : List Expr) (env : Env) (body : Sem Unit) (L : Code) : Sem PySem.Fin :=
  (forIn ifs true fun c r => if r = true then do let ok ← isTrue c env (eval c env); pure (ForInStep.yield ok) else pure (ForInStep.yield r)) >>= fun ok => if ok = true then body >>= fun _ => again L else again L
/-- the walk of one clause: as tFor, without break and return -/
def tWalk (J : It) (g : TG) (b : TB) (N0 : St → Hp → Prop) (σ : St) (H : Hp) : Prop :=
  ∃ W : Nat → Nat → St → Hp → Prop, (∃ m, W 0 m σ H) ∧ ∀ i m σ H, W i m σ H →
    (J.stop i H ∧ N0 σ H) ∨ (J.go i H ∧ ∃ N : St → Hp → Prop, (∀ σ' H', N σ' H' → ∃ m', m' < m ∧ W (i + 1) m' σ' H') ∧ ∀ x H', J.yld i H x H' → g x σ H' fun σ2 H2 => b N σ2 H2)
section
variable {X : Cx} {e tg : Expr} {gens : List Comprehension} {sc : Scope} {cpos : Pos} {d : Nat} {it : Addr} {acc : Value} {tail : Sem PySem.Fin} {p : Pos} {g : TG} {b : TB} {J : It} {fp : List Addr} {tn : Nat → Heap → Prop} {N0 : St → Hp → Prop} {R : Result → Shared → Prop}
theorem comp_loop (he : (∃ el, e = .ListComp el gens sc cpos) ∨ ∃ k v, e = .DictComp k v gens sc cpos) (hx : X.xe = fun _ _ => False) (hc : X.calm = true)
    (ht : compTurn e d (.ref it) acc X.env = (standAt p >>= fun _ => pyNext (.ref it) >>= fun r => match r with
      | none => pure (.done .next)
      | some v => letOwnedTupleGo tg (.ref it) v >>= fun _ => assign tg X.env v >>= fun _ => tail))
    (T : Turn X.prog X.w X.K tg J fp it tn) (hg : PG X tg g) (hb : PTl X tail (.compLoop e d (.ref it) acc X.env) b) {pins : List (Addr × Obj)} {σ : St} {H : Hp} {s : Shared}
    (I : Inv X pins σ H s) (st : tn 0 s.heap) (f2 : ∀ b ∈ fp, FpOk X pins H b) (hw : tWalk J g b N0 σ H)
    (hR : ∀ σ' H' s', Inv X pins σ' H' s' → N0 σ' H' → R (.ok .next) s') :
    codeAny (model X.prog X.w) X.A (.compLoop e d (.ref it) acc X.env) R s := by
  obtain ⟨W, ⟨m0, w0⟩, turn⟩ := hw
  have stat : ∀ {H' : Hp}, (∀ b ∈ fp, H' b = none) → ∀ b ∈ fp, FpOk X pins H' b := fun hn b hb => ⟨hn b hb, (f2 b hb).2⟩
  refine codeAny_loop rfl (fun n s' => ∃ i σ' H', Inv X pins σ' H' s' ∧ tn i s'.heap ∧ (∀ b ∈ fp, H' b = none) ∧ W i n σ' H') ?_ m0 ⟨0, σ, H, I, st, fun b hb => (f2 b hb).1, w0⟩
  rintro n s3 ⟨i, σ3, H3, I3, st3, fr3, w3⟩
  have hden : (model X.prog X.w).den (.compLoop e d (.ref it) acc X.env) = ((compTurn e d (.ref it) acc X.env).onRaise (fun x => do noteFrame x X.env; theTreesLotGoes x)) ∧ X.A.under (.compLoop e d (.ref it) acc X.env) = X.A := by
    rcases he with ⟨el, rfl⟩ | ⟨k, v, rfl⟩ <;> exact ⟨rfl, rfl⟩
  rw [hden.1, hden.2]
  show wpAny _ _ ((compTurn e d (.ref it) acc X.env).onRaise (fun x => do noteFrame x X.env; theTreesLotGoes x)) _ _ s3
  refine wpAny_noted ?_
  rw [ht]
  have no : ∀ {α : Type} {t : Sem α} {Q : α → Shared → Prop} {E : Value → Shared → Prop} {s : Shared}, wpAny (model X.prog X.w) X.A t Q X.xe s → wpAny (model X.prog X.w) X.A t Q E s :=
    fun h => wpAny_mono h (fun _ _ q => q) fun _ _ q => by rw [hx] at q; exact q.elim
  refine wpAny_bind (wpAny_standAt (wpAny_bind ?_))
  rcases turn i n σ3 H3 w3 with ⟨stop, qn⟩ | ⟨go, N, hN, step⟩
  · refine no (thn (T.done X rfl rfl rfl hc i pins s3 σ3 H3 X.xe I3 (stat fr3) st3 stop) fun r s4 ⟨hr, I4⟩ => ?_)
    subst hr
    exact wpAny_pure (hR _ _ _ I4 qn)
  · refine no (thn (T.item X rfl rfl rfl hc i pins s3 σ3 H3 X.xe I3 (stat fr3) st3 go) fun r s4 ⟨u, hr, h4⟩ => ?_)
    subst hr
    refine wpAny_bind (no (thn h4 fun _ s5 ⟨x, H5, I5, r5, y5, st5, fr5⟩ => ?_))
    have I5' := I5.pinned (stat fr5) (T.obj _ _ st5)
    refine wpAny_bind (no (thn (hg _ s5 σ3 H5 x u _ I5' r5 (step x H5 y5)) fun _ s6 ⟨σ6, H6, I6, q6⟩ => ?_))
    refine no (thn (hb _ s6 σ6 H6 _ I6 q6) fun fin s7 ⟨hf, σ7, H7, I7, n7⟩ => ?_)
    subst hf
    obtain ⟨m', hm, w7⟩ := hN σ7 H7 n7
    refine ⟨rfl, m', hm, i + 1, σ7, H7, I7.unpinned, T.keep _ _ _ st5 fun b hb o e => (I7.pin (b, o) (List.mem_append_right _ (List.mem_append_right _ (mem_pinsAt hb e)))).1, fun b hb => ?_, w7⟩
    obtain ⟨o, e, d⟩ := T.obj _ _ st5 b hb
    exact (I7.pin (b, o) (List.mem_append_right _ (List.mem_append_right _ (mem_pinsAt hb e)))).2.1
end
/-- no test; one test; two -/
def bIf (t : TT) (b : TB) : TB := fun N σ H => t σ H fun c H1 => if c = true then b N σ H1 else N σ H1
theorem pt_tail0 {X : Cx} {body : Sem Unit} {L : Code} {b : TB} (hb : PBd X body b) : PTl X (tailOf [] X.env body L) L b := by
  intro pins s σ H N I h
  unfold tailOf
  refine wpAny_bind (wpAny_tests_nil ?_)
  show wpAny _ _ (body >>= fun _ => again L) _ _ s
  exact wpAny_bind (thn (hb pins s σ H N I h) fun _ s' q => wpAny_pure ⟨rfl, q⟩)
theorem pt_tail1 {X : Cx} {c : Expr} {t : TT} {body : Sem Unit} {L : Code} {b : TB} (hc : PT X c t) (hb : PBd X body b) : PTl X (tailOf [c] X.env body L) L (bIf t b) := by
  intro pins s σ H N I h
  unfold tailOf
  refine wpAny_bind (wpAny_tests_one (thn (hc pins s σ H _ I h) fun ok s1 ⟨H1, I1, q⟩ => ?_))
  cases ok with
  | true => exact wpAny_bind (thn (hb pins s1 σ H1 N I1 (by simpa using q)) fun _ s' q => wpAny_pure ⟨rfl, q⟩)
  | false => exact wpAny_pure ⟨rfl, σ, H1, I1, by simpa using q⟩
/-- the item onto the list at D -/
def bApp (D : Addr) (te : TE) : TB := fun N σ H => te σ H fun x H1 => ∃ xs, H1 D = some (.lst xs) ∧ xs.length < sizeLine ∧ N σ (upd H1 D (.lst (xs ++ [x])))
theorem pb_app {X : Cx} {el : Expr} {te : TE} {D : Addr} (he : PE X el te) : PBd X (do let _ ← call (.builtin "list.append") [.ref D, ← eval el X.env]) (bApp D te) := by
  intro pins s σ H N I h
  refine wpAny_bind (thn (he pins s σ H _ I h) fun u s1 ⟨x, H1, I1, r, xs, hD, hz, q⟩ => ?_)
  refine wpAny_bind (thn (mt_append pins s1 σ H1 (.ref D) [x] (.ref D) [u] (fun _ H2 => N σ H2) I1 rfl (.cons r .nil) ⟨D, xs, x, rfl, rfl, hD, hz, q⟩) fun _ s2 ⟨_, H2, I2, _, q2⟩ => ?_)
  exact wpAny_pure ⟨σ, H2, I2, q2⟩
theorem turn_l1 (el tg iter : Expr) (ifs : List Expr) (sc : Scope) (pos : Pos) (it acc : Value) (env : Env) :
    compTurn (.ListComp el [⟨tg, iter, ifs, 0⟩] sc pos) 0 it acc env = (standAt iter.pos >>= fun _ => pyNext it >>= fun r => match r with
      | none => pure (.done .next)
      | some v => letOwnedTupleGo tg it v >>= fun _ => assign tg env v >>= fun _ => tailOf ifs env (do let _ ← call (.builtin "list.append") [acc, ← eval el env]) (.compLoop (.ListComp el [⟨tg, iter, ifs, 0⟩] sc pos) 0 it acc env)) := by rfl
end L2
set_option Elab.async false
set_option linter.all false
set_option maxRecDepth 100000
set_option maxHeartbeats 4000000
namespace L2
open PySem PySem.Spec PyProof.Rows

/-- the cells of the enclosing frame that the block's free names stand for -/
def clStep (env : Env) (cs : List (Str × Addr)) (y : Str × NameKind) : List (Str × Addr) :=
  if (y.2 == .free) = true then (match env.cells.lookup y.1 with | some c => (y.1, c) :: cs | none => cs) else cs
def clOf (sc : Scope) (env : Env) : List (Str × Addr) := sc.names.foldl (clStep env) []
def clTurn (env : Env) (x : Str × NameKind) (r : List (Str × Addr)) : Sem (ForInStep (List (Str × Addr))) :=
  match x with | (name, kind) => if (kind == .free) = true then (do let a ← cellOf env name; pure (ForInStep.yield ((name, a) :: r))) else pure (ForInStep.yield r)
theorem clTurn_eq {env : Env} {y : Str × NameKind} {cs : List (Str × Addr)} (h : y.2 = .free → ∃ c, env.cells.lookup y.1 = some c) : clTurn env y cs = pure (ForInStep.yield (clStep env cs y)) := by
  obtain ⟨n, k⟩ := y
  unfold clTurn clStep
  cases hk : k == NameKind.free with
  | false => simp [hk]
  | true =>
    obtain ⟨c, hc⟩ := h (by simpa using hk)
    have hc' : List.lookup n env.cells = some c := hc
    simp only [hk, if_true, cellOf, hc', pure_bind]
theorem closure_go {env : Env} : ∀ (l : List (Str × NameKind)) (cs : List (Str × Addr)), (∀ y ∈ l, y.2 = .free → ∃ c, env.cells.lookup y.1 = some c) →
    (forIn l cs (clTurn env) : Sem (List (Str × Addr))) = pure (l.foldl (clStep env) cs)
  | [], cs, _ => rfl
  | y :: r, cs, h => by
    rw [List.forIn_cons, clTurn_eq (h y List.mem_cons_self), pure_bind, List.foldl_cons]
    exact closure_go r _ fun y hy => h y (List.mem_cons_of_mem _ hy)
theorem closure_of {sc : Scope} {env : Env} (h : ∀ y ∈ sc.names, y.2 = .free → ∃ c, env.cells.lookup y.1 = some c) : closureFor sc env = pure (clOf sc env) := by
  have q := closure_go (env := env) sc.names [] h
  have z : closureFor sc env = (forIn sc.names [] (clTurn env) >>= fun r => pure r) := rfl
  rw [z, q]
  rfl
theorem cl_in {env : Env} {x : Str} {c : Addr} : ∀ (l : List (Str × NameKind)) (cs : List (Str × Addr)), (cs.lookup x = some c → env.cells.lookup x = some c) → (l.foldl (clStep env) cs).lookup x = some c → env.cells.lookup x = some c
  | [], cs, h, e => h e
  | (n, k) :: r, cs, h, e => by
    rw [List.foldl_cons] at e
    refine cl_in r _ (fun z => ?_) e
    unfold clStep at z
    split at z
    · split at z
      · rename_i c' hc
        rw [List.lookup_cons] at z
        split at z
        · rename_i hx
          have : x = n := by simpa using hx
          subst this
          cases z
          exact hc
        · exact h z
      · exact h z
    · exact h z
theorem cl_has {env : Env} {x : Str} : ∀ (l : List (Str × NameKind)) (cs : List (Str × Addr)), (∃ c, env.cells.lookup x = some c) → ((∃ c, cs.lookup x = some c) ∨ (x, NameKind.free) ∈ l) → ∃ c, (l.foldl (clStep env) cs).lookup x = some c
  | [], cs, _, h => h.elim id (fun z => nomatch z)
  | (n, k) :: r, cs, he, h => by
    rw [List.foldl_cons]
    refine cl_has r _ he ?_
    rcases h with ⟨c, h⟩ | h
    · left
      unfold clStep
      split
      · split
        · rename_i c' hc
          rw [List.lookup_cons]
          split
          · exact ⟨_, rfl⟩
          · exact ⟨c, h⟩
        · exact ⟨c, h⟩
      · exact ⟨c, h⟩
    · rcases List.mem_cons.mp h with z | z
      · cases z
        obtain ⟨c, hc⟩ := he
        left
        refine ⟨c, ?_⟩
        unfold clStep
        simp [hc]
      · exact .inr z

structure CS (sc S0 : Scope) : Prop where
  kind : sc.kind = .function
  names : ∀ y ∈ sc.names, y.2 = .local → sc.names.lookup y.1 = some .local
  nocell : ∀ y ∈ sc.names, y.2 ≠ .cell
  free : ∀ y ∈ sc.names, y.2 = .free → S0.names.lookup y.1 = some .cell
def relOne (env : Env) (y : Str × NameKind) : Str × NameKind := if (y.2 == .free && env.scope.kind == .function && env.kindOf y.1 == some .cell) = true then (y.1, .cell) else (y.1, y.2)
theorem relOne_fst (env : Env) (y : Str × NameKind) : (relOne env y).1 = y.1 := by
  unfold relOne
  split <;> rfl
theorem rel_look {env : Env} {x : Str} : ∀ (l : List (Str × NameKind)), (l.map (relOne env)).lookup x = (l.lookup x).map fun k => (relOne env (x, k)).2
  | [] => rfl
  | (n, k) :: r => by
    rw [List.map_cons]
    have e : relOne env (n, k) = (n, (relOne env (n, k)).2) := Prod.ext (relOne_fst env (n, k)) rfl
    rw [e, List.lookup_cons, List.lookup_cons]
    cases hx : x == n with
    | true =>
      have : x = n := by simpa using hx
      subst this
      rfl
    | false => exact rel_look r
/-- the context of the block: s₂, H₂ ahead of it, the locals at C -/
def cxC (X : Cx) (Nc : List Str) (sc : Scope) (C : Addr) (s₂ : Shared) (H₂ : Hp) (fp : List Addr) (pins : List (Addr × Obj)) : Cx :=
  { X with N := Nc, s₀ := s₂, H₀ := H₂, env := compEnvC sc (clOf sc X.env) C X.env, outer := X.stack, ex := fp, fn := fun _ => false, pn := X.pn ++ pins }
/-- the names' values at the block's start: js says which name of the frame each is, none: the block's own -/
def compSt (js : List (Option Nat)) (σ : St) : St := js.map fun o => o.bind fun j => (σ[j]?).join
def capOk (js : List (Option Nat)) (Nc N : List Str) (names : List (Str × NameKind)) : Bool :=
  decide (js.length = Nc.length) && (js.zip Nc).all fun (o, x) => match o with | none => true | some j => decide (N[j]? = some x) && decide (names.lookup x = some .free)
theorem cap_of {js : List (Option Nat)} {Nc N : List Str} {names : List (Str × NameKind)} (h : capOk js Nc N names = true) : js.length = Nc.length ∧ ∀ (i j : Nat) (x : Str), js[i]? = some (some j) → Nc[i]? = some x → N[j]? = some x ∧ names.lookup x = some .free := by
  unfold capOk at h
  rw [Bool.and_eq_true] at h
  refine ⟨of_decide_eq_true h.1, fun i j x e1 e2 => ?_⟩
  have z : (js.zip Nc)[i]? = some (some j, x) := by
    rw [List.getElem?_zip_eq_some]
    exact ⟨e1, e2⟩
  have q := List.all_eq_true.mp h.2 _ (List.mem_of_getElem? z)
  dsimp only at q
  rw [Bool.and_eq_true] at q
  exact ⟨of_decide_eq_true q.1, of_decide_eq_true q.2⟩
section
variable {X : Cx} {pins : List (Addr × Obj)} {σ : St} {H : Hp} {s : Shared} {sc : Scope} {Nc : List Str} {js : List (Option Nat)} {fp : List Addr}
theorem ok_comp (I : Inv X pins σ H s) (S : CS sc X.env.scope) (f : ∀ b ∈ fp, FpOk X pins H b) (hlt : ∀ b ∈ fp, b < s.heap.objs.size) {C : Addr} (hC : s.heap.objs.size ≤ C) : (cxC X Nc sc C s H fp pins).Ok := by
  have inX : ∀ x c, (clOf sc X.env).lookup x = some c → X.env.cells.lookup x = some c := fun x c e => cl_in sc.names [] (fun z => nomatch z) e
  refine ⟨I.ok.mod, S.kind, I.ok.glob, I.ok.blt, hC, fun x y c e1 e2 => I.ok.inj x y c (inX x c e1) (inX y c e2), fun x hx => ?_, fun x c z => (nomatch z), I.ok.hd, I.ok.frames, .inl rfl, fun b hb => ⟨?_, fun x c e => (f b hb).2.2.2.2.1 x c (inX x c e)⟩, I.bs, Nat.le_trans I.ok.bsz I.sz, fun b o e hb => ?_, fun b hb hs => ?_, I.stack, I.stkFree⟩
  · have hx' : (sc.names.map (relOne X.env)).lookup x = some .cell ∨ (sc.names.map (relOne X.env)).lookup x = some .free := hx
    rw [rel_look] at hx'
    cases e : sc.names.lookup x with
    | none => rw [e] at hx'; rcases hx' with z | z <;> cases z
    | some k =>
      rw [e] at hx'
      have m : (x, k) ∈ sc.names := PySem.mem_of_lookup e
      have kf : k = .free := by
        have nk := S.nocell _ m
        unfold relOne at hx'
        by_cases hk : (k == NameKind.free) = true
        · simpa using hk
        · have hk' : (k == NameKind.free) = false := by simpa using hk
          simp only [hk', Bool.false_and, Option.map_some] at hx'
          rcases hx' with z | z
          · exact absurd (by simpa using z) nk
          · simpa using z
      subst kf
      have hx2 := S.free _ m rfl
      obtain ⟨c, hc⟩ := I.ok.has x (.inl hx2)
      exact cl_has sc.names [] ⟨c, hc⟩ (.inr m)
  · exact Nat.ne_of_lt (Nat.lt_of_lt_of_le (hlt b hb) hC)
  · obtain ⟨h0, h1, h2, h3, h4, h5⟩ := f b hb
    rcases h3 with z | z
    · exact I.ok.noex b o e z
    · exact absurd (Nat.lt_of_lt_of_le (Heap.lt_size (I.ok.bs b o e).1) z) (Nat.lt_irrefl _)
  · obtain ⟨h0, h1, h2, h3, h4, h5⟩ := f b hb
    rcases List.mem_cons.mp (I.stkSub b hs) with z | z
    · exact h1 z
    · exact h2 z
/-- the block begins: h₁ is the heap with the new object at D (tracked as o) and the block's names at C -/
theorem inv_comp (I : Inv X pins σ H s) (S : CS sc X.env.scope) (f : ∀ b ∈ fp, FpOk X pins H b) (hlt : ∀ b ∈ fp, b < s.heap.objs.size) (cap : capOk js Nc X.N sc.names = true) {C D : Addr} {o : HO} {h₁ : Heap} {m : Str → Option Value} {tk : Nat}
    (hC : s.heap.objs.size ≤ C) (hD : s.heap.objs.size ≤ D) (hDC : D ≠ C) (hk : ∀ b ob, s.heap.get? b = some ob → h₁.get? b = some ob) (hns : h₁.Ns C m) (new : ObjOk X.prog X.w (upd H D o) h₁ D o) :
    Inv (cxC X Nc sc C s H fp pins) [] (compSt js σ) (upd H D o) { s with heap := h₁, toks := tk } := by
  have inX : ∀ x c, (clOf sc X.env).lookup x = some c → X.env.cells.lookup x = some c := fun x c e => cl_in sc.names [] (fun z => nomatch z) e
  have fresh : ∀ a, s.heap.objs.size ≤ a → H a = none := fun a ha => I.hok.fresh ha
  obtain ⟨cl, cp⟩ := cap_of cap
  refine ⟨ok_comp I S f hlt hC, rfl, I.bare, Un.laid hk hD (fresh D hD), ⟨m, hns, fun i x v e1 e2 e3 => ?_⟩, fun x c e => ?_, ?_, fun x c e => ?_, fun p hp => ?_, I.hok.laid hk hD new, ?_⟩
  · -- a name of the frame's
    unfold compSt at e2
    rw [List.getElem?_map] at e2
    cases ej : js[i]? with
    | none => rw [ej] at e2; cases e2
    | some oj =>
      rw [ej] at e2
      cases oj with
      | none => cases e2
      | some j =>
        obtain ⟨hN, hfree⟩ := cp i j x ej e1
        have hv : σ[j]? = some (some v) := by
          simp only [Option.map_some, Option.bind_some, Option.some.injEq] at e2
          cases e : σ[j]? with
          | none => rw [e] at e2; cases e2
          | some w => rw [e] at e2; exact congrArg some e2
        have kc : X.env.kindOf x = some .cell := S.free _ (PySem.mem_of_lookup hfree) rfl
        obtain ⟨m', hn', hl⟩ := I.loc
        obtain ⟨u, r, lk⟩ := hl j x v hN hv (.inr (.inl kc))
        refine ⟨u, r, .inr ⟨.inl ?_, ?_⟩⟩
        · show (sc.names.map (relOne X.env)).lookup x = some .cell
          rw [rel_look, hfree]
          unfold relOne
          simp [I.ok.kind, kc]
        · rcases lk with ⟨z, _⟩ | ⟨_, c, hc, ic⟩
          · rw [kc] at z; cases z
          · obtain ⟨c', hc'⟩ := cl_has sc.names [] ⟨c, hc⟩ (.inr (PySem.mem_of_lookup hfree))
            have : c' = c := Option.some.inj ((inX x c' hc').symm.trans hc)
            subst this
            exact ⟨c', hc', ic.keeps hk⟩
  · obtain ⟨v, ic⟩ := I.cell x c (inX x c e)
    exact ⟨v, ic.keeps hk⟩
  · show upd H D o C = none
    rw [upd_ne hDC.symm]
    exact fresh C hC
  · have q := inX x c e
    obtain ⟨v, ic⟩ := I.cell x c q
    show upd H D o c = none
    rw [upd_ne (Nat.ne_of_lt (Nat.lt_of_lt_of_le ic.lt hD))]
    exact I.freeC x c q
  · have hp' : p ∈ X.pn ++ pins := by
      rcases List.mem_append.mp hp with z | z
      · exact z
      · exact absurd z (by simp)
    obtain ⟨a1, a2, a3, a4, a5⟩ := I.pin p hp'
    have lt := Heap.lt_size a1
    refine ⟨hk _ _ a1, ?_, Nat.ne_of_lt (Nat.lt_of_lt_of_le lt hC), fun z => ?_, a5⟩
    · rw [upd_ne (Nat.ne_of_lt (Nat.lt_of_lt_of_le lt hD))]
      exact a2
    · rcases List.mem_cons.mp (I.stkSub _ z) with z | z
      · exact a3 z
      · exact a4 z
  · unfold compSt
    rw [List.length_map]
    exact cl
/-- the block ends: its names are let go (h' is as h but at C) -/
theorem inv_back {C : Addr} {σ' : St} {H' : Hp} {s' : Shared} {h' : Heap} (I : Inv X pins σ H s) (f : ∀ b ∈ fp, FpOk X pins H b) (hC : s.heap.objs.size ≤ C) (J : Inv (cxC X Nc sc C s H fp pins) [] σ' H' s') (hs : Heap.SameBut C s'.heap h') :
    Inv X pins σ H' { s' with heap := h' } := by
  have u := J.base
  have nC : H' C = none := J.free
  have stay : ∀ b ob, b ≠ C → s'.heap.get? b = some ob → h'.get? b = some ob := fun b ob hb e => hs.extBut b ob hb e
  have neC : ∀ b ob, s.heap.get? b = some ob → b ≠ C := fun b ob e => Nat.ne_of_lt (Nat.lt_of_lt_of_le (Heap.lt_size e) hC)
  refine I.call' (ch := fp) J.os ?_ (fun b v e => ?_) J.bare fun b hb => ⟨(f b hb).2.2.2.1, (f b hb).2.1, (f b hb).2.2.2.2.1, (f b hb).2.2.2.2.2⟩
  · refine ⟨fun b ob e n h1 h2 => stay b ob (neC b ob e) (u.keep b ob e n h1 h2), fun b ob e n h1 h2 => ?_, u.free, fun b ob e h2 => ?_, u.tups, u.frzs, u.tbls⟩
    · obtain ⟨sl, q⟩ := u.slot b ob e n h1 h2
      exact ⟨sl, stay b _ (neC b ob e) q⟩
    · obtain ⟨o', q⟩ := u.there b ob e h2
      exact ⟨o', stay b _ (neC b ob e) q⟩
  · have nb : ∀ c w, H' c = some w → c ≠ C := fun c w e z => by rw [z, nC] at e; cases e
    refine (J.hok b v e).stay (fun c w hc q => stay c w ?_ q) (fun _ q => q) fun _ _ q => q
    rcases hc with z | z
    · rw [z]; exact nb b v e
    · exact nb c _ z
end
end L2
set_option Elab.async false
set_option linter.all false
set_option maxRecDepth 100000
set_option maxHeartbeats 4000000
namespace L2
open PySem PySem.Spec PyProof.Rows
section
variable {X : Cx} {e tg iter el : Expr} {ifs : List Expr} {gens rest : List Comprehension} {sc : Scope} {pos : Pos} {Nc : List Str} {js : List (Option Nat)} {wi : TI}
theorem comp_start {prog : Program} {w : World} {A : Around} {env : Env} {R : Result → Shared → Prop} {s : Shared} {d : Nat} {it acc : Value} {g : Comprehension} (he : (∃ el, e = .ListComp el gens sc pos) ∨ ∃ k v, e = .DictComp k v gens sc pos)
    (hg : (clausesOf e)[d]? = some g) (ha : g.is_async = 0)
    (h0 : codeAny (model prog w) A (.compLoop e d it acc env) R s)
    (h : wpAny (model prog w) A (pyIter it) (fun it' s' => codeAny (model prog w) A (.compLoop e d it' acc env) R s') (fun _ _ => False) s) :
    codeAny (model prog w) A (.compStart e d it acc env) R s := by
  refine codeAny_of_tree ?_
  have hden : (model prog w).den (.compStart e d it acc env) = ((compStart e d it acc env).onRaise (fun x => do noteFrame x env; standAt theWindowsPlace)) ∧ A.under (.compStart e d it acc env) = A := by
    rcases he with ⟨el, rfl⟩ | ⟨k, v, rfl⟩ <;> exact ⟨rfl, rfl⟩
  have hq : ∀ d it acc, (Code.compLoop e d it acc env).quiet = true := fun _ _ _ => rfl
  rw [hden.1, hden.2]
  refine wpAny_notedAt ?_
  unfold compStart
  rw [hg]
  have hz : ((some g).elim false fun x => x.is_async != 0) = false := by show (g.is_async != 0) = false; rw [ha]; rfl
  rw [hz]
  show wpAny _ _ (ask >>= _) _ _ s
  refine wpAny_bind (wpAny_askSetting (wpAny_ite ?_))
  split
  · first
      | exact wpAny_bind (wpAny_pure (wpAny_pure (And.intro rfl h0)))
      | exact wpAny_pure (And.intro rfl h0)
  · refine wpAny_bind (wpAny_rule ?_)
    show wpAny _ _ (standAt g.iter.pos >>= _) _ _ s
    exact wpAny_bind (wpAny_standAt (wpAny_bind (wpAny_mono h (fun it' s' h' => wpAny_pure (And.intro rfl h')) fun _ _ x => x.elim)))
/-- [el for tg in iter if ..]: bd is what a turn does behind the target's store, for the list at D -/
def tLC (js : List (Option Nat)) (wi : TI) (g : TG) (bd : Addr → TB) : TE := fun σ H Q => wi σ H fun J H1 => ∀ D, H1 D = none → tWalk J g (bd D) (fun _ H' => Q (.ref D) H') (compSt js σ) (upd H1 D (.lst []))
theorem pe_lc1x {g : TG} {bd : Addr → TB} (hx : X.xe = fun _ _ => False) (hc : X.calm = true) (hi : PI X tg iter wi) (S : CS sc X.env.scope) (cap : capOk js Nc X.N sc.names = true)
    (hg : ∀ C s₂ H₂ fp pins, PG (cxC X Nc sc C s₂ H₂ fp pins) tg g)
    (hb : ∀ C s₂ H₂ fp pins D L, PTl (cxC X Nc sc C s₂ H₂ fp pins) (tailOf ifs (cxC X Nc sc C s₂ H₂ fp pins).env (do let _ ← call (.builtin "list.append") [.ref D, ← eval el (cxC X Nc sc C s₂ H₂ fp pins).env]) L) L (bd D))
    (hs : ∀ x, foldedSetIterable iter X.env x = pure x := by intro _; rfl) :
    PE X (.ListComp el [⟨tg, iter, ifs, 0⟩] sc pos) (tLC js wi g bd) := by
  intro pins s σ H Q I h
  rw [eval_ListComp]
  have hcl : closureFor sc X.env = pure (clOf sc X.env) := closure_of fun y hy hf => I.ok.has y.1 (.inl (S.free y hy hf))
  refine wpAny_comprehension_free (use := none) rfl hs hcl S.kind S.names (thn (hi pins s σ H _ I h) fun v s1 h1 => thn h1 fun itv s2 h2 => ?_)
  obtain ⟨it, fp, tn, J, H2, e, I2, T, st2, f2, hw⟩ := h2
  subst e
  have hlt : ∀ b ∈ fp, b < s2.heap.objs.size := fun b hb => let ⟨o, ho, _⟩ := T.obj _ _ st2 b hb; Heap.lt_size ho
  refine wpAny_newObj_type (wpAny_newFunctionEnv S.nocell (by intro y hy; simp at hy) (fun h₁ hns₁ hsb₁ => ?_) S.kind)
  dsimp only at hns₁ hsb₁ ⊢
  generalize hH2 : s2.heap.push { cls := .type "list", dict := none, data := .seq ([] : List Value).toArray } = G at hns₁ hsb₁ ⊢
  have hCs : G.objs.size = s2.heap.objs.size + 1 := by rw [← hH2, Heap.size_push]
  have hDC : s2.heap.objs.size ≠ G.objs.size := by omega
  have hCle : s2.heap.objs.size ≤ G.objs.size := by omega
  have old : ∀ b o, s2.heap.get? b = some o → h₁.get? b = some o := fun b o e => hsb₁.extBut b o (Nat.ne_of_lt (Nat.lt_of_lt_of_le (Heap.lt_size e) hCle)) (Heap.get?_push_of_some _ (hH2 ▸ Heap.get?_push_of_some _ e))
  have hacc : h₁.get? s2.heap.objs.size = some { cls := .type "list", dict := none, data := .seq ([] : List Value).toArray } := hsb₁.extBut _ _ hDC (Heap.get?_push_of_some _ (hH2 ▸ Heap.get?_push_size _ rfl))
  have new : ObjOk X.prog X.w (upd H2 s2.heap.objs.size (.lst [])) h₁ s2.heap.objs.size (.lst []) := ⟨Nat.zero_le _, [], _, .nil, hacc⟩
  have I4 := inv_comp (js := js) (Nc := Nc) (tk := s2.toks + ([] : List (Str × Value)).length) I2 S f2 hlt cap hCle (Nat.le_refl _) hDC old hns₁ new
  have hn : H2 s2.heap.objs.size = none := I2.fresh
  have f4 : ∀ b ∈ fp, FpOk (cxC X Nc sc G.objs.size s2 H2 fp pins) [] (upd H2 s2.heap.objs.size (.lst [])) b := fun b hb => by
    obtain ⟨h0, h1, h2, h3, h4, h5⟩ := f2 b hb
    refine ⟨?_, Nat.ne_of_lt (Nat.lt_of_lt_of_le (hlt b hb) hCle), fun z => ?_, .inl hb, fun x c z => ?_, fun p hp => ?_⟩
    · rw [upd_ne (Nat.ne_of_lt (hlt b hb))]; exact h0
    · rcases List.mem_cons.mp (I2.stkSub b z) with q | q
      · exact h1 q
      · exact h2 q
    · exact h4 x c (cl_in sc.names [] (fun z => nomatch z) z)
    · rcases List.mem_append.mp hp with z | z
      · exact h5 p z
      · exact absurd z (by simp)
  have st4 : tn 0 h₁ := T.keep _ _ _ st2 fun b hb o e => old b o e
  have loop : codeAny (model X.prog X.w) X.A (.compLoop (.ListComp el [⟨tg, iter, ifs, 0⟩] sc pos) 0 (.ref it) (.ref s2.heap.objs.size) (compEnvC sc (clOf sc X.env) G.objs.size X.env))
      (compPost (model X.prog X.w) X.A X.xe none (EP X pins σ Q) (.ref s2.heap.objs.size) G.objs.size) { s2 with heap := h₁, toks := s2.toks + ([] : List (Str × Value)).length } := by
    refine comp_loop (X := cxC X Nc sc G.objs.size s2 H2 fp pins) (.inl ⟨el, rfl⟩) hx hc (turn_l1 _ _ _ _ _ _ _ _ _) T (hg _ _ _ _ _) (hb _ _ _ _ _ _ _) I4 st4 f4 (hw _ hn) fun σ' H' s' I' q => ?_
    obtain ⟨m', hm', _⟩ := I'.loc
    exact ⟨m', hm', fun h' hs' => ⟨.ref s2.heap.objs.size, H', inv_back I2 f2 hCle I' hs', rfl, q⟩⟩
  exact comp_start (.inl ⟨el, rfl⟩) rfl rfl loop (T.self _ _ _ _ _ st4 loop)
end
end L2
set_option Elab.async false
set_option linter.all false
set_option maxRecDepth 100000
set_option maxHeartbeats 4000000
namespace L2
open PySem PySem.Spec PyProof.Rows
section
variable {X : Cx}
end
end L2
set_option Elab.async false
set_option linter.all false
set_option maxRecDepth 100000
set_option maxHeartbeats 4000000
namespace L2
open PySem PySem.Spec PyProof.Rows

theorem walk_range {lo : Int} {n : Nat} {g : TG} {b : TB} {N0 : St → Hp → Prop} {σ : St} {H : Hp} (Pv : Nat → St → Hp → Prop) (h0 : Pv 0 σ H)
    (hs : ∀ i σ H, i < n → Pv i σ H → g (.int (lo + i)) σ H fun σ2 H2 => b (Pv (i + 1)) σ2 H2) (hd : ∀ σ H, Pv n σ H → N0 σ H) : tWalk (Itr lo n) g b N0 σ H := by
  refine ⟨fun i m σ H => m = n - i ∧ i ≤ n ∧ Pv i σ H, ⟨n, by simp, Nat.zero_le _, h0⟩, ?_⟩
  rintro i m σ H ⟨rfl, hle, p⟩
  by_cases hi : i < n
  · refine .inr ⟨hi, Pv (i + 1), fun σ' H' q => ⟨n - (i + 1), by omega, rfl, by omega, q⟩, fun x H' hy => ?_⟩
    obtain ⟨rfl, rfl⟩ := hy
    exact hs i σ _ hi p
  · have : i = n := by omega
    subst this
    exact .inl ⟨Nat.le_refl _, hd σ H p⟩
theorem walk_list {K : PySem.W.Frag} {a : Addr} {xs : List V} {g : TG} {b : TB} {N0 : St → Hp → Prop} {σ : St} {H : Hp} (Pv : Nat → St → Hp → Prop) (h0 : Pv 0 σ H) (hl : ∀ i σ H, i ≤ xs.length → Pv i σ H → SqL K H a xs)
    (hs : ∀ i x σ H, xs[i]? = some x → Pv i σ H → g x σ H fun σ2 H2 => b (Pv (i + 1)) σ2 H2) (hd : ∀ σ H, Pv xs.length σ H → N0 σ H) : tWalk (Itl K a) g b N0 σ H := by
  refine ⟨fun i m σ H => m = xs.length - i ∧ i ≤ xs.length ∧ Pv i σ H, ⟨xs.length, by simp, Nat.zero_le _, h0⟩, ?_⟩
  rintro i m σ H ⟨rfl, hle, p⟩
  by_cases hi : i < xs.length
  · refine .inr ⟨⟨xs, xs[i], hl i σ H hle p, by simp [hi]⟩, Pv (i + 1), fun σ' H' q => ⟨xs.length - (i + 1), by omega, rfl, by omega, q⟩, fun x H' hy => ?_⟩
    obtain ⟨rfl, hy⟩ := hy
    exact hs i x σ _ (hy xs (hl i σ _ hle p)) p
  · have : i = xs.length := by omega
    subst this
    exact .inl ⟨⟨xs, hl _ σ H hle p, Nat.le_refl _⟩, hd σ H p⟩
section
variable {prog : Program} {w : World} {A : Around} {E : Value → Shared → Prop}
end
section
variable {X : Cx} {pos : Pos}
inductive call_divmodWY (xs : List V) (H : Hp) (Q : VK) : Prop
  | mk : ∀ (i j : Int), (xs = [.int i, .int j]) → ((0 < j ∧ j.natAbs < 2 ^ 9000)) → (∀ p, H p = none → Q (.ref p) (upd H p (.tup [.int (i / j), .int (i % j)]))) → call_divmodWY xs H Q
theorem call_divmodW : CallR X (.builtin "divmod") call_divmodWY := by
  intro pins s σ H xs us Q I r h
  obtain ⟨i, j, rfl, ⟨h1, h2⟩, q⟩ := h
  obtain ⟨u, w', rfl, ⟨t, rfl⟩, ⟨t', rfl⟩⟩ := vals2 r
  refine divmod_int (by omega) ?_ (.inl (PyProof.noPylong_of_log2 (Own.log2_lt h2)))
  rw [Int.fdiv_eq_ediv_of_nonneg i (by omega), Int.fmod_eq_emod_of_nonneg i (by omega)]
  have hn : H s.heap.objs.size = none := I.hok.fresh (Nat.le_refl _)
  refine ⟨.ref s.heap.objs.size, _, ?_, rfl, q _ hn⟩
  refine I.laid (fun b o e => Heap.get?_push_of_some _ e) (Nat.le_refl _) ⟨by simp only [List.length_cons, List.length_nil]; rw [sizeLine_eq]; decide, [.int (i / j) s.toks, .int (i % j) (s.toks + 1)], .cons ⟨_, rfl⟩ (.cons ⟨_, rfl⟩ .nil), ?_⟩
  exact ⟨_, Heap.get?_push_size s.heap rfl, rfl, 0, rfl, rfl⟩

end

mutual
def Dt (K : PySem.W.Frag) (H : Hp) : PyData → V → Prop
  | .none, v => v = .non
  | .bool b, v => v = .bl b
  | .int i, v => v = .int i
  | .str x, v => v = .str x
  | .tuple xs, v => ∃ a vs, v = .ref a ∧ SqT K H a vs ∧ DtAll K H xs vs
  | .list xs, v => ∃ a vs, v = .ref a ∧ SqL K H a vs ∧ DtAll K H xs vs
  | .dict _, _ => False
def DtAll (K : PySem.W.Frag) (H : Hp) : List PyData → List V → Prop
  | [], vs => vs = []
  | d :: ds, vs => ∃ v vr, vs = v :: vr ∧ Dt K H d v ∧ DtAll K H ds vr
end
section
variable {X : Cx} {pins : List (Addr × Obj)} {σ : St} {H : Hp} {s : Shared}
mutual
theorem Dt.reads (I : Inv X pins σ H s) : ∀ (d : PyData) (v : V) (u : Value), RelV v u → Dt X.K H d v → ∃ as, Reads s.heap u d as
  | .none, v, u, r, h => by unfold Dt at h; subst h; cases r; exact ⟨_, .none⟩
  | .bool b, v, u, r, h => by unfold Dt at h; subst h; cases r; exact ⟨_, .bool b⟩
  | .int i, v, u, r, h => by unfold Dt at h; subst h; obtain ⟨t, rfl⟩ := r; exact ⟨_, .int i t⟩
  | .str x, v, u, r, h => by unfold Dt at h; subst h; obtain ⟨t, rfl⟩ := r; exact ⟨_, .str x t⟩
  | .tuple xs, v, u, r, h => by
    unfold Dt at h
    obtain ⟨a, vs, rfl, hs, hd⟩ := h
    cases r
    obtain ⟨its, rv, ⟨o, e1, e2, n, e3⟩, hz⟩ := I.tuple hs
    obtain ⟨as, ra⟩ := DtAll.reads I xs vs its rv hd
    exact ⟨_, .tuple e1 e2 e3 (by simpa using ra)⟩
  | .list xs, v, u, r, h => by
    unfold Dt at h
    obtain ⟨a, vs, rfl, hs, hd⟩ := h
    cases r
    obtain ⟨its, rv, ht, hz⟩ := I.list hs
    obtain ⟨as, ra⟩ := DtAll.reads I xs vs its rv hd
    obtain ⟨o, e1, e2, n, e3⟩ := ht.isList
    exact ⟨_, .list e1 e2 e3 (by simpa using ra)⟩
  | .dict _, v, u, r, h => by unfold Dt at h; exact h.elim
theorem DtAll.reads (I : Inv X pins σ H s) : ∀ (ds : List PyData) (vs : List V) (us : List Value), Vals vs us → DtAll X.K H ds vs → ∃ as, ReadsAll s.heap us ds as
  | [], vs, us, r, h => by unfold DtAll at h; subst h; cases r; exact ⟨_, .nil⟩
  | d :: ds, vs, us, r, h => by
    unfold DtAll at h
    obtain ⟨v, vr, rfl, h1, h2⟩ := h
    cases r with
    | cons r1 r2 =>
      obtain ⟨as, q1⟩ := Dt.reads I d v _ r1 h1
      obtain ⟨bs, q2⟩ := DtAll.reads I ds vr _ r2 h2
      exact ⟨_, .cons q1 q2⟩
end
end
section
variable {X : Cx}
/-- x == y, x != y, told deep -/
inductive rEqD (K : PySem.W.Frag) (neg : Bool) (x : V) (y : V) (H : Hp) (Q : VK) : Prop
  | mk : ∀ d e, (Dt K H d x) → (Dt K H e y) → (SeqAt.shaped d = true) → (SeqAt.shaped e = true) → (Q (.bl (if neg then !PyData.eqv d e else PyData.eqv d e)) H) → rEqD K neg x y H Q
theorem op_eqD (hu : X.A.units + 64 < cLine) : OpR X (compareOp .Eq) (rEqD X.K false) := by
  intro pins s σ H x y v u Q I rx ry h
  obtain ⟨d, e, h1, h2, s1, s2, q⟩ := h
  obtain ⟨as, p1⟩ := Dt.reads I d x v rx h1
  obtain ⟨bs, p2⟩ := Dt.reads I e y u ry h2
  exact SeqAt.compareEq_shaped p1 p2 s1 s2 hu ⟨.bl _, H, I, rfl, q⟩
theorem op_neD (hu : X.A.units + 64 < cLine) : OpR X (compareOp .NotEq) (rEqD X.K true) := by
  intro pins s σ H x y v u Q I rx ry h
  obtain ⟨d, e, h1, h2, s1, s2, q⟩ := h
  obtain ⟨as, p1⟩ := Dt.reads I d x v rx h1
  obtain ⟨bs, p2⟩ := Dt.reads I e y u ry h2
  exact SeqAt.compareNe_shaped p1 p2 s1 s2 hu ⟨.bl _, H, I, rfl, q⟩
end
end L2
set_option Elab.async false
set_option linter.all false
set_option maxRecDepth 100000
set_option maxHeartbeats 4000000
namespace L2
open PySem PySem.Spec PyProof.Rows
section
variable {X : Cx}
end
def csOk (sc S0 : Scope) : Bool := (sc.names.all fun y => (y.2 != .local || sc.names.lookup y.1 == some .local) && y.2 != .cell && (y.2 != .free || S0.names.lookup y.1 == some .cell))
theorem CS.of {sc S0 : Scope} (k : sc.kind = .function) (h : csOk sc S0 = true) : CS sc S0 := by
  have q : ∀ y ∈ sc.names, _ := List.all_eq_true.mp h
  refine ⟨k, fun y hy e => ?_, fun y hy e => ?_, fun y hy e => ?_⟩ <;> have z := q y hy <;> rw [Bool.and_eq_true, Bool.and_eq_true] at z <;> obtain ⟨⟨z1, z2⟩, z3⟩ := z
  · rw [e] at z1; simpa using z1
  · rw [e] at z2; simp at z2
  · rw [e] at z3; simpa using z3
end L2
set_option Elab.async false
set_option linter.all false
set_option maxRecDepth 100000
set_option maxHeartbeats 4000000
namespace L2
open PySem PySem.Spec PyProof.Rows
section
variable {prog : Program} {w : World} {A : Around} {E : Value → Shared → Prop} {s : Shared}
end
def ItOf (k : Bool) (h : Heap) (it a : Addr) (i : Nat) : Prop := match k with | true => h.IsListIter it a i | false => h.IsTupleIter it a i
def SqOf (k : Bool) (h : Heap) (a : Addr) (items : Array Value) : Prop := match k with | true => h.IsList a items | false => h.IsTuple a items
def itName (k : Bool) : String := match k with | true => "list_iterator" | false => "tuple_iterator"
def SqX (K : PySem.W.Frag) (k : Bool) (H : Hp) (a : Addr) (xs : List V) : Prop := match k with | true => SqL K H a xs | false => SqT K H a xs
theorem ItOf.at {k : Bool} {h h' : Heap} {it a : Addr} {i : Nat} (x : ItOf k h it a i) (g : ∀ o, h.get? it = some o → h'.get? it = some o) : ItOf k h' it a i := by
  cases k
  · obtain ⟨o, e, r⟩ := x; exact ⟨o, g o e, r⟩
  · obtain ⟨o, e, r⟩ := x; exact ⟨o, g o e, r⟩
theorem SqOf.at {k : Bool} {h h' : Heap} {a : Addr} {items : Array Value} (x : SqOf k h a items) (g : ∀ o, h.get? a = some o → h'.get? a = some o) : SqOf k h' a items := by
  cases k
  · obtain ⟨o, e, r⟩ := x; exact ⟨o, g o e, r⟩
  · obtain ⟨o, e, r⟩ := x; exact ⟨o, g o e, r⟩
theorem SqOf.there {k : Bool} {h : Heap} {a : Addr} {items : Array Value} (x : SqOf k h a items) : ∃ o, h.get? a = some o := by
  cases k
  · obtain ⟨o, e, r⟩ := x; exact ⟨o, e⟩
  · obtain ⟨o, e, r⟩ := x; exact ⟨o, e⟩
theorem SqOf.lt {k : Bool} {h : Heap} {a : Addr} {items : Array Value} (x : SqOf k h a items) : a < h.objs.size := let ⟨_, e⟩ := x.there; Heap.lt_size e
theorem ItOf.new (k : Bool) (h : Heap) (a : Addr) : ItOf k (h.push { cls := .type (itName k), data := .fields #[.ref a, .int 0 0] }) h.objs.size a 0 := by
  cases k
  · exact ⟨_, Heap.get?_push_size _ rfl, rfl, rfl⟩
  · exact ⟨_, Heap.get?_push_size _ rfl, rfl, rfl⟩
section
variable {prog : Program} {w : World} {A : Around} {E : Value → Shared → Prop} {s : Shared}
end
end L2
set_option Elab.async false
set_option linter.all false
set_option maxRecDepth 100000
set_option maxHeartbeats 4000000
namespace L2
open PySem PySem.Spec PyProof.Rows
open AutoSeq1 (wpAny_loadPart')
section
variable {prog : Program} {w : World} {A : Around} {E : Value → Shared → Prop} {s : Shared}
end
theorem ItOf.cls {k : Bool} {h : Heap} {it a : Addr} {i : Nat} (x : ItOf k h it a i) : ∃ o, h.get? it = some o ∧ o.cls = .type (itName k) := by
  cases k <;> obtain ⟨o, e, c, _⟩ := x <;> exact ⟨o, e, c⟩
def sqName (k : Bool) : String := match k with | true => "list" | false => "tuple"
theorem SqOf.cls {k : Bool} {h : Heap} {a : Addr} {items : Array Value} (x : SqOf k h a items) : ∃ o, h.get? a = some o ∧ o.cls = .type (sqName k) := by
  cases k <;> obtain ⟨o, e, c, _⟩ := x <;> exact ⟨o, e, c⟩
section
variable {X : Cx}
end
end L2
set_option Elab.async false
set_option linter.all false
set_option maxRecDepth 100000
set_option maxHeartbeats 4000000
namespace L2
open PySem PySem.Spec PyProof.Rows
section
variable {prog : Program} {w : World} {A : Around} {E : Value → Shared → Prop} {s : Shared} {z TI TO i1 i2 : Addr} {fp1 fp2 : List Addr} {n1 n2 j : Nat} {P1 P2 : Nat → Value → Prop} {S1 S2 : Nat → Heap → Prop} {a b : Value}
end
end L2
set_option Elab.async false
set_option linter.all false
set_option maxRecDepth 100000
set_option maxHeartbeats 4000000
namespace L2
open PySem PySem.Spec PyProof.Rows
section
variable {prog : Program} {w : World} {A : Around} {E : Value → Shared → Prop} {s : Shared}
end
section
variable {X : Cx}
end
end L2
set_option Elab.async false
set_option linter.all false
set_option maxRecDepth 100000
set_option maxHeartbeats 4000000
namespace L2
open PySem PySem.Spec PyProof.Rows
section
variable {X : Cx} {tg iter el : Expr} {ifs : List Expr} {sc : Scope} {pos py spos : Pos} {Nc : List Str} {js : List (Option Nat)} {wi : TI} {i : Nat} {y : Str}
end
end L2
set_option Elab.async false
set_option linter.all false
set_option maxRecDepth 100000
set_option maxHeartbeats 4000000
namespace L2
open PySem PySem.Spec PyProof.Rows
theorem range_all (bs : List Bool) : (List.range bs.length).all (fun i => bs.getD i false) = bs.all id := by
  rw [Bool.eq_iff_iff, List.all_eq_true, List.all_eq_true]
  constructor
  · intro h b hb
    obtain ⟨i, hi, rfl⟩ := List.mem_iff_getElem.mp hb
    have := h i (List.mem_range.mpr hi)
    simpa [List.getD_eq_getElem?_getD, hi] using this
  · intro h i hi
    have hl : i < bs.length := List.mem_range.mp hi
    have := h bs[i] (List.getElem_mem hl)
    simpa [List.getD_eq_getElem?_getD, hl] using this
theorem vals_bl : ∀ {bs : List Bool} {its : List Value}, Vals (bs.map V.bl) its → its = bs.map Value.bool
  | [], _, r => by cases r; rfl
  | b :: bs, _, r => by
    cases r with
    | cons r1 r2 =>
      cases r1
      rw [vals_bl r2]
      rfl
section
variable {X : Cx}
theorem truth_bl {prog : Program} {w : World} {A : Around} {bs : List Bool} {items : Array Value} (e : items = (bs.map Value.bool).toArray) : TruthOf prog w A (fun i v => items[i]? = some v) (fun i => bs.getD i false) := by
  intro i v s Q E h q
  rw [e] at h
  have h' : (bs.map Value.bool)[i]? = some v := by simpa using h
  rw [List.getElem?_map] at h'
  cases z : bs[i]? with
  | none => rw [z] at h'; cases h'
  | some b =>
    rw [z] at h'
    cases h'
    refine wpAny_truthy_bool ?_
    simpa [List.getD_eq_getElem?_getD, z] using q
inductive call_allLY (K : PySem.W.Frag) (xs : List V) (H : Hp) (Q : VK) : Prop
  | mk : ∀ (a : Addr) (bs : List Bool), (xs = [.ref a]) → (SqL K H a (bs.map V.bl)) → (Q (.bl (bs.all id)) H) → call_allLY K xs H Q
theorem call_allL (hc : X.calm = true) : CallR X (.builtin "all") (call_allLY X.K) := by
  intro pins s σ H xs us Q I r h
  obtain ⟨a, bs, rfl, hS, q⟩ := h
  obtain ⟨u, rfl, r1⟩ := vals1 r
  cases r1
  obtain ⟨its, rv, ht, hz⟩ := I.list hS
  have hl := ht.isList
  have hne : a ≠ s.heap.objs.size := by obtain ⟨o, e, _⟩ := hl; exact Nat.ne_of_lt (Heap.lt_size e)
  have eits := vals_bl rv
  refine call_all_walk (wpAny_pyIter_list hl ⟨_, _, _, _, _, _, _, rfl, Walks.list (A := X.A.in1) (I.ok.hd hc) _ a hne its.toArray, ⟨⟨_, Heap.get?_push_size _ rfl, rfl, rfl⟩, hl.push _⟩, truth_bl (bs := bs) (by rw [eits]), fun h' tk hk => ?_⟩)
  have e : its.toArray.size = bs.length := by rw [eits]; simp
  rw [e, range_all]
  refine ⟨.bl _, H, I.kept fun b o e' => hk b o (fun z => ?_) (Heap.get?_push_of_some _ e'), rfl, q⟩
  rw [List.mem_singleton.mp z] at e'
  exact absurd (Heap.lt_size e') (Nat.lt_irrefl _)
end
end L2
set_option Elab.async false
set_option linter.all false
set_option maxRecDepth 100000
set_option maxHeartbeats 4000000
namespace L2
open PySem PySem.Spec PyProof.Rows
section
variable {X : Cx}
end
mutual
/-- tuples, ints, truths, texts alone -/
def onlyT : PyData → Bool
  | .none | .bool _ | .int _ | .str _ => true
  | .tuple xs => onlyTs xs
  | .list _ | .dict _ => false
def onlyTs : List PyData → Bool
  | [] => true
  | x :: xs => onlyT x && onlyTs xs
end
mutual
theorem reads_no {h : Heap} : ∀ (d : PyData) (u : Value) (as : List Addr), Reads h u d as → onlyT d = true → as = []
  | .none, _, _, r, _ => by cases r; rfl
  | .bool _, _, _, r, _ => by cases r; rfl
  | .int _, _, _, r, _ => by cases r; rfl
  | .str _, _, _, r, _ => by cases r; rfl
  | .tuple xs, _, _, r, e => by
    cases r with
    | tuple h1 h2 h3 h4 => exact reads_nos xs _ _ h4 (by simpa [onlyT] using e)
  | .list _, _, _, _, e => by simp [onlyT] at e
  | .dict _, _, _, _, e => by simp [onlyT] at e
theorem reads_nos {h : Heap} : ∀ (ds : List PyData) (us : List Value) (as : List Addr), ReadsAll h us ds as → onlyTs ds = true → as = []
  | [], _, _, r, _ => by cases r; rfl
  | d :: ds, _, _, r, e => by
    have e' : onlyT d = true ∧ onlyTs ds = true := by simpa [onlyTs] using e
    cases r with
    | cons r1 r2 => rw [reads_no d _ _ r1 e'.1, reads_nos ds _ _ r2 e'.2]; rfl
end
section
variable {X : Cx}
def DtS (X : Cx) (H : Hp) (d : PyData) (v : V) : Prop := ∀ (pins : List (Addr × Obj)) (s : Shared) (σ : St) (u : Value), Inv X pins σ H s → RelV v u → ∃ as, Reads s.heap u d as ∧ sysModules ∉ as
theorem DtS.of {H : Hp} {d : PyData} {v : V} (h : Dt X.K H d v) (o : onlyT d = true) : DtS X H d v := fun pins s σ u I r => by
  obtain ⟨as, q⟩ := Dt.reads I d v u r h
  rw [reads_no d u as q o] at q
  exact ⟨[], q, by simp⟩
theorem DtS.pair {H : Hp} {a : Addr} {d e : PyData} {x y : V} (h : H a = some (.tup [x, y])) (h1 : DtS X H d x) (h2 : DtS X H e y) : DtS X H (.tuple [d, e]) (.ref a) := fun pins s σ u I r => by
  cases r
  obtain ⟨its, rv, ⟨o, e1, e2, n, e3⟩, hz⟩ := I.tuple (SqT.of (K := X.K) h)
  cases rv with
  | cons r1 rr =>
    cases rr with
    | cons r2 rr =>
      cases rr
      obtain ⟨as, q1, w1⟩ := h1 pins s σ _ I r1
      obtain ⟨bs, q2, w2⟩ := h2 pins s σ _ I r2
      refine ⟨_, .tuple e1 e2 e3 (by simpa using ReadsAll.cons q1 (ReadsAll.cons q2 .nil)), ?_⟩
      simp [w1, w2]
/-- a table from tuples of ints to ints -/
def kvD (p : List Int × Int) : PyData × PyData := (.tuple (p.1.map PyData.int), .int p.2)
theorem dt_ints {H : Hp} {P : Program} {w : World} {h : Heap} {b : Addr} {k : List Int} (ok : HOk P w H h) (e : H b = some (.tup (k.map V.int))) : Reads h (.ref b) (.tuple (k.map PyData.int)) [] := by
  obtain ⟨z, its, rv, ⟨o, e1, e2, n, e3, _⟩⟩ := (show ObjOk P w H h b (.tup (k.map V.int)) from ok b _ e)
  refine .tuple e1 e2 e3 ?_
  have : ∀ (k : List Int) (its : List Value), Vals (k.map V.int) its → ReadsAll h its (k.map PyData.int) [] := fun k => by
    induction k with
    | nil => intro its r; cases r; exact .nil
    | cons i k ih =>
      intro its r
      cases r with
      | cons r1 r2 =>
        obtain ⟨t, rfl⟩ := r1
        exact ReadsAll.cons (.int i t) (ih _ r2)
  simpa using this k its rv
def kvV (p : List Int × Int) : List Key × V := (p.1.map Sum.inl, .int p.2)
theorem kv_key (k : List Int) : (k.map (Sum.inl (α := Int) (β := Str))).map kV = k.map V.int := by
  rw [List.map_map]
  rfl
theorem DtS.table {H : Hp} {a : Addr} {ps : List (List Int × Int)} (h : H a = some (.dT (ps.map kvV))) : DtS X H (.dict (ps.map kvD)) (.ref a) := fun pins s σ u I r => by
  cases r
  obtain ⟨z, y, xs, pr, o, es, ep, h1, h2, h3, h4, h5⟩ := (show ObjOk X.prog X.w H s.heap a (.dT (ps.map kvV)) from I.hok a _ h)
  have key : ∀ (ps : List (List Int × Int)) (xs : List (List Key × Addr × Value)), Paired (fun (p : List Key × V) (q : List Key × Addr × Value) => p.1 = q.1 ∧ H q.2.1 = some (.tup (p.1.map kV)) ∧ RelV p.2 q.2.2) (ps.map kvV) xs →
      ReadsAll s.heap ((xs.map (entryOfKey (tupleKind (mixKind X.prog X.w)))).map (·.key)) ((ps.map kvD).map (·.1)) [] ∧ ReadsAll s.heap ((xs.map (entryOfKey (tupleKind (mixKind X.prog X.w)))).map (·.val)) ((ps.map kvD).map (·.2)) [] := fun ps => by
    induction ps with
    | nil => intro xs r; cases r; exact ⟨.nil, .nil⟩
    | cons p ps ih =>
      intro xs r
      cases r with
      | cons r1 r2 =>
        obtain ⟨e1, e2, e3⟩ := r1
        obtain ⟨i1, i2⟩ := ih _ r2
        have e2' := e2
        rw [show (kvV p).1.map kV = p.1.map V.int from kv_key p.1] at e2'
        obtain ⟨t, et⟩ := e3
        have hv : ∀ {q : List Key × Addr × Value}, q.2.2 = Value.int p.2 t → Reads s.heap (entryOfKey (tupleKind (mixKind X.prog X.w)) q).val (.int p.2) [] := fun {q} z => by
          show Reads s.heap q.2.2 (.int p.2) []
          rw [z]; exact .int _ _
        exact ⟨ReadsAll.cons (as := []) (bs := []) (dt_ints I.hok e2') i1, ReadsAll.cons (as := []) (bs := []) (hv et) i2⟩
  obtain ⟨k1, k2⟩ := key ps xs pr
  have hcls : o.cls = .type "dict" := h2.1
  refine ⟨a :: [] ++ [], .dict h1 hcls h3 (by rw [h4]; exact k1) (by rw [h4]; exact k2), ?_⟩
  intro w
  have e : sysModules = a := by simpa using w
  rw [e] at y
  simp at y
end
end L2
set_option Elab.async false
set_option linter.all false
set_option maxRecDepth 100000
set_option maxHeartbeats 4000000
namespace L2
open PySem PySem.Spec PyProof.Rows
section
variable {X : Cx} {tg iter el tg2 iter2 : Expr} {ifs ifs2 : List Expr} {sc : Scope} {pos : Pos} {Nc : List Str} {js : List (Option Nat)} {wi wi2 : TI} {g g2 : TG}
end
end L2
set_option Elab.async false
set_option linter.all false
set_option maxRecDepth 100000
set_option maxHeartbeats 4000000
namespace L2
open PySem PySem.Spec PyProof.Rows
open AutoSeq1 (wpAny_loadPart')
section
variable {X : Cx}
end
end L2
set_option linter.all false
set_option maxRecDepth 100000
namespace L2
open PySem PySem.Spec PyProof.Rows
theorem sc_mk {N P : List Str} {sc : Scope} (a : sc.kind = .function := by rfl) (b : sc.isCoroutine = false := by rfl) (c : sc.isGenerator = false := by rfl) (d : N.Nodup := by decide +kernel) (e : N.take P.length = P := by rfl)
    (g : ∀ x ∈ P, sc.names.lookup x = some .local ∨ sc.names.lookup x = some .cell := by decide +kernel) (h : ∀ y ∈ sc.names, y.2 ≠ .free := by decide +kernel) : FnScope N P sc := ⟨a, b, c, d, e, g, h⟩
theorem len0 {α : Type} {us : List α} (h : us.length = 0) : us = [] := List.length_eq_zero_iff.mp h
theorem lenS {α : Type} {us : List α} {n : Nat} (h : us.length = n + 1) : ∃ a r, us = a :: r ∧ r.length = n := by
  cases us with
  | nil => exact nomatch h
  | cons a r => exact ⟨a, r, rfl, Nat.succ.inj h⟩
theorem len1 {α : Type} {us : List α} (h : us.length = 1) : ∃ a, us = [a] := by
  obtain ⟨a, r, rfl, g⟩ := lenS h
  exact ⟨a, by rw [len0 g]⟩
theorem len2 {α : Type} {us : List α} (h : us.length = 2) : ∃ a b, us = [a, b] := by
  obtain ⟨a, r, rfl, g⟩ := lenS h
  obtain ⟨b, rfl⟩ := len1 g
  exact ⟨a, b, rfl⟩
theorem len3 {α : Type} {us : List α} (h : us.length = 3) : ∃ a b c, us = [a, b, c] := by
  obtain ⟨a, r, rfl, g⟩ := lenS h
  obtain ⟨b, c, rfl⟩ := len2 g
  exact ⟨a, b, c, rfl⟩
theorem len4 {α : Type} {us : List α} (h : us.length = 4) : ∃ a b c d, us = [a, b, c, d] := by
  obtain ⟨a, r, rfl, g⟩ := lenS h
  obtain ⟨b, c, d, rfl⟩ := len3 g
  exact ⟨a, b, c, d, rfl⟩
theorem len5 {α : Type} {us : List α} (h : us.length = 5) : ∃ a b c d e, us = [a, b, c, d, e] := by
  obtain ⟨a, r, rfl, g⟩ := lenS h
  obtain ⟨b, c, d, e, rfl⟩ := len4 g
  exact ⟨a, b, c, d, e, rfl⟩
section
variable {P : Program} {w : World} {K : PySem.W.Frag} {mg : Str → Option Value} {base : Heap}
theorem hs_of {n : Str} {st : Stmt} {N ps : List Str} {k : Nat} {sp : Sp} (X : ∃ h : Heap, K.In h ∧ h.Ns mainGlobals mg) (d : DfAt K n st) (S : FnScope N ps (defScope st))
    (hbody : ∀ (f : Addr) (cdv : Value) (A : Around) (outer : List Env) (s : Shared) (H : Hp) (vs : List V) (Q : VK) (E : XK), N.Nodup → Room k (A.deeper (envOfC n (defScope st) s.heap.objs.size f cdv)) → sp vs H Q E →
      ∃ t, PSs (cxOf CX0 P w K mg base N n (defScope st) f cdv A outer s H E).nox (defBody st) t ∧ t { nx := fun _ H' => Q .non H', rt := Q } (start N vs) H)
    (len : ∀ vs H Q E, sp vs H Q E → vs.length = ps.length := by intro _ _ _ _ h; first | (cases h; subst_vars; rfl) | (rcases h with h | h <;> cases h <;> subst_vars <;> rfl))
    (b : ∀ (kV doc pm : Value) (an : Option Addr) (cdv ct : Value) (us : List Value), us.length = ps.length → bindArgs (PySem.W.fnOf n n (defArgs st) (defBody st) (defScope st) .none kV doc pm an cdv ct) ⟨us, []⟩ = pure (ps.zip us) := by
      intro _ _ _ _ _ _ us hl; first | (obtain ⟨_, rfl⟩ := len1 hl; rfl) | (obtain ⟨_, _, rfl⟩ := len2 hl; rfl) | (obtain ⟨_, _, _, rfl⟩ := len3 hl; rfl) | (obtain ⟨_, _, _, _, rfl⟩ := len4 hl; rfl) | (obtain ⟨_, _, _, _, _, rfl⟩ := len5 hl; rfl) | (obtain rfl := len0 hl; rfl)) : Own.Has P w K mg base n ps (k + 1) sp := by
  obtain ⟨h, x, g⟩ := X
  exact has_mk x g d (fun f fd F => F.ok S len fun cdv A outer s H vs Q E => hbody f cdv A outer s H vs Q E S.nd) b
end
inductive spLaw (K : PySem.W.Frag) (vs : List V) (H : Hp) (Q : VK) (E : XK) : Prop
  | mk (a : Addr) (ns : List Int) : vs = [.ref a] → SqL K H a (ns.map V.int) → ns.length ≤ 63 → (∀ H', Q (.bl true) H') → spLaw K vs H Q E
structure Cn where
  P : Program
  w : World
  K : PySem.W.Frag
  mg : Str → Option Value
  base : Heap
instance : Nonempty Cn := ⟨⟨default, ⟨fun _ _ => 0, { strHash := fun _ => 0, shareClass := id, mergeTok := id, idOf := fun _ => 0, idOfShared := fun _ _ => 0, followText := fun _ => true, idOfImm := fun _ => 0 }⟩, default, fun _ => none, default⟩⟩
section
variable {X : Cx} {e : Expr} {es : List Expr} {te : TE} {t : TA} {p pos pos' : Pos} {x : Str}
theorem pf {j k : Nat} {ps : List Str} {sp : Sp} (h : Own.Has X.prog X.w X.K X.mg X.base x ps j sp) (hr : Room k X.A) (ha : PA X (e :: es) t) (hj : j ≤ k := by decide) (hg : Gl X x := by rfl)
    (hdb : (x == ("__debug__" : Str)) = false := by decide) (he : starEach (e :: es) X.env = (false, eval e X.env) :: starEach es X.env := by rfl) (hpl : (backTo pos (starEach es X.env)).any (·.1) = false := by rfl) :
    PE X (.Call (.Name x p) (e :: es) [] pos) (tCall sp [] E0 t) := Own.pe_has h (hr.mono hj) hg ha hdb he hpl
theorem pst (i : Nat) (hN : X.N.Nodup) (he : PE X e te) (hi : X.N[i]? = some x := by rfl) (hx : Loc X.env.scope x := by first | exact Or.inl rfl | exact Or.inr rfl) (hs : swapsWith e (some (.Name x pos')) pos.line X.env = pure false := by rfl)
    (hf : X.fn x = true ∨ X.env.scope.names.lookup x = some .local := by first | exact .inl rfl | exact .inr rfl) : PS X (.Assign [.Name x pos'] e pos) (tAsg te (gName i)) := ps_set hN hi hx he hs hf
theorem pgn (i : Nat) (hN : X.N.Nodup) (hi : X.N[i]? = some x := by rfl) (hx : Loc X.env.scope x := by first | exact Or.inl rfl | exact Or.inr rfl) (hf : X.fn x = true ∨ X.env.scope.names.lookup x = some .local := by first | exact .inl rfl | exact .inr rfl) : PG X (.Name x pos) (gName i) := pg_name hN hi hx hf
theorem pfor {tg iter : Expr} {body : List Stmt} {wi : TI} {g : TG} {tb : TS} (hi : PI X tg iter wi) (hg : PG X tg g) (hb : PSs X body tb) (hp : PassesOwn (model X.prog X.w) X.A X.env X.xe := by exact PassesOwn.never) (hc : X.calm = true := by rfl)
    (hs : ∀ x, foldedSetIterable iter X.env x = pure x := by intro _; rfl) : PS X (.For tg iter body [] pos) (tFor wi g tb) := ps_for hp hc hi hg hb hs
variable {a b c d : Expr} {ta tb tc td : TE}
theorem pix {r : R2} (hr : IxR X r) (ha : PE X a ta) (hb : PE X b tb) (hs : PlainIx b := by exact fun _ _ => rfl) : PE X (.Subscript a b pos) (tOp r ta tb) := pe_ix hr ha hb hs
theorem p1 (ha : PE X a ta) (h1 : starEach [a] X.env = (false, eval a X.env) :: starEach [] X.env := by rfl) : PA X [a] (tCons ta tNil) := pa_cons ha pa_nil h1
theorem p2 (ha : PE X a ta) (hb : PE X b tb) (h1 : starEach [a, b] X.env = (false, eval a X.env) :: starEach [b] X.env := by rfl) (h2 : starEach [b] X.env = (false, eval b X.env) :: starEach [] X.env := by rfl) : PA X [a, b] (tCons ta (tCons tb tNil)) := pa_cons ha (pa_cons hb pa_nil h2) h1
theorem nd1 {a : Str} : [a].Nodup := List.nodup_cons.mpr ⟨List.not_mem_nil, List.nodup_nil⟩
theorem nd2 {a b : Str} (h : a ≠ b) : [a, b].Nodup := List.nodup_cons.mpr ⟨fun m => h (List.mem_singleton.mp m), nd1⟩
theorem nd3 {a b c : Str} (h : a ≠ b) (h' : a ≠ c) (h2 : b ≠ c) : [a, b, c].Nodup := List.nodup_cons.mpr ⟨fun m => (List.mem_cons.mp m).elim h fun m => h' (List.mem_singleton.mp m), nd2 h2⟩
/-- a target of a comprehension -/
theorem pgc (i : Nat) (hN : X.N.Nodup := by first | exact nd1 | exact nd2 (by decide) | exact nd3 (by decide) (by decide) (by decide)) (hi : X.N[i]? = some x := by rfl) (hx : Loc X.env.scope x := by first | exact Or.inl rfl | exact Or.inr rfl) (hf : X.fn x = true ∨ X.env.scope.names.lookup x = some .local := by first | exact .inl rfl | exact .inr rfl) : PG X (.Name x pos) (gName i) := pg_name hN hi hx hf
section
variable {o : Expr} {to : TE} {r : V → List V → Hp → VK → Prop} {apos cpos : Pos}
theorem m_list {n : Str} {id : String} (slot : Slot "list" n id) (hty : typeOf (.builtin id) = pure (.type "method_descriptor")) (hm : MtR X id r) (ho : PE X o to) (ha : PA X (e :: es) t)
    (hbase : attributeBase o n X.env (eval o X.env) = eval o X.env := by rfl)
    (hfew : ((backTo cpos (starEach (e :: es) X.env)).all (fun x => !x.1) && (backToKw cpos (keywordEach [] X.env)).all (fun x => x.1.isSome)
      && decide ((e :: es).length + ([] : List Keyword).length + (if ([] : List Keyword).isEmpty then 0 else 1) < 30)) = true := by rfl)
    (hline : (apos.endLine == cpos.line) = true := by rfl) (hs : starEach (e :: es) X.env = (false, eval e X.env) :: starEach es X.env := by rfl) (hplain : (backTo cpos (starEach es X.env)).any (·.1) = false := by rfl) :
    PE X (.Call (.Attribute o n apos) (e :: es) [] cpos) (tBM X.K "list" r to t) := pe_bm PySem.F.plainAttrs_list slot hty hm ho ha hbase hfew hline hs hplain
end
end
end L2
set_option Elab.async false
set_option linter.all false
set_option maxRecDepth 100000
set_option maxHeartbeats 4000000
namespace L2
open PySem PySem.Spec PyProof.Rows
section
variable {X : Cx} {tg iter kx vx : Expr} {ifs : List Expr} {sc : Scope} {pos : Pos} {Nc : List Str} {js : List (Option Nat)} {wi : TI}
end
end L2
set_option Elab.async false
set_option linter.all false
set_option maxRecDepth 100000
set_option maxHeartbeats 4000000
namespace L2
open PySem PySem.Spec PyProof.Rows
section
variable {prog : Program} {w : World} {A : Around} {E : Value → Shared → Prop} {s : Shared} {z TI TO i1 i2 : Addr} {fp1 fp2 : List Addr} {n1 n2 j : Nat} {P1 P2 : Nat → Value → Prop} {S1 S2 : Nat → Heap → Prop} {a b : Value}
end
section
variable {X : Cx}
end
end L2
set_option Elab.async false
set_option linter.all false
set_option maxRecDepth 100000
set_option maxHeartbeats 4000000
namespace HT
open PySem PySem.Spec PyProof.Rows
section
variable {prog : Program} {w : World} {A : Around} {E : Value → Shared → Prop} {s : Shared}
theorem fm_all {α : Type} : ∀ ys : List α, (List.range ys.length).filterMap (fun (k : Nat) => ys[k]?) = ys
  | [] => rfl
  | y :: ys => by
    rw [List.length_cons, List.range_succ_eq_map, List.filterMap_cons]
    show y :: ((List.range ys.length).map Nat.succ).filterMap (fun (k : Nat) => (y :: ys)[k]?) = y :: ys
    rw [List.filterMap_map]
    exact congrArg (y :: ·) (fm_all ys)
theorem fm_congr {α β : Type} {f g : α → Option β} : ∀ l : List α, (∀ x ∈ l, f x = g x) → l.filterMap f = l.filterMap g
  | [], _ => rfl
  | x :: l, h => by rw [List.filterMap_cons, List.filterMap_cons, h x (by simp), fm_congr l fun y hy => h y (by simp [hy])]
theorem rev_list {α : Type} (xs : List α) : (List.range xs.length).filterMap (fun (k : Nat) => xs[(((xs.length : Int) - 1) + (k : Int) * (-1)).toNat]?) = xs.reverse := by
  have h := fm_all xs.reverse
  rw [List.length_reverse] at h
  rw [← h]
  refine fm_congr _ fun k hk => ?_
  have hk := List.mem_range.mp hk
  rw [List.getElem?_reverse hk]
  congr 1
  omega
end
end HT
namespace L2
open PySem PySem.Spec PyProof.Rows
section
variable {X : Cx}
end
end L2
set_option Elab.async false
set_option linter.all false
set_option maxRecDepth 100000
set_option maxHeartbeats 4000000
namespace L2
open PySem PySem.Spec PyProof.Rows
section
variable {prog : Program} {w : World} {A : Around} {E : Value → Shared → Prop} {s : Shared}
end
theorem KV.at' {kvs : List (Key × V)} {vs : List (Key × Value)} (r : KV kvs vs) {i : Nat} {kv : Key × V} {p : Key × Value} (h1 : kvs[i]? = some kv) (h2 : vs[i]? = some p) : kv.1 = p.1 ∧ RelV kv.2 p.2 := by
  induction r generalizing i with
  | nil => simp at h1
  | cons h t ih =>
    cases i with
    | zero =>
      simp at h1 h2
      subst h1
      subst h2
      exact h
    | succ i => exact ih (by simpa using h1) (by simpa using h2)
section
variable {X : Cx}
end
end L2
set_option linter.all false
namespace L2
open PySem
section
variable {X : Cx}
end
end L2
set_option linter.all false
set_option maxRecDepth 100000
namespace L2
open PySem PySem.Spec PyProof.Rows
def HoX (k : Bool) (xs : List V) : HO := match k with | true => .lst xs | false => .tup xs
theorem SqX.of {K : PySem.W.Frag} {k : Bool} {H : Hp} {a : Addr} {xs : List V} (h : H a = some (HoX k xs)) : SqX K k H a xs := by
  cases k
  · exact SqT.of h
  · exact SqL.of h
section
variable {X : Cx} {tg : Expr}
end
end L2
set_option Elab.async false
set_option linter.all false
set_option maxRecDepth 100000
set_option maxHeartbeats 4000000
namespace L2
open PySem PySem.Spec PyProof.Rows
section
variable {X : Cx}
inductive rSlS (x : V) (lo : Option Int) (hi : Option Int) (H : Hp) (Q : VK) : Prop
  | mk : ∀ z, (x = .str z) → (z.length ≤ sizeLine) → (Q (.str (Txt.slice z lo hi)) H) → rSlS x lo hi H Q
theorem part_tok {v : Value} {o : Option Int} (p : IsPart v o) : ∃ q : Option (Int × Tok), v = partValue q ∧ q.map (·.1) = o := by
  cases o with
  | none => exact ⟨none, by cases p <;> rfl, rfl⟩
  | some i =>
    cases p
    exact ⟨some (_, _), rfl, rfl⟩
theorem sl_str : SlR X rSlS := by
  intro pins s σ H x v vl vu lo hi sl Q I rx hs pl pu h
  obtain ⟨z, rfl, hz, q⟩ := h
  obtain ⟨t, rfl⟩ := rx
  obtain ⟨ql, rfl, rfl⟩ := part_tok pl
  obtain ⟨qu, rfl, rfl⟩ := part_tok pu
  refine ⟨"str", _, F.slot_str_getitem.lookup, typeIs_str _ _ _, ?_⟩
  refine wpAny_getItem_str_slice (l := ql) (u := qu) (st := none) hs rfl (post_val_or_str ⟨?_, fun t' k => ⟨.str _, H, I.tok _, ⟨_, rfl⟩, ?_⟩⟩)
  · exact Nat.le_trans (Txt.slice_le z _ _) hz
  · exact q
theorem strs_of : ∀ {zs : List Str} {its : List Value}, Vals (zs.map V.str) its → ∃ l : List (Str × Tok), its = strValues l ∧ l.map (·.1) = zs
  | [], _, r => by cases r; exact ⟨[], rfl, rfl⟩
  | z :: zs, _, r => by
    cases r with
    | cons r1 r2 =>
      obtain ⟨t, rfl⟩ := r1
      obtain ⟨l, rfl, e⟩ := strs_of r2
      exact ⟨(z, t) :: l, rfl, by rw [List.map_cons, e]⟩
inductive rJoin (K : PySem.W.Frag) (x : V) (vs : List V) (H : Hp) (Q : VK) : Prop
  | mk : ∀ z a zs, (x = .str z) → (vs = [.ref a]) → (SqL K H a (zs.map V.str)) → (JoinOk z zs = true) → (Q (.str (Txt.join z zs)) H) → rJoin K x vs H Q
theorem mt_join : MtM X "str.join" (rJoin X.K) := by
  intro pins s σ H x vs v us Q I rx rv h
  obtain ⟨z, a, zs, rfl, rfl, hS, hj, q⟩ := h
  obtain ⟨t, rfl⟩ := rx
  obtain ⟨u, rfl, ru⟩ := rv.one
  cases ru
  obtain ⟨its, r, ht, hz⟩ := I.list hS
  obtain ⟨l, rfl, e⟩ := strs_of r
  exact SC.join ht.isList e hj fun t' k => ⟨.str _, H, I.tok _, ⟨_, rfl⟩, q⟩
end
def Asc (z : Str) : Prop := (z.cps.all fun c => decide (c < 128)) = true
def Its (z : Str) : It := ⟨fun i _ => i < z.cps.size, fun i H x H' => H' = H ∧ ∃ c, z.cps[i]? = some c ∧ x = .str ⟨#[c]⟩, fun i _ => z.cps.size ≤ i⟩
theorem turn_str {P : Program} {w : World} {K : PySem.W.Frag} {tg : Expr} (it : Addr) (z : Str) (t : Tok) : Turn P w K tg (Its z) [it] it (fun i h => i ≤ z.cps.size ∧ h.IsStrIter it "str_ascii_iterator" z t i) where
  mem := by simp
  obj := fun i h st b hb => by
    have e : b = it := by simpa using hb
    subst e
    obtain ⟨_, o, e1, e2, e3⟩ := st
    exact ⟨o, e1, fun v z => by rw [e3] at z; cases z⟩
  keep := fun i h h' st k => let ⟨l, o, ho, r⟩ := st; ⟨l, o, k it (by simp) o ho, r⟩
  item := by
    intro X hP hw hK hc i pins s σ H E I hf st hg
    subst hP hw hK
    obtain ⟨f0, f1, f2, f3, f4, f5⟩ := hf it (by simp)
    refine (Walks.strAscii (prog := X.prog) (w := X.w) (I.ok.hd hc) it z t).item i s _ _ hg st.2 fun v h' tk hv st' kk => ?_
    obtain ⟨c, u, hc1, rfl⟩ := hv
    have I1 : Inv X pins σ H { s with heap := h', toks := tk } := I.turned (fun b o hb e => kk b o (by simpa using hb) e) f0 f1 f3 f4 f5
    obtain ⟨o, e1, e2, e3⟩ := id st'
    exact ⟨_, rfl, go_of (s := { s with heap := h', toks := tk }) (n := "str_ascii_iterator") e1 e2 e3 (by decide) ⟨.str ⟨#[c]⟩, H, I1, ⟨u, rfl⟩, ⟨rfl, c, hc1, rfl⟩, ⟨hg, st'⟩, fun b hb => (hf b hb).1⟩⟩
  done := by
    intro X hP hw hK hc i pins s σ H E I hf st hg
    subst hP hw hK
    obtain ⟨f0, f1, f2, f3, f4, f5⟩ := hf it (by simp)
    have e : i = z.cps.size := Nat.le_antisymm st.1 hg
    subst e
    refine (Walks.strAscii (prog := X.prog) (w := X.w) (I.ok.hd hc) it z t).done s _ _ st.2 fun h' tk kk => ⟨rfl, I.turned (t' := tk) (fun b o hb e => kk b o (by simpa using hb) e) f0 f1 f3 f4 f5⟩
  self := fun _ _ _ _ _ st h => wpAny_pyIter_striter_ascii st.2 h
section
variable {X : Cx} {tg : Expr}
inductive iStrY (R : It → Hp → Prop) (x : V) (H1 : Hp) : Prop
  | mk : ∀ z, (x = .str z) → (Asc z) → (R (Its z) H1) → iStrY R x H1
def iStr (tl : TE) : TI := fun σ H R => tl σ H fun x H1 => iStrY R x H1
theorem pi_str {l : Expr} {tl : TE} (hl : PE X l tl) : PI X tg l (iStr tl) := by
  intro pins s σ H R I h
  refine thn (hl pins s σ H _ I h) fun v s1 ⟨x, H1, I1, r1, q1⟩ => ?_
  obtain ⟨z, e, ha, q⟩ := q1
  subst e
  obtain ⟨t, rfl⟩ := r1
  refine wpAny_pyIter_ascii ha ?_
  refine ⟨s1.heap.objs.size, [s1.heap.objs.size], _, _, H1, rfl, I1.kept (t' := s1.toks) fun b o e => Heap.get?_push_of_some _ e, turn_str _ z t, ⟨Nat.zero_le _, _, Heap.get?_push_size _ rfl, rfl, rfl⟩, fun b hb => ?_, q⟩
  have e : b = s1.heap.objs.size := by simpa using hb
  subst e
  exact I1.fpOk (Nat.le_refl _) (I1.hok.fresh (Nat.le_refl _))
end
theorem walk_str {z : Str} {g : TG} {b : TB} {N0 : St → Hp → Prop} {σ : St} {H : Hp} (Pv : Nat → St → Hp → Prop) (h0 : Pv 0 σ H)
    (hs : ∀ i c σ H, z.cps[i]? = some c → Pv i σ H → g (.str ⟨#[c]⟩) σ H fun σ2 H2 => b (Pv (i + 1)) σ2 H2) (hd : ∀ σ H, Pv z.cps.size σ H → N0 σ H) : tWalk (Its z) g b N0 σ H := by
  refine ⟨fun i m σ H => m = z.cps.size - i ∧ i ≤ z.cps.size ∧ Pv i σ H, ⟨z.cps.size, by simp, Nat.zero_le _, h0⟩, ?_⟩
  rintro i m σ H ⟨rfl, hle, p⟩
  by_cases hi : i < z.cps.size
  · refine .inr ⟨hi, Pv (i + 1), fun σ' H' q => ⟨z.cps.size - (i + 1), by omega, rfl, by omega, q⟩, fun x H' hy => ?_⟩
    obtain ⟨rfl, c, hc, rfl⟩ := hy
    exact hs i c σ _ hc p
  · have : i = z.cps.size := by omega
    subst this
    exact .inl ⟨Nat.le_refl _, hd σ H p⟩
section
variable {X : Cx} {tg : Expr}
end
end L2
set_option Elab.async false
set_option linter.all false
set_option maxRecDepth 100000
set_option maxHeartbeats 4000000
namespace L2
open PySem PySem.Spec PyProof.Rows
section
variable {X : Cx}
end
section
variable {X : Cx} {tg : Expr}
end
end L2
set_option linter.all false
namespace Txs
open PySem PySem.Builtin PySem.Builtin.Str PySem.StrLaws
/-- a text of these signs -/
def tx (l : List Nat) : Str := ⟨l.toArray⟩
theorem tx_list (z : Str) : tx z.cps.toList = z := by
  cases z
  simp [tx]
theorem tx_inj {a b : List Nat} (h : tx a = tx b) : a = b := by
  have := congrArg (fun z : Str => z.cps.toList) h
  simpa [tx] using this
theorem tx_len (l : List Nat) : (tx l).length = l.length := by simp [tx, Str.length]
theorem tx_size (l : List Nat) : (tx l).cps.size = l.length := by simp [tx]
theorem tx_at (l : List Nat) (i : Nat) : (tx l).cps[i]? = l[i]? := by simp [tx]
theorem tx_app (a b : List Nat) : tx a ++ tx b = tx (a ++ b) := by
  apply Str.ext'
  simp [tx, Str.cps_append]
theorem join_nil : ∀ zs : List (List Nat), Txt.join (tx []) (zs.map tx) = tx zs.flatten := by
  have h : ∀ zs : List (List Nat), Str.join (tx []) (zs.map tx) = tx zs.flatten := by
    intro zs
    induction zs with
    | nil => rfl
    | cons a r ih =>
      cases r with
      | nil => simp [Str.join]
      | cons b r =>
        show tx a ++ tx [] ++ Str.join (tx []) ((b :: r).map tx) = _
        rw [ih, tx_app, tx_app]
        simp
  intro zs
  show glued _ _ = _
  rw [glued_eq_join, h]
theorem joinOk_of {z : Str} {zs : List Str} {B : Nat} (hB : ∀ y ∈ zs, y.length ≤ B) (h : zs.length * B + zs.length * z.length ≤ 16777216) : JoinOk z zs = true := by
  unfold JoinOk
  rw [joinFits hB h]
  rfl
theorem at_one (l : List Nat) (c i : Nat) : At (tx l) (tx [c]) l.length i ↔ l[i]? = some c := by
  unfold At
  rw [subAt_eq, tx_len]
  have e0 : (tx l).cps.toList = l := by simp [tx]
  have e1 : (tx [c]).cps.toList = [c] := by simp [tx]
  rw [e0, e1]
  constructor
  · rintro ⟨h1, h2⟩
    have e := eq_of_beq h2
    have hl : i < l.length := h1
    rw [List.getElem?_eq_getElem hl]
    rw [List.drop_eq_getElem_cons hl] at e
    have e : [l[i]] = [c] := e
    injection e with e
    rw [e]
  · intro h
    have hl := (List.getElem?_eq_some_iff.mp h).1
    refine ⟨hl, ?_⟩
    rw [List.drop_eq_getElem_cons hl]
    rw [List.getElem?_eq_getElem hl] at h
    show ([l[i]] == [c]) = true
    rw [Option.some.inj h]
    exact beq_self_eq_true _
/-- the parts between the c's -/
def spl (c : Nat) : List Nat → List (List Nat)
  | [] => [[]]
  | a :: r => if a = c then [] :: spl c r else match spl c r with
    | [] => [[a]]
    | p :: q => (a :: p) :: q
theorem sub_tx (l : List Nat) (a b : Nat) : strSub (tx l) a b = tx ((l.drop a).take (b - a)) := by
  apply Str.ext'
  apply Array.toList_inj.mp
  rw [strSub_toList]
  simp [tx]
theorem spl_line (c : Nat) : ∀ (a r : List Nat), c ∉ a → spl c (a ++ c :: r) = a :: spl c r
  | [], r, _ => by
    show (if c = c then [] :: spl c r else _) = _
    rw [if_pos rfl]
  | x :: a, r, h => by
    have hx : ¬ x = c := fun z => h (z ▸ List.mem_cons_self)
    show (if x = c then [] :: spl c (a ++ c :: r) else match spl c (a ++ c :: r) with | [] => [[x]] | p :: q => (x :: p) :: q) = _
    rw [if_neg hx, spl_line c a r fun z => h (List.mem_cons_of_mem _ z)]
/-- lines, each with its c behind it -/
theorem spl_lines (c : Nat) : ∀ (ls : List (List Nat)), (∀ l ∈ ls, c ∉ l) → spl c (ls.map (· ++ [c])).flatten = ls ++ [[]]
  | [], _ => rfl
  | a :: r, h => by
    rw [List.map_cons, List.flatten_cons, List.append_assoc]
    show spl c (a ++ c :: (r.map (· ++ [c])).flatten) = _
    rw [spl_line c a _ (h a List.mem_cons_self), spl_lines c r fun l hl => h l (List.mem_cons_of_mem _ hl)]
    rfl
theorem in_one (l : List Nat) (c : Nat) : (!(occurrences (tx l) (tx [c]) 0 (tx l).length 1).isEmpty) = decide (c ∈ l) := by
  rw [occ_eq, tx_len]
  have h := occ_first (tx l) (tx [c]) l.length 1 (Nat.le_refl _) (List.range' 0 (l.length + 1 - 0)) 0 (fun i _ => Nat.zero_le _)
  rcases h with ⟨h0, hn⟩ | ⟨pre, a, post, e, h0, hb, hn⟩
  · rw [h0]
    simp only [List.isEmpty_nil, Bool.not_true]
    symm
    rw [decide_eq_false_iff_not]
    intro hc
    obtain ⟨i, hi, e⟩ := List.getElem_of_mem hc
    refine hn i ?_ ((at_one l c i).mpr (by rw [List.getElem?_eq_getElem hi, e]))
    rw [List.mem_range'_1]
    omega
  · have hc : c ∈ l := List.mem_of_getElem? ((at_one l c a).mp hb)
    rw [decide_eq_true hc]
    generalize forIn (m := Id) (List.range' 0 (l.length + 1 - 0)) ((#[] : Array Nat), 0) (occBody (tx l) (tx [c]) l.length 1) = Z at h0 ⊢
    have : Z.run.fst.toList ≠ [] := by
      intro z
      have : Z.run.fst = #[] := by
        apply Array.toList_inj.mp
        rw [z]
      rw [this] at h0
      cases h0
    cases hz : Z.run.fst.toList with
    | nil => exact absurd hz this
    | cons a b => rfl
theorem slice_to (l : List Nat) {n : Nat} (h : n ≤ l.length) : Txt.slice (tx l) none (some (n : Int)) = tx (l.take n) := by
  have := sliceText_to (x := tx l) (j := (n : Int)) ⟨by omega, by simp [tx]; exact h⟩
  rw [show Txt.slice (tx l) none (some (n : Int)) = sliceText (tx l) none (some (n : Int)) from rfl, this]
  simp [tx]
end Txs
set_option linter.all false
namespace L2
open PySem PySem.Spec PyProof.Rows
theorem se_tup {a : List Expr} {b} {p : Pos} {es : List Expr} {env : Env} : starEach (.Tuple a b p :: es) env = (false, eval (.Tuple a b p) env) :: starEach es env := by rfl
@[irreducible] def PAi (X : Cx) (es : List Expr) (t : TA) : Prop := PA X es t
@[irreducible] def PSi (X : Cx) (st : Stmt) (t : TS) : Prop := PS X st t
@[irreducible] def PSsi (X : Cx) (l : List Stmt) (t : TS) : Prop := PSs X l t
theorem pai_of {X : Cx} {es : List Expr} {t : TA} : PAi X es t = PA X es t := by unfold PAi; rfl
theorem psi_of {X : Cx} {st : Stmt} {t : TS} : PSi X st t = PS X st t := by unfold PSi; rfl
theorem pssi_of {X : Cx} {l : List Stmt} {t : TS} : PSsi X l t = PSs X l t := by unfold PSsi; rfl
section
variable {X : Cx} {es : List Expr} {t : TA}
theorem pai_nil : PAi X [] tNil := by
  rw [pai_of]
  exact pa_nil
theorem pai_two {a b : Int} {k k' k'' p p' p''} (hr : PAi X es t) : PAi X (.Tuple [.Constant (.int a) k p, .Constant (.int b) k' p'] k'' p'' :: es) (tCons (tTup (tCons (tC (.int a)) (tCons (tC (.int b)) tNil))) t) := by
  rw [pai_of] at hr ⊢
  exact pa_cons (pe_tup (p2 pe_int pe_int)) hr se_tup
theorem psi_pick {tg idx : Expr} {ti : TE} {g : TG} {p p' pos : Pos} (ha : PAi X es t) (hi : PE X idx ti) (hg : PG X tg g) (hx : PlainIx idx := by exact fun _ _ => rfl) (hs : swapsWithSole [tg] (.Subscript (.List es p) idx p') pos.line X.env = pure false := by rfl)
    (hw : swappedStores [tg] (.Subscript (.List es p) idx p') X.env = pure none := by rfl) (h1 : (assignEach [tg] X.env).map (·.2) = [assign tg X.env] := by rfl) : PSi X (.Assign [tg] (.Subscript (.List es p) idx p') pos) (tAsg (tOp (rIxL X.K) (tLst t) ti) g) := by
  rw [pai_of] at ha
  rw [psi_of]
  exact ps_asg (pe_ix ix_list (pe_lst ha) hi hx) hg hs hw h1
end
section
variable {P : Program} {w : World} {K : PySem.W.Frag} {mg : Str → Option Value} {base : Heap}
end
section
variable {X : Cx}
end
end L2
set_option linter.all false
namespace L2
open PySem
def CnAt (K : PySem.W.Frag) (n : Str) (xs : List Int) : Prop := ∃ (f : Addr) (od : Option Addr) (its : Array Value) (c : Nat) (osl : Array (Option Value)), PySem.W.nsIn K mainGlobals n = some (some (.ref f)) ∧ K.lookup f = some ⟨.type "tuple", od, .seq its c, osl⟩ ∧ its.toList.map absV = xs.map fun x => some (V.int x)
theorem cn_mk {K : PySem.W.Frag} {n : Str} {xs : List Int} {f : Addr} {od : Option Addr} {its : Array Value} {c : Nat} {osl : Array (Option Value)} (a : PySem.W.nsIn K mainGlobals n = some (some (.ref f))) (l : K.lookup f = some ⟨.type "tuple", od, .seq its c, osl⟩) (v : its.toList.map absV = xs.map fun x => some (V.int x)) : CnAt K n xs := ⟨f, od, its, c, osl, a, l, v⟩
def CvAt (K : PySem.W.Frag) (n : Str) (v : V) : Prop := ∃ u : Value, PySem.W.nsIn K mainGlobals n = some (some u) ∧ absV u = some v
theorem cv_mk {K : PySem.W.Frag} {n : Str} {v : V} {u : Value} (a : PySem.W.nsIn K mainGlobals n = some (some u)) (e : absV u = some v) : CvAt K n v := ⟨u, a, e⟩
theorem cv_of {K : PySem.W.Frag} {mg : Str → Option Value} {n : Str} {v : V} (X : ∃ h : Heap, K.In h ∧ h.Ns mainGlobals mg) (h : CvAt K n v) : ∃ u, mg n = some u ∧ RelV v u := by
  obtain ⟨hp, x, g⟩ := X
  obtain ⟨u, a, e⟩ := h
  refine ⟨u, PySem.W.mg_of x g a, ?_⟩
  cases u <;> simp [absV] at e <;> subst e <;> first | exact ⟨_, rfl⟩ | rfl
end L2
set_option Elab.async false
set_option linter.all false
set_option maxRecDepth 100000
set_option maxHeartbeats 4000000
namespace Hsh
set_option autoImplicit false
open PySem PySem.Spec PyProof.Rows
/-- the hash of a pair, brought above nought -/
def hp (p q : Nat) : Nat := (reduceHash (Builtin.Tuple.tupleHashOf [hashInt (p : Int), hashInt (q : Int)]) + 2 ^ 63).toNat
def all : List Nat := (List.range 1764).map fun i => hp (i / 42) (i % 42)
end Hsh
set_option Elab.async false
set_option linter.all false
set_option maxRecDepth 100000
set_option maxHeartbeats 4000000
namespace Dct
set_option autoImplicit false
open PySem PySem.Spec PyProof.Rows
section
variable {prog : Program} {w : World} {A : Around} {E : Value → Shared → Prop} {s : Shared} {κ : Type} [DecidableEq κ] {kd : KeyKind prog w κ}
end
end Dct
set_option Elab.async false
set_option linter.all false
set_option maxRecDepth 100000
set_option maxHeartbeats 4000000
namespace Dcl
open PySem PySem.Spec PyProof.Rows L2
section
variable {prog : Program} {w : World} {A : Around} {E : Value → Shared → Prop} {s : Shared}
end
section
variable {X : Cx} {pins : List (Addr × Obj)} {σ : L2.St} {A : Around} {R : Result → Shared → Prop}
end
end Dcl
set_option Elab.async false
set_option linter.all false
set_option maxRecDepth 100000
set_option maxHeartbeats 4000000
namespace Dcl
open PySem PySem.Spec PyProof.Rows L2
section
variable {prog : Program} {w : World} {A : Around} {E : Value → Shared → Prop} {s : Shared}
end
end Dcl
set_option Elab.async false
set_option linter.all false
set_option maxRecDepth 100000
set_option maxHeartbeats 4000000
namespace Dcl
open PySem PySem.Spec PyProof.Rows L2
section
variable {prog : Program} {w : World} {A : Around} {E : Value → Shared → Prop} {s : Shared} {z TI TO i1 i2 T : Addr} {fp1 fp2 : List Addr} {n1 n2 j : Nat} {P1 P2 : Nat → Value → Prop} {S1 S2 : Nat → Heap → Prop} {f1 : Bool}
end
end Dcl
set_option Elab.async false
set_option linter.all false
set_option maxRecDepth 100000
set_option maxHeartbeats 4000000
namespace Dcl
open PySem PySem.Spec PyProof.Rows L2
section
variable {prog : Program} {w : World} {A : Around} {E : Value → Shared → Prop} {s : Shared} {a b z TI TO i1 i2 : Addr} {j : Nat} {xs ys : Array Value}
end
section
variable {X : Cx} {pins : List (Addr × Obj)} {σ : L2.St} {A : Around} {R : Result → Shared → Prop}
end
section
variable {X : Cx}
end
end Dcl
set_option linter.all false
namespace Dcl
open PySem L2
/-- a number as a key -/
def kn (n : Nat) : Key := .inl (n : Int)
section
variable {ps : List (Key × V)}
end
end Dcl
set_option linter.all false
set_option Elab.async false
namespace Pic
open PySem Txs
def SG : List Nat := [97, 98, 99, 100, 101, 102, 103, 104, 105, 106, 107, 108, 109, 110, 111, 112, 113, 114, 115, 116, 117, 118, 119, 120, 121, 122, 65, 66, 67, 68, 69, 70, 71, 72, 73, 74, 75, 76, 77, 78]
theorem sg_nd : SG.Nodup := by decide
theorem sg_len : SG.length = 40 := rfl
theorem sg_at {i : Nat} (h : i < 40) : SG[i]? = some (SG.getD i 0) := by
  rw [List.getD_eq_getElem?_getD, List.getElem?_eq_getElem (by rw [sg_len]; exact h)]
  rfl
theorem sg_mem {i : Nat} (h : i < 40) : SG.getD i 0 ∈ SG := List.mem_of_getElem? (sg_at h)
theorem sg_inj {i j : Nat} (hi : i < 40) (hj : j < 40) (h : SG.getD i 0 = SG.getD j 0) : i = j := by
  have a := sg_at hi
  have b := sg_at hj
  rw [h, ← b] at a
  have := (List.getElem?_inj (by rw [sg_len]; exact hi) sg_nd).mp a
  exact this
theorem sg_lt {c : Nat} (h : c ∈ SG) : c < 128 ∧ c ≠ 10 ∧ c ≠ 46 := by
  revert c
  decide
abbrev Pl := List (Nat × Nat)
def cell (ps : Pl) (x y : Nat) : Nat := if (x, y) ∈ ps then SG.getD (ps.idxOf (x, y)) 0 else 46
theorem cell_miss {ps : Pl} {x y : Nat} (h : (x, y) ∉ ps) : cell ps x y = 46 := if_neg h
theorem idx_at {ps : Pl} (nd : ps.Nodup) {i : Nat} {a : Nat × Nat} (h : ps[i]? = some a) : ps.idxOf a = i := by
  obtain ⟨hi, e⟩ := List.getElem?_eq_some_iff.mp h
  subst e
  exact List.Nodup.idxOf_getElem nd i hi
theorem cell_at {ps : Pl} (nd : ps.Nodup) {i x y : Nat} (h : ps[i]? = some (x, y)) : cell ps x y = SG.getD i 0 := by
  unfold cell
  rw [if_pos (List.mem_of_getElem? h), idx_at nd h]
theorem cell_cases (ps : Pl) (nd : ps.Nodup) (x y : Nat) : ((x, y) ∉ ps ∧ cell ps x y = 46) ∨ ∃ i, ps[i]? = some (x, y) ∧ cell ps x y = SG.getD i 0 := by
  by_cases m : (x, y) ∈ ps
  · obtain ⟨i, hi, e⟩ := List.getElem_of_mem m
    have : ps[i]? = some (x, y) := by rw [List.getElem?_eq_getElem hi, e]
    exact .inr ⟨i, this, cell_at nd this⟩
  · exact .inl ⟨m, cell_miss m⟩
/-- the places of a picture -/
structure Ok (ps : Pl) : Prop where
  nd : ps.Nodup
  few : ps.length ≤ 40
  lo : 3 ≤ ps.length
  x : ∀ p ∈ ps, p.1 ≤ 76
  y : ∀ p ∈ ps, p.2 ≤ 40
theorem cell_ok {ps : Pl} (o : Ok ps) (x y : Nat) : cell ps x y < 128 ∧ cell ps x y ≠ 10 := by
  rcases cell_cases ps o.nd x y with ⟨_, e⟩ | ⟨i, h, e⟩
  · rw [e]; decide
  · have hi := (List.getElem?_eq_some_iff.mp h).1
    have := o.few
    have := sg_lt (sg_mem (i := i) (by omega))
    rw [e]
    exact ⟨this.1, this.2.1⟩
/-- the greatest of both -/
structure Bx (ps : Pl) (W h : Nat) : Prop where
  xm : ∃ p ∈ ps, p.1 = W
  xl : ∀ p ∈ ps, p.1 ≤ W
  ym : ∃ p ∈ ps, p.2 = h
  yl : ∀ p ∈ ps, p.2 ≤ h
theorem Bx.uniq {ps : Pl} {W h W' h' : Nat} (a : Bx ps W h) (b : Bx ps W' h') : W = W' ∧ h = h' := by
  obtain ⟨p, hp, rfl⟩ := a.xm
  obtain ⟨q, hq, rfl⟩ := b.xm
  obtain ⟨r, hr, rfl⟩ := a.ym
  obtain ⟨t, ht, rfl⟩ := b.ym
  have := a.xl _ hq
  have := b.xl _ hp
  have := a.yl _ ht
  have := b.yl _ hr
  omega
theorem Bx.le {ps : Pl} {W h : Nat} (o : Ok ps) (a : Bx ps W h) : W ≤ 76 ∧ h ≤ 40 := by
  obtain ⟨p, hp, rfl⟩ := a.xm
  obtain ⟨r, hr, rfl⟩ := a.ym
  exact ⟨o.x _ hp, o.y _ hr⟩
def line (ps : Pl) (W y : Nat) : List Nat := (List.range (W + 1)).map fun x => cell ps x y
def lines (ps : Pl) (W h : Nat) : List (List Nat) := (List.range (h + 1)).map fun i => line ps W (h - i)
def pic (ps : Pl) (W h : Nat) : List Nat := ((lines ps W h).map (· ++ [10])).flatten
theorem line_len (ps : Pl) (W y : Nat) : (line ps W y).length = W + 1 := by simp [line]
theorem lines_len (ps : Pl) (W h : Nat) : (lines ps W h).length = h + 1 := by simp [lines]
theorem line_at {ps : Pl} {W y x : Nat} (h : x < W + 1) : (line ps W y)[x]? = some (cell ps x y) := by
  unfold line
  rw [List.getElem?_map, List.getElem?_range h]
  rfl
theorem lines_at {ps : Pl} {W h i : Nat} (hi : i < h + 1) : (lines ps W h)[i]? = some (line ps W (h - i)) := by
  unfold lines
  rw [List.getElem?_map, List.getElem?_range hi]
  rfl
theorem lines_rev {ps : Pl} {W h y : Nat} (hy : y < h + 1) : (lines ps W h).reverse[y]? = some (line ps W y) := by
  rw [List.getElem?_reverse (by rw [lines_len]; exact hy), lines_len, lines_at (by omega)]
  congr 2
  omega
theorem line_ok {ps : Pl} (o : Ok ps) {W y : Nat} : ∀ c ∈ line ps W y, c < 128 ∧ c ≠ 10 := by
  intro c hc
  obtain ⟨x, _, rfl⟩ := List.mem_map.mp hc
  exact cell_ok o x y
theorem pic_spl {ps : Pl} (o : Ok ps) (W h : Nat) : spl 10 (pic ps W h) = lines ps W h ++ [[]] := by
  refine spl_lines 10 _ fun l hl z => ?_
  obtain ⟨i, _, rfl⟩ := List.mem_map.mp hl
  exact (line_ok o 10 z).2 rfl
/-- the places read, row by row, up to (x, y) -/
structure Scan (ps : Pl) (y x : Nat) (D : List Nat) : Prop where
  nd : D.Nodup
  mem : ∀ p, p ∈ D ↔ ∃ a b, ps[p]? = some (a, b) ∧ (b < y ∨ b = y ∧ a < x)
theorem Scan.start (ps : Pl) : Scan ps 0 0 [] := ⟨List.nodup_nil, fun p => ⟨fun z => (nomatch z), fun ⟨_, _, _, z⟩ => by omega⟩⟩
theorem Scan.row {ps : Pl} {y W : Nat} {D : List Nat} (s : Scan ps y (W + 1) D) (h : ∀ p ∈ ps, p.1 ≤ W) : Scan ps (y + 1) 0 D := by
  refine ⟨s.nd, fun q => ?_⟩
  rw [s.mem]
  constructor
  · rintro ⟨a, b, e, c⟩
    exact ⟨a, b, e, by omega⟩
  · rintro ⟨a, b, e, c⟩
    have : a ≤ W := h _ (List.mem_of_getElem? e)
    exact ⟨a, b, e, by omega⟩
theorem Scan.end {ps : Pl} {h : Nat} {D : List Nat} (s : Scan ps (h + 1) 0 D) (hl : ∀ p ∈ ps, p.2 ≤ h) : D.Perm (List.range ps.length) := by
  refine (List.perm_ext_iff_of_nodup s.nd List.nodup_range).mpr fun p => ?_
  rw [s.mem, List.mem_range]
  constructor
  · rintro ⟨a, b, e, _⟩
    exact (List.getElem?_eq_some_iff.mp e).1
  · intro hp
    refine ⟨ps[p].1, ps[p].2, List.getElem?_eq_getElem hp, ?_⟩
    have := hl _ (List.getElem_mem hp)
    omega
end Pic
set_option linter.all false
set_option Elab.async false
namespace Pic
def code (h : Nat) (p : Nat × Nat) : Nat := p.1 * (h + 1) + p.2
/-- a free place's code -/
theorem free {W h : Nat} {ps : Pl} (few : ps.length < (W + 1) * (h + 1)) : ∃ f, f < (W + 1) * (h + 1) ∧ ∀ p ∈ ps, code h p ≠ f := by
  refine Classical.byContradiction fun n => ?_
  have all : List.range ((W + 1) * (h + 1)) ⊆ ps.map (code h) := fun c hc => by
    refine Classical.byContradiction fun m => n ⟨c, List.mem_range.mp hc, fun p hp e => m (List.mem_map.mpr ⟨p, hp, e⟩)⟩
  have := List.Nodup.length_le_of_subset List.nodup_range all
  rw [List.length_range, List.length_map] at this
  omega
end Pic
set_option Elab.async false
set_option linter.all false
set_option maxRecDepth 100000
set_option maxHeartbeats 4000000
namespace L2
open PySem PySem.Spec PyProof.Rows
end L2
set_option Elab.async false
set_option linter.all false
set_option maxRecDepth 100000
set_option maxHeartbeats 4000000
namespace Dct
set_option autoImplicit false
open PySem PySem.Spec PyProof.Rows
end Dct
namespace L2
open PySem PySem.Spec PyProof.Rows
section
variable {X : Cx} {pins : List (Addr × Obj)} {σ : St} {H : Hp} {s : Shared} {a : Addr} {y v : V} {u r : Value} {o : Option V} {A : Around} {E : Value → Shared → Prop}
end
section
variable {X : Cx} {tg iter kx vx : Expr} {ifs : List Expr} {sc : Scope} {pos : Pos} {Nc : List Str} {js : List (Option Nat)} {wi : TI}
end
end L2
set_option linter.all false
set_option maxRecDepth 100000
namespace HT
open PySem PySem.Spec PyProof.Rows
section
variable {M : Model} {A : Around} {E : Value → Shared → Prop} {s : Shared}
end
end HT
set_option linter.all false
set_option maxRecDepth 100000
namespace HT
open PySem PySem.Spec PyProof.Rows
end HT
set_option linter.all false
set_option maxRecDepth 100000
set_option maxHeartbeats 4000000
namespace HT
open PySem PySem.Spec PyProof.Rows
end HT
namespace L2
open PySem PySem.Spec PyProof.Rows
/-- a comprehension's scope, perhaps with cells of its own -/
structure CS2 (sc S0 : Scope) : Prop where
  kind : sc.kind = .function
  names : ∀ y ∈ sc.names, y.2 = .local → sc.names.lookup y.1 = some .local
  own : ∀ y ∈ sc.names, y.2 = .cell → sc.names.lookup y.1 = some .cell
  nof : ∀ x, sc.names.lookup x = some .free → (x, NameKind.cell) ∉ sc.names
  free : ∀ y ∈ sc.names, y.2 = .free → S0.names.lookup y.1 = some .cell
section
variable {X : Cx} {pins : List (Addr × Obj)} {σ : St} {H : Hp} {s : Shared} {sc : Scope} {Nc : List Str} {js : List (Option Nat)} {fp : List Addr}
end
end L2
set_option linter.all false
set_option maxRecDepth 100000
set_option maxHeartbeats 4000000
namespace L2
open PySem PySem.Spec PyProof.Rows
section
variable {X : Cx} {pins : List (Addr × Obj)} {σ : St} {H : Hp} {s : Shared} {sc : Scope} {Nc : List Str} {js : List (Option Nat)} {fp : List Addr}
end
end L2
set_option Elab.async false
set_option linter.all false
set_option maxRecDepth 100000
set_option maxHeartbeats 4000000
namespace HT
open PySem PySem.Spec PyProof.Rows
end HT
namespace L2
open PySem PySem.Spec PyProof.Rows
section
variable {X : Cx} {e tg iter el : Expr} {ifs : List Expr} {gens rest : List Comprehension} {sc : Scope} {pos : Pos} {Nc : List Str} {js : List (Option Nat)} {wi : TI}
end
end L2
set_option linter.all false
set_option maxRecDepth 100000
set_option maxHeartbeats 4000000
namespace L2
open PySem PySem.Spec PyProof.Rows
def csOk2 (sc S0 : Scope) : Bool := (sc.names.all fun y => (y.2 != .local || sc.names.lookup y.1 == some .local) && (y.2 != .cell || sc.names.lookup y.1 == some .cell) && (y.2 != .free || S0.names.lookup y.1 == some .cell))
theorem CS2.of {sc S0 : Scope} (k : sc.kind = .function) (h : csOk2 sc S0 = true) : CS2 sc S0 := by
  have q : ∀ y ∈ sc.names, _ := List.all_eq_true.mp h
  have own : ∀ y ∈ sc.names, y.2 = .cell → sc.names.lookup y.1 = some .cell := fun y hy e => by
    have z := q y hy
    rw [Bool.and_eq_true, Bool.and_eq_true] at z
    obtain ⟨⟨z1, z2⟩, z3⟩ := z
    rw [e] at z2
    simpa using z2
  refine ⟨k, fun y hy e => ?_, own, fun x e m => ?_, fun y hy e => ?_⟩
  · have z := q y hy
    rw [Bool.and_eq_true, Bool.and_eq_true] at z
    obtain ⟨⟨z1, z2⟩, z3⟩ := z
    rw [e] at z1; simpa using z1
  · have := own _ m rfl
    rw [e] at this
    cases this
  · have z := q y hy
    rw [Bool.and_eq_true, Bool.and_eq_true] at z
    obtain ⟨⟨z1, z2⟩, z3⟩ := z
    rw [e] at z3; simpa using z3
end L2
set_option Elab.async false
set_option linter.all false
set_option maxRecDepth 100000
set_option maxHeartbeats 4000000
namespace L2
open PySem PySem.Spec PyProof.Rows
section
variable {X : Cx} {tg iter el : Expr} {ifs : List Expr} {sc : Scope} {pos py spos : Pos} {Nc : List Str} {js : List (Option Nat)} {wi : TI} {i : Nat} {y : Str}
end
end L2
set_option Elab.async false
set_option linter.all false
set_option maxRecDepth 100000
set_option maxHeartbeats 4000000
namespace L2
open PySem PySem.Spec PyProof.Rows
section
variable {X : Cx} {tg iter kx vx tg2 iter2 : Expr} {ifs ifs2 : List Expr} {sc : Scope} {pos : Pos} {Nc : List Str} {js : List (Option Nat)} {wi wi2 : TI} {g g2 : TG}
end
end L2
set_option Elab.async false
set_option linter.all false
set_option maxRecDepth 100000
set_option maxHeartbeats 4000000
namespace HT
open PySem PySem.Spec PyProof.Rows
theorem pick_rev (its : List Value) : slicePick its.toArray none none (some (-1)) = its.reverse.toArray := by
  unfold slicePick
  have h1 : (sliceBounds none none (some (-1)) its.toArray.size).1 = (its.length : Int) - 1 := by simp [sliceBounds]
  have h2 : (sliceBounds none none (some (-1)) its.toArray.size).2.1 = -1 := by simp [sliceBounds]
  have h3 : (sliceBounds none none (some (-1)) its.toArray.size).2.2 = -1 := by simp [sliceBounds]
  rw [h1, h2, h3]
  unfold sliceRange
  dsimp only
  have hc : (if (-1 : Int) > 0 then if (its.length : Int) - 1 < -1 then (-1 - ((its.length : Int) - 1) + -1 - 1) / -1 else 0 else if (its.length : Int) - 1 > -1 then ((its.length : Int) - 1 - -1 - -1 - 1) / - -1 else 0).toNat = its.length := by
    rw [if_neg (by decide)]
    split
    · simp only [Int.neg_neg, Int.ediv_one]
      omega
    · omega
  rw [hc, List.filterMap_map]
  congr 1
  rw [← rev_list its]
  refine fm_congr _ fun k hk => ?_
  show its.toArray[((its.length : Int) - 1 + -1 * (k : Int)).toNat]? = _
  rw [List.getElem?_toArray]
  congr 2
  omega
end HT
namespace L2
open PySem PySem.Spec PyProof.Rows
section
variable {X : Cx}
/-- xs[::-1] of a list: a new list -/
inductive tRevLY (Q : VK) (x : V) (o : Option Int) (H2 : Hp) : Prop
  | mk : ∀ a xs, (x = .ref a) → (o = some (-1)) → (H2 a = some (.lst xs)) → (∀ p, H2 p = none → Q (.ref p) (upd H2 p (.lst xs.reverse))) → tRevLY Q x o H2
def tRevL (K : PySem.W.Frag) (te : TE) (ts : TO) : TE := fun σ H Q => te σ H fun x H1 => ts σ H1 fun o H2 => tRevLY Q x o H2
theorem pe_revL {e st : Expr} {te : TE} {ts : TO} {p2 pos : Pos} (he : PE X e te) (hs : PO X (some st) ts) : PE X (.Subscript e (.Slice none none (some st) p2) pos) (tRevL X.K te ts) := by
  intro pins s σ H Q I h
  refine Subscript_ (thn (he pins s σ H _ I h) fun v s1 ⟨x, H1, I1, r1, q1⟩ => ?_)
  refine wpAny_Slice ?_
  rw [evalPart_none]
  refine wpAny_pure ?_
  refine wpAny_pure (thn (hs pins s1 σ H1 _ I1 q1) fun vt s3 ⟨o, H3, I3, pu, q3⟩ => ?_)
  obtain ⟨a, xs, rfl, rfl, ha, q⟩ := q3
  cases r1
  cases pu with
  | int i tk =>
    have I4 : Inv X pins σ H3 { s3 with heap := s3.heap.push { cls := .type "slice", data := .fields #[.none, .none, .int (-1) tk] } } := I3.kept (t' := s3.toks) fun b ob q => Heap.get?_push_of_some _ q
    obtain ⟨its, r, ht, hz⟩ := I4.list (SqL.of (K := X.K) ha)
    have hl := r.length
    show wpAny (model X.prog X.w) X.A (subscriptTail e (.Slice none none (some st) p2) (.ref a) (.ref s3.heap.objs.size)) (EP X pins σ Q) X.xe { s3 with heap := s3.heap.push { cls := .type "slice", data := .fields #[.none, .none, .int (-1) tk] } }
    refine tail_any (ops := [.ref a, .ref s3.heap.objs.size]) ht.isList.typeIs slot_list_getitem.lookup ?_ (by with_unfolding_all rfl)
    refine wpAny_getItem_list_slice (lo := none) (hi := none) (st := some (-1)) ht.isList (Heap.IsSliceOf.new ..) .none .none (.int _ _) (by simp) ?_ (by rw [List.size_toArray] <;> omega)
    rw [HT.pick_rev]
    refine ⟨.ref _, _, I4.laid (t' := s3.toks) (o := .lst xs.reverse) (fun b ob q => Heap.get?_push_of_some _ q) (Nat.le_refl _) ?_, rfl, q _ (I4.hok.fresh (Nat.le_refl _))⟩
    exact ⟨by rw [List.length_reverse]; exact hz, its.reverse, 0, r.reverse, Heap.get?_push_size _ rfl⟩
end
end L2
set_option Elab.async false
set_option linter.all false
set_option maxRecDepth 100000
set_option maxHeartbeats 4000000
namespace L2
open PySem PySem.Spec PyProof.Rows
section
variable {X : Cx}
end
end L2
set_option linter.all false
namespace Cyc
def Adj : List Nat → Nat → Nat → Prop
  | x :: y :: r, a, b => (a = x ∧ b = y) ∨ Adj (y :: r) a b
  | _, _, _ => False
def Nx (row : List Nat) (a b : Nat) : Prop := Adj (row ++ row.head?.toList) a b
end Cyc
set_option linter.all false
set_option maxHeartbeats 1000000
namespace Tri
open Cyc
abbrev Rows := List (List Nat)
/-- in the row of q, b comes right behind a -/
def R (L : Rows) (q a b : Nat) : Prop := ∃ row, L[q]? = some row ∧ Nx row a b
/-- b stands in the row of a -/
def E (L : Rows) (a b : Nat) : Prop := ∃ row, L[a]? = some row ∧ b ∈ row
inductive Reach (L : Rows) : Nat → Nat → Prop
  | here (a : Nat) : Reach L a a
  | more {a b c : Nat} : Reach L a b → E L b c → Reach L a c
theorem Reach.trans {L : Rows} {a b c : Nat} (h : Reach L a b) (h' : Reach L b c) : Reach L a c := by
  induction h' with
  | here => exact h
  | more _ e ih => exact .more ih e
theorem Reach.by {L L' : Rows} (h : ∀ a b, E L a b → Reach L' a b) {a b : Nat} (r : Reach L a b) : Reach L' a b := by
  induction r with
  | here => exact .here _
  | more _ e ih => exact ih.trans (h _ _ e)
section
variable {L : Rows} {p q r : Nat} {rp rq rr : List Nat}
end
end Tri
set_option linter.all false
set_option maxHeartbeats 1000000
namespace Tri
open Cyc
section
variable {L : Rows} {p q r s : Nat} {rp rq rr rs : List Nat}
end
end Tri
set_option linter.all false
namespace Tri
open Cyc
end Tri
set_option linter.all false
set_option maxHeartbeats 1000000
namespace Rnd
open Cyc Tri
section
variable {α : Type} [DecidableEq α]
def it (f : α → α) : Nat → α → α
  | 0, x => x
  | n + 1, x => f (it f n x)
theorem it_add (f : α → α) (m n : Nat) (x : α) : it f (m + n) x = it f m (it f n x) := by
  induction m with
  | zero => rw [Nat.zero_add]; rfl
  | succ m ih => rw [Nat.succ_add]; show f _ = f _; rw [ih]
structure Perm (f : α → α) (S : List α) : Prop where
  to : ∀ x, x ∈ S → f x ∈ S
  one : ∀ x y, x ∈ S → y ∈ S → f x = f y → x = y
theorem Perm.it {f : α → α} {S : List α} (h : Perm f S) (n : Nat) {x : α} (hx : x ∈ S) : it f n x ∈ S := by
  induction n with
  | zero => exact hx
  | succ n ih => exact h.to _ ih
theorem Perm.back {f : α → α} {S : List α} (h : Perm f S) (n : Nat) {x y : α} (hx : x ∈ S) (hy : y ∈ S) (e : Rnd.it f n x = Rnd.it f n y) : x = y := by
  induction n with
  | zero => exact e
  | succ n ih => exact ih (h.one _ _ (h.it n hx) (h.it n hy) e)
theorem map_nodup {f : Nat → α} : ∀ (n : Nat), (∀ i j, i < j → j < n → f i ≠ f j) → ((List.range n).map f).Nodup
  | 0, _ => by simp
  | n + 1, h => by
    rw [List.range_succ, List.map_append, List.nodup_append]
    refine ⟨map_nodup n fun i j a b => h i j a (by omega), by simp, fun a ha b hb => ?_⟩
    obtain ⟨i, hi, rfl⟩ := List.mem_map.mp ha
    have : b = f n := by simpa using hb
    subst this
    exact h i n (List.mem_range.mp hi) (by omega)
/-- it comes back, after as many turns at most as there are -/
theorem Perm.comes {f : α → α} {S : List α} (h : Perm f S) {x : α} (hx : x ∈ S) : ∃ k, 0 < k ∧ k ≤ S.length ∧ Rnd.it f k x = x ∧ ∀ j, 0 < j → j < k → Rnd.it f j x ≠ x := by
  have some : ∃ k, 0 < k ∧ k ≤ S.length ∧ Rnd.it f k x = x := by
    refine Classical.byContradiction fun no => ?_
    have nd : ((List.range (S.length + 1)).map fun i => Rnd.it f i x).Nodup := map_nodup _ fun i j hij hj e => by
      refine no ⟨j - i, by omega, by omega, ?_⟩
      have e2 : Rnd.it f i (Rnd.it f (j - i) x) = Rnd.it f i x := by
        rw [← it_add, show i + (j - i) = j by omega]; exact e.symm
      exact h.back i (h.it _ hx) hx e2
    have le := List.Nodup.length_le_of_subset nd (l₂ := S) fun y hy => by
      obtain ⟨i, _, rfl⟩ := List.mem_map.mp hy
      exact h.it i hx
    rw [List.length_map, List.length_range] at le
    omega
  obtain ⟨k0, p0, l0, e0⟩ := some
  have least : ∀ n, (∃ k, 0 < k ∧ k ≤ n ∧ Rnd.it f k x = x) → ∃ k, 0 < k ∧ k ≤ n ∧ Rnd.it f k x = x ∧ ∀ j, 0 < j → j < k → Rnd.it f j x ≠ x := fun n => by
    induction n with
    | zero => rintro ⟨k, a, b, _⟩; omega
    | succ n ih =>
      intro hk
      by_cases c : ∃ k, 0 < k ∧ k ≤ n ∧ Rnd.it f k x = x
      · obtain ⟨k, a, b, e, m⟩ := ih c
        exact ⟨k, a, by omega, e, m⟩
      · obtain ⟨k, a, b, e⟩ := hk
        refine ⟨k, a, b, e, fun j j0 jk ej => c ⟨j, j0, by omega, ej⟩⟩
  exact least S.length ⟨k0, p0, l0, e0⟩
end
end Rnd
set_option Elab.async false
set_option linter.all false
set_option maxRecDepth 100000
set_option maxHeartbeats 4000000
namespace Ex
open PySem
section
variable {prog : Program} {w : World} {A : Around} {E : Value → Shared → Prop} {h : Heap} {g : Array GenState} {d : Drawn} {t : Nat} {os : OsState} {M : Model}
variable {nm q : Str} {C N : Addr} {bs bm bmB : List Value} {hdct : Bool} {sn : List Str} {sub : List Value} {ab : Bool} {col : Option Bool} {dd : Option Addr} {k0 k1 k2 k3 k5 : Option Value} {B newId initId : String}
/-- the classes above: the base is among them, two others are not -/
structure Up (B : String) (bm : List Value) : Prop where
  b : bm.contains (.type B) = true
  a : bm.contains (.type "AttributeError") = false
  n : bm.contains (.type "NameError") = false
theorem check_new (F : ExcBaseFacts B newId initId bmB) (U : Up B bm) {rest : List Value} {Q : Unit → Shared → Prop} (hC : h.get? C = some (excClassObj nm q C N bs bm hdct sn sub ab col dd k0 k1 k2 k3 k5 newId))
    (hq : Q () ⟨h, g, d, t, os⟩) : wpAny M A (checkBuiltinCall newId ⟨.ref C :: rest, []⟩) Q E ⟨h, g, d, t, os⟩ := by
  have c1 : (Value.ref C :: bm).contains (.type B) = true := by rw [List.contains_cons, U.b, Bool.or_true]
  have c2 := F.noStar
  simp only [checkBuiltinCall, F.newKind, F.newSplit, F.newRow]
  repeat (first | refine wpAny_loadPart_at hC ?_ | (refine wpAny_isSubtype_exc hC ?_; rw [c1]) | refine wpAny_staticBase_exc hC ?_ | refine wpAny_madeBy_exc hC ?_ | simp only [bne_self_eq_false, Bool.false_eq_true, if_false] | wp_step)
  exact hq
theorem exc_new (F : ExcBaseFacts B newId initId bmB) (U : Up B bm) {rest : List Value} {R : Result → Shared → Prop} (hC : h.get? C = some (excClassObj nm q C N bs bm hdct sn sub ab col dd k0 k1 k2 k3 k5 newId)) (hrest : rest.length ≤ sizeLine)
    (hq : R (.ok (.ret (.ref (h.objs.size + 1)))) ⟨(h.push { cls := .type "tuple", data := .seq rest.toArray }).push { cls := .ref C, data := .fields #[.ref h.objs.size, .none, .none, .none, .bool false, .none] }, g, d, t, os⟩) :
    codeAny (model prog w) A (.builtin newId ⟨.ref C :: rest, []⟩) R ⟨h, g, d, t, os⟩ := by
  have e0 := F.ends
  have e1 : (Value.ref C :: bm).contains (.type B) = true := by rw [List.contains_cons, U.b, Bool.or_true]
  have e2 : (Value.ref C :: bm).contains (.type "AttributeError") = false := by rw [List.contains_cons, U.a]; rfl
  have e3 : (Value.ref C :: bm).contains (.type "NameError") = false := by rw [List.contains_cons, U.n]; rfl
  refine codeAny_builtinAt F.entry ?_
  unfold Builtin.«BaseException.__new__»
  refine wpAt_bind ?_
  show wpAt _ _ _ (stack >>= fun _ => _) _ _ _
  refine wpAt_bind (wpAt_stack fun p below => wpAt_of_wpAny ?_)
  wp_walk
  refine wpAt_of_wpAny ?_
  rw [F.owner]
  repeat (first | with_reducible refine wpAny_madeHere_exc F.canon hC ?_ | with_reducible refine wpAny_loadPart_at hC ?_ | (with_reducible refine wpAny_isSubtype_exc hC ?_; first | rw [e1] | rw [e2] | rw [e3]) | wp_step)
  show R _ _
  rw [Heap.size_push]
  exact hq
end
end Ex
set_option Elab.async false
set_option linter.all false
set_option maxRecDepth 100000
set_option maxHeartbeats 4000000
namespace Ex
open PySem
/-- what leaving a frame makes of the heap -/
structure Aft (l : List Env) (e T : Addr) (oe : Obj) (h h' : Heap) : Prop where
  k : ∀ b o, b ≠ e → b ∉ l.filterMap (·.frame) → h.get? b = some o → h'.get? b = some o
  f : ∀ b o, b ≠ e → h.get? b = some o → ∃ sl, h'.get? b = some { o with slots := sl }
  e : h'.get? e = some (oe.mapFields (·.setIfInBounds 1 (.ref T)))
  n : h.objs.size ≤ T
  t : ∃ oT ts, h'.get? T = some oT ∧ oT.data = .fields ts ∧ ts[3]? = some .none
section
variable {M : Model} {A : Around} {E : Value → Shared → Prop} {s : Shared}
theorem entry {base : Heap} {env : Env} {outer : List Env} {L e : Addr} {oe : Obj} {vs : Array Value} {head : Value} {hadNext : Bool} {Q : Unit → Shared → Prop}
    (hfr : A.frames = some (env :: outer)) (hl : s.heap.FunFrames base (env :: outer)) (hf : env.frame = some L) (he : s.heap.get? e = some oe) (hd : oe.data = .fields vs) (hsz : 1 < vs.size)
    (q : ∀ h' T, Aft (env :: outer) e T oe s.heap h' → Q () { s with heap := h' }) :
    wpAny M A (do let a ← frameOf env; let pl ← entryPlaceOf L hadNext; let b ← EntryCells.newEntry head a .none (rawInt L) .none pl; setField (.ref e) 1 b) (fun _ s' => wpAny M A (setFlight (.ref e) none) Q E s') E s := by
  have hene : e ∉ (env :: outer).filterMap (·.frame) := fun hm => by
    obtain ⟨_, o, ho, hnf⟩ := hl.mem hm
    rw [he] at ho
    cases ho
    exact hnf vs hd
  refine wpAny_bind (wpAny_frameOf_fun hfr hl hf fun h1 S => ?_)
  refine wpAny_bind (wpAny_entryPlaceOf fun pl hpl => ?_)
  unfold EntryCells.newEntry newFields
  refine wpAny_bind (wpAny_newObj_type ?_ (hpl.sizeOk5 _ _ _ _ _))
  generalize hO : ({ cls := .type "traceback", dict := none, data := .fields ([head, .ref L, .none, rawInt L, .none] ++ (if pl.isEmpty then List.replicate 6 Value.none else pl)).toArray } : Obj) = oT
  have dT : oT.data = .fields ([head, .ref L, .none, rawInt L, .none] ++ (if pl.isEmpty then List.replicate 6 Value.none else pl)).toArray := by rw [← hO]
  have e1 : h1.get? e = some oe := (S.2.1 e hene).trans he
  have e2 := Heap.get?_push_of_some (h := h1) oT e1
  refine wpAny_setField e2 hd hsz ?_
  have nTe : h1.objs.size ≠ e := Nat.ne_of_gt (Heap.lt_size e1)
  have d3 := Obj.data_mapFields hd (·.setIfInBounds 1 (Value.ref h1.objs.size))
  have e3 := Heap.get?_update_self (Obj.mapFields (·.setIfInBounds 1 (Value.ref h1.objs.size))) e2 (Obj.isFreed_of_fields d3)
  have nfT : oT.isFreed = false := Obj.isFreed_of_fields dT
  have T3 : ((h1.push oT).update e (Obj.mapFields (·.setIfInBounds 1 (Value.ref h1.objs.size)))).get? h1.objs.size = some oT := (Heap.get?_update_other (h1.push oT) _ (Ne.symm nTe)).trans (Heap.get?_push_size h1 nfT)
  unfold setFlight
  refine wpAny_bind (wpAny_field e3 d3 (x := .ref h1.objs.size) (by simp [hsz]) ?_)
  rw [if_pos (show (Value.ref h1.objs.size != Value.none) = true from by simp)]
  have szT : 3 < ([head, .ref L, .none, rawInt L, .none] ++ (if pl.isEmpty then List.replicate 6 Value.none else pl)).toArray.size := by
    simp only [List.size_toArray, List.length_append, List.length_cons, List.length_nil] <;> omega
  refine wpAny_setField T3 dT szT (q _ h1.objs.size ?_)
  have keep : ∀ b o, b ≠ e → h1.get? b = some o → (((h1.push oT).update e (Obj.mapFields (·.setIfInBounds 1 (Value.ref h1.objs.size)))).update h1.objs.size (Obj.mapFields (·.setIfInBounds 3 ((none : Option Addr).elim Value.none fun f => rawInt f)))).get? b = some o := fun b o hbe hb => by
    have hbT : h1.objs.size ≠ b := Nat.ne_of_gt (Heap.lt_size hb)
    rw [Heap.get?_update_other _ _ hbT, Heap.get?_update_other _ _ (Ne.symm hbe)]
    exact Heap.get?_push_of_some _ hb
  refine ⟨fun b o nb nf hb => keep b o nb ((S.2.1 b nf).trans hb), fun b o nb hb => ?_, ?_, ?_, ?_⟩
  · obtain ⟨sl, z⟩ := S.2.2 b o hb
    exact ⟨sl, keep b _ nb z⟩
  · rw [Heap.get?_update_other _ _ nTe]
    exact e3
  · exact Nat.le_of_eq S.1.symm
  · refine ⟨_, _, Heap.get?_update_self _ T3 (Obj.isFreed_of_fields (Obj.data_mapFields dT _)), Obj.data_mapFields dT _, ?_⟩
    simp only [Array.getElem?_setIfInBounds]
    rw [if_pos trivial, if_pos szT]
    rfl
theorem leave1N {base : Heap} {env : Env} {outer : List Env} {L e : Addr} {oe : Obj} {vs : Array Value} {Q : Unit → Shared → Prop}
    (hfr : A.frames = some (env :: outer)) (hl : s.heap.FunFrames base (env :: outer)) (hf : env.frame = some L) (he : s.heap.get? e = some oe) (hd : oe.data = .fields vs) (h1 : vs[1]? = some .none)
    (q : ∀ h' T, Aft (env :: outer) e T oe s.heap h' → Q () { s with heap := h' }) : wpAny M A (noteFrame (.ref e) env) (fun _ s' => wpAny M A (setFlight (.ref e) none) Q E s') E s := by
  unfold noteFrame
  simp only [hf]
  refine wpAny_bind (wpAny_field he hd h1 ?_)
  rw [if_neg (by decide)]
  exact entry hfr hl hf he hd (Array.getElem?_eq_some_iff.mp h1).1 q
theorem leave2N {base : Heap} {env : Env} {outer : List Env} {L e T : Addr} {oe oT : Obj} {vs ts : Array Value} {Q : Unit → Shared → Prop}
    (hfr : A.frames = some (env :: outer)) (hl : s.heap.FunFrames base (env :: outer)) (hf : env.frame = some L) (he : s.heap.get? e = some oe) (hd : oe.data = .fields vs) (h1 : vs[1]? = some (.ref T))
    (nT : T ≠ e) (hT : s.heap.get? T = some oT) (dT : oT.data = .fields ts) (t3 : ts[3]? = some .none)
    (q : ∀ h1 h' T', (∀ b, b ≠ T → h1.get? b = s.heap.get? b) → h1.get? T = some (oT.mapFields (·.setIfInBounds 3 .none)) → h1.objs.size = s.heap.objs.size → Aft (env :: outer) e T' oe h1 h' → Q () { s with heap := h' }) : wpAny M A (noteFrame (.ref e) env) (fun _ s' => wpAny M A (setFlight (.ref e) none) Q E s') E s := by
  unfold noteFrame
  simp only [hf]
  refine wpAny_bind (wpAny_field he hd h1 ?_)
  rw [if_pos (show (Value.ref T != Value.none) = true from by simp)]
  refine wpAny_bind (wpAny_field hT dT t3 ?_)
  rw [if_neg (show ¬ ((Value.none == rawInt L) = true) from by simp [rawInt])]
  refine wpAny_bind (wpAny_setField hT dT (Array.getElem?_eq_some_iff.mp t3).1 ?_)
  have other : ∀ b, b ≠ T → (s.heap.update T (Obj.mapFields (·.setIfInBounds 3 Value.none))).get? b = s.heap.get? b := fun b hb => Heap.get?_update_other _ _ (Ne.symm hb)
  have noRec : ∀ b o, s.heap.get? b = some o → (∀ vs, o.data ≠ .fields vs) → b ≠ T := fun b o hb nf z => by
    rw [z, hT] at hb
    cases hb
    exact nf ts dT
  exact entry hfr (hl.of_keeps fun b o hb nf => ⟨o, (other b (noRec b o hb nf)).trans hb, rfl⟩) hf ((other e (Ne.symm nT)).trans he) hd (Array.getElem?_eq_some_iff.mp h1).1
    fun h' T' a => q _ h' T' other (Heap.get?_update_self _ hT (Obj.isFreed_of_fields (Obj.data_mapFields dT _))) (Heap.size_update _ _ _) a
end
end Ex
set_option Elab.async false
set_option linter.all false
set_option maxRecDepth 100000
set_option maxHeartbeats 4000000
namespace Ex
open PySem PySem.W PyProof.Rows Builtin.ObjectAttr
section
variable {prog : Program} {w : World} {M : Model} {A : Around} {E : Value → Shared → Prop} {s : Shared} {K : Frag} {x C : Addr} {name : Str} {v : Value}
/-- what of the text an exception class must have -/
structure XK0 (K : Frag) (C : Addr) : Prop where
  cd : ∃ cd, clsIn K C = some cd ∧ cd.hasDict = true ∧ cd.mro.isEmpty = false ∧ ∀ self, refuseLoop self "__setattr__" cd.mro = pure ()
  bx : mroIn K C (.type "BaseException") = some true
  ob : mroIn K C (.type "object") = some true
  ty : typeIn K (.ref C) = some (.type "type")
  sa : findIn K (.ref C) "__setattr__" = some (some (.builtin "object.__setattr__"))
  ga : findIn K (.ref C) "__getattribute__" = some (some (.builtin "BaseException.__getattribute__"))
  gh : findIn K (.ref C) "__getattr__" = some none
  cl : findIn K (.ref C) "__class__" = some (some (.builtin "object.__class__"))
  cg : specialIn K (.builtin "object.__class__") "__get__" = some (some (.builtin "getset_descriptor.__get__"))
  ct : takesIn K (.builtin "object.__class__") = some true
end
end Ex
set_option Elab.async false
set_option linter.all false
set_option maxRecDepth 100000
set_option maxHeartbeats 4000000
namespace Ex
open PySem PySem.W PyProof.Rows Builtin.ObjectAttr
section
variable {prog : Program} {w : World} {A : Around} {E : Value → Shared → Prop} {s : Shared} {K : Frag} {x C : Addr} {ox : Obj} {od : Option Obj} {name : Str} {v : Value}
/-- the exception's own way to read an attribute, up to what is found -/
theorem ga_call {tk : Tok} {R : Result → Shared → Prop} (F : XK0 K C) (X : K.In s.heap) (I : InstAt s.heap x ox C od)
    (h : wpAny (model prog w) A.in1 (Builtin.«object.__getattribute__» ⟨[.ref x, .str name tk], []⟩) (fun fin s' => match fin with | .done f => R (.ok f) s' | .again c' => c'.quiet = true ∧ codeAny (model prog w) A c' R s') (fun e s' => R (.error e) s') s) :
    codeAny (model prog w) A (.call (.builtin "BaseException.__getattribute__") ⟨[.ref x, .str name tk], []⟩) R s := by
  have sub : Looks (model prog w) s.heap (isInstance (.ref x) (.type "BaseException")) true := I.type.andThen (looks_mroIn X F.bx)
  have k1 : builtinKind "BaseException.__getattribute__" = some .slot := by decide +kernel
  have k2 : splitId "BaseException.__getattribute__" = some ("BaseException", "__getattribute__") := by decide +kernel
  exact codeAny_call_builtin PySem.F.excAttr_ValueError.ga.plain PySem.F.entry_bexc_ga (@check_slot (model prog w) _ _ s "BaseException.__getattribute__" "BaseException" "__getattribute__" (.ref x) [.str name tk] [] _ k1 k2 sub (PySem.F.args_bexc_ga _ _) h)
theorem by_exc {tk : Tok} {fill expr : Bool} {Q : Value → Shared → Prop} (F : XK0 K C) (X : K.In s.heap) (I : InstAt s.heap x ox C od)
    (h : wpAny (model prog w) A.in1 (Builtin.«object.__getattribute__» ⟨[.ref x, .str name tk], []⟩) (fun fin s' => match fin with | .done (.ret v) => wpAny (model prog w) A (handedOut v) Q E s' | _ => False) (fun _ _ => False) s) :
    wpAny (model prog w) A (getAttrBy (.ref x) (.str name tk) fill expr) Q E s := by
  obtain ⟨hh, g, d, t, os⟩ := s
  have L0 := I.type (M := model prog w)
  have L1 := looks_findIn (M := model prog w) X F.ga
  have L2 := looks_findIn (M := model prog w) X F.gh
  unfold getAttrBy
  refine wpAny_holding (wpAny_bind (L0.at (wpAny_bind (L1.at ?_))))
  have n1 : (Value.builtin "BaseException.__getattribute__" == Value.builtin "object.__getattribute__") = false := by decide +kernel
  show wpAny _ _ (if (onTheHeap (.ref C) && Value.builtin "BaseException.__getattribute__" == .builtin "object.__getattribute__") = true then _ else _) _ _ _
  rw [n1, Bool.and_false, if_neg Bool.false_ne_true]
  unfold getAttrByItsOwn
  refine wpAny_bind (m := hookBefore (.ref C)) (L2.at ?_)
  have cg : callGetattribute (.ref x) (.str name tk) (.builtin "BaseException.__getattribute__") expr = boundAndCalled (.builtin "BaseException.__getattribute__") (.ref x) (.str name tk) := by
    unfold callGetattribute
    rw [show (expr && onTheHeap (Value.builtin "BaseException.__getattribute__")) = false from by cases expr <;> rfl, if_neg Bool.false_ne_true]
  rw [cg]
  refine wpAny_bind (wpAny_attempt (wpAny_holding ?_))
  unfold boundAndCalled
  rw [PySem.F.excAttr_ValueError.ga.bind (.ref x)]
  refine wpAny_bind (wpAny_pure ?_)
  refine wpAny_call (ga_call F X I (wpAny_mono h (fun fin s' z => ?_) fun _ _ z => z.elim))
  rcases fin with (_ | _ | _ | _) | _ <;> first | exact z | exact z.elim
theorem class_exc {Q : Option Value → Shared → Prop} (F : XK0 K C) (X : K.In s.heap) (I : InstAt s.heap x ox C od) (q : Q (some (.ref C)) { s with toks := s.toks + 1 }) :
    wpAny (model prog w) A (getAttr? (.ref x) "__class__") Q E s := by
  obtain ⟨cd, hc, _⟩ := F.cd
  have hf : findObj K C od "__class__" = some (.bind (.builtin "getset_descriptor.__get__") (.builtin "object.__class__")) := by
    unfold findObj
    rw [hc, F.cl]
    simp only [Option.bind_some, F.cg, F.ct]
  unfold getAttr? getAttrBy?
  refine wpAny_bind (wpAny_mkText (wpAny_bind (wpAny_attempt (by_exc (s := { s with toks := s.toks + 1 }) F X I ?_))))
  obtain ⟨hh, g, d, t, os⟩ := s
  have L0 := I.type (M := model prog w)
  have L1 := looks_find (M := model prog w) X I hf
  refine wpAny_bind (wpAny_pure (wpAny_bind (wpAny_pure (wpAny_bind (L0.at (wpAny_bind (L1.at ?_)))))))
  show wpAny _ _ (holding [Value.builtin "object.__class__"] (call (.builtin "getset_descriptor.__get__") [.builtin "object.__class__", .ref x, .ref C]) >>= ret) _ _ _
  refine wpAny_bind (wpAny_holding (wpAny_call (class_get (s := ⟨hh, g, d, t + 1, os⟩) (ox := ox) (od := od) X I F.ob (wpAny_pure ?_))))
  show wpAny _ _ (handedOut (.ref C)) _ _ _
  exact wpAny_pure (wpAny_pure q)
end
end Ex
set_option Elab.async false
set_option linter.all false
set_option maxRecDepth 100000
set_option maxHeartbeats 4000000
namespace Ex
open PySem PySem.W PyProof.Rows Builtin.ObjectAttr
section
variable {prog : Program} {w : World} {A : Around} {E : Value → Shared → Prop} {s : Shared} {K : Frag} {x C : Addr} {ox : Obj} {od : Option Obj} {name : Str} {v : Value}
theorem isT (F : XK0 K C) {M : Model} {h : Heap} (X : K.In h) : Looks M h (isType (.ref C)) true := by
  obtain ⟨cd, hc, _⟩ := F.cd
  unfold clsIn at hc
  split at hc
  · rename_i c' d' cd' sl' ho
    intro A' Q' E' s' k q
    unfold isType loadHead
    exact wpAny_bind (wpAny_loadPart (k _ _ (X _ _ ho)) (wpAny_pure q))
  · cases hc
/-- isinstance(e, ..) -/
theorem kitx_exc (F : XK0 K C) : KitX K (.ref x) (.ref C) (fun h => InstAt h x ox C od) where
  ty := fun _ _ _ I => I.type
  it := fun _ _ X _ => isT F X
  ne := fun h tp dd its n sl X htp => by
    obtain ⟨cd, hc, _⟩ := F.cd
    refine Bool.eq_false_iff.mpr fun q => ?_
    have e : C = tp := Value.ref.inj (beq_iff_eq.mp q)
    subst e
    unfold clsIn at hc
    split at hc
    · rename_i c' d' cd' sl' ho
      have z := (X _ _ ho).symm.trans htp
      cases z
    · cases hc
  ca := fun X I k => class_exc F X I k
/-- raise e -/
theorem raise_exc {env : Env} {m : Sem Value} {Q : Flow → Shared → Prop} (hh : A.handled = none)
    (h : wpAny (model prog w) A m (fun u s1 => ∃ e C od vs sl, u = .ref e ∧ XK0 K C ∧ K.In s1.heap ∧ s1.heap.get? e = some ⟨.ref C, od, .fields vs, sl⟩ ∧ vs[1]? = some .none ∧ E (.ref e) s1) E s) :
    wpAny (model prog w) A (raiseStmt env (some m) none) Q E s := by
  unfold raiseStmt
  refine wpAny_bind (wpAny_mono h (fun u s1 h1 => ?_) fun _ _ z => z)
  obtain ⟨e, C, od, vs, sl, rfl, F, X, he, t1, q⟩ := h1
  obtain ⟨hp, g, d, tk, os⟩ := s1
  have T : Looks (model prog w) hp (typeOf (.ref e)) (.ref C) := (Looks.ld he).andThen .now
  have nt : Looks (model prog w) hp (isType (.ref e)) false := by
    intro A' Q' E' s' k q
    unfold isType loadHead
    exact wpAny_bind (wpAny_loadPart (k _ _ he) (wpAny_pure q))
  have B : Looks (model prog w) hp (isInstance (.ref e) (.type "BaseException")) true := T.andThen (looks_mroIn X F.bx)
  have TT := looks_typeIn (M := model prog w) X F.ty
  have n1 : Looks (model prog w) hp (isExcClass (.ref e)) false := by
    unfold isExcClass
    exact nt.andThen .now
  have xf : Looks (model prog w) hp (excFromValue (.ref e) "exceptions must derive from BaseException") (.ref e) := by
    unfold excFromValue
    exact n1.andThen (B.andThen .now)
  refine wpAny_bind (wpAny_pure (wpAny_bind (wpAny_holding (xf.at ?_))))
  have ri : Looks (model prog w) hp (raisedInstance (.ref e)) (.ref e) := by
    unfold raisedInstance
    exact T.andThen (TT.andThen .now)
  refine wpAny_bind (nt.at ?_)
  show wpAny _ _ (raisedInstance (.ref e) >>= fun e => setFlight e none >>= fun _ => raiseNew e) _ _ _
  refine wpAny_bind (ri.at (wpAny_bind ?_))
  unfold setFlight
  refine wpAny_bind (wpAny_field he rfl t1 ?_)
  rw [if_neg (by decide)]
  exact wpAny_pure (wpAny_raiseNew_none hh q)
/-- is the exception of the class D? -/
theorem match_exc {D : Addr} {b : Bool} {Q : Bool → Shared → Prop} (F : XK0 K C) (G : XK0 K D) (X : K.In s.heap) (I : InstAt s.heap x ox C od) (hm : mroIn K C (.ref D) = some b) (hb : instIn K (.ref D) (.type "tuple") = some false) (hB : mroIn K D (.type "BaseException") = some true)
    (q : Q b s) : wpAny (model prog w) A (excMatches (.ref x) (.ref D)) Q E s := by
  obtain ⟨h, g, d, tk, os⟩ := s
  have T := I.type (M := model prog w)
  have L1 := looks_instIn (M := model prog w) X hb
  have L2 : Looks (model prog w) h (isExcClass (.ref D)) true := by
    unfold isExcClass
    exact (isT G X).andThen (looks_mroIn X hB)
  have L3 := looks_mroIn (M := model prog w) X hm
  unfold excMatches
  repeat lk
  cases b with
  | true => exact wpAny_pure (wpAny_pure (wpAny_pure q))
  | false => exact wpAny_pure (wpAny_pure (wpAny_pure q))
/-- ValueError.__init__(e, ..): the arguments anew -/
theorem init_exc {rest : List Value} {vs : Array Value} {dd : Option Addr} {sl : Array (Option Value)} {t0 : Addr} {R : Result → Shared → Prop} (F : XK0 K C) (hV : mroIn K C (.type "ValueError") = some true) (X : K.In s.heap)
    (hx : s.heap.get? x = some ⟨.ref C, dd, .fields vs, sl⟩) (h0 : vs[0]? = some (.ref t0)) (hl : rest.length ≤ sizeLine)
    (q : ∀ h' T, h'.get? x = some ⟨.ref C, dd, .fields (vs.setIfInBounds 0 (.ref T)), sl⟩ → (∀ b o, b ≠ x → s.heap.get? b = some o → h'.get? b = some o) → R (.ok (.ret .none)) { s with heap := h' }) :
    codeAny (model prog w) A (.call (.builtin "ValueError.__init__") ⟨.ref x :: rest, []⟩) R s := by
  have B := PySem.F.excBase_ValueError
  obtain ⟨h, g, d, tk, os⟩ := s
  have T : Looks (model prog w) h (typeOf (.ref x)) (.ref C) := (Looks.ld hx).andThen .now
  have sub : Looks (model prog w) h (isInstance (.ref x) (.type "ValueError")) true := T.andThen (looks_mroIn X hV)
  have st : ∀ (a b : String) (n : Nat), Bind.check ⟨.positional, "*", "ValueError", .self, [⟨"args", .varPos, false⟩]⟩ a b n (List.map (fun x => x.fst) ({ pos := Value.ref x :: rest } : Args).kw) = pure () := fun a b n => check_star_args _ _ _ _ _ _
  refine codeAny_call_builtin B.init.plain B.initEntry ?_
  simp only [checkBuiltinCall, B.initKind, B.initSplit, B.initRow]
  refine wpAny_bind (sub.at ?_)
  rw [if_neg (by decide)]
  obtain ⟨cd, hc, _⟩ := F.cd
  obtain ⟨cc, dC, slC, ho⟩ : ∃ cc dC slC, K.lookup C = some ⟨cc, dC, .cls cd, slC⟩ := by
    unfold clsIn at hc
    split at hc
    · rename_i c' d' cd' sl' ho
      cases hc
      exact ⟨_, _, _, ho⟩
    · cases hc
  have hC : h.get? C = some ⟨cc, dC, .cls cd, slC⟩ := X _ _ ho
  have c2 := B.noStar
  repeat (first | with_reducible refine wpAny_loadPart_at hx ?_ | with_reducible refine wpAny_loadPart_at hC ?_ | wp_step)
  refine wpAny_onRaise ?_
  rw [st]
  refine wpAny_pure ?_
  unfold Builtin.«BaseException.__init__»
  show wpAny _ _ (newTuple rest >>= fun t => Builtin.BaseException.bexcPut (.ref x) 0 t >>= fun _ => ret .none) _ _ _
  unfold newTuple
  refine wpAny_bind (wpAny_newObj_type ?_ (by show rest.toArray.size ≤ sizeLine; rw [List.size_toArray]; exact hl))
  have x1 := Heap.get?_push_of_some (h := h) { cls := .type "tuple", data := .seq rest.toArray } hx
  have sz : 0 < vs.size := (Array.getElem?_eq_some_iff.mp h0).1
  unfold Builtin.BaseException.bexcPut
  refine wpAny_bind (wpAny_bind (wpAny_field x1 rfl h0 (wpAny_bind (wpAny_setField x1 rfl sz (wpAny_letGo (wpAny_pure ?_))))))
  refine q _ h.objs.size (Heap.get?_update_self _ x1 rfl) fun b o nb hb => ?_
  rw [Heap.get?_update_other _ _ (Ne.symm nb)]
  exact Heap.get?_push_of_some _ hb
end
end Ex
set_option Elab.async false
set_option linter.all false
set_option maxRecDepth 100000
set_option maxHeartbeats 4000000
namespace Ex
open PySem PySem.W PyProof.Rows Builtin.ObjectAttr
section
variable {prog : Program} {w : World} {A : Around} {E : Value → Shared → Prop} {h : Heap} {g : Array GenState} {d : Drawn} {t : Nat} {os : OsState} {K : Frag}
variable {nm q : Str} {C N : Addr} {bs bm bmB : List Value} {hdct : Bool} {sn : List Str} {sub : List Value} {ab : Bool} {col : Option Bool} {dd : Option Addr} {k0 k1 k2 k3 k5 : Option Value} {B newId initId : String}
theorem type_callK (F : ExcBaseFacts B newId initId bmB) (U : Up B bm) {rest : List Value} {fI : Addr} {Q : Fin → Shared → Prop} (hrest : rest.length ≤ sizeLine) (X : K.In h)
    (hC : h.get? C = some (excClassObj nm q C N bs bm hdct sn sub ab col dd k0 k1 k2 k3 k5 newId)) (hi : findIn K (.ref C) "__init__" = some (some (.ref fI))) (hfn : typeIn K (.ref fI) = some (.type "function"))
    (hq : ∀ h' e, h.objs.size ≤ e → Heap.MadeExcOf h h' e (.ref C) rest → wpAny (model prog w) A (call (.ref fI) (.ref e :: rest)) (fun r s' => r = .none ∧ Q (.done (.ret (.ref e))) s') E ⟨h', g, d, t, os⟩) :
    wpAny (model prog w) A (Builtin.«type.__call__» ⟨.ref C :: rest, []⟩) Q E ⟨h, g, d, t, os⟩ := by
  repeat (first | with_reducible refine wpAny_loadPart_at hC ?_ | with_reducible refine wpAny_madeBy_exc hC ?_ | wp_step)
  refine codeAny_call_builtin_code (Code.quiet_builtin _ F.quiet) (check_new F U hC (exc_new F U hC hrest ?_))
  show wpAny _ _ _ _ _ _
  have k2 : ∀ {b : Addr} {o : Obj}, h.get? b = some o → ((h.push { cls := .type "tuple", data := .seq rest.toArray }).push { cls := .ref C, data := .fields #[.ref h.objs.size, .none, .none, .none, .bool false, .none] }).get? b = some o := fun e => Heap.get?_push_of_some _ (Heap.get?_push_of_some _ e)
  have X1 : K.In ((h.push { cls := .type "tuple", data := .seq rest.toArray }).push { cls := .ref C, data := .fields #[.ref h.objs.size, .none, .none, .none, .bool false, .none] }) := fun a o e => k2 (X a o e)
  have hC₁ := k2 hC
  have hget : ((h.push { cls := .type "tuple", data := .seq rest.toArray }).push { cls := .ref C, data := .fields #[.ref h.objs.size, .none, .none, .none, .bool false, .none] }).get? (h.objs.size + 1) = some { cls := .ref C, data := .fields #[.ref h.objs.size, .none, .none, .none, .bool false, .none] } := by heap_get
  have hcC : (Value.ref C :: bm).contains (.ref C) = true := by simp
  unfold isInstance
  repeat (first | with_reducible refine wpAny_loadPart_at hget ?_ | (with_reducible refine wpAny_isSubtype_exc hC₁ ?_; rw [hcC]) | wp_step)
  show wpAny _ _ (typeLookup (.ref C) _) _ _ _
  refine (looks_findIn (M := model prog w) X1 hi).at ?_
  refine wpAny_holding (wpAny_bind ?_)
  unfold bindSpecial
  refine wpAny_bind ((looks_typeIn (M := model prog w) X1 hfn).at ?_)
  rw [if_pos (by decide)]
  refine wpAny_pure (wpAny_bind (wpAny_mono (hq _ (h.objs.size + 1) (Nat.le_succ _) ⟨fun b o hb => k2 hb, Heap.get?_none_of_le (Nat.le_succ _), h.objs.size, hget, Heap.get?_none_of_le (Nat.le_refl _), Heap.get?_push_of_some _ (Heap.get?_push_at rfl rfl)⟩) (fun r s' hr => ?_) fun _ _ x => x))
  obtain ⟨rfl, hQ⟩ := hr
  wp_walk
  exact hQ
theorem call_excK (F : ExcBaseFacts B newId initId bmB) (U : Up B bm) {rest : List Value} {fI : Addr} {Q : Value → Shared → Prop} (hrest : rest.length ≤ sizeLine) (X : K.In h)
    (hC : h.get? C = some (excClassObj nm q C N bs bm hdct sn sub ab col dd k0 k1 k2 k3 k5 newId)) (hi : findIn K (.ref C) "__init__" = some (some (.ref fI))) (hfn : typeIn K (.ref fI) = some (.type "function"))
    (hq : ∀ h' e, h.objs.size ≤ e → Heap.MadeExcOf h h' e (.ref C) rest →
      wpAny (model prog w) (A.under (.builtin "type.__call__" ⟨.ref C :: rest, []⟩)) (call (.ref fI) (.ref e :: rest)) (fun r s' => r = .none ∧ Q (.ref e) s') E ⟨h', g, d, t, os⟩) :
    wpAny (model prog w) A (call (.ref C) rest) Q E ⟨h, g, d, t, os⟩ := by
  have f1 := tc_lookup
  have f2 := tc_bind (.ref C)
  have hT : (⟨h, g, d, t, os⟩ : Shared).TypeIs (.ref C) "type" := ⟨_, hC, rfl⟩
  refine wpAny_call (codeAny_of_tree ?_)
  show wpAny _ _ (callAny (.ref C) ⟨rest, []⟩) _ _ _
  repeat (any_goals (first | assumption | with_reducible refine wpAny_loadPart_at hC ?_ | wp_step))
  refine ⟨rfl, ?_⟩
  refine codeAny_call_builtin_at (Code.quiet_builtin _ (by decide +kernel)) entry_typeCall (wpAny_check_type_call_sub hC (type_callK F U hrest X hC hi hfn fun h' e he hm => ?_))
  exact hq h' e he hm
end
end Ex
set_option Elab.async false
set_option linter.all false
set_option maxRecDepth 100000
set_option maxHeartbeats 4000000
namespace L2
open PySem PySem.Spec PyProof.Rows
/-- an exception: its class, its dict, its traceback -/
def XO (e C : Addr) (dx : Option Addr) (t1 : Value) (h : Heap) : Prop := ∃ vs sl, h.get? e = some ⟨.ref C, dx, .fields vs, sl⟩ ∧ (∃ t0, vs[0]? = some (.ref t0)) ∧ vs[1]? = some t1
/-- a traceback's record -/
def TrB (T : Addr) (h : Heap) : Prop := ∃ o ts, h.get? T = some o ∧ o.data = .fields ts ∧ ts[3]? = some .none
theorem XO.ok {P : Program} {w : World} {H : Hp} {h : Heap} {e C : Addr} {dx : Option Addr} {t1 : Value} (x : XO e C dx t1 h) : ObjOk P w H h e (.ext (XO e C dx t1)) := by
  refine ⟨x, ?_, fun h1 h2 y k => ?_⟩
  · obtain ⟨vs, sl, e, _⟩ := x
    exact ⟨_, e⟩
  · obtain ⟨vs, sl, e, r⟩ := y
    exact ⟨vs, sl, k _ e, r⟩
theorem TrB.ok {P : Program} {w : World} {H : Hp} {h : Heap} {T : Addr} (x : TrB T h) : ObjOk P w H h T (.ext (TrB T)) := by
  refine ⟨x, ?_, fun h1 h2 y k => ?_⟩
  · obtain ⟨o, ts, e, _⟩ := x
    exact ⟨_, e⟩
  · obtain ⟨o, ts, e, r⟩ := y
    exact ⟨o, ts, k _ e, r⟩
theorem upd_self {H : Hp} {a : Addr} {o : HO} (h : H a = some o) : upd H a o = H := by
  funext b
  by_cases e : b = a
  · subst e; rw [upd_same, h]
  · rw [upd_ne e]
section
variable {P : Program} {w : World} {H : Hp} {h h' : Heap} {a d : Addr} {o1 o2 : HO} {fs ex : List Addr}
/-- one thing is changed, another is new -/
theorem HOk.two (ok : HOk P w H h) (mu : Mut (H a)) (hd : h.objs.size ≤ d) (k : ∀ b u, b ≠ a → h.get? b = some u → h'.get? b = some u)
    (n1 : ObjOk P w (upd (upd H d o1) a o2) h' d o1) (n2 : ObjOk P w (upd (upd H d o1) a o2) h' a o2) : HOk P w (upd (upd H d o1) a o2) h' := fun b u q => by
  have nown : ∀ c y, H c = some (.own y) → c ≠ a := fun c y r z => by subst z; rw [r] at mu; exact mu
  have ntup : ∀ c xs, H c = some (.tup xs) → c ≠ a := fun c xs r z => by subst z; rw [r] at mu; exact mu
  have nd : H d = none := ok.fresh hd
  by_cases hb : b = a
  · subst hb; rw [upd_same] at q; cases q; exact n2
  · rw [upd_ne hb] at q
    by_cases hbd : b = d
    · subst hbd; rw [upd_same] at q; cases q; exact n1
    · rw [upd_ne hbd] at q
      refine (ok b u q).stay (fun c v hc r => k c v ?_ r) (fun c r => by rw [upd_ne (nown c b r), upd_ne (ne_of_none r nd)]; exact r) fun c xs r => by rw [upd_ne (ntup c xs r), upd_ne (ne_of_none r nd)]; exact r
      rcases hc with rfl | hc
      · exact hb
      · exact nown c b hc
theorem Un.two (mu : Mut (H a)) (hd : h.objs.size ≤ d) (nd : H d = none) (k : ∀ b u, b ≠ a → h.get? b = some u → h'.get? b = some u) (he : ∃ u, h'.get? a = some u) : Un fs ex H (upd (upd H d o1) a o2) h h' := by
  have hx : ∀ b, H b = none → b ≠ a := fun b n z => by subst z; rw [n] at mu; exact mu
  have hm : ∀ b u, H b = some u → ¬ Mut (some u) → b ≠ a := fun b u q nm z => by subst z; rw [q] at mu; exact nm mu
  refine ⟨fun b u q n _ _ => k b u (hx b n) q, fun b u q n _ _ => ⟨u.slots, k b u (hx b n) q⟩, fun b u q n _ => by rw [upd_ne (hx b n), upd_ne (Nat.ne_of_lt (Nat.lt_of_lt_of_le (Heap.lt_size q) hd))]; exact n, fun b u q _ => ?_,
    fun b xs q => by rw [upd_ne (hm b _ q fun z => z), upd_ne (ne_of_none q nd)]; exact q, fun b u xs q => by rw [upd_ne (hm b _ q fun z => z), upd_ne (ne_of_none q nd)]; exact q,
    fun b ps q => ⟨#[], by rw [upd_ne (hm b _ q fun z => z), upd_ne (ne_of_none q nd), q]; simp⟩⟩
  by_cases hb : b = a
  · subst hb; exact he
  · exact ⟨u, k b u hb q⟩
end
/-- what of the text an exception class must have to be made -/
structure XM (K : PySem.W.Frag) (C f : Addr) : Prop where
  x0 : Ex.XK0 K C
  obj : ∃ nm q N bs bm hdct sn sub ab col dd k0 k1 k2 k3 k5, K.lookup C = some (excClassObj nm q C N bs bm hdct sn sub ab col dd k0 k1 k2 k3 k5 "ValueError.__new__") ∧ Ex.Up "ValueError" bm
  init : PySem.W.findIn K (.ref C) "__init__" = some (some (.ref f))
  fn : PySem.W.typeIn K (.ref f) = some (.type "function")
  kp : PySem.W.keepIn K (.ref C) = true
/-- C(..), an exception -/
def tXMake (C : Addr) (sp : Sp) (t : TA) : TE := fun σ H Q => t σ H fun vs H1 => ∀ x, H1 x = none → sp (.ref x :: vs) (upd H1 x (.ext (XO x C none .none))) (fun v H2 => v = .non ∧ Q (.ref x) H2) E0
section
variable {X : Cx} {k : Nat} {f C : Addr} {fd : FuncData} {ps : List Str} {sp : Sp} {x m : Str} {p pos apos : Pos} {e o : Expr} {es : List Expr} {ta : TE} {t : TA}
theorem run_xmake {pins : List (Addr × Obj)} {σ : St} {H : Hp} {s : Shared} {Q : VK} {us : List Value} {vs : List V} (M : XM X.K C f) (F : FnOk X.prog X.w X.K X.mg X.base CX0 k f fd ps sp) (hr : Room (k + 1) X.A) (hb : Binds X.K fd ps []) (hs : ps.length ≤ 100)
    (I : Inv X pins σ H s) (r : Vals vs us)
    (h : ∀ x, H x = none → sp (.ref x :: vs) (upd H x (.ext (XO x C none .none))) (fun v H2 => v = .non ∧ Q (.ref x) H2) E0) :
    wpAny (model X.prog X.w) X.A (call (.ref C) us) (EP X pins σ Q) X.xe s := by
  have hl0 : us.length + 1 = ps.length := by
    have := F.len _ _ _ _ (h s.heap.objs.size (I.hok.fresh (Nat.le_refl _)))
    rw [List.length_cons, r.length] at this
    exact this
  obtain ⟨nm, q, N, bs, bm, hdct, sn, sub, ab, col, dd, k0, k1, k2, k3, k5, lk, U⟩ := M.obj
  obtain ⟨h0, g, d, tk, os⟩ := s
  have KX : X.K.In h0 := I.kIn
  refine Ex.call_excK (K := X.K) (fI := f) PySem.F.excBase_ValueError U (by rw [sizeLine_eq]; omega) KX (KX _ _ lk) M.init M.fn fun h' x hx hm => ?_
  have I2 : Inv X pins σ (upd H x (.ext (XO x C none .none))) ⟨h', g, d, tk, os⟩ := by
    refine I.laid (t' := tk) hm.keeps hx (XO.ok ?_)
    obtain ⟨t0, e0, _⟩ := hm.there
    exact ⟨_, _, e0, ⟨t0, rfl⟩, rfl⟩
  have hq := h x (I.hok.fresh hx)
  have r2 : Vals (V.ref x :: vs) (Value.ref x :: us) := .cons rfl r
  have hl : ((Value.ref x :: us) ++ []).length = ps.length := by rw [List.append_nil, List.length_cons]; exact hl0
  have bb := hb _ (Value.ref x :: us) I2.kIn hl
  rw [List.append_nil] at bb
  refine wpAny_call (codeAny_mono (F.run _ X.stack _ _ ⟨Value.ref x :: us, []⟩ (Value.ref x :: us) _ _ E0 (hr.make C us []) (I2.env0.make C us []) bb r2 hq) fun rr s' hq' => ?_)
  cases rr with
  | error e => exact hq'.elim
  | ok fl =>
    cases fl with
    | ret u =>
      obtain ⟨v, H', I3, rv, ev, q3⟩ := I2.after hq'
      subst ev
      exact ⟨rv, ⟨V.ref x, H', I3, rfl, q3⟩⟩
    | next => exact False.elim hq'
    | brk => exact False.elim hq'
    | cont => exact False.elim hq'
theorem pe_xmake (M : XM X.K C f) (F : FnOk X.prog X.w X.K X.mg X.base CX0 k f fd ps sp) (hr : Room (k + 1) X.A) (hg : Gl X x) (hm : X.mg x = some (.ref C)) (hb : Binds X.K fd ps []) (hs : ps.length ≤ 100)
    (ha : PA X (e :: es) t) (hdb : (x == ("__debug__" : Str)) = false := by decide) (he : starEach (e :: es) X.env = (false, eval e X.env) :: starEach es X.env := by rfl) (hpl : (backTo pos (starEach es X.env)).any (·.1) = false := by rfl) :
    PE X (.Call (.Name x p) (e :: es) [] pos) (tXMake C sp t) := by
  intro pins s σ H Q I h
  refine wpAny_Call_Name_kw (ld_glob I hg hm ?_ hdb)
  refine PySem.W.callWith_K (h₀ := X.base) I.ok.mod.kin M.kp (thn (ha pos pins s σ H _ I h) fun us s1 ⟨vs, H1, I1, r, q⟩ => ⟨I1.kIn, ?_⟩) he hpl
  exact run_xmake M F hr hb hs I1 r q
end
end L2
set_option Elab.async false
set_option linter.all false
set_option maxRecDepth 100000
set_option maxHeartbeats 4000000
namespace L2
open PySem PySem.Spec PyProof.Rows
/-- ValueError.__init__(self, ..) -/
inductive tVInitY (K : PySem.W.Frag) (Q : VK) (vs : List V) (H1 : Hp) : Prop
  | mk : ∀ a C dx rest, (vs = .ref a :: rest) → (H1 a = some (.ext (XO a C dx .none))) → (Ex.XK0 K C) → (PySem.W.mroIn K C (.type "ValueError") = some true) → (rest.length ≤ 100) → (Q .non H1) → tVInitY K Q vs H1
def tVInit (K : PySem.W.Frag) (t : TA) : TE := fun σ H Q => t σ H fun vs H1 => tVInitY K Q vs H1
section
variable {X : Cx} {k : Nat} {f C : Addr} {fd : FuncData} {ps : List Str} {sp : Sp} {x m : Str} {p pos apos pos' : Pos} {e o value : Expr} {es : List Expr} {ta tv : TE} {t : TA}
theorem pe_vinit {pl : Sem Bool} (hg : Gl X "ValueError") (hm : X.mg "ValueError" = none) (hc : PySem.W.findCls X.K (.type "ValueError") (.type "type") "__init__" = some (.val (.builtin "ValueError.__init__"))) (ha : PA X (e :: es) t)
    (hst : starEach (e :: es) X.env = (false, eval e X.env) :: starEach es X.env := by rfl) (hpl : (backTo pos (starEach es X.env)).any (·.1) = false := by rfl)
    (ht : eval (.Call (.Attribute (.Name "ValueError" p) "__init__" apos) (e :: es) [] pos) X.env = (do
      let ov ← eval (.Name "ValueError" p) X.env
      standAt apos.atName
      let (f, first) ← holding [ov] (getMethod ov "__init__" pl)
      callWith pos f first (backTo pos (starEach (e :: es) X.env)) (backToKw pos (keywordEach [] X.env))) := by rfl) :
    PE X (.Call (.Attribute (.Name "ValueError" p) "__init__" apos) (e :: es) [] pos) (tVInit X.K t) := by
  intro pins s σ H Q I h
  have bv : bootBuiltins "ValueError" = some (.type "ValueError") := by decide +kernel
  refine PySem.W.methodCall_KW (pl := pl) (ld_blt I hg hm bv ?_) ht
  obtain ⟨m, fr⟩ := I.fr
  refine PySem.W.method_type fr I.ok.mod.kin rfl (by decide +kernel) hc rfl ?_
  have I0 := I.tok (s.toks + 1)
  refine PyProof.Rows.callWith_builtin1 (thn (ha pos pins _ σ H _ I0 h) fun us s1 ⟨vs, H1, I1, r, a, C, dx, rest, ev, ha, x0, hV, hl, q⟩ => ?_) hst hpl
  subst ev
  obtain ⟨u, us, rfl, ru, rr⟩ : ∃ u us', us = u :: us' ∧ RelV (.ref a) u ∧ Vals rest us' := by
    cases r with
    | cons a b => exact ⟨_, _, rfl, a, b⟩
  cases ru
  obtain ⟨⟨ws, sl, he, ⟨t0, h0⟩, h1⟩, _⟩ := I1.hok a _ ha
  refine wpAny_call (Ex.init_exc (K := X.K) x0 hV I1.kIn he h0 (by rw [← rr.length, sizeLine_eq]; omega) fun h' T g1 g2 => ?_)
  refine ⟨.non, H1, ?_, rfl, q⟩
  have := I1.write (h' := h') (t' := s1.toks) (x := a) (e := a) (o := .ext (XO a C dx .none)) (by rw [ha]; exact True.intro) (.inl rfl) (fun b u nb e => g2 b u nb e) ⟨_, g1⟩
    (XO.ok ⟨_, _, g1, ⟨T, by rw [Array.getElem?_setIfInBounds]; rw [if_pos rfl, if_pos (Array.getElem?_eq_some_iff.mp h0).1]⟩, by rw [Array.getElem?_setIfInBounds_ne (by decide)]; exact h1⟩)
  rw [upd_self ha] at this
  exact this
end
end L2
set_option Elab.async false
set_option linter.all false
set_option maxRecDepth 100000
set_option maxHeartbeats 4000000
namespace L2
open PySem PySem.Spec PyProof.Rows
/-- the exception as the reading sees it: its class, its dict (tracked, where it has one) -/
def XAt (H : Hp) (a C : Addr) (dx : Option Addr) (t1 : Value) : Prop := H a = some (.ext (XO a C dx t1)) ∧ ∀ d, dx = some d → ∃ fs, H d = some (.xd fs)
section
variable {X : Cx} {pins : List (Addr × Obj)} {σ : St} {H : Hp} {s : Shared} {e : Expr} {f : Str} {pos : Pos} {ta : TE}
theorem XAt.inst (I : Inv X pins σ H s) {a C : Addr} {dx : Option Addr} {t1 : Value} (x : XAt H a C dx t1) : ∃ ox od, PySem.W.InstAt s.heap a ox C od := by
  obtain ⟨⟨ws, sl, he, _⟩, _⟩ := I.hok a _ x.1
  cases dx with
  | none => exact ⟨_, none, he, rfl, rfl, trivial⟩
  | some d =>
    obtain ⟨fs, hd⟩ := x.2 d rfl
    obtain ⟨mA, ⟨o, es, ep, e, _⟩, _⟩ := I.hok d _ hd
    exact ⟨_, some o, he, rfl, rfl, e⟩
/-- isinstance(e, D), D a class -/
inductive call_isiXY (K : PySem.W.Frag) (xs : List V) (H : Hp) (Q : VK) : Prop
  | mk : ∀ a C dx t1 y u b, (xs = [.ref a, y]) → (RelV y u) → ((∀ u', RelV y u' → u' = u)) → (XAt H a C dx t1) → (Ex.XK0 K C) → (PySem.W.kitOne K (.ref C) u = some b) → (Q (.bl b) H) → call_isiXY K xs H Q
theorem call_isiX : CallR X (.builtin "isinstance") (call_isiXY X.K) := by
  intro pins s σ H xs us Q I r h
  obtain ⟨a, C, dx, t1, y, u, b, rfl, ry, uy, xa, x0, e, q⟩ := h
  obtain ⟨u1, u2, rfl, r1, r2⟩ := vals2 r
  cases r1
  obtain rfl := uy _ r2
  obtain ⟨ox, od, J⟩ := xa.inst I
  exact PySem.W.kia_one (Ex.kitx_exc x0) I.kIn J e (fun z => nomatch z) fun tk => ⟨.bl b, H, I.tok _, rfl, q⟩
/-- isinstance(e, (D1, D2, ..)) -/
inductive call_isiXTY (K : PySem.W.Frag) (xs : List V) (H : Hp) (Q : VK) : Prop
  | mk : ∀ a C dx t1 tp ys us b, (xs = [.ref a, .ref tp]) → (H tp = some (.tup ys)) → (Vals ys us) → ((∀ us', Vals ys us' → us' = us)) → (XAt H a C dx t1) → (Ex.XK0 K C) → (PySem.W.kitAny K (.ref C) us = some b) → (Q (.bl b) H) → call_isiXTY K xs H Q
theorem call_isiXT : CallR X (.builtin "isinstance") (call_isiXTY X.K) := by
  intro pins s σ H xs us Q I r h
  obtain ⟨a, C, dx, t1, tp, ys, us, b, rfl, ht, vy, uy, xa, x0, e, q⟩ := h
  obtain ⟨u1, u2, rfl, r1, r2⟩ := vals2 r
  cases r1
  cases r2
  obtain ⟨ox, od, J⟩ := xa.inst I
  obtain ⟨_, its, rv, o, ho, hc, n, hd, hdd⟩ := I.hok tp _ ht
  obtain rfl := uy _ rv
  obtain ⟨oc, odi, oda, osl⟩ := o
  dsimp only at hc hd hdd
  subst hc hd hdd
  exact PySem.W.kia_tup (Ex.kitx_exc x0) I.kIn J ho e (fun z => nomatch z) fun tk => ⟨.bl b, H, I.tok _, rfl, q⟩
end
end L2
set_option Elab.async false
set_option linter.all false
set_option maxRecDepth 100000
set_option maxHeartbeats 4000000
namespace L2
open PySem PySem.Spec PyProof.Rows
abbrev tr2 (H : Hp) (a C : Addr) (dx : Option Addr) (T : Addr) : Hp := upd (upd H T (.ext (TrB T))) a (.ext (XO a C dx (.ref T)))
section
variable {P : Program} {w : World} {H H1 H2 : Hp} {h h1 h2 h' : Heap} {a C T : Addr} {dx : Option Addr} {t1 : Value} {l : List Env} {fs fs' : List Addr}
theorem Un.transL (x : Un fs [] H H1 h h1) (y : Un fs' [] H1 H2 h1 h2) (hs : ∀ b o, h.get? b = some o → b ∈ fs' → b ∈ fs) : Un fs [] H H2 h h2 where
  keep := fun c ob q n hc hx => y.keep c ob (x.keep c ob q n hc hx) (x.free c ob q n hx) (fun z => hc (hs c ob q z)) hx
  slot := fun c ob q n hc hx => by
    obtain ⟨sl, e1⟩ := x.slot c ob q n hc hx
    obtain ⟨sl', e2⟩ := y.any e1 (x.free c ob q n hx) hx
    exact ⟨sl', e2⟩
  free := fun c ob q n hx => by
    obtain ⟨o', e1⟩ := x.there c ob q hx
    exact y.free c o' e1 (x.free c ob q n hx) hx
  there := fun c ob q hx => by
    obtain ⟨o', e1⟩ := x.there c ob q hx
    exact y.there c o' e1 hx
  tups := fun c xs q => y.tups c xs (x.tups c xs q)
  frzs := fun c ob xs q => y.frzs c ob xs (x.frzs c ob xs q)
  tbls := fun c ps q => by
    obtain ⟨m1, e1⟩ := x.tbls c ps q
    obtain ⟨m2, e2⟩ := y.tbls c _ e1
    exact ⟨m1 ++ m2, by rw [e2, Array.append_assoc]⟩
theorem aft (ok : HOk P w H h) (ea : H a = some (.ext (XO a C dx t1))) (fr : ∀ b ∈ frs l, H b = none) {vs : Array Value} {sl : Array (Option Value)} {t0 : Addr} (h0 : vs[0]? = some (.ref t0)) (hv1 : vs[1]? = some t1)
    (A : Ex.Aft l a T ⟨.ref C, dx, .fields vs, sl⟩ h h') : H T = none ∧ T ≠ a ∧ Un (frs l) [] H (tr2 H a C dx T) h h' ∧ HOk P w (tr2 H a C dx T) h' := by
  have nT : H T = none := ok.fresh A.n
  have na : T ≠ a := fun z => by subst z; rw [nT] at ea; cases ea
  have mu : Mut (H a) := by rw [ea]; exact True.intro
  have nown : ∀ c y, H c = some (.own y) → c ≠ a := fun c y r z => by subst z; rw [r] at mu; exact mu
  have hx : ∀ b, H b = none → b ≠ a := fun b n z => by subst z; rw [n] at mu; exact mu
  have hm : ∀ b u, H b = some u → ¬ Mut (some u) → b ≠ a := fun b u q nm z => by subst z; rw [q] at mu; exact nm mu
  have nfr : ∀ b u, H b = some u → b ∉ frs l := fun b u q z => by rw [fr b z] at q; cases q
  unfold tr2
  refine ⟨nT, na, ⟨fun b u q n nf _ => A.k b u (hx b n) nf q, fun b u q n _ _ => A.f b u (hx b n) q, fun b u q n _ => ?_, fun b u q _ => ?_, fun b xs q => ?_, fun b u xs q => ?_, fun b ps q => ⟨#[], ?_⟩⟩, fun b u q => ?_⟩
  · rw [upd_ne (hx b n), upd_ne (Nat.ne_of_lt (Nat.lt_of_lt_of_le (Heap.lt_size q) A.n))]; exact n
  · by_cases hb : b = a
    · subst hb; exact ⟨_, A.e⟩
    · obtain ⟨sl, z⟩ := A.f b u hb q
      exact ⟨_, z⟩
  · rw [upd_ne (hm b _ q fun z => z), upd_ne (ne_of_none q nT)]; exact q
  · rw [upd_ne (hm b _ q fun z => z), upd_ne (ne_of_none q nT)]; exact q
  · rw [upd_ne (hm b _ q fun z => z), upd_ne (ne_of_none q nT), q]; simp
  · by_cases hb : b = a
    · subst hb
      rw [upd_same] at q
      cases q
      refine XO.ok ⟨_, _, A.e, ⟨t0, ?_⟩, ?_⟩
      · rw [Array.getElem?_setIfInBounds_ne (by decide)]; exact h0
      · rw [Array.getElem?_setIfInBounds, if_pos rfl, if_pos (Array.getElem?_eq_some_iff.mp hv1).1]
    · rw [upd_ne hb] at q
      by_cases hbT : b = T
      · subst hbT
        rw [upd_same] at q
        cases q
        obtain ⟨oT, ts, e1, e2, e3⟩ := A.t
        exact TrB.ok ⟨oT, ts, e1, e2, e3⟩
      · rw [upd_ne hbT] at q
        refine (ok b u q).stay (fun c v hc r => ?_) (fun c r => by rw [upd_ne (nown c b r), upd_ne (ne_of_none r nT)]; exact r) fun c xs r => by rw [upd_ne (hm c _ r fun z => z), upd_ne (ne_of_none r nT)]; exact r
        rcases hc with rfl | hc
        · exact A.k c v hb (nfr c _ q) r
        · exact A.k c v (nown c b hc) (nfr c _ hc) r
end
section
variable {X : Cx} {pins : List (Addr × Obj)} {σ : St} {H : Hp} {s : Shared} {a C : Addr} {dx : Option Addr} {t1 : Value}
/-- an exception leaves the frame -/
theorem leavesN {M : Model} {Q : Unit → Shared → Prop} {E : Value → Shared → Prop} (I : Inv X pins σ H s) (hst : X.stack = X.env :: X.outer) (hf : X.env.frame = some X.env.locals) (ea : H a = some (.ext (XO a C dx t1)))
    (ht : t1 = .none ∨ ∃ T, t1 = .ref T ∧ T ≠ a ∧ H T = some (.ext (TrB T)))
    (q : ∀ T h', H T = none → T ≠ a → Un (frs X.stack) [] H (tr2 H a C dx T) s.heap h' → HOk X.prog X.w (tr2 H a C dx T) h' → Q () { s with heap := h' }) : wpAny M X.A (noteFrame (.ref a) X.env) (fun _ s' => wpAny M X.A (setFlight (.ref a) none) Q E s') E s := by
  obtain ⟨⟨vs, sl, he, ⟨t0, h0⟩, h1⟩, _⟩ := I.hok a _ ea
  have fr := I.stkFree
  have fun0 := I.stack
  have frm := I.ok.frames
  rw [hst] at fr fun0 frm q
  rcases ht with rfl | ⟨T0, rfl, nT, eT⟩
  · refine Ex.leave1N frm fun0 hf he rfl h1 fun h' T A => ?_
    obtain ⟨z1, z2, z3, z4⟩ := aft I.hok ea fr h0 h1 A
    exact q T h' z1 z2 z3 z4
  · obtain ⟨⟨oT, ts, e1, e2, e3⟩, _⟩ := I.hok T0 _ eT
    refine Ex.leave2N frm fun0 hf he rfl h1 nT e1 e2 e3 fun g h' T g1 g2 g3 A => ?_
    have mu : Mut (H T0) := by rw [eT]; exact True.intro
    have kk : ∀ b u, b ≠ T0 → s.heap.get? b = some u → g.get? b = some u := fun b u nb e => (g1 b nb).trans e
    have tb : TrB T0 g := ⟨_, _, g2, Obj.data_mapFields e2 _, by rw [Array.getElem?_setIfInBounds, if_pos rfl, if_pos (Array.getElem?_eq_some_iff.mp e3).1]⟩
    have hok1 : HOk X.prog X.w H g := by
      have := I.hok.write (x := T0) (e := T0) (o' := .ext (TrB T0)) mu (.inl rfl) kk ⟨_, g2⟩ (TrB.ok tb)
      rw [upd_self eT] at this
      exact this
    have un1 : Un (frs (X.env :: X.outer)) [] H H s.heap g := by
      have := Un.write (fs := frs (X.env :: X.outer)) (ex := []) (o := .ext (TrB T0)) mu (.inl rfl) kk ⟨_, g2⟩
      rw [upd_self eT] at this
      exact this
    obtain ⟨z1, z2, z3, z4⟩ := aft hok1 ea fr h0 h1 A
    exact q T h' z1 z2 (un1.trans z3) z4
theorem leaves {M : Model} {Q : Unit → Shared → Prop} {E : Value → Shared → Prop} (I : Inv X pins σ H s) (hst : X.stack = X.env :: X.outer) (hf : X.env.frame = some X.env.locals) (ea : H a = some (.ext (XO a C dx t1)))
    (ht : t1 = .none ∨ ∃ T, t1 = .ref T ∧ T ≠ a ∧ H T = some (.ext (TrB T)))
    (q : ∀ T h', H T = none → T ≠ a → Un (frs X.stack) [] H (tr2 H a C dx T) s.heap h' → HOk X.prog X.w (tr2 H a C dx T) h' → Q () { s with heap := h' }) : wpAny M X.A (leaving X.env (.ref a)) Q E s := by
  unfold leaving
  exact wpAny_bind (leavesN I hst hf ea ht q)
end
/-- how an exception lies behind a call -/
def CXo (P : Program) (w : World) : CXT := fun outer H s E e s' => ∃ a C dx T H', e = .ref a ∧ s'.os = s.os ∧ AllBare s'.gens ∧ Un (frs outer) [] H H' s.heap s'.heap ∧ HOk P w H' s'.heap ∧
  XAt H' a C dx (.ref T) ∧ T ≠ a ∧ H' T = some (.ext (TrB T)) ∧ E (.ref C) dx H'
/-- raise e -/
inductive sRaiseY (K : PySem.W.Frag) (E : XK) (x : V) (H1 : Hp) : Prop
  | mk : ∀ a C dx, (x = .ref a) → (XAt H1 a C dx .none) → (Ex.XK0 K C) → (∀ T, H1 T = none → T ≠ a → E (.ref C) dx (tr2 H1 a C dx T)) → sRaiseY K E x H1
def sRaise (K : PySem.W.Frag) (te : TE) (E : XK) : TS := fun _ σ H => te σ H fun x H1 => sRaiseY K E x H1
section
variable {X : Cx} {m : Expr} {te : TE} {pos : Pos} {E : XK}
theorem ps_raise (hm : PE X m te) (hc : X.calm = true) (hst : X.stack = X.env :: X.outer) (hf : X.env.frame = some X.env.locals) (hex : X.ex = [])
    (hx : X.xe = fun e s' => wpAny (model X.prog X.w) X.A (leaving X.env e) (fun _ s'' => CXo X.prog X.w X.outer X.H₀ X.s₀ E e s'') (fun e' s'' => CXo X.prog X.w X.outer X.H₀ X.s₀ E e' s'') s') :
    PS X (.Raise (some m) none pos) (sRaise X.K te E) := by
  intro pins s σ H D I h
  rw [arm_exec_Raise]
  refine wpAny_bind (wpAny_standAt (Ex.raise_exc (K := X.K) (I.ok.hd hc) ?_))
  have step : wpAny (model X.prog X.w) X.A (eval m X.env) (fun u s1 => ∃ e C od vs sl, u = .ref e ∧ Ex.XK0 X.K C ∧ X.K.In s1.heap ∧ s1.heap.get? e = some ⟨.ref C, od, .fields vs, sl⟩ ∧ vs[1]? = some .none ∧ X.xe (.ref e) s1) X.xe s := by
    refine thn (hm pins s σ H _ I h) fun u s1 ⟨x, H1, I1, rx, a, C, dx, ex, xa, x0, q⟩ => ?_
    subst ex
    obtain rfl : u = Value.ref a := rx
    obtain ⟨⟨vs, sl, he, t0, h1⟩, _⟩ := I1.hok a _ xa.1
    refine ⟨a, C, dx, vs, sl, rfl, x0, I1.kIn, he, h1, ?_⟩
    rw [hx]
    refine leaves I1 hst hf xa.1 (.inl rfl) fun T h' nT na un hok => ?_
    refine ⟨a, C, dx, T, _, rfl, I1.os, I1.bare, ?_, hok, ⟨upd_same, fun d e => ?_⟩, na, ?_, q T nT na⟩
    · have b0 := I1.base
      rw [hex] at b0
      refine b0.transL un fun b o e hb => ?_
      rcases List.mem_cons.mp (I1.stkSub b hb) with z | z
      · subst z
        exact absurd (Nat.lt_of_lt_of_le (Heap.lt_size e) I1.ok.above) (Nat.lt_irrefl _)
      · exact z
    · obtain ⟨fs, z⟩ := xa.2 d e
      refine ⟨fs, ?_⟩
      have n1 : d ≠ a := fun y => by subst y; rw [xa.1] at z; cases z
      unfold tr2
      rw [upd_ne n1, upd_ne (ne_of_none z nT)]
      exact z
    · unfold tr2
      rw [upd_ne na, upd_same]
  first
    | exact step
    | exact wpAny_bind (wpAny_mono step (fun v s₃ h₃ => wpAny_bind (wpAny_standAt (wpAny_pure h₃))) fun _ _ x => x)
    | (simp only [evalOpt, Option.map]; exact step)
end
end L2
set_option Elab.async false
set_option linter.all false
set_option maxRecDepth 100000
set_option maxHeartbeats 4000000
namespace L2
open PySem PySem.Spec PyProof.Rows
section
variable {X : Cx} {pins : List (Addr × Obj)} {σ : St} {H : Hp} {s : Shared} {a C : Addr} {dx : Option Addr} {t1 : Value}
/-- behind a suite the name goes -/
theorem gone_ok {M : Model} {A : Around} {E : Value → Shared → Prop} {i : Nat} {x : Str} {pos : Pos} {Q : Unit → Shared → Prop} (I : Inv X pins σ H s) (hN : X.N.Nodup) (hi : X.N[i]? = some x) (hk : X.env.scope.names.lookup x = some .local)
    (h : ∀ s', Inv X pins (σ.set i none) H s' → Q () s') : wpAny M A (do bindName X.env x .none; unbindBehindTheSuite X.env x pos) Q E s := by
  obtain ⟨m, hn, hl⟩ := id I.loc
  have hcls : (X.env.scope.kind == .class || (X.env.scope.kind == .module && X.env.locals != X.env.globals)) = false := by rw [I.ok.kind]; rfl
  have hiσ : i < σ.length := by rw [I.len]; exact (List.getElem?_eq_some_iff.mp hi).1
  refine wpAny_nameGoes_keeps hk hn hcls fun h' v hn' hs => ?_
  have neL : ∀ b o, X.s₀.heap.get? b = some o → b ≠ X.env.locals := fun b o e => Nat.ne_of_lt (Nat.lt_of_lt_of_le (Heap.lt_size e) I.ok.above)
  refine h _ ⟨I.ok, I.os, I.bare, ⟨fun b o e n hb hx => (hs.2 b (neL b o e)).trans (I.base.keep b o e n hb hx), fun b o e n hb hx => ?_, I.base.free, fun b o e hx => ?_, I.base.tups, I.base.frzs, I.base.tbls⟩, ⟨_, hn', fun j y v' e1 e2 e3 => ?_⟩, fun y c e => ?_, I.free, I.freeC, fun p hp => ?_, fun b ob e => ?_, by simpa using I.len⟩
  · obtain ⟨sl, e1⟩ := I.base.slot b o e n hb hx
    exact ⟨sl, (hs.2 b (neL b o e)).trans e1⟩
  · obtain ⟨o', e1⟩ := I.base.there b o e hx
    exact ⟨o', (hs.2 b (neL b o e)).trans e1⟩
  · by_cases hj : j = i
    · subst hj
      rw [List.getElem?_set_self hiσ] at e2
      cases e2
    · rw [List.getElem?_set_ne (Ne.symm hj)] at e2
      obtain ⟨u', r', q⟩ := hl j y v' e1 e2 e3
      refine ⟨u', r', ?_⟩
      rcases q with ⟨k, e⟩ | ⟨k, c, e, z⟩
      · refine .inl ⟨k, ?_⟩
        have ny : y ≠ x := fun e => hj (nodup_ix hN e1 (e ▸ hi))
        show (if y = x then v else m y) = _
        rw [if_neg ny]
        exact e
      · exact .inr ⟨k, c, e, z.sameBut hs (I.cne y c e)⟩
  · obtain ⟨w', z⟩ := I.cell y c e
    exact ⟨w', z.sameBut hs (I.cne y c e)⟩
  · obtain ⟨e, n, ne, nf, d⟩ := I.pin p hp
    exact ⟨(hs.2 p.1 ne).trans e, n, ne, nf, d⟩
  · have fr := I.free
    refine (I.hok b ob e).stay (fun c w' hc q => (hs.2 c ?_).trans q) (fun _ q => q) fun _ _ q => q
    rintro rfl
    rcases hc with rfl | hc
    · rw [fr] at e; cases e
    · rw [fr] at hc; cases hc
/-- within an except suite -/
def Cx.hand (X : Cx) (a : Addr) : Cx := { X with A := X.A.mark (some (.ref a)), calm := false, xe := fun _ _ => False }
theorem mark_frames {A : Around} {v : Option Value} : (A.mark v).frames = A.frames := by first | rfl | simp [Around.mark]
theorem Inv.hand (I : Inv X pins σ H s) (a : Addr) : Inv (X.hand a) pins σ H s :=
  ⟨⟨I.ok.mod, I.ok.kind, I.ok.glob, I.ok.blt, I.ok.above, I.ok.inj, I.ok.has, I.ok.cab, (fun z => nomatch z), mark_frames.trans I.ok.frames, I.ok.stk, I.ok.exf, I.ok.bs, I.ok.bsz, I.ok.noex, I.ok.exfs, I.ok.funs, I.ok.frf⟩, I.os, I.bare, I.base, I.loc, I.cell, I.free, I.freeC, I.pin, I.hok, I.len⟩
theorem Inv.unhand (ok : X.Ok) (I : Inv (X.hand a) pins σ H s) : Inv X pins σ H s := ⟨ok, I.os, I.bare, I.base, I.loc, I.cell, I.free, I.freeC, I.pin, I.hok, I.len⟩
/-- within a try's body -/
def Cx.tried (X : Cx) (pins : List (Addr × Obj)) (E : Value → Shared → Prop) : Cx := { X with xe := E, pn := X.pn ++ pins }
theorem Inv.tried (I : Inv X pins σ H s) (E : Value → Shared → Prop) : Inv (X.tried pins E) [] σ H s :=
  ⟨⟨I.ok.mod, I.ok.kind, I.ok.glob, I.ok.blt, I.ok.above, I.ok.inj, I.ok.has, I.ok.cab, I.ok.hd, I.ok.frames, I.ok.stk, I.ok.exf, I.ok.bs, I.ok.bsz, I.ok.noex, I.ok.exfs, I.ok.funs, I.ok.frf⟩, I.os, I.bare, I.base, I.loc, I.cell, I.free, I.freeC, fun p hp => I.pin p (by simpa [Cx.tried] using hp), I.hok, I.len⟩
theorem Inv.untried {E : Value → Shared → Prop} {pins' : List (Addr × Obj)} (ok : X.Ok) (I : Inv (X.tried pins E) pins' σ H s) : Inv X pins σ H s :=
  ⟨ok, I.os, I.bare, I.base, I.loc, I.cell, I.free, I.freeC, fun p hp => I.pin p (List.mem_append_left _ hp), I.hok, I.len⟩
/-- what is known of an exception that reached a try -/
def Caught (X : Cx) (pins : List (Addr × Obj)) (n : Nat) (E : XK) (e : Value) (s' : Shared) : Prop := ∃ a C dx T σ' H', e = .ref a ∧ Inv X pins σ' H' s' ∧ XAt H' a C dx (.ref T) ∧ T ≠ a ∧ H' T = some (.ext (TrB T)) ∧ E (.ref C) dx H'
theorem passes_try (ok : X.Ok) (E : XK) {n : Nat} : Passes (CXo X.prog X.w) (X.tried pins (Caught X pins n E)) E := by
  intro pins' σ H s e s' I h
  obtain ⟨a, C, dx, T, H', rfl, os, bare, un, hok, xa, na, hT, q⟩ := h
  have I0 : Inv X pins σ H s := I.untried ok
  exact ⟨a, C, dx, T, σ, H', rfl, I0.call' os un hok bare (fun b z => absurd z (by simp)), xa, na, hT, q⟩
end
/-- try: .. except D as n: .. -/
inductive sTry (K : PySem.W.Frag) (D : Addr) (i : Nat) (tb th : TS) (E : XK) (Z : Ends) (σ : St) (H : Hp) : Prop
  | mk : (tb Z σ H) → (∀ (σ' : St) (H' : Hp) (a C : Addr) (dx : Option Addr) (T : Addr), σ'.length = σ.length → E (.ref C) dx H' → XAt H' a C dx (.ref T) → H' T = some (.ext (TrB T)) → Ex.XK0 K C ∧ PySem.W.mroIn K C (.ref D) = some true ∧ ∀ T', H' T' = none → T' ≠ a → th { nx := fun σ2 H2 => Z.nx (σ2.set i none) H2, rt := Z.rt, bk := fun σ2 H2 => Z.bk (σ2.set i none) H2, ct := fun σ2 H2 => Z.ct (σ2.set i none) H2 } (σ'.set i (some (.ref a))) (tr2 H' a C dx T')) → sTry K D i tb th E Z σ H
section
variable {X : Cx} {body hs : List Stmt} {b₀ : Stmt} {tb th : TS} {D : Addr} {d n : Str} {np hpos pos : Pos} {i : Nat} {E : XK}
theorem ps_try (hN : X.N.Nodup) (hi : X.N[i]? = some n) (hk : X.env.scope.names.lookup n = some .local) (hg : Gl X d) (hm : X.mg d = some (.ref D)) (G : Ex.XK0 X.K D) (ht : PySem.W.instIn X.K (.ref D) (.type "tuple") = some false)
    (hst : X.stack = X.env :: X.outer) (hf : X.env.frame = some X.env.locals)
    (hbody : ∀ pins E', Passes (CXo X.prog X.w) (X.tried pins E') E → PSs (X.tried pins E') body tb) (hh : ∀ a, PSs (X.hand a) (b₀ :: hs) th) (hdb : (d == ("__debug__" : Str)) = false := by decide) :
    PS X (.Try body [.ExceptHandler (some (.Name d np)) (some n) (b₀ :: hs) hpos] [] [] pos) (sTry X.K D i tb th E) := by
  intro pins s σ H Z I h
  have ok := I.ok
  refine wpAny_Try_except ?_
  refine wpAny_mono (hbody pins _ (passes_try ok E (n := σ.length)) [] s σ H Z (I.tried _) h.1) (fun f s1 h1 => ?_) fun e s1 h1 => ?_
  · cases f with
    | next =>
      obtain ⟨σ', H', I', q⟩ := h1
      exact wpAny_execs_nil ⟨σ', H', I'.untried ok, q⟩
    | brk => obtain ⟨σ', H', I', q⟩ := h1; exact ⟨σ', H', I'.untried ok, q⟩
    | cont => obtain ⟨σ', H', I', q⟩ := h1; exact ⟨σ', H', I'.untried ok, q⟩
    | ret u => obtain ⟨v, σ', H', I', r, q⟩ := h1; exact ⟨v, σ', H', I'.untried ok, r, q⟩
  · obtain ⟨a, C, dx, T, σ', H', rfl, I1, xa, na, hT, q⟩ := h1
    obtain ⟨x0, mr, hq⟩ := h.2 σ' H' a C dx T (by rw [I1.len, I.len]) q xa hT
    refine leavesN I1 hst hf xa.1 (.inr ⟨T, rfl, na, hT⟩) fun T' h' nT' na' un hok => ?_
    have I2 : Inv X pins σ' (tr2 H' a C dx T') { s1 with heap := h' } := I1.call' rfl un hok I1.bare fun b z => absurd z (by simp)
    have xa2 : XAt (tr2 H' a C dx T') a C dx (.ref T') := by
      refine ⟨upd_same, fun d e => ?_⟩
      obtain ⟨fs, z⟩ := xa.2 d e
      refine ⟨fs, ?_⟩
      have n1 : d ≠ a := fun y => by subst y; rw [xa.1] at z; cases z
      unfold tr2
      rw [upd_ne n1, upd_ne (ne_of_none z nT')]
      exact z
    have eT : tr2 H' a C dx T' T' = some (.ext (TrB T')) := by unfold tr2; rw [upd_ne na', upd_same]
    have I3 := I2.hand a
    refine wpAny_handleBy_cons (codeAny_handlers_test (ld_glob (X := X.hand a) I3 hg hm ?_ hdb)) (by intro z; cases z)
    obtain ⟨ox, od, J⟩ := xa2.inst I2
    refine Ex.match_exc (K := X.K) x0 G I2.kIn J mr ht G.bx ?_
    refine codeAny_handlers_suite_as ?_
    obtain ⟨⟨ws, sl, he, _, w1⟩, _⟩ := I2.hok a _ xa2.1
    obtain ⟨⟨oT, ts, g1, g2, g3⟩, _⟩ := I2.hok T' _ eT
    refine wpAny_setFlight_none he rfl w1 g1 g2 (Array.getElem?_eq_some_iff.mp g3).1 ?_
    have I4 : Inv (X.hand a) pins σ' (tr2 H' a C dx T') { s1 with heap := h'.update T' (Obj.mapFields (·.setIfInBounds 3 .none)) } := by
      have gs : (h'.update T' (Obj.mapFields (·.setIfInBounds 3 .none))).get? T' = some (oT.mapFields (·.setIfInBounds 3 .none)) := Heap.get?_update_self _ g1 (Obj.isFreed_of_fields (Obj.data_mapFields g2 _))
      have := I3.write (h' := h'.update T' (Obj.mapFields (·.setIfInBounds 3 .none))) (t' := s1.toks) (x := T') (e := T') (o := .ext (TrB T')) (by rw [eT]; exact True.intro) (.inl rfl) (fun b u nb e => (Heap.get?_update_other _ _ (Ne.symm nb)).trans e) ⟨_, gs⟩
        (TrB.ok ⟨_, _, gs, Obj.data_mapFields g2 _, by rw [Array.getElem?_setIfInBounds, if_pos rfl, if_pos (Array.getElem?_eq_some_iff.mp g3).1]⟩)
      rw [upd_self eT] at this
      exact this
    refine store_ok (X := X.hand a) (v := .ref a) (i := i) I4 hN hi (.inl hk) rfl (fun s5 I5 => ?_) (.inr hk)
    refine wpAny_mono (hh a pins s5 _ _ _ I5 (hq T' nT' na')) (fun f s6 h6 => ?_) fun _ _ z => z.elim
    cases f with
    | next =>
      obtain ⟨σ7, H7, I7, q7⟩ := h6
      exact gone_ok (I7.unhand ok) hN hi hk fun s8 I8 => ⟨_, H7, I8, q7⟩
    | brk =>
      obtain ⟨σ7, H7, I7, q7⟩ := h6
      exact gone_ok (I7.unhand ok) hN hi hk fun s8 I8 => ⟨_, H7, I8, q7⟩
    | cont =>
      obtain ⟨σ7, H7, I7, q7⟩ := h6
      exact gone_ok (I7.unhand ok) hN hi hk fun s8 I8 => ⟨_, H7, I8, q7⟩
    | ret u =>
      obtain ⟨v, σ7, H7, I7, r7, q7⟩ := h6
      exact gone_ok (I7.unhand ok) hN hi hk fun s8 I8 => ⟨v, _, H7, I8, r7, q7⟩
end
end L2
set_option Elab.async false
set_option linter.all false
set_option maxRecDepth 100000
set_option maxHeartbeats 4000000
namespace L2
open PySem PySem.Spec PyProof.Rows
structure RoomN (k : Nat) (A : Around) : Prop where
  dp : A.depth + 3 * k + 5 < recursionLimit
  un : A.units + 16 * k + 200 < cLine
  gd : A.guards = some []
theorem Room.n {k : Nat} {A : Around} (r : Room k A) : RoomN k A := ⟨r.dp, r.un, r.gd⟩
theorem RoomN.mono {j k : Nat} {A : Around} (r : RoomN k A) (h : j ≤ k) : RoomN j A := ⟨by have := r.dp; omega, by have := r.un; omega, r.gd⟩
theorem RoomN.deeper {k : Nat} {A : Around} (r : RoomN (k + 1) A) (env : Env) : RoomN k (A.deeper env) :=
  ⟨by have := r.dp; show A.depth + 1 + 3 * k + 5 < _; omega, by have := r.un; show A.units + 3 + 16 * k + 200 < _; omega, r.gd⟩
theorem RoomN.mark {k : Nat} {A : Around} (r : RoomN k A) (v : Option Value) : RoomN k (A.mark v) := ⟨r.dp, r.un, r.gd⟩
theorem RoomN.depth {k : Nat} {A : Around} (r : RoomN k A) : A.depth < recursionLimit := by have := r.dp; omega
theorem RoomN.units {k : Nat} {A : Around} (r : RoomN k A) : A.units + 64 < cLine := by have := r.un; omega
structure FnN (P : Program) (w : World) (K : PySem.W.Frag) (mg : Str → Option Value) (base : Heap) (k : Nat) (f : Addr) (fd : FuncData) (ps : List Str) (sp : Sp) : Prop where
  len : ∀ vs H Q E, sp vs H Q E → vs.length = ps.length
  run : ∀ (A : Around) (outer : List Env) (s : Shared) (H : Hp) (args : Args) (us : List Value) (vs : List V) (Q : VK) (E : XK), RoomN k A → Env0 P w K mg base A outer s H → BindsTo s fd args (ps.zip us) → Vals vs us → sp vs H Q E →
    codeAny (model P w) A (.call (.ref f) args) (CR CX0 outer P w H s Q E) s
theorem FnN.mono {P : Program} {w : World} {K : PySem.W.Frag} {mg : Str → Option Value} {base : Heap} {j k : Nat} {f : Addr} {fd : FuncData} {ps : List Str} {sp : Sp} (F : FnN P w K mg base j f fd ps sp) (h : j ≤ k) :
    FnN P w K mg base k f fd ps sp := ⟨F.len, fun A outer s H args us vs Q E hr => F.run A outer s H args us vs Q E (hr.mono h)⟩
section
variable {X : Cx} {k : Nat} {f : Addr} {fd : FuncData} {ps : List Str} {sp : Sp} {x : Str} {p pos : Pos} {e : Expr} {es : List Expr} {t : TA}
/-- a def by its promise, its name, its arguments -/
def HasN (P : Program) (w : World) (K : PySem.W.Frag) (mg : Str → Option Value) (base : Heap) (x : Str) (ps : List Str) (k : Nat) (sp : Sp) : Prop :=
  ∃ (f : Addr) (fd : FuncData), FnN P w K mg base k f fd ps sp ∧ Binds K fd ps [] ∧ PySem.W.keepIn K (.ref f) = true ∧ mg x = some (.ref f)
theorem HasN.mono {P : Program} {w : World} {K : PySem.W.Frag} {mg : Str → Option Value} {base : Heap} {x : Str} {ps : List Str} {j k : Nat} {sp : Sp} (h : HasN P w K mg base x ps j sp) (hk : j ≤ k) : HasN P w K mg base x ps k sp := by
  obtain ⟨f, fd, F, r⟩ := h
  exact ⟨f, fd, F.mono hk, r⟩
end
section
variable {P : Program} {w : World} {K : PySem.W.Frag} {mg : Str → Option Value} {base : Heap}
/-- a def that may raise -/
theorem Fun.okX {x qual : Str} {st : Stmt} {f : Addr} {fd : FuncData} {N ps : List Str} {k : Nat} {sp : Sp} (F : Fun K x qual st f fd) (S : FnScope N ps (defScope st)) (len : ∀ vs H Q E, sp vs H Q E → vs.length = ps.length)
    (hbody : ∀ (cdv : Value) (A : Around) (outer : List Env) (s : Shared) (H : Hp) (vs : List V) (Q : VK) (E : XK), Room k (A.deeper (envOfC qual (defScope st) s.heap.objs.size f cdv)) → sp vs H Q E →
      ∃ t, PSs (cxOf (CXo P w) P w K mg base N qual (defScope st) f cdv A outer s H E) (defBody st) t ∧ t { nx := fun _ H' => Q .non H', rt := Q } (start N vs) H) : FnOk P w K mg base (CXo P w) (k + 1) f fd ps sp := by
  obtain ⟨oc, od, kV, doc, pm, an, cdv, ct, osl, rfl, lk, hcd⟩ := F.ex
  exact fn_of lk hcd S len fun A outer s H vs Q E hr hsp => hbody cdv A outer s H vs Q E hr hsp
end
end L2
set_option Elab.async false
set_option linter.all false
set_option maxRecDepth 100000
set_option maxHeartbeats 4000000
namespace L2
open PySem PySem.Spec PyProof.Rows
section
variable {X : Cx}
end
end L2
set_option Elab.async false
set_option linter.all false
set_option maxRecDepth 100000
set_option maxHeartbeats 4000000
namespace L2
open PySem PySem.W PyProof.Rows
section
variable {K : Frag} {nm q : Str} {C N : Addr} {bs bm : List Value} {hdct : Bool} {sn : List Str} {sub : List Value} {ab : Bool} {col : Option Bool} {dd : Option Addr} {k0 k1 k2 k3 k5 : Option Value} {i : String}
theorem mro_of (l : K.lookup C = some (excClassObj nm q C N bs bm hdct sn sub ab col dd k0 k1 k2 k3 k5 i)) (b : Value) : mroIn K C b = some ((Value.ref C :: bm).contains b) := by
  unfold mroIn clsIn
  rw [l]
  rfl
theorem xk_of (l : K.lookup C = some (excClassObj nm q C N bs bm true sn sub ab col dd k0 k1 k2 k3 k5 i)) (hp : ∀ self, refuseLoop self "__setattr__" (.ref C :: bm) = pure ()) (hb : bm.contains (.type "BaseException") = true) (ho : bm.contains (.type "object") = true)
    (ty : typeIn K (.ref C) = some (.type "type")) (sa : findIn K (.ref C) "__setattr__" = some (some (.builtin "object.__setattr__"))) (ga : findIn K (.ref C) "__getattribute__" = some (some (.builtin "BaseException.__getattribute__"))) (gh : findIn K (.ref C) "__getattr__" = some none)
    (cl : findIn K (.ref C) "__class__" = some (some (.builtin "object.__class__"))) (cg : specialIn K (.builtin "object.__class__") "__get__" = some (some (.builtin "getset_descriptor.__get__"))) (ct : takesIn K (.builtin "object.__class__") = some true) : Ex.XK0 K C := by
  refine ⟨?_, by rw [mro_of l, List.contains_cons, hb, Bool.or_true], by rw [mro_of l, List.contains_cons, ho, Bool.or_true], ty, sa, ga, gh, cl, cg, ct⟩
  refine ⟨_, by unfold clsIn; rw [l], rfl, rfl, hp⟩
theorem pass1 (C : Addr) (self : Value) : refuseLoop self "__setattr__" [.ref C, .type "ValueError", .type "Exception", .type "BaseException", .type "object"] = pure () := by
  rw [refuseLoop_ref]
  exact PySem.F.store_ValueError.passes self
theorem pass2 (C D : Addr) (self : Value) : refuseLoop self "__setattr__" [.ref C, .ref D, .type "ValueError", .type "Exception", .type "BaseException", .type "object"] = pure () := by
  rw [refuseLoop_ref]
  exact pass1 D self
theorem up2 (D : Addr) : Ex.Up "ValueError" [.ref D, .type "ValueError", .type "Exception", .type "BaseException", .type "object"] := by
  refine ⟨?_, ?_, ?_⟩ <;> (rw [List.contains_cons]; first | rfl | decide | simp)
/-- isinstance against an own class, a built-in one -/
theorem kit_of {D : Addr} {b : Bool} (c : isClsIn K D = true) (t : typeIn K (.ref D) = some (.type "type")) (s : subIn K (.ref C) (.ref D) = some b) (h : C = D → b = true) : kitOne K (.ref C) (.ref D) = some b := by
  unfold kitOne
  by_cases e : C = D
  · rw [if_pos (by rw [e]; exact beq_self_eq_true _), h e]
  · rw [if_neg (fun z => e (Value.ref.inj (beq_iff_eq.mp z)))]
    unfold kitCls
    have c' : (clsIn K D).isSome = true := c
    simp only [c', t, Bool.true_and, beq_self_eq_true, if_true]
    exact s
theorem kit_ve {b : Bool} (s : subIn K (.ref C) (.type "ValueError") = some b) : kitOne K (.ref C) (.type "ValueError") = some b := by
  unfold kitOne
  rw [if_neg (fun z => by cases beq_iff_eq.mp z)]
  unfold kitCls
  have k : kitMeta "ValueError" = true := by decide +kernel
  simp only [k, if_true]
  exact s
end
end L2
set_option linter.all false
set_option maxHeartbeats 4000000
namespace L2
open PySem PySem.Spec PyProof.Rows
section
variable {X : Cx} {E : XK}
end
end L2
set_option Elab.async false
set_option linter.all false
set_option maxRecDepth 100000
set_option maxHeartbeats 4000000
namespace L2
open PySem PyProof.Rows
/-- DrawError.__init__ -/
inductive spInitD (K : PySem.W.Frag) (vs : List V) (H : Hp) (Q : VK) (Y : XK) : Prop
  | mk : ∀ (a C : Addr) (x : Str), (vs = [.ref a, .str x]) → (H a = some (.ext (XO a C none .none))) → (Ex.XK0 K C) → (PySem.W.mroIn K C (.type "ValueError") = some true) → Q .non H → spInitD K vs H Q Y
theorem contB (D : Addr) : ([.ref D, .type "ValueError", .type "Exception", .type "BaseException", .type "object"] : List Value).contains (.type "BaseException") = true ∧ ([.ref D, .type "ValueError", .type "Exception", .type "BaseException", .type "object"] : List Value).contains (.type "object") = true := by
  constructor <;> (rw [List.contains_cons]; first | rfl | simp)
/-- what all of them want -/
structure XgAt (K : PySem.W.Frag) : Prop where
  vf : PySem.W.findCls K (.type "ValueError") (.type "type") "__init__" = some (.val (.builtin "ValueError.__init__"))
  zv : PySem.W.nsIn K mainGlobals "ValueError" = some none
/-- DrawError, for an except -/
def DxAt (K : PySem.W.Frag) : Prop := ∃ D : Addr, PySem.W.nsIn K mainGlobals "DrawError" = some (some (.ref D)) ∧ Ex.XK0 K D ∧ PySem.W.instIn K (.ref D) (.type "tuple") = some false
section
variable {K : PySem.W.Frag} {C N D F : Addr} {nm qn n : Str} {bs sub : List Value} {sn : List Str} {ab : Bool} {col : Option Bool} {dd : Option Addr} {x0 x1 x2 x3 x5 : Option Value}
theorem dx_mk (a : PySem.W.nsIn K mainGlobals "DrawError" = some (some (.ref C))) (l : K.lookup C = some (excClassObj nm qn C N bs [.type "ValueError", .type "Exception", .type "BaseException", .type "object"] true sn sub ab col dd x0 x1 x2 x3 x5 "ValueError.__new__"))
    (t : PySem.W.typeIn K (.ref C) = some (.type "type")) (sa : PySem.W.findIn K (.ref C) "__setattr__" = some (some (.builtin "object.__setattr__"))) (ga : PySem.W.findIn K (.ref C) "__getattribute__" = some (some (.builtin "BaseException.__getattribute__")))
    (gh : PySem.W.findIn K (.ref C) "__getattr__" = some none) (cl : PySem.W.findIn K (.ref C) "__class__" = some (some (.builtin "object.__class__"))) (cg : PySem.W.specialIn K (.builtin "object.__class__") "__get__" = some (some (.builtin "getset_descriptor.__get__")))
    (ct : PySem.W.takesIn K (.builtin "object.__class__") = some true) (it : PySem.W.instIn K (.ref C) (.type "tuple") = some false) : DxAt K :=
  ⟨C, a, xk_of l (pass1 _) rfl rfl t sa ga gh cl cg ct, it⟩
/-- a class without an own __init__ under DrawError, to be raised -/
def WxAt (K : PySem.W.Frag) (n : Str) (st : Stmt) : Prop := ∃ (C D F : Addr) (fd : FuncData), PySem.W.nsIn K mainGlobals n = some (some (.ref C)) ∧ PySem.W.nsIn K mainGlobals "DrawError" = some (some (.ref D)) ∧ XM K C F ∧ Fun K "__init__" "DrawError.__init__" st F fd ∧
  PySem.W.mroIn K C (.type "ValueError") = some true ∧ PySem.W.mroIn K C (.ref D) = some true
theorem wx_mk {st : Stmt} {oc : Value} {od an : Option Addr} {osl : Array (Option Value)} {kV doc pm cdv ctv : Value} (a : PySem.W.nsIn K mainGlobals n = some (some (.ref C))) (d : PySem.W.nsIn K mainGlobals "DrawError" = some (some (.ref D))) (l : K.lookup C = some (excClassObj nm qn C N bs [.ref D, .type "ValueError", .type "Exception", .type "BaseException", .type "object"] true sn sub ab col dd x0 x1 x2 x3 x5 "ValueError.__new__"))
    (t : PySem.W.typeIn K (.ref C) = some (.type "type")) (sa : PySem.W.findIn K (.ref C) "__setattr__" = some (some (.builtin "object.__setattr__"))) (ga : PySem.W.findIn K (.ref C) "__getattribute__" = some (some (.builtin "BaseException.__getattribute__")))
    (gh : PySem.W.findIn K (.ref C) "__getattr__" = some none) (cl : PySem.W.findIn K (.ref C) "__class__" = some (some (.builtin "object.__class__"))) (cg : PySem.W.specialIn K (.builtin "object.__class__") "__get__" = some (some (.builtin "getset_descriptor.__get__")))
    (ct : PySem.W.takesIn K (.builtin "object.__class__") = some true) (i : PySem.W.findIn K (.ref C) "__init__" = some (some (.ref F))) (f : PySem.W.typeIn K (.ref F) = some (.type "function")) (k : PySem.W.keepIn K (.ref C) = true)
    (fl : K.lookup F = some ⟨oc, od, .func (PySem.W.fnOf "__init__" "DrawError.__init__" (defArgs st) (defBody st) (defScope st) .none kV doc pm an cdv ctv), osl⟩) (fc : PySem.W.codeIn K cdv "DrawError.__init__" = true) (fk : PySem.W.keepIn K (.ref F) = true) : WxAt K n st := by
  refine ⟨C, D, F, _, a, d, ⟨xk_of l (pass2 _ _) (contB _).1 (contB _).2 t sa ga gh cl cg ct, ⟨_, _, _, _, _, _, _, _, _, _, _, _, _, _, _, _, l, up2 _⟩, i, f, k⟩, fun_mk fl fc fk, ?_, ?_⟩
  · rw [mro_of l, List.contains_cons, (up2 _).b, Bool.or_true]
  · rw [mro_of l]; simp
/-- isinstance of one of class n against the class c -/
def KdAt (K : PySem.W.Frag) (n c : Str) (b : Bool) : Prop := ∃ C G : Addr, PySem.W.nsIn K mainGlobals n = some (some (.ref C)) ∧ PySem.W.nsIn K mainGlobals c = some (some (.ref G)) ∧ PySem.W.kitOne K (.ref C) (.ref G) = some b
theorem kd_mk {c : Str} {G : Addr} {b : Bool} (a : PySem.W.nsIn K mainGlobals n = some (some (.ref C))) (d : PySem.W.nsIn K mainGlobals c = some (some (.ref G))) (i : PySem.W.isClsIn K G = true) (t : PySem.W.typeIn K (.ref G) = some (.type "type")) (s : PySem.W.subIn K (.ref C) (.ref G) = some b) (ss : PySem.W.subIn K (.ref C) (.ref C) = some true) : KdAt K n c b :=
  ⟨C, G, a, d, kit_of i t s fun e => by subst e; rw [ss] at s; exact (Option.some.inj s).symm⟩
def KvAt (K : PySem.W.Frag) (n : Str) : Prop := ∃ C : Addr, PySem.W.nsIn K mainGlobals n = some (some (.ref C)) ∧ PySem.W.kitOne K (.ref C) (.type "ValueError") = some true
theorem kv_mk' (a : PySem.W.nsIn K mainGlobals n = some (some (.ref C))) (s : PySem.W.subIn K (.ref C) (.type "ValueError") = some true) : KvAt K n := ⟨C, a, kit_ve s⟩
end
section
variable {P : Program} {w : World} {K : PySem.W.Frag} {mg : Str → Option Value} {base : Heap}
/-- a def that may raise, by its promise, its name, its arguments -/
def HasX (P : Program) (w : World) (K : PySem.W.Frag) (mg : Str → Option Value) (base : Heap) (x : Str) (ps : List Str) (k : Nat) (sp : Sp) : Prop :=
  ∃ (f : Addr) (fd : FuncData), FnOk P w K mg base (CXo P w) k f fd ps sp ∧ Binds K fd ps [] ∧ PySem.W.keepIn K (.ref f) = true ∧ mg x = some (.ref f)
theorem hsX_of {n : Str} {st : Stmt} {N ps : List Str} {k : Nat} {sp : Sp} (X : ∃ h : Heap, K.In h ∧ h.Ns mainGlobals mg) (d : DfAt K n st) (S : FnScope N ps (defScope st))
    (hbody : ∀ (f : Addr) (cdv : Value) (A : Around) (outer : List Env) (s : Shared) (H : Hp) (vs : List V) (Q : VK) (E : XK), N.Nodup → Room k (A.deeper (envOfC n (defScope st) s.heap.objs.size f cdv)) → sp vs H Q E →
      ∃ t, PSs (cxOf (CXo P w) P w K mg base N n (defScope st) f cdv A outer s H E) (defBody st) t ∧ t { nx := fun _ H' => Q .non H', rt := Q } (start N vs) H)
    (len : ∀ vs H Q E, sp vs H Q E → vs.length = ps.length)
    (b : ∀ (kV doc pm : Value) (an : Option Addr) (cdv ct : Value) (us : List Value), us.length = ps.length → bindArgs (PySem.W.fnOf n n (defArgs st) (defBody st) (defScope st) .none kV doc pm an cdv ct) ⟨us, []⟩ = pure (ps.zip us)) : HasX P w K mg base n ps (k + 1) sp := by
  obtain ⟨h, x, g⟩ := X
  obtain ⟨f, fd, a, F⟩ := d
  exact ⟨f, fd, F.okX S len fun cdv A outer s H vs Q E hr hs => hbody f cdv A outer s H vs Q E S.nd hr hs, F.binds b, F.kp, PySem.W.mg_of x g a⟩
theorem kd_of {n c : Str} {b : Bool} (X : ∃ h : Heap, K.In h ∧ h.Ns mainGlobals mg) (d : KdAt K n c b) : ∃ C G : Addr, mg n = some (.ref C) ∧ mg c = some (.ref G) ∧ PySem.W.kitOne K (.ref C) (.ref G) = some b := by
  obtain ⟨h, x, g⟩ := X
  obtain ⟨C, G, a1, a2, k⟩ := d
  exact ⟨C, G, PySem.W.mg_of x g a1, PySem.W.mg_of x g a2, k⟩
theorem kv_of {n : Str} (X : ∃ h : Heap, K.In h ∧ h.Ns mainGlobals mg) (d : KvAt K n) : ∃ C : Addr, mg n = some (.ref C) ∧ PySem.W.kitOne K (.ref C) (.type "ValueError") = some true := by
  obtain ⟨h, x, g⟩ := X
  obtain ⟨C, a1, k⟩ := d
  exact ⟨C, PySem.W.mg_of x g a1, k⟩
theorem dx_of (X : ∃ h : Heap, K.In h ∧ h.Ns mainGlobals mg) (d : DxAt K) : ∃ D : Addr, mg "DrawError" = some (.ref D) ∧ Ex.XK0 K D ∧ PySem.W.instIn K (.ref D) (.type "tuple") = some false := by
  obtain ⟨h, x, g⟩ := X
  obtain ⟨D, a, b⟩ := d
  exact ⟨D, PySem.W.mg_of x g a, b⟩
/-- a class that is raised with words: made by DrawError's __init__ -/
theorem wx_of {n : Str} {st : Stmt} (X : ∃ h : Heap, K.In h ∧ h.Ns mainGlobals mg) (d : WxAt K n st) (xg : XgAt K) (S : FnScope ["self", "words"] ["self", "words"] (defScope st))
    (ok : ∀ (f : Addr) (fd : FuncData), Fun K "__init__" "DrawError.__init__" st f fd → mg "ValueError" = none → FnOk P w K mg base CX0 1 f fd ["self", "words"] (spInitD K))
    (b : ∀ (f : Addr) (fd : FuncData), Fun K "__init__" "DrawError.__init__" st f fd → Binds K fd ["self", "words"] []) :
    ∃ (C D F : Addr) (fd : FuncData), mg n = some (.ref C) ∧ mg "DrawError" = some (.ref D) ∧ XM K C F ∧ FnOk P w K mg base CX0 1 F fd ["self", "words"] (spInitD K) ∧ Binds K fd ["self", "words"] [] ∧ PySem.W.mroIn K C (.type "ValueError") = some true ∧ PySem.W.mroIn K C (.ref D) = some true := by
  obtain ⟨h, x, g⟩ := X
  obtain ⟨C, D, F, fd, a1, a2, m, fn, v1, v2⟩ := d
  exact ⟨C, D, F, fd, PySem.W.mg_of x g a1, PySem.W.mg_of x g a2, m, ok F fd fn (PySem.W.mg_none_of x g xg.zv), b F fd fn, v1, v2⟩
end
end L2
set_option linter.all false
set_option Elab.async false
namespace Pic
open PySem Txs
/-- the lines, from the last one up, without what stands behind the last line feed -/
def rows (l : List Nat) : List (List Nat) := (spl 10 l).dropLast.reverse
def chr (l : List Nat) (x y : Nat) : Option Nat := (rows l)[y]?.bind (·[x]?)
theorem rows_pic {ps : Pl} (o : Ok ps) (W h : Nat) : rows (pic ps W h) = (lines ps W h).reverse := by
  unfold rows
  rw [pic_spl o, List.dropLast_concat]
theorem chr_pic {ps : Pl} (o : Ok ps) {W h x y : Nat} (hx : x < W + 1) (hy : y < h + 1) : chr (pic ps W h) x y = some (cell ps x y) := by
  unfold chr
  rw [rows_pic o, lines_rev hy]
  exact line_at hx
theorem chr_some {ps : Pl} (o : Ok ps) {W h x y c : Nat} (e : chr (pic ps W h) x y = some c) : x < W + 1 ∧ y < h + 1 ∧ c = cell ps x y := by
  unfold chr at e
  rw [rows_pic o] at e
  by_cases hy : y < h + 1
  · rw [lines_rev hy] at e
    have e : (line ps W y)[x]? = some c := e
    by_cases hx : x < W + 1
    · rw [line_at hx] at e
      exact ⟨hx, hy, (Option.some.inj e).symm⟩
    · rw [List.getElem?_eq_none (by rw [line_len]; omega)] at e
      cases e
  · rw [List.getElem?_eq_none (by rw [List.length_reverse, lines_len]; omega)] at e
    cases e
/-- signs and a place of each -/
structure Rd3 (l : List Nat) (es : List (Nat × Nat × Nat)) : Prop where
  nd : (es.map (·.1)).Nodup
  ok : ∀ e ∈ es, e.1 ∈ SG ∧ chr l e.2.1 e.2.2 = some e.1
  all : ∀ x y c, chr l x y = some c → c ∈ SG → c ∈ es.map (·.1)
theorem Rd3.few {l : List Nat} {es : List (Nat × Nat × Nat)} (r : Rd3 l es) : es.length ≤ 40 := by
  have := List.Nodup.length_le_of_subset r.nd (l₂ := SG) fun c hc => by
    obtain ⟨e, he, rfl⟩ := List.mem_map.mp hc
    exact (r.ok e he).1
  rw [List.length_map] at this
  exact this
/-- of a picture: each sign at its place -/
theorem Rd3.pic {ps : Pl} (o : Ok ps) {W h : Nat} (b : Bx ps W h) {es : List (Nat × Nat × Nat)} (r : Rd3 (pic ps W h) es) : es.length = ps.length ∧ (∀ e ∈ es, ∃ i, e.1 = SG.getD i 0 ∧ ps[i]? = some (e.2.1, e.2.2)) ∧ ∀ i, i < ps.length → SG.getD i 0 ∈ es.map (·.1) := by
  have few := o.few
  have h1 : ∀ e ∈ es, ∃ i, e.1 = SG.getD i 0 ∧ ps[i]? = some (e.2.1, e.2.2) := fun e he => by
    obtain ⟨s, q⟩ := r.ok e he
    obtain ⟨hx, hy, q⟩ := chr_some o q
    rcases cell_cases ps o.nd e.2.1 e.2.2 with ⟨n, z⟩ | ⟨i, hi, z⟩
    · rw [q, z] at s
      exact absurd s (by decide)
    · exact ⟨i, q.trans z, hi⟩
  have h2 : ∀ i, i < ps.length → SG.getD i 0 ∈ es.map (·.1) := fun i hi => by
    have e : ps[i]? = some (ps[i].1, ps[i].2) := List.getElem?_eq_getElem hi
    have m := List.getElem_mem hi
    have := chr_pic o (W := W) (h := h) (x := ps[i].1) (y := ps[i].2) (by have := b.xl _ m; omega) (by have := b.yl _ m; omega)
    rw [cell_at o.nd e] at this
    exact r.all _ _ _ this (sg_mem (by omega))
  refine ⟨?_, h1, h2⟩
  have p : (es.map (·.1)).Perm ((List.range ps.length).map fun i => SG.getD i 0) := by
    refine (List.perm_ext_iff_of_nodup r.nd ?_).mpr fun c => ⟨fun hc => ?_, fun hc => ?_⟩
    · refine List.pairwise_map.mpr (List.nodup_range.imp_of_mem fun {i j} hi hj ne e => ne (sg_inj ?_ ?_ e))
      · have := List.mem_range.mp hi; omega
      · have := List.mem_range.mp hj; omega
    · obtain ⟨e, he, rfl⟩ := List.mem_map.mp hc
      obtain ⟨i, e1, e2⟩ := h1 e he
      exact List.mem_map.mpr ⟨i, List.mem_range.mpr (List.getElem?_eq_some_iff.mp e2).1, e1.symm⟩
    · obtain ⟨i, hi, rfl⟩ := List.mem_map.mp hc
      exact h2 i (List.mem_range.mp hi)
  have := p.length_eq
  rw [List.length_map, List.length_map, List.length_range] at this
  exact this
/-- the places told: ps[i] is where the i-th sign stands -/
structure Pk (es : List (Nat × Nat × Nat)) (ps : Pl) : Prop where
  len : ps.length = es.length
  at' : ∀ i x y, ps[i]? = some (x, y) → (SG.getD i 0, x, y) ∈ es
/-- where what is read is a picture of these, it was of these -/
theorem Pk.same {ps ps' : Pl} {W' h' : Nat} (o' : Ok ps') (b' : Bx ps' W' h') {es : List (Nat × Nat × Nat)} (r : Rd3 (pic ps' W' h') es) (k : Pk es ps) : ps = ps' := by
  obtain ⟨l, h1, _⟩ := r.pic o' b'
  have few := o'.few
  refine List.ext_getElem? fun i => ?_
  by_cases hi : i < ps.length
  · have e : ps[i]? = some (ps[i].1, ps[i].2) := List.getElem?_eq_getElem hi
    obtain ⟨j, e1, e2⟩ := h1 _ (k.at' i _ _ e)
    have hj := (List.getElem?_eq_some_iff.mp e2).1
    have hk := k.len
    have ij : i = j := sg_inj (by omega) (by omega) e1
    subst ij
    rw [e, e2]
  · have := k.len
    rw [List.getElem?_eq_none (by omega), List.getElem?_eq_none (by omega)]
/-- places so told are places of a picture, where they lie within the bounds -/
theorem Pk.ok {l : List Nat} {es : List (Nat × Nat × Nat)} (r : Rd3 l es) {ps : Pl} (k : Pk es ps) (lo : 3 ≤ es.length) (hx : ∀ e ∈ es, e.2.1 ≤ 76 ∧ e.2.2 ≤ 40) : Ok ps := by
  have few := r.few
  have len := k.len
  have inb : ∀ p ∈ ps, p.1 ≤ 76 ∧ p.2 ≤ 40 := fun p hp => by
    obtain ⟨i, hi, e⟩ := List.getElem_of_mem hp
    exact hx _ (k.at' i p.1 p.2 (by rw [List.getElem?_eq_getElem hi, e]))
  refine ⟨?_, by omega, by omega, fun p hp => (inb p hp).1, fun p hp => (inb p hp).2⟩
  refine List.pairwise_iff_getElem.mpr fun i j hi hj ij e => ?_
  have e0 : ps[i]? = some (ps[i].1, ps[i].2) := List.getElem?_eq_getElem hi
  have e1 : ps[j]? = some (ps[j].1, ps[j].2) := List.getElem?_eq_getElem hj
  have a := (r.ok _ (k.at' i _ _ e0)).2
  have b := (r.ok _ (k.at' j _ _ e1)).2
  rw [e] at a
  have c := a.symm.trans b
  have := sg_inj (i := i) (j := j) (by omega) (by omega) (Option.some.inj c)
  omega
end Pic
set_option linter.all false
set_option Elab.async false
namespace Txs
open PySem PySem.Builtin PySem.Builtin.Str PySem.StrLaws
end Txs
set_option linter.all false
set_option Elab.async false
namespace Txs
open PySem L2 PyProof.Rows
end Txs
set_option linter.all false
set_option Elab.async false
set_option maxRecDepth 100000
namespace L2
open PySem PySem.Spec PyProof.Rows Txs
section
variable {X : Cx}
inductive rStarts (x : V) (vs : List V) (H : Hp) (Q : VK) : Prop
  | mk : ∀ z y, (x = .str z) → (vs = [.str y]) → (Q (.bl (Txt.startswith z y)) H) → rStarts x vs H Q
theorem mt_startswith : MtM X "str.startswith" rStarts := by
  intro pins s σ H x vs v us Q I rx rv h
  obtain ⟨z, y, rfl, rfl, q⟩ := h
  obtain ⟨t, rfl⟩ := rx
  obtain ⟨u, rfl, t', rfl⟩ := rv.one
  exact SC.startswith ⟨.bl _, H, I, rfl, q⟩
inductive rPart (x : V) (vs : List V) (H : Hp) (Q : VK) : Prop
  | mk : ∀ z y, (x = .str z) → (vs = [.str y]) → (0 < y.length) → (z.length ≤ sizeLine) → (∀ p, H p = none → Q (.ref p) (upd H p (.tup [.str (Txt.partition z y).1, .str (Txt.partition z y).2.1, .str (Txt.partition z y).2.2]))) → rPart x vs H Q
theorem Inv.tnew {pins : List (Addr × Obj)} {σ : St} {H : Hp} {s : Shared} {ys : List V} {its : List Value} {t' : Nat} (I : Inv X pins σ H s) (hv : Vals ys its) (hz : ys.length ≤ sizeLine) :
    Inv X pins σ (upd H s.heap.objs.size (.tup ys)) { s with heap := s.heap.push { cls := .type "tuple", data := .seq its.toArray }, toks := t' } :=
  I.laid (fun _ _ q => Heap.get?_push_of_some _ q) (Nat.le_refl _) ⟨hz, its, hv, ⟨_, Heap.get?_push_size _ rfl, rfl, _, rfl, rfl⟩⟩
theorem mt_partition : MtM X "str.partition" rPart := by
  intro pins s σ H x vs v us Q I rx rv h
  obtain ⟨z, y, rfl, rfl, hy, hz, q⟩ := h
  obtain ⟨t, rfl⟩ := rx
  obtain ⟨u, rfl, t', rfl⟩ := rv.one
  have hy0 : (y.length == 0) = false := by
    cases e : y.length with
    | zero => omega
    | succ n => rfl
  refine call_meets F.slot_str_partition (typeIs_str _ _ _) F.entry_str_partition (F.args_str_partition_2 _ _) (meets_str_partition z y t t' hy0 hz) ?_
  have e : Txt.partition z y = match Builtin.Str.occurrences z y 0 z.length 1 with
    | i :: _ => (Builtin.Str.strSub z 0 i, y, Builtin.Str.strSub z (i + y.length) z.length)
    | [] => (z, Str.empty, Str.empty) := rfl
  rw [e] at q
  show wants _ _ _ (match Builtin.Str.occurrences z y 0 z.length 1 with
    | i :: _ => _
    | [] => _)
  cases ho : Builtin.Str.occurrences z y 0 z.length 1 with
  | nil =>
    rw [ho] at q
    exact ⟨.ref s.heap.objs.size, _, I.tnew (ys := [.str z, .str Str.empty, .str Str.empty]) (.cons ⟨_, rfl⟩ (.cons ⟨_, rfl⟩ (.cons ⟨_, rfl⟩ .nil))) (by show 3 ≤ sizeLine; decide), rfl, q _ I.fresh⟩
  | cons i r =>
    rw [ho] at q
    exact ⟨.ref s.heap.objs.size, _, I.tnew (ys := [.str (Builtin.Str.strSub z 0 i), .str y, .str (Builtin.Str.strSub z (i + y.length) z.length)]) (.cons ⟨_, rfl⟩ (.cons ⟨_, rfl⟩ (.cons ⟨_, rfl⟩ .nil))) (by show 3 ≤ sizeLine; decide), rfl, q _ I.fresh⟩
inductive call_intSY (xs : List V) (H : Hp) (Q : VK) : Prop
  | mk : ∀ z n, (xs = [.str z]) → (PySem.intText? z = some n) → (z.length ≤ 640) → (Q (.int n) H) → call_intSY xs H Q
theorem call_intS : CallR X (.type "int") call_intSY := by
  intro pins s σ H xs us Q I r h
  obtain ⟨z, n, rfl, hn, hz, q⟩ := h
  obtain ⟨u, rfl, t, rfl⟩ := vals1 r
  exact PySem.W.KIN.call_text hn hz ⟨.int n, H, I.tok _, ⟨_, rfl⟩, q⟩
end
def Its60 (lo : Int) (n : Nat) : It := ⟨fun i _ => i < n, fun i H x H' => H' = H ∧ x = .int (lo + i * 60), fun i _ => n ≤ i⟩
theorem turn_60 {P : Program} {w : World} {K : PySem.W.Frag} {tg : Expr} (it : Addr) (lo : Int) (n : Nat) : Turn P w K tg (Its60 lo n) [it] it (fun i h => IsRangeIter h it (lo + (i : Nat) * 60) ((n : Int) - (i : Nat)) 60) where
  mem := by simp
  obj := fun i h st b hb => by
    have e : b = it := by simpa using hb
    subst e
    exact ⟨_, st, fun v z => by
      have z' : Data.fields _ = Data.cell v := z
      cases z'⟩
  keep := fun i h h' st k => k it (by simp) _ st
  item := by
    intro X hP hw hK hc i pins s σ H E I hf st hg
    subst hP hw hK
    obtain ⟨f0, f1, f2, f3, f4, f5⟩ := hf it (by simp)
    have W := Walks.range (prog := X.prog) (w := X.w) (I.ok.hd hc) it lo 60 n
    refine W.item i s _ _ hg st fun v h' tk hv st' kk => ?_
    obtain ⟨t, rfl⟩ := hv
    have I1 : Inv X pins σ H { s with heap := h', toks := tk } := I.turned (fun b o hb e => kk b o (by simpa using hb) e) f0 f1 f3 f4 f5
    exact ⟨_, rfl, go_of (s := { s with heap := h', toks := tk }) (n := "range_iterator") st' rfl rfl (by decide) ⟨.int (lo + i * 60), H, I1, ⟨t, rfl⟩, ⟨rfl, rfl⟩, st', fun b hb => (hf b hb).1⟩⟩
  done := by
    intro X hP hw hK hc i pins s σ H E I hf st hg
    subst hP hw hK
    obtain ⟨f0, f1, f2, f3, f4, f5⟩ := hf it (by simp)
    exact wpAny_pyNext_range_end (I.ok.hd hc) st (by have : n ≤ i := hg; omega) fun h' eb => ⟨rfl, I.turned (t' := s.toks) (fun b o hb e => eb b o hb e) f0 f1 f3 f4 f5⟩
  self := fun _ _ _ _ _ st h => wpAny_pyIter_rangeiter st h
section
variable {X : Cx} {tg : Expr}
def num60 (i j : Int) : Nat := ((j - i + 59) / 60).toNat
inductive iRng60Y (R : It → Hp → Prop) (vs : List V) (H1 : Hp) : Prop
  | mk : ∀ (i j : Int), (vs = [.int i, .int j, .int 60]) → (0 ≤ i ∧ i ≤ j ∧ j < 1000) → (R (Its60 i (num60 i j)) H1) → iRng60Y R vs H1
def iRng60 (ta : TA) : TI := fun σ H R => ta σ H fun vs H1 => iRng60Y R vs H1
theorem size_60 {i j : Int} (h0 : 0 ≤ i) (h1 : i ≤ j) : Builtin.Range.rangeSize i j 60 = (num60 i j : Int) := by
  unfold Builtin.Range.rangeSize num60
  simp
  split <;> omega
theorem small_60 {i j : Int} (h0 : 0 ≤ i) (h1 : i ≤ j) (h2 : j < 1000) : Builtin.Range.small i j 60 = true := by
  have e := size_60 h0 h1
  have f : ∀ j : Int, -2 < j → j < 2000 → Builtin.Range.rangeFitsLong j = true := fun j a b => by
    unfold Builtin.Range.rangeFitsLong
    simp
    omega
  have n0 : (num60 i j : Int) ≤ 1000 := by unfold num60; omega
  unfold Builtin.Range.small
  rw [e, f i (by omega) (by omega), f j (by omega) (by omega), f (num60 i j : Int) (by omega) (by omega)]
  simp
  exact ⟨f _ (by omega) (by omega), .inr (f _ (by omega) (by omega))⟩
theorem pi_range60 {a b c : Expr} {ta : TA} {p pos : Pos} (hg : Gl X "range") (hm : X.mg "range" = none) (ha : PA X [a, b, c] ta) (hs : starEach [a, b, c] X.env = [(false, eval a X.env), (false, eval b X.env), (false, eval c X.env)] := by rfl) (hs2 : starEach [b, c] X.env = [(false, eval b X.env), (false, eval c X.env)] := by rfl) :
    PI X tg (.Call (.Name "range" p) [a, b, c] [] pos) (iRng60 ta) := by
  intro pins s σ H R I h
  refine Call_ (ld_blt I hg hm boot_range (PyProof.Rows.callWith_type1 (thn (ha pos pins s σ H _ I h) fun us s1 ⟨vs, H1, I1, r1, q1⟩ => ?_) (by rw [hs, hs2]) (by rw [hs2]; rfl)))
  obtain ⟨i, j, e, ⟨h0, h1, hj⟩, q⟩ := q1
  subst e
  cases r1 with
  | cons r rr =>
    cases rr with
    | cons r' rr =>
      cases rr with
      | cons r'' rr =>
        cases rr
        obtain ⟨t, rfl⟩ := r
        obtain ⟨t', rfl⟩ := r'
        obtain ⟨t'', rfl⟩ := r''
        refine call_range_3 (by decide) ?_ (.inl (PyProof.noPylong_small (by omega)))
        refine wpAny_pyIter_range (IsRange.new ..) (small_60 h0 h1 hj) ?_
        have I2 : Inv X pins σ H1 { s1 with heap := s1.heap.push { cls := .type "range", data := .fields #[.int i t, .int j t', .int 60 t''] }, toks := s1.toks } := I1.kept fun b o e => Heap.get?_push_of_some _ e
        refine ⟨(s1.heap.push { cls := .type "range", data := .fields #[.int i t, .int j t', .int 60 t''] }).objs.size, [(s1.heap.push { cls := .type "range", data := .fields #[.int i t, .int j t', .int 60 t''] }).objs.size], _, _, H1, rfl,
          I2.kept (t' := s1.toks) fun b o e => Heap.get?_push_of_some _ e, turn_60 _ i (num60 i j), ?_, fun b hb => ?_, q⟩
        · have e1 : i + ((0 : Nat) : Int) * 60 = i := by simp
          have e2 : ((num60 i j : Nat) : Int) - ((0 : Nat) : Int) = Builtin.Range.rangeSize i j 60 := by rw [size_60 h0 h1]; omega
          show IsRangeIter _ _ (i + ((0 : Nat) : Int) * 60) (((num60 i j : Nat) : Int) - ((0 : Nat) : Int)) 60
          rw [e1, e2]
          exact Heap.get?_push_size _ rfl
        · have e : b = (s1.heap.push { cls := .type "range", data := .fields #[.int i t, .int j t', .int 60 t''] }).objs.size := by simpa using hb
          subst e
          exact I2.fpOk (Nat.le_refl _) (I2.hok.fresh (Nat.le_refl _))
end
theorem for_60 {lo : Int} {n : Nat} {g : TG} {tb : TS} {D : Ends} {σ : St} {H : Hp} (Pv : Nat → St → Hp → Prop) (h0 : Pv 0 σ H)
    (hs : ∀ i σ H, i < n → Pv i σ H → g (.int (lo + i * 60)) σ H fun σ2 H2 => tb { D with nx := Pv (i + 1), ct := Pv (i + 1), bk := D.nx } σ2 H2) (hd : ∀ σ H, Pv n σ H → D.nx σ H) :
    ∃ W : Nat → Nat → St → Hp → Prop, (∃ m, W 0 m σ H) ∧ ∀ i m σ H, W i m σ H →
      ((Its60 lo n).stop i H ∧ D.nx σ H) ∨ ((Its60 lo n).go i H ∧ ∃ N : St → Hp → Prop, (∀ σ' H', N σ' H' → ∃ m', m' < m ∧ W (i + 1) m' σ' H') ∧ ∀ x H', (Its60 lo n).yld i H x H' → g x σ H' fun σ2 H2 => tb { D with nx := N, ct := N, bk := D.nx } σ2 H2) := by
  refine ⟨fun i m σ H => m = n - i ∧ i ≤ n ∧ Pv i σ H, ⟨n, by simp, Nat.zero_le _, h0⟩, ?_⟩
  rintro i m σ H ⟨rfl, hle, p⟩
  by_cases hi : i < n
  · refine .inr ⟨hi, Pv (i + 1), fun σ' H' q => ⟨n - (i + 1), by omega, rfl, by omega, q⟩, fun x H' hy => ?_⟩
    obtain ⟨rfl, rfl⟩ := hy
    exact hs i σ _ hi p
  · have : i = n := by omega
    subst this
    exact .inl ⟨Nat.le_refl _, hd σ H p⟩
end L2
set_option linter.all false
set_option Elab.async false
namespace Dig
open PySem PySem.NumText Txs
def dg (n : Nat) : List Nat := (Nat.toDigits 10 n).map Char.toNat
theorem val_dg (n : Nat) : digitsVal (dg n) = n := PySem.W.KIN.val_back n
theorem dg_small {n : Nat} (h : n < 10) : dg n = [48 + n] := by
  unfold dg
  rw [Nat.toDigits_of_lt_base h]
  revert n
  decide
theorem dg_step {n : Nat} (h : 10 ≤ n) : dg n = dg (n / 10) ++ [48 + n % 10] := by
  have hm : n % 10 < 10 := Nat.mod_lt n (by decide)
  have t : Nat.toDigits 10 (n / 10) ++ Nat.toDigits 10 (n % 10) = Nat.toDigits 10 (10 * (n / 10) + n % 10) := Nat.toDigits_append_toDigits (by decide) (by omega) hm
  rw [Nat.div_add_mod] at t
  rw [← dg_small hm]
  unfold dg
  rw [← List.map_append, t]
theorem dg_dig (n : Nat) : ∀ c ∈ dg n, 48 ≤ c ∧ c ≤ 57 := by
  induction n using Nat.strongRecOn with
  | _ n ih =>
    intro c hc
    by_cases h : n < 10
    · rw [dg_small h, List.mem_singleton] at hc
      omega
    · rw [dg_step (by omega)] at hc
      rcases List.mem_append.mp hc with hc | hc
      · exact ih (n / 10) (by omega) c hc
      · rw [List.mem_singleton] at hc
        omega
theorem dg_head (n : Nat) (h : 0 < n) : ∃ c r, dg n = c :: r ∧ 49 ≤ c := by
  induction n using Nat.strongRecOn with
  | _ n ih =>
    by_cases h9 : n < 10
    · exact ⟨48 + n, [], dg_small h9, by omega⟩
    · obtain ⟨c, r, e, hc⟩ := ih (n / 10) (by omega) (by omega)
      exact ⟨c, r ++ [48 + n % 10], by rw [dg_step (by omega), e]; rfl, hc⟩
theorem dg_ne (n : Nat) : dg n ≠ [] := by
  rcases Nat.eq_zero_or_pos n with rfl | h
  · rw [dg_small (by decide)]
    exact fun z => nomatch z
  · obtain ⟨c, r, e, _⟩ := dg_head n h
    rw [e]
    exact fun z => nomatch z
theorem dg_len : ∀ (k n : Nat), n < 10 ^ (k + 1) → (dg n).length ≤ k + 1
  | 0, n, h => by
    rw [dg_small (by simpa using h)]
    exact Nat.le_refl _
  | k + 1, n, h => by
    by_cases h9 : n < 10
    · rw [dg_small h9]
      show 1 ≤ k + 1 + 1
      omega
    · rw [dg_step (by omega), List.length_append]
      have := dg_len k (n / 10) (by rw [Nat.pow_succ] at h; omega)
      show _ + 1 ≤ _
      omega
/-- figures, no nought ahead of others -/
structure Cano (l : List Nat) : Prop where
  ne : l ≠ []
  dig : ∀ c ∈ l, 48 ≤ c ∧ c ≤ 57
  lead : ∀ r, l = 48 :: r → r = []
theorem dg_cano (n : Nat) : Cano (dg n) := by
  refine ⟨dg_ne n, dg_dig n, fun r e => ?_⟩
  rcases Nat.eq_zero_or_pos n with rfl | h
  · rw [dg_small (by decide)] at e
    injection e with _ e
    exact e.symm
  · obtain ⟨c, r', e', hc⟩ := dg_head n h
    rw [e'] at e
    injection e with e _
    omega
theorem chr_back {c : Nat} (h : c < 128) : (Char.ofNat c).toNat = c := by
  revert c
  decide
theorem cano_dg {l : List Nat} (h : Cano l) : dg (digitsVal l) = l := by
  obtain ⟨ne, dig, lead⟩ := h
  have hh : l.length - 1 = 0 ∨ ∃ c r, l = c :: r ∧ 49 ≤ c := by
    cases l with
    | nil => exact absurd rfl ne
    | cons c r =>
      have hc := dig c List.mem_cons_self
      by_cases z : c = 48
      · subst z
        rw [lead r rfl]
        exact .inl rfl
      · exact .inr ⟨c, r, rfl, by omega⟩
  have hl : l.length = (l.length - 1) + 1 := by
    have := List.length_pos_iff.mpr ne
    omega
  unfold dg
  rw [toDigits_digitsVal (l.length - 1) l hl dig hh, List.map_map]
  have : l.map (Char.toNat ∘ Char.ofNat) = l.map id := List.map_congr_left fun c hc => chr_back (by have := dig c hc; omega)
  rw [this, List.map_id]
theorem val_lt' : ∀ (l : List Nat) (a k : Nat), a < 10 ^ k → (∀ c ∈ l, 48 ≤ c ∧ c ≤ 57) → l.foldl (fun acc c => acc * 10 + (c - 48)) a < 10 ^ (k + l.length)
  | [], a, k, h, _ => h
  | c :: l, a, k, h, d => by
    have hc := d c List.mem_cons_self
    have := val_lt' l (a * 10 + (c - 48)) (k + 1) (by rw [Nat.pow_succ]; omega) fun x hx => d x (List.mem_cons_of_mem _ hx)
    rw [List.foldl_cons, List.length_cons, show k + (l.length + 1) = k + 1 + l.length by omega]
    exact this
theorem val_lt (l : List Nat) (h : ∀ c ∈ l, 48 ≤ c ∧ c ≤ 57) : digitsVal l < 10 ^ l.length := by
  have := val_lt' l 0 0 (by decide) h
  rw [Nat.zero_add] at this
  exact this
/-- int of figures -/
theorem read_dig {l : List Nat} (ne : l ≠ []) (h : ∀ c ∈ l, 48 ≤ c ∧ c ≤ 57) (hl : l.length ≤ 640) : intText? (tx l) = some ((digitsVal l : Nat) : Int) := by
  have e : (tx l).cps.toList = l := by simp [tx]
  have := intText_digits (x := tx l) (by rw [e]; exact h) (by rw [e]; exact ne) (by rw [tx_len]; omega)
  rw [e] at this
  exact this
def sdg (i : Int) : List Nat := if i < 0 then 45 :: dg i.natAbs else dg i.natAbs
theorem str_int (i : Int) : (Str.ofString (toString i)) = tx (sdg i) := by
  have back : ∀ (z : Str) (l : List Nat), z.cps.toList = l → z = tx l := fun z l e => by rw [← e, tx_list]
  cases i with
  | ofNat n =>
    refine back _ _ ?_
    rw [show (Int.ofNat n : Int) = ((n : Nat) : Int) from rfl, PySem.W.KIN.signs_num]
    unfold sdg
    rw [if_neg (by omega)]
    rfl
  | negSucc n =>
    refine back _ _ ?_
    unfold sdg
    rw [if_pos (by omega), PyProof.Rows.signs_ofString]
    show ("-" ++ Nat.repr (n + 1)).toList.map Char.toNat = _
    rw [String.toList_append, List.map_append, Nat.toList_repr]
    rfl
def ft (n : Int) (d : Nat) : List Nat := sdg n ++ (if d = 1 then [] else 47 :: dg d)
/-- l is the text of n over d -/
structure Frac (l : List Nat) (n : Int) (d : Nat) : Prop where
  pos : 1 ≤ d
  gcd : Nat.gcd n.natAbs d = 1
  txt : l = ft n d
def ng (l : List Nat) : Bool := l.head? == some 45
def bd (l : List Nat) : List Nat := if ng l then l.tail else l
def fg (l : List Nat) : List Nat := (bd l).takeWhile (· != 47)
def sk (l : List Nat) : Bool := decide (47 ∈ bd l)
def dn (l : List Nat) : List Nat := ((bd l).dropWhile (· != 47)).tail
theorem parts (l : List Nat) : l = (if ng l then [45] else []) ++ (fg l ++ (if sk l then 47 :: dn l else [])) := by
  have h : bd l = fg l ++ (if sk l then 47 :: dn l else []) := by
    unfold fg sk dn
    generalize bd l = b
    induction b with
    | nil => rfl
    | cons a b ih =>
      by_cases e : a = 47
      · subst e
        simp
      · have e2 : decide (47 ∈ a :: b) = decide (47 ∈ b) := by
          rw [decide_eq_decide]
          simp only [List.mem_cons]
          exact ⟨fun z => z.resolve_left (fun y => e y.symm), .inr⟩
        have hx : (a != 47) = true := by simpa using e
        rw [e2, List.takeWhile_cons_of_pos (p := fun x => x != 47) hx, List.dropWhile_cons_of_pos (p := fun x => x != 47) hx, List.cons_append, ← ih]
  rw [← h]
  unfold bd ng
  cases l with
  | nil => rfl
  | cons a r =>
    by_cases e : a = 45
    · subst e
      rfl
    · have : ((a :: r).head? == some 45) = false := by simpa using e
      rw [this]
      rfl
theorem no_mark (n : Nat) {c : Nat} (hc : c < 48 ∨ 57 < c) : c ∉ dg n := fun z => by have := dg_dig n c z; omega
theorem take_dg (n : Nat) (r : List Nat) (h : r = [] ∨ ∃ t, r = 47 :: t) : (dg n ++ r).takeWhile (· != 47) = dg n ∧ (dg n ++ r).dropWhile (· != 47) = r := by
  have g : ∀ a : List Nat, 47 ∉ a → (a ++ r).takeWhile (· != 47) = a ∧ (a ++ r).dropWhile (· != 47) = r := by
    intro a
    induction a with
    | nil =>
      intro _
      rcases h with rfl | ⟨t, rfl⟩
      · exact ⟨rfl, rfl⟩
      · exact ⟨rfl, rfl⟩
    | cons x a ih =>
      intro n
      have ne : x ≠ 47 := fun z => n (by rw [z]; exact List.mem_cons_self)
      obtain ⟨h1, h2⟩ := ih fun z => n (List.mem_cons_of_mem _ z)
      rw [List.cons_append, List.takeWhile_cons, List.dropWhile_cons, if_pos (by simpa using ne), if_pos (by simpa using ne), h1, h2]
      exact ⟨rfl, rfl⟩
  exact g _ (no_mark n (by decide))
theorem ft_parts (n : Int) (d : Nat) : ng (ft n d) = decide (n < 0) ∧ fg (ft n d) = dg n.natAbs ∧ sk (ft n d) = decide (d ≠ 1) ∧ dn (ft n d) = if d = 1 then [] else dg d := by
  have hn : ng (ft n d) = decide (n < 0) := by
    unfold ng ft sdg
    by_cases h : n < 0
    · rw [if_pos h, decide_eq_true h]
      rfl
    · rw [if_neg h, decide_eq_false h]
      have := dg_dig n.natAbs
      have ne := dg_ne n.natAbs
      cases e : dg n.natAbs with
      | nil => exact absurd e ne
      | cons c r =>
        have := this c (by rw [e]; exact List.mem_cons_self)
        show (some c == some 45) = false
        simp
        omega
  have hb : bd (ft n d) = dg n.natAbs ++ (if d = 1 then [] else 47 :: dg d) := by
    unfold bd
    rw [hn]
    unfold ft sdg
    by_cases h : n < 0
    · rw [if_pos h, decide_eq_true h]
      rfl
    · rw [if_neg h, decide_eq_false h]
      rfl
  have tk := take_dg n.natAbs (if d = 1 then [] else 47 :: dg d) (by split; exact .inl rfl; exact .inr ⟨_, rfl⟩)
  refine ⟨hn, ?_, ?_, ?_⟩
  · unfold fg
    rw [hb, tk.1]
  · unfold sk
    rw [hb, decide_eq_decide, List.mem_append]
    by_cases h : d = 1
    · rw [if_pos h]
      exact ⟨fun z => z.elim (fun y => absurd y (no_mark _ (by decide))) (fun y => nomatch y), fun z => absurd h z⟩
    · rw [if_neg h]
      exact ⟨fun _ => h, fun _ => .inr List.mem_cons_self⟩
  · unfold dn
    rw [hb, tk.2]
    split <;> rfl
theorem Frac.uniq {l : List Nat} {n n' : Int} {d d' : Nat} (a : Frac l n d) (b : Frac l n' d') : n = n' ∧ d = d' := by
  have pa := ft_parts n d
  have pb := ft_parts n' d'
  rw [← a.txt] at pa
  rw [← b.txt] at pb
  have h1 : n.natAbs = n'.natAbs := by rw [← val_dg n.natAbs, ← pa.2.1, pb.2.1, val_dg]
  have h2 : (n < 0) ↔ (n' < 0) := by rw [← decide_eq_decide, ← pa.1, pb.1]
  have h3 : (d ≠ 1) ↔ (d' ≠ 1) := by rw [← decide_eq_decide, ← pa.2.2.1, pb.2.2.1]
  refine ⟨by omega, ?_⟩
  by_cases e : d = 1
  · have : d' = 1 := Classical.byContradiction fun z => (h3.mpr z) e
    omega
  · have e' := h3.mp e
    have x := pa.2.2.2
    have y := pb.2.2.2
    rw [if_neg e] at x
    rw [if_neg e'] at y
    rw [← val_dg d, ← x, y, val_dg]
end Dig
set_option Elab.async false
set_option linter.all false
namespace Mth
structure Fr (n d n' d' : Int) : Prop where
  pos : 0 < d'
  co : Int.gcd n' d' = 1
  eq : n' * d = n * d'
  ln : n'.natAbs ≤ n.natAbs
  ld : d'.natAbs ≤ d.natAbs
theorem gcd_pos {n d : Int} (h : d ≠ 0) : 0 < (Int.gcd n d : Int) := by
  have : Int.gcd n d ≠ 0 := by
    intro e
    exact h (Int.gcd_eq_zero_iff.mp e).2
  omega
theorem natAbs_mul_le {a b c : Int} (h : a = b * c) (hc : c ≠ 0) : b.natAbs ≤ a.natAbs := by
  rw [h, Int.natAbs_mul]
  exact Nat.le_mul_of_pos_right _ (Int.natAbs_pos.mpr hc)
theorem fr_of {n d g : Int} (hd : d ≠ 0) (hg : g = (Int.gcd n d : Int) ∨ g = -(Int.gcd n d : Int)) (hs : 0 < d.fdiv g) : Fr n d (n.fdiv g) (d.fdiv g) := by
  have gp := gcd_pos (n := n) hd
  have g0 : g ≠ 0 := by rcases hg with e | e <;> omega
  have dn : g ∣ n := by
    rcases hg with e | e
    · rw [e]; exact Int.gcd_dvd_left _ _
    · rw [e]; exact Int.neg_dvd.mpr (Int.gcd_dvd_left _ _)
  have dd : g ∣ d := by
    rcases hg with e | e
    · rw [e]; exact Int.gcd_dvd_right _ _
    · rw [e]; exact Int.neg_dvd.mpr (Int.gcd_dvd_right _ _)
  have en : n = n.fdiv g * g := by rw [Int.fdiv_eq_ediv_of_dvd dn, Int.ediv_mul_cancel dn]
  have ed : d = d.fdiv g * g := by rw [Int.fdiv_eq_ediv_of_dvd dd, Int.ediv_mul_cancel dd]
  have gabs : g.natAbs = Int.gcd n d := by rcases hg with e | e <;> omega
  refine ⟨hs, ?_, ?_, natAbs_mul_le en g0, natAbs_mul_le ed g0⟩
  · have e1 : Int.gcd (n.fdiv g * g) (d.fdiv g * g) = Int.gcd n d := by rw [← en, ← ed]
    rw [Int.gcd_mul_right, gabs] at e1
    have : 0 < Int.gcd n d := by omega
    exact Nat.eq_of_mul_eq_mul_right this (by omega)
  · calc n.fdiv g * d = n.fdiv g * (d.fdiv g * g) := by rw [← ed]
      _ = (n.fdiv g * g) * d.fdiv g := by rw [Int.mul_comm (d.fdiv g) g, Int.mul_assoc]
      _ = n * d.fdiv g := by rw [← en]
/-- the divisor has the sign of d -/
theorem fdiv_pos_of {n d g : Int} (hd : d ≠ 0) (hg : (0 < d ∧ g = (Int.gcd n d : Int)) ∨ (d < 0 ∧ g = -(Int.gcd n d : Int))) : 0 < d.fdiv g := by
  have gp := gcd_pos (n := n) hd
  have dd : g ∣ d := by
    rcases hg with ⟨_, e⟩ | ⟨_, e⟩
    · rw [e]; exact Int.gcd_dvd_right _ _
    · rw [e]; exact Int.neg_dvd.mpr (Int.gcd_dvd_right _ _)
  have ed : d = d.fdiv g * g := by rw [Int.fdiv_eq_ediv_of_dvd dd, Int.ediv_mul_cancel dd]
  rcases hg with ⟨h, e⟩ | ⟨h, e⟩
  · have g1 : 0 < g := by omega
    rw [ed] at h
    refine Int.not_le.mp fun z => ?_
    have := Int.mul_nonpos_of_nonpos_of_nonneg z (Int.le_of_lt g1)
    omega
  · have g1 : g < 0 := by omega
    refine Int.not_le.mp fun z => ?_
    have := Int.mul_nonneg_of_nonpos_of_nonpos z (Int.le_of_lt g1)
    omega
theorem gcd_le {n d : Int} (h : d ≠ 0) : Int.gcd n d ≤ d.natAbs := Nat.le_of_dvd (Int.natAbs_pos.mpr h) (Int.gcd_dvd_natAbs_right n d)
/-- one turn of Euclid's way -/
theorem gcd_turn (a b : Nat) : Nat.gcd b (a % b) = Nat.gcd a b := by
  rw [Nat.gcd_comm a b, Nat.gcd_rec b a, Nat.gcd_comm]
theorem up {a : Int} {i j : Nat} (h : a.natAbs < 2 ^ i) (hij : i ≤ j) : a.natAbs < 2 ^ j := Nat.lt_of_lt_of_le h (Nat.pow_le_pow_right (by decide) hij)
theorem ten60 {n : Nat} (h : n < 10 ^ 60) : n < 2 ^ 200 := Nat.lt_trans h (by decide)
end Mth
--M3
set_option Elab.async false
set_option linter.all false
set_option maxRecDepth 100000
set_option maxHeartbeats 4000000
namespace Prf
open PySem L2 Own Tri Cyc Rnd
def top (i : Nat) : Stmt := PySem.Challenge.pw_restdraw_k12_fractions_written.main.body.getD i (.Pass ⟨0, 0, 0, 0⟩)
abbrev s_greatest_divisor : Stmt := top 21
theorem sc_greatest_divisor : FnScope ["one", "other"] ["one", "other"] (defScope s_greatest_divisor) := sc_mk
abbrev s_fraction : Stmt := top 22
theorem sc_fraction : FnScope ["n", "d", "divisor"] ["n", "d"] (defScope s_fraction) := sc_mk
abbrev s_figures_of : Stmt := top 23
theorem sc_figures_of : FnScope ["number", "pieces", "low"] ["number"] (defScope s_figures_of) := sc_mk
abbrev s_number_of : Stmt := top 24
theorem sc_number_of : FnScope ["figures", "first", "number", "start"] ["figures"] (defScope s_number_of) := sc_mk
abbrev s_are_figures : Stmt := top 25
theorem sc_are_figures : FnScope ["text"] ["text"] (defScope s_are_figures) := sc_mk
abbrev s_fraction_text : Stmt := top 26
theorem sc_fraction_text : FnScope ["one", "n", "d", "text"] ["one"] (defScope s_fraction_text) := sc_mk
abbrev s_loosely_read : Stmt := top 27
theorem sc_loosely_read : FnScope ["text", "below_nought", "above", "slash", "below", "n", "d"] ["text"] (defScope s_loosely_read) := sc_mk
abbrev s_read_fraction : Stmt := top 28
theorem sc_read_fraction : FnScope ["text", "one"] ["text"] (defScope s_read_fraction) := sc_mk
abbrev s_law_pot : Stmt := top 30
theorem sc_law_pot : FnScope ["_law_script", "_law_k", "_law_cell"] ["_law_script", "_law_k"] (defScope s_law_pot) := sc_mk
abbrev s_law_digit : Stmt := top 31
theorem sc_law_digit : FnScope ["_law_pot_here", "_law_many", "_law_digit_here"] ["_law_pot_here", "_law_many"] (defScope s_law_digit) := sc_mk
abbrev s_law_is_whole : Stmt := top 32
theorem sc_law_is_whole : FnScope ["_law_found"] ["_law_found"] (defScope s_law_is_whole) := sc_mk
abbrev s_law_number : Stmt := top 33
theorem sc_law_number : FnScope ["_law_pot_here", "_law_choice", "_law_found", "_law_k"] ["_law_pot_here"] (defScope s_law_number) := sc_mk
abbrev s_law_common : Stmt := top 34
theorem sc_law_common : FnScope ["_law_one", "_law_other"] ["_law_one", "_law_other"] (defScope s_law_common) := sc_mk
abbrev s_law_made : Stmt := top 35
theorem sc_law_made : FnScope ["_law_n", "_law_d", "_law_by"] ["_law_n", "_law_d"] (defScope s_law_made) := sc_mk
abbrev s_law_drawn : Stmt := top 36
theorem sc_law_drawn : FnScope ["_law_pot_here"] ["_law_pot_here"] (defScope s_law_drawn) := sc_mk
abbrev s_law_refused : Stmt := top 37
theorem sc_law_refused : FnScope ["_law_text", "_law_told", "e", "_law_others"] ["_law_text"] (defScope s_law_refused) := sc_mk
abbrev s_law_figures : Stmt := top 38
theorem sc_law_figures : FnScope ["_law_text"] ["_law_text"] (defScope s_law_figures) := sc_mk
abbrev s_law_read : Stmt := top 39
theorem sc_law_read : FnScope ["_law_text", "_law_body", "_law_size", "_law_stroke", "_law_under", "_law_top", "_law_bottom"] ["_law_text"] (defScope s_law_read) := sc_mk
abbrev s_law_sign : Stmt := top 40
theorem sc_law_sign : FnScope ["_law_pot_here", "_law_some", "_law_every"] ["_law_pot_here", "_law_some"] (defScope s_law_sign) := sc_mk
abbrev s_law_spoilt : Stmt := top 41
theorem sc_law_spoilt : FnScope ["_law_pot_here", "_law_text", "_law_choice", "_law_some", "_law_at", "_law_one"] ["_law_pot_here", "_law_text"] (defScope s_law_spoilt) := sc_mk
abbrev s_law_is_read : Stmt := top 42
theorem sc_law_is_read : FnScope ["_law_text", "_law_due", "_law_found"] ["_law_text"] (defScope s_law_is_read) := sc_mk
abbrev s_law : Stmt := top 43
theorem sc_law : FnScope ["_law_script", "_law_k", "_law_pot_here", "_law_one", "_law_due", "_law_text", "_law_top", "_law_small", "_law_thing"] ["_law_script"] (defScope s_law) := sc_mk
def inCls (s : Stmt) (j : Nat) : Stmt := match s with
  | .ClassDef _ _ _ b _ _ _ _ _ _ _ => b.getD j (.Pass ⟨0, 0, 0, 0⟩)
  | _ => .Pass ⟨0, 0, 0, 0⟩
abbrev s_init_DrawError : Stmt := inCls (top 1) 0
theorem sc_init_DrawError : FnScope ["self", "words"] ["self", "words"] (defScope s_init_DrawError) := sc_mk
structure FxG (K : PySem.W.Frag) (mg : Str → Option Value) : Prop where
  X : ∃ h : Heap, K.In h ∧ h.Ns mainGlobals mg
  d0 : DfAt K "greatest_divisor" s_greatest_divisor
  d1 : DfAt K "fraction" s_fraction
  d2 : DfAt K "figures_of" s_figures_of
  d3 : DfAt K "number_of" s_number_of
  d4 : DfAt K "are_figures" s_are_figures
  d5 : DfAt K "fraction_text" s_fraction_text
  d6 : DfAt K "loosely_read" s_loosely_read
  d7 : DfAt K "read_fraction" s_read_fraction
  d8 : DfAt K "_law_pot" s_law_pot
  d9 : DfAt K "_law_digit" s_law_digit
  d10 : DfAt K "_law_is_whole" s_law_is_whole
  d11 : DfAt K "_law_number" s_law_number
  d12 : DfAt K "_law_common" s_law_common
  d13 : DfAt K "_law_made" s_law_made
  d14 : DfAt K "_law_drawn" s_law_drawn
  d15 : DfAt K "_law_refused" s_law_refused
  d16 : DfAt K "_law_figures" s_law_figures
  d17 : DfAt K "_law_read" s_law_read
  d18 : DfAt K "_law_sign" s_law_sign
  d19 : DfAt K "_law_spoilt" s_law_spoilt
  d20 : DfAt K "_law_is_read" s_law_is_read
  d21 : DfAt K "law" s_law
  y0 : PySem.W.nsIn K mainGlobals "isinstance" = some none
  y1 : PySem.W.nsIn K mainGlobals "ValueError" = some none
  y2 : PySem.W.nsIn K mainGlobals "max" = some none
  y3 : PySem.W.nsIn K mainGlobals "abs" = some none
  y4 : PySem.W.nsIn K mainGlobals "divmod" = some none
  y5 : PySem.W.nsIn K mainGlobals "bool" = some none
  y6 : PySem.W.nsIn K mainGlobals "int" = some none
  y7 : PySem.W.nsIn K mainGlobals "range" = some none
  y8 : PySem.W.nsIn K mainGlobals "str" = some none
  y9 : PySem.W.nsIn K mainGlobals "len" = some none
  y10 : PySem.W.nsIn K mainGlobals "all" = some none
  y11 : PySem.W.nsIn K mainGlobals "tuple" = some none
  y12 : PySem.W.nsIn K mainGlobals "min" = some none
  xg : XgAt K
  xd : DxAt K
  w_NoText : WxAt K "NoText" s_init_DrawError
  kv_NoText : KvAt K "NoText"
  kd_NoText_NoFace : KdAt K "NoText" "NoFace" false
  kd_NoText_Doubled : KdAt K "NoText" "Doubled" false
  kd_NoText_NoTie : KdAt K "NoText" "NoTie" false
  kd_NoText_Parted : KdAt K "NoText" "Parted" false
  kd_NoText_NotFlat : KdAt K "NoText" "NotFlat" false
  kd_NoText_NotTied : KdAt K "NoText" "NotTied" false
  kd_NoText_NotCornered : KdAt K "NoText" "NotCornered" false
  kd_NoText_NoRim : KdAt K "NoText" "NoRim" false
  kd_NoText_NoCorners : KdAt K "NoText" "NoCorners" false
  kd_NoText_NoBase : KdAt K "NoText" "NoBase" false
  kd_NoText_NoOrder : KdAt K "NoText" "NoOrder" false
  kd_NoText_NoWoods : KdAt K "NoText" "NoWoods" false
  kd_NoText_NoWeights : KdAt K "NoText" "NoWeights" false
  kd_NoText_NoText : KdAt K "NoText" "NoText" true
  kd_NoText_Alike : KdAt K "NoText" "Alike" false
  kd_NoText_Folded : KdAt K "NoText" "Folded" false
  vFIGURES : CvAt K "FIGURES" (.str "0123456789")
  vPIECE : CvAt K "PIECE" (.int 60)
theorem FxG.z {K : PySem.W.Frag} {mg : Str → Option Value} (B : FxG K mg) {n : Str} (y : PySem.W.nsIn K mainGlobals n = some none) : mg n = none := by
  obtain ⟨h, x, g⟩ := B.X
  exact PySem.W.mg_none_of x g y
def Bad (c : Cn) : Prop := FxG c.K c.mg ∧ ∃ f fd, Fun c.K "law" "law" s_law f fd ∧ ¬ FnOk c.P c.w c.K c.mg c.base CX0 10 f fd ["_law_script"] (spLaw c.K)
noncomputable def c0 : Cn := Classical.epsilon Bad
noncomputable def P : Program := c0.P
noncomputable def w : World := c0.w
noncomputable def K : PySem.W.Frag := c0.K
noncomputable def mg : Str → Option Value := c0.mg
noncomputable def base : Heap := c0.base
abbrev Fx := FxG K mg
abbrev Hs := Own.Has P w K mg base
theorem same_new {H : Hp} {p : Addr} (h : H p = none) (o : HO) : Same H (upd H p o) := fun b u q => by rw [upd_ne (ne_of_none q h)]; exact q
def SameBut (a : Addr) (H H' : Hp) : Prop := ∀ b o, b ≠ a → H b = some o → H' b = some o
theorem abs_eq (i : Int) : (if i < 0 then -i else i) = (i.natAbs : Int) := by split <;> omega
inductive spPot (K : PySem.W.Frag) (vs : List V) (H : Hp) (Q : VK) (Y : XK) : Prop
  | mk : ∀ (a : Addr) (ns : List Int) (k : Int), (vs = [.ref a, .int k]) → (SqL K H a (ns.map V.int)) → (ns.length ≤ 63) → (0 ≤ k) → (k ≤ 63) → (∀ (p : Addr) (x y : Int) (H' : Hp), 0 ≤ x → Same H H' → H p = none → H' p = some (.lst [.int x, .int y]) → Q (.ref p) H') → spPot K vs H Q Y
def PotAt (H : Hp) (a : Addr) : Prop := ∃ x y : Int, H a = some (.lst [.int x, .int y]) ∧ 0 ≤ x
inductive spDigit (vs : List V) (H : Hp) (Q : VK) (Y : XK) : Prop
  | mk : ∀ (a : Addr) (m : Int), (vs = [.ref a, .int m]) → (PotAt H a) → (0 < m) → (m.natAbs < 2 ^ 9000) → (∀ (d : Int) (H' : Hp), 0 ≤ d → d < m → SameBut a H H' → PotAt H' a → Q (.int d) H') → spDigit vs H Q Y
section
theorem at0 {x y : V} : atI [x, y] 0 = some x := rfl
theorem at1 {x y : V} : atI [x, y] 1 = some y := rfl
theorem cut_ints (ns : List Int) (lo hi : Option Int) : ∃ ms : List Int, cutV (ns.map V.int) lo hi = ms.map V.int ∧ ms.length ≤ ns.length := by
  refine ⟨(ns.drop (HT.sIx (ns.map V.int).length 0 lo)).take (HT.sIx (ns.map V.int).length (ns.map V.int).length hi - HT.sIx (ns.map V.int).length 0 lo), ?_, ?_⟩
  · unfold cutV
    rw [List.map_take, List.map_drop]
  · rw [List.length_take, List.length_drop]
    omega
theorem first_int (ms : List Int) : ∃ c : Int, atI (ms.map V.int ++ [V.int 0]) 0 = some (V.int c) := by
  cases ms with
  | nil => exact ⟨0, rfl⟩
  | cons x r => exact ⟨x, atI_nat (j := 0) rfl⟩
theorem small {n : Nat} (h : n ≤ 1000) : n ≤ sizeLine := Nat.le_of_lt (small1000 h)
theorem ok_law_pot (B : Fx) : Hs "_law_pot" ["_law_script", "_law_k"] 1 (spPot K) := by
  refine hs_of B.X B.d8 sc_law_pot fun f cdv A outer s H vs Q E nN hr h => ?_
  obtain ⟨a, ns, k, rfl, hS, h63, k0, k1, q⟩ := h
  refine ⟨_, (pss_cons (pst 2 nN (pix ix_list (pe_op op_cat (pe_slice sl_list (pv 0) (po_some (pv 1)) (po_some (pe_op op_add (pv 1) pe_int))) (pe_lst (p1 pe_int))) pe_int))
      (pss_one (ps_ret (pe_lst (p2 (pe_callB (call_max2 rfl) rfl (B.z B.y2) PyProof.Rows.boot_max (p2 pe_int (pe_op op_sub (pv 2) (pe_op op_pow pe_int pe_int)))) (pe_op op_add (pe_op op_mod (pe_op op_add (pe_op op_add (pe_callB call_abs rfl (B.z B.y3) PyProof.Rows.boot_abs (p1 (pv 2))) (pe_op op_mul pe_int (pv 1))) pe_int) pe_int) pe_int)))))), ?_⟩
  try dsimp only [cxOf]
  obtain ⟨ms, em, lm⟩ := cut_ints ns (some k) (some (k + 1))
  obtain ⟨c, hc⟩ := first_int ms
  refine ⟨_, rfl, _, rfl, k, rfl, _, rfl, _, _, rfl, rfl, k + 1, rfl, a, _, rfl, hS, fun p1 h1 => ?_⟩
  refine ⟨(by show 1 ≤ sizeLine; decide), fun p2 h2 => ?_⟩
  have n12 : p1 ≠ p2 := ne_of_none upd_same h2
  refine ⟨p1, p2, _, _, rfl, rfl, (by rw [upd_ne n12]; exact upd_same), upd_same, (by rw [em, List.length_map, List.length_singleton]; exact small (by omega)), fun p3 h3 => ?_⟩
  refine ⟨p3, _, _, _, rfl, rfl, SqL.of upd_same, (by rw [em]; exact hc), ?_⟩
  have g1 : Same H (upd H p1 (.lst (cutV (ns.map V.int) (some k) (some (k + 1))))) := same_new h1 _
  have g2 := same_new h2 (.lst [V.int 0])
  have g3 := same_new h3 (.lst (cutV (ns.map V.int) (some k) (some (k + 1)) ++ [V.int 0]))
  have g := g1.trans (g2.trans g3)
  refine ⟨_, rfl, _, _, rfl, rfl, ⟨by decide, by decide, by decide⟩, _, _, rfl, rfl, _, _, rfl, _, rfl, c, rfl, _, rfl, _, _, rfl, rfl, .inl ⟨by decide, by decide⟩, _, _, rfl, rfl, _, _, rfl, rfl, _, _, rfl, rfl, (by show (0 : Int) < 2147483629; decide), _, _, rfl, rfl, (by show 2 ≤ sizeLine; decide), fun p4 h4 => ?_⟩
  refine q p4 _ _ _ ?_ (g.trans (same_new h4 _)) (g.free h4) upd_same
  split <;> omega
theorem SameBut.refl (a : Addr) (H : Hp) : SameBut a H H := fun _ _ _ h => h
theorem SameBut.trans {a : Addr} {H H1 H2 : Hp} (x : SameBut a H H1) (y : SameBut a H1 H2) : SameBut a H H2 := fun b o n h => y b o n (x b o n h)
theorem SameBut.of {a : Addr} {H H' : Hp} (h : Same H H') : SameBut a H H' := fun b o _ e => h b o e
theorem but_upd {a : Addr} {H : Hp} {o : HO} : SameBut a H (upd H a o) := fun b u n h => by rw [upd_ne n]; exact h
theorem ok_law_digit (B : Fx) : Hs "_law_digit" ["_law_pot_here", "_law_many"] 1 (spDigit) := by
  refine hs_of B.X B.d9 sc_law_digit fun f cdv A outer s H vs Q E nN hr h => ?_
  obtain ⟨a, m, rfl, ⟨x, y, ha, hx⟩, m0, m1, q⟩ := h
  refine ⟨_, (pss_cons (ps_if (pt_cmpR op_gt (pix ix_list (pv 0) pe_int) pe_int (nomark _)) (pss_cons (ps_asg (pe_callB call_divmodW rfl (B.z B.y4) PyProof.Rows.boot_divmod (p2 (pix ix_list (pv 0) pe_int) (pv 1))) (pg_tup (n := 2) rfl (pgs_cons (pg_sub (pv 0) pe_int set_list) (pgs_cons (pgn 2 nN) pgs_nil))))
      (pss_one (ps_ret (pv 2)))) pss_nil)
      (pss_cons (ps_asg (pe_op op_mod (pe_op op_add (pe_op op_mul (pix ix_list (pv 0) pe_int) pe_int) pe_int) pe_int) (pg_sub (pv 0) pe_int set_list))
      (pss_one (ps_ret (pe_op op_mod (pe_op op_fdiv (pe_op op_mod (pe_op op_mul (pix ix_list (pv 0) pe_int) (pix ix_list (pv 0) pe_int)) pe_int) pe_int) (pv 1)))))), ?_⟩
  try dsimp only [cxOf]
  refine ⟨_, rfl, a, _, _, _, rfl, rfl, SqL.of ha, at0, _, _, rfl, rfl, _, rfl, ?_⟩
  refine ite2 (fun c => ?_) (fun c => ?_)
  · refine ⟨_, rfl, a, _, _, _, rfl, rfl, SqL.of ha, at0, _, rfl, x, m, rfl, ⟨m0, m1⟩, fun p hp => ?_⟩
    have nap : a ≠ p := ne_of_none ha hp
    refine ⟨p, _, rfl, SqT.of upd_same, rfl, _, _, rfl, _, rfl, a, _, _, 0, rfl, rfl, (by rw [upd_ne nap]; exact ha), rfl, _, _, rfl, rfl, ?_⟩
    refine ⟨_, rfl, ?_⟩
    refine q _ _ (Int.emod_nonneg _ (by omega)) (Int.emod_lt_of_pos _ m0) ((SameBut.of (same_new hp _)).trans but_upd) ⟨_, _, upd_same, ?_⟩
    exact Int.ediv_nonneg hx (by omega)
  · refine ⟨_, rfl, a, _, _, _, rfl, rfl, SqL.of ha, at1, _, _, rfl, rfl, .inr ⟨by decide, by decide⟩, _, _, rfl, rfl, _, _, rfl, rfl, (by show (0 : Int) < 2147483647; decide), ?_⟩
    refine ⟨_, rfl, a, _, _, 1, rfl, rfl, ha, rfl, ?_⟩
    have b1 : 0 ≤ (y * 48271 + 39373) % 2147483647 := Int.emod_nonneg _ (by decide)
    have b2 : (y * 48271 + 39373) % 2147483647 < 2147483647 := Int.emod_lt_of_pos _ (by decide)
    refine ⟨_, rfl, a, _, _, _, rfl, rfl, SqL.of upd_same, at1, _, rfl, a, _, _, _, rfl, rfl, SqL.of upd_same, at1, _, _, rfl, rfl, .inl ⟨?_, ?_⟩, _, _, rfl, rfl, (by show (0 : Int) < 2147483629; decide), _, _, rfl, rfl, ⟨by decide, by decide⟩, _, rfl, _, _, rfl, rfl, m0, ?_⟩
    · show -(2 ^ 64) < (y * 48271 + 39373) % 2147483647
      omega
    · show (y * 48271 + 39373) % 2147483647 < 2 ^ 64
      omega
    · exact q _ _ (Int.emod_nonneg _ (by omega)) (Int.emod_lt_of_pos _ m0) but_upd ⟨_, _, upd_same, hx⟩
theorem keep {H H1 H2 : Hp} {p : Addr} (g : Same H H1) (n : H p = none) (b : SameBut p H1 H2) : Same H H2 := fun c o e => b c o (ne_of_none e n) (g c o e)
theorem PotAt.kept {H H' : Hp} {p : Addr} (h : PotAt H p) (g : Same H H') : PotAt H' p := by
  obtain ⟨x, y, e, z⟩ := h
  exact ⟨x, y, g _ _ e, z⟩
theorem lit9 {i : Int} (h : i.natAbs < 2 ^ 200) : i.natAbs < 2 ^ 9000 := Nat.lt_of_lt_of_le h (Nat.pow_le_pow_right (by decide) (by decide))
theorem PotAt.other {H : Hp} {a l : Addr} {o : HO} (h : PotAt H a) (n : a ≠ l) : PotAt (upd H l o) a := by
  obtain ⟨x, y, e, z⟩ := h
  exact ⟨x, y, by rw [upd_ne n]; exact e, z⟩
end
--SPLIT
open Txs Mth
inductive spGcd (vs : List V) (H : Hp) (Q : VK) (Y : XK) : Prop
  | mk : ∀ (i j : Int), (vs = [.int i, .int j]) → (Q (.int (Int.gcd i j)) H) → spGcd vs H Q Y
def Gets (n d : Int) (H : Hp) (Q : VK) : Prop := ∀ (n' d' : Int) (p : Addr) (H' : Hp), Fr n d n' d' → Same H H' → H' p = some (.tup [.int n', .int d']) → Q (.ref p) H'
inductive spFr (vs : List V) (H : Hp) (Q : VK) (Y : XK) : Prop
  | mk : ∀ (n d : Int), (vs = [.int n, .int d]) → (d ≠ 0) → (d.natAbs < 2 ^ 9000) → (Gets n d H Q) → spFr vs H Q Y
inductive spMade (vs : List V) (H : Hp) (Q : VK) (Y : XK) : Prop
  | mk : ∀ (n d : Int), (vs = [.int n, .int d]) → (0 < d) → (d.natAbs < 2 ^ 9000) → (Gets n d H Q) → spMade vs H Q Y
inductive spNumber (vs : List V) (H : Hp) (Q : VK) (Y : XK) : Prop
  | mk : ∀ (a : Addr), (vs = [.ref a]) → (PotAt H a) → (∀ (v : Int) (H' : Hp), v.natAbs < 10 ^ 60 → SameBut a H H' → PotAt H' a → Q (.int v) H') → spNumber vs H Q Y
def FracAt (H : Hp) (p : Addr) (n d : Int) : Prop := H p = some (.tup [.int n, .int d]) ∧ 0 < d ∧ Int.gcd n d = 1 ∧ n.natAbs < 10 ^ 60 ∧ d.natAbs < 10 ^ 60
inductive spDrawn (vs : List V) (H : Hp) (Q : VK) (Y : XK) : Prop
  | mk : ∀ (a : Addr), (vs = [.ref a]) → (PotAt H a) → (∀ (p : Addr) (n d : Int) (H' : Hp), SameBut a H H' → PotAt H' a → FracAt H' p n d → Q (.ref p) H') → spDrawn vs H Q Y
inductive spWhole (vs : List V) (H : Hp) (Q : VK) (Y : XK) : Prop
  | mk : ∀ (i : Int), (vs = [.int i]) → (Q (.bl true) H) → spWhole vs H Q Y
theorem ok_greatest_divisor (B : Fx) : Hs "greatest_divisor" ["one", "other"] 1 (spGcd) := by
  refine hs_of B.X B.d0 sc_greatest_divisor fun f cdv A outer s H vs Q E nN hr h => ?_
  obtain ⟨i, j, rfl, q⟩ := h
  refine ⟨_, (pss_cons (pst 0 nN (pe_callB call_abs rfl (B.z B.y3) PyProof.Rows.boot_abs (p1 (pv 0))))
      (pss_cons (pst 1 nN (pe_callB call_abs rfl (B.z B.y3) PyProof.Rows.boot_abs (p1 (pv 1))))
      (pss_cons (ps_while PassesOwn.never (pt_cmpR op_ne (pv 1) pe_int (nomark _)) (pss_one (ps_par (i := 0) (j := 1) rfl nN rfl rfl (by decide) rfl rfl (p2 (pv 1) (pe_op op_mod (pv 0) (pv 1))) rfl)))
      (pss_one (ps_ret (pv 0)))))), ?_⟩
  try dsimp only [cxOf]
  refine ⟨_, rfl, i, rfl, _, rfl, j, rfl, ?_⟩
  refine while_by (fun σ H1 => H1 = H ∧ ∃ a b : Nat, σ = [some (.int a), some (.int b)] ∧ Nat.gcd a b = Int.gcd i j) (fun σ _ => match σ with | [_, some (.int b)] => b.toNat | _ => 0) ⟨rfl, i.natAbs, j.natAbs, ?_, rfl⟩ ?_ ?_
  · show [some (V.int (if i < 0 then -i else i)), some (V.int (if j < 0 then -j else j))] = _
    rw [abs_eq, abs_eq]
  · rintro σ H1 ⟨rfl, a, b, rfl, e⟩
    refine ⟨_, rfl, rfl, _, rfl, ?_⟩
    refine ite2 (fun c => ?_) (fun c => ?_)
    · have hb : b ≠ 0 := fun z => by subst z; simp at c
      refine ⟨_, rfl, _, rfl, _, rfl, _, _, rfl, rfl, (by omega), _, _, rfl, ⟨rfl, b, a % b, ?_, ?_⟩, ?_⟩
      · rw [Int.natCast_emod] <;> rfl
      · rw [gcd_turn]; exact e
      · show ((a : Int) % (b : Int)).toNat < ((b : Nat) : Int).toNat
        rw [← Int.natCast_emod, Int.toNat_natCast, Int.toNat_natCast]
        exact Nat.mod_lt _ (by omega)
    · have hb : b = 0 := by
        simp at c
        omega
      subst hb
      refine ⟨_, rfl, ?_⟩
      rw [Nat.gcd_zero_right] at e
      rw [← e] at q
      exact q
  · rintro σ H1 Q1 Q2 m ⟨v, e1, s1, k, e2, q1⟩
    exact ⟨v, e1, s1, k, e2, m _ _ q1⟩
theorem ok_fraction (B : Fx) : Hs "fraction" ["n", "d"] 2 (spFr) := by
  refine hs_of B.X B.d1 sc_fraction fun f cdv A outer s H vs Q E nN hr h => ?_
  obtain ⟨n, d, rfl, d0, hz, q⟩ := h
  refine ⟨_, (pss_cons (pst 2 nN (pf (ok_greatest_divisor B) hr (p2 (pv 0) (pv 1))))
      (pss_cons (ps_if (pt_cmpR op_lt (pv 1) pe_int (nomark _)) (pss_one (pst 2 nN (pe_un un_neg (pv 2)))) pss_nil)
      (pss_one (ps_ret (pe_tup (p2 (pe_op Own.op_fdivW (pv 0) (pv 2)) (pe_op Own.op_fdivW (pv 1) (pv 2)))))))), ?_⟩
  try dsimp only [cxOf]
  have gl := gcd_le (n := n) d0
  have gp := gcd_pos (n := n) d0
  refine ⟨_, rfl, _, rfl, n, d, rfl, ?_⟩
  refine ⟨_, rfl, _, _, rfl, rfl, _, rfl, ?_⟩
  refine ite2 (fun c => ?_) (fun c => ?_)
  · have c' : d < 0 := of_decide_eq_true c
    refine ⟨_, rfl, _, rfl, ?_⟩
    have hd : CDivW n (-(Int.gcd n d : Int)) := ⟨by omega, by omega⟩
    refine ⟨_, rfl, _, rfl, _, _, rfl, rfl, hd, _, rfl, _, rfl, _, _, rfl, rfl, hd, (by show 2 ≤ sizeLine; decide), fun p hp => ?_⟩
    exact q _ _ p _ (fr_of d0 (.inr rfl) (fdiv_pos_of d0 (.inr ⟨c', rfl⟩))) (same_new hp _) upd_same
  · have c' : ¬ d < 0 := of_decide_eq_false (Bool.eq_false_iff.mpr c)
    have hd : CDivW n (Int.gcd n d : Int) := ⟨by omega, by omega⟩
    refine ⟨_, rfl, _, rfl, _, _, rfl, rfl, hd, _, rfl, _, rfl, _, _, rfl, rfl, hd, (by show 2 ≤ sizeLine; decide), fun p hp => ?_⟩
    exact q _ _ p _ (fr_of d0 (.inl rfl) (fdiv_pos_of d0 (.inl ⟨by omega, rfl⟩))) (same_new hp _) upd_same
theorem ok_law_common (B : Fx) : Hs "_law_common" ["_law_one", "_law_other"] 1 (spGcd) := by
  refine hs_of B.X B.d12 sc_law_common fun f cdv A outer s H vs Q E nN hr h => ?_
  obtain ⟨i, j, rfl, q⟩ := h
  refine ⟨_, (pss_cons (ps_par (i := 0) (j := 1) rfl nN rfl rfl (by decide) rfl rfl (p2 (pe_callB call_abs rfl (B.z B.y3) PyProof.Rows.boot_abs (p1 (pv 0))) (pe_callB call_abs rfl (B.z B.y3) PyProof.Rows.boot_abs (p1 (pv 1)))) rfl)
      (pss_cons (ps_while PassesOwn.never (pt_cmpR op_gt (pv 1) pe_int (nomark _)) (pss_one (ps_par (i := 0) (j := 1) rfl nN rfl rfl (by decide) rfl rfl (p2 (pv 1) (pe_op op_mod (pv 0) (pv 1))) rfl)))
      (pss_one (ps_ret (pv 0))))), ?_⟩
  try dsimp only [cxOf]
  refine ⟨_, rfl, i, rfl, _, rfl, j, rfl, _, _, rfl, ?_⟩
  refine while_by (fun σ H1 => H1 = H ∧ ∃ a b : Nat, σ = [some (.int a), some (.int b)] ∧ Nat.gcd a b = Int.gcd i j) (fun σ _ => match σ with | [_, some (.int b)] => b.toNat | _ => 0) ⟨rfl, i.natAbs, j.natAbs, ?_, rfl⟩ ?_ ?_
  · show [some (V.int (if i < 0 then -i else i)), some (V.int (if j < 0 then -j else j))] = _
    rw [abs_eq, abs_eq]
  · rintro σ H1 ⟨rfl, a, b, rfl, e⟩
    refine ⟨_, rfl, _, _, rfl, rfl, _, rfl, ?_⟩
    refine ite2 (fun c => ?_) (fun c => ?_)
    · have hb : (0 : Int) < b := of_decide_eq_true c
      refine ⟨_, rfl, _, rfl, _, rfl, _, _, rfl, rfl, (by omega), _, _, rfl, ⟨rfl, b, a % b, ?_, ?_⟩, ?_⟩
      · rw [Int.natCast_emod] <;> rfl
      · rw [gcd_turn]; exact e
      · show ((a : Int) % (b : Int)).toNat < ((b : Nat) : Int).toNat
        rw [← Int.natCast_emod, Int.toNat_natCast, Int.toNat_natCast]
        exact Nat.mod_lt _ (by omega)
    · have hb : ¬ (0 : Int) < b := of_decide_eq_false (Bool.eq_false_iff.mpr c)
      have hb : b = 0 := by omega
      subst hb
      refine ⟨_, rfl, ?_⟩
      rw [Nat.gcd_zero_right] at e
      rw [← e] at q
      exact q
  · rintro σ H1 Q1 Q2 m ⟨v, e1, i1, j1, e3, e4, k, e2, q1⟩
    exact ⟨v, e1, i1, j1, e3, e4, k, e2, m _ _ q1⟩
theorem ok_law_made (B : Fx) : Hs "_law_made" ["_law_n", "_law_d"] 2 (spMade) := by
  refine hs_of B.X B.d13 sc_law_made fun f cdv A outer s H vs Q E nN hr h => ?_
  obtain ⟨n, d, rfl, d0, hz, q⟩ := h
  refine ⟨_, (pss_cons (pst 2 nN (pf (ok_law_common B) hr (p2 (pv 0) (pv 1))))
      (pss_one (ps_ret (pe_tup (p2 (pe_op Own.op_fdivW (pv 0) (pv 2)) (pe_op Own.op_fdivW (pv 1) (pv 2))))))), ?_⟩
  try dsimp only [cxOf]
  have gl := gcd_le (n := n) (d := d) (by omega)
  have gp := gcd_pos (n := n) (d := d) (by omega)
  have hd : CDivW n (Int.gcd n d : Int) := ⟨by omega, by omega⟩
  refine ⟨_, rfl, _, rfl, n, d, rfl, ?_⟩
  refine ⟨_, rfl, _, rfl, _, _, rfl, rfl, hd, _, rfl, _, rfl, _, _, rfl, rfl, hd, (by show 2 ≤ sizeLine; decide), fun p hp => ?_⟩
  exact q _ _ p _ (fr_of (by omega) (.inl rfl) (fdiv_pos_of (by omega) (.inl ⟨by omega, rfl⟩))) (same_new hp _) upd_same
theorem ok_law_is_whole (B : Fx) : Hs "_law_is_whole" ["_law_found"] 1 (spWhole) := by
  refine hs_of B.X B.d10 sc_law_is_whole fun f cdv A outer s H vs Q E nN hr h => ?_
  obtain ⟨n, rfl, q⟩ := h
  refine ⟨_, (pss_one (ps_ret (pe_and (pe_callB Own.call_isi rfl (B.z B.y0) PyProof.Rows.boot_isinstance (p2 (pv 0) (pe_bltn (v := .ty "int") rfl (B.z B.y6) PyProof.Rows.boot_int rfl))) (pe_one (pe_not (pe_callB Own.call_isi rfl (B.z B.y0) PyProof.Rows.boot_isinstance (p2 (pv 0) (pe_bltn (v := .ty "bool") rfl (B.z B.y5) PyProof.Rows.boot_bool rfl)))))))), ?_⟩
  try dsimp only [cxOf]
  refine ⟨_, rfl, _, _, _, _, rfl, .int n, rfl, _, rfl, iteT ?_⟩
  exact ⟨_, rfl, _, _, _, false, rfl, .int n, rfl, _, rfl, q⟩
theorem ok_law_number (B : Fx) : Hs "_law_number" ["_law_pot_here"] 2 (spNumber) := by
  refine hs_of B.X B.d11 sc_law_number fun f cdv A outer s H vs Q E nN hr h => ?_
  obtain ⟨a, rfl, ha, q⟩ := h
  refine ⟨_, (pss_cons (pst 1 nN (pf (ok_law_digit B) hr (p2 (pv 0) pe_int)))
      (pss_cons (ps_if (pt_cmpR op_eq (pv 1) pe_int (nomark _)) (pss_one (ps_ret (pe_op op_sub (pf (ok_law_digit B) hr (p2 (pv 0) pe_int)) pe_int))) pss_nil)
      (pss_cons (ps_if (pt_cmpR op_eq (pv 1) pe_int (nomark _)) (pss_one (ps_ret (pe_op op_sub (pf (ok_law_digit B) hr (p2 (pv 0) pe_int)) pe_int))) pss_nil)
      (pss_cons (pst 2 nN pe_int)
      (pss_cons (pfor (pi_range1 rfl (B.z B.y7) (p1 pe_int)) (pgn 3 nN) (pss_one (pst 2 nN (pe_op op_add (pe_op op_mul (pv 2) (pe_op op_pow pe_int pe_int)) (pf (ok_law_digit B) hr (p2 (pv 0) (pe_op op_pow pe_int pe_int)))))))
      (pss_one (ps_ret (pe_op op_mul (pe_op op_mod (pv 2) (pe_op op_pow pe_int pe_int)) (pe_op op_sub pe_int (pe_op op_mul pe_int (pf (ok_law_digit B) hr (p2 (pv 0) pe_int)))))))))))), ?_⟩
  try dsimp only [cxOf]
  refine ⟨_, rfl, a, 3, rfl, ha, by decide, lit9 (by decide), fun c H1 c0 c1 s1 p1 => ?_⟩
  refine ⟨_, rfl, rfl, _, rfl, ?_⟩
  refine ite2 (fun e => ?_) (fun e => ?_)
  · refine ⟨_, rfl, a, 19, rfl, p1, by decide, lit9 (by decide), fun d H2 d0 d1 s2 p2 => ⟨_, _, rfl, rfl, ?_⟩⟩
    exact q _ _ (by omega) (s1.trans s2) p2
  refine ⟨_, rfl, rfl, _, rfl, ?_⟩
  refine ite2 (fun e => ?_) (fun e => ?_)
  · refine ⟨_, rfl, a, 2000001, rfl, p1, by decide, lit9 (by decide), fun d H2 d0 d1 s2 p2 => ⟨_, _, rfl, rfl, ?_⟩⟩
    exact q _ _ (by omega) (s1.trans s2) p2
  refine ⟨7, rfl, by decide, by decide, for_range (lo := 0) (n := 7) (fun i σ H2 => ∃ (v : Int) (x : Option V), σ = [some (.ref a), some (.int c), some (.int v), x] ∧ SameBut a H H2 ∧ PotAt H2 a)
    ⟨0, none, rfl, s1, p1⟩ ?_ ?_⟩
  · rintro i σ H2 hi ⟨v, x, rfl, s2, p2⟩
    refine ⟨_, rfl, _, _, rfl, rfl, ⟨by decide, by decide, by decide⟩, _, _, rfl, rfl, .inr ⟨by decide, by decide⟩, _, rfl, _, _, rfl, rfl, ⟨by decide, by decide, by decide⟩, a, _, rfl, p2, by decide, lit9 (by decide), fun d H3 d0 d1 s3 p3 => ⟨_, _, rfl, rfl, ?_⟩⟩
    exact ⟨_, _, rfl, s2.trans s3, p3⟩
  · rintro σ H2 ⟨v, x, rfl, s2, p2⟩
    refine ⟨_, rfl, _, _, rfl, rfl, ⟨by decide, by decide, by decide⟩, _, _, rfl, rfl, (by show (0 : Int) < 10 ^ 60; decide), _, rfl, a, 2, rfl, p2, by decide, lit9 (by decide), fun d H3 d0 d1 s3 p3 => ⟨_, _, rfl, rfl, .inl ⟨by decide, by decide⟩, _, _, rfl, rfl, _, _, rfl, rfl, .inr ⟨?_, ?_⟩, ?_⟩⟩
    · show -(2 ^ 64) < 1 - 2 * d
      omega
    · show 1 - 2 * d < 2 ^ 64
      omega
    · refine q _ _ ?_ (s2.trans s3) p3
      show (v % 10 ^ 60 * (1 - 2 * d)).natAbs < 10 ^ 60
      have e0 : 0 ≤ v % 10 ^ 60 := Int.emod_nonneg _ (by decide)
      have e1 : v % 10 ^ 60 < 10 ^ 60 := Int.emod_lt_of_pos _ (by decide)
      generalize v % 10 ^ 60 = u at e0 e1
      rw [Int.natAbs_mul]
      have : (1 - 2 * d).natAbs = 1 := by omega
      rw [this, Nat.mul_one]
      omega
theorem ok_law_drawn (B : Fx) : Hs "_law_drawn" ["_law_pot_here"] 3 (spDrawn) := by
  refine hs_of B.X B.d14 sc_law_drawn fun f cdv A outer s H vs Q E nN hr h => ?_
  obtain ⟨a, rfl, ha, q⟩ := h
  refine ⟨_, (pss_one (ps_ret (pf (ok_law_made B) hr (p2 (pf (ok_law_number B) hr (p1 (pv 0))) (pe_callB (call_max2 rfl) rfl (B.z B.y2) PyProof.Rows.boot_max (p2 pe_int (pe_callB call_abs rfl (B.z B.y3) PyProof.Rows.boot_abs (p1 (pf (ok_law_number B) hr (p1 (pv 0))))))))))), ?_⟩
  try dsimp only [cxOf]
  refine ⟨_, rfl, a, rfl, ha, fun v H1 hv s1 p1 => ⟨_, rfl, a, rfl, p1, fun u H2 hu s2 p2 => ⟨u, rfl, 1, _, rfl, ?_⟩⟩⟩
  rw [abs_eq]
  generalize hm : (if (u.natAbs : Int) > 1 then (u.natAbs : Int) else 1) = m
  have m0 : 0 < m := by rw [← hm]; split <;> omega
  have m1 : m.natAbs < 10 ^ 60 := by rw [← hm]; split <;> omega
  refine ⟨v, m, rfl, m0, up (ten60 m1) (by decide), fun n' d' p H3 fr s3 hp => ?_⟩
  obtain ⟨x, y, hx, hy⟩ := p2
  exact q p n' d' H3 (s1.trans (s2.trans (.of s3))) ⟨x, y, s3 _ _ hx, hy⟩ ⟨hp, fr.pos, fr.co, Nat.lt_of_le_of_lt fr.ln hv, Nat.lt_of_le_of_lt fr.ld m1⟩
--SPLIT
open Txs Mth Dig
theorem sdg_nat (n : Nat) : sdg (n : Int) = dg n := by
  unfold sdg
  rw [if_neg (by omega)]
  rfl
theorem log_60 {n : Nat} (h : n < 10 ^ 60) : n.log2 < 1920 := by
  rcases Nat.eq_zero_or_pos n with rfl | p
  · decide
  · exact (Nat.log2_lt (by omega)).mpr (Nat.lt_of_lt_of_le (Nat.lt_trans h (by decide : 10 ^ 60 < 2 ^ 200)) (Nat.pow_le_pow_right (by decide) (by decide)))
theorem dg_60 {n : Nat} (h : n < 10 ^ 60) : (dg n).length ≤ 60 := dg_len 59 n h
theorem slice_mid (l : List Nat) {a b : Nat} (hab : a ≤ b) (hb : b ≤ l.length) : Txt.slice (tx l) (some (a : Int)) (some (b : Int)) = tx ((l.drop a).take (b - a)) := by
  have := PySem.StrLaws.sliceText_nat (tx l) hab (by rw [tx_len]; exact hb)
  rw [show Txt.slice (tx l) (some (a : Int)) (some (b : Int)) = PySem.StrLaws.sliceText (tx l) (some (a : Int)) (some (b : Int)) from rfl, this]
  simp [tx]
theorem keep_upd {H H1 : Hp} {p : Addr} {o : HO} (n : H p = none) (g : Same H H1) : Same H (upd H1 p o) := fun c u e => by rw [upd_ne (ne_of_none e n)]; exact g _ _ e
theorem smallB {n : Nat} (h : n ≤ 60000) : n < sizeLine := Nat.lt_of_le_of_lt h (by rw [sizeLine_eq]; decide)
theorem asc_tx {l : List Nat} (h : ∀ c ∈ l, c < 128) : Asc (tx l) := by
  unfold Asc
  rw [Array.all_eq_true]
  intro i hi
  have hi' : i < l.length := by simpa [tx] using hi
  have : (tx l).cps[i] ∈ l := by simp [tx]
  exact decide_eq_true (h _ this)
theorem map_snoc {α β : Type} (f : α → β) {ps : List α} {i : Nat} {p : α} (h : ps[i]? = some p) : (ps.take (i + 1)).map f = (ps.take i).map f ++ [f p] := by
  rw [List.take_add_one, h, List.map_append]
  rfl
theorem ifs_two {c : TT} {t u r : TS} {D : Ends} {σ : St} {H : Hp} (I : St → Hp → Prop) (k : ∀ σ H, I σ H → r D σ H) (h : (∀ σ H, I σ H → r D σ H) → tSeq (tIfS c t u) r D σ H) : tSeq (tIfS c t u) r D σ H := h k
theorem pssD {X : Cx} {l : List Stmt} : PSs X l (fun _ _ _ => False) := fun _ _ _ _ _ _ h => h.elim
inductive spFigs (vs : List V) (H : Hp) (Q : VK) (Y : XK) : Prop
  | mk : ∀ (n : Nat), (vs = [.int n]) → (n < 10 ^ 60) → (∀ H', Same H H' → Q (.str (tx (dg n))) H') → spFigs vs H Q Y
theorem ok_figures_of (B : Fx) : Hs "figures_of" ["number"] 1 (spFigs) := by
  refine hs_of B.X B.d2 sc_figures_of fun f cdv A outer s H vs Q E nN hr h => ?_
  obtain ⟨n, rfl, hn, k⟩ := h
  refine ⟨_, (pss_cons (pst 1 nN (pe_lst pa_nil))
      (pss_cons (ps_while PassesOwn.never (pt_cmpR op_ge (pv 0) (pe_op op_pow pe_int pe_int) (nomark _)) pssD)
      (pss_cons (ps_expr (m_list PySem.F.slot_list_append PySem.F.type_list_append mt_append (pv 1) (p1 (pe_callTy call_str_int rfl (B.z B.y8) PyProof.Rows.boot_str (p1 (pv 0))))))
      (pss_one (ps_ret (pe_bm PySem.F.plainAttrs_str PySem.F.slot_str_join PySem.F.type_str_join mt_join pe_str (p1 (pe_revL (pv 1) (po_some (pe_un un_neg pe_int)))))))))), ?_⟩
  try dsimp only [cxOf]
  refine ⟨(by show 0 ≤ sizeLine; decide), fun p np => ?_⟩
  have g1 := same_new np (.lst [])
  have e1 := upd_same (H := H) (a := p) (o := .lst [])
  generalize upd H p (.lst []) = H1 at *
  dsimp only [gName]
  refine while_by (fun σ H' => σ = [some (.int n), some (.ref p), none] ∧ H' = H1) (fun _ _ => 0) ⟨rfl, rfl⟩ ?_ ?_
  rotate_left
  · rintro σ H1 Q1 Q2 m ⟨v, e1, i1, j1, e3, e4, c, i2, j2, e5, e6, bb, e7, q1⟩
    exact ⟨v, e1, i1, j1, e3, e4, c, i2, j2, e5, e6, bb, e7, m _ _ q1⟩
  rintro σ H' ⟨rfl, rfl⟩
  refine ⟨_, rfl, _, _, rfl, rfl, ⟨by decide, by decide, by decide⟩, _, _, rfl, rfl, _, rfl, ?_⟩
  rw [decide_eq_false (show ¬ ((10 : Int) ^ (60 : Int).toNat ≤ (n : Int)) by show ¬ ((10 : Int) ^ 60 ≤ (n : Int)); omega)]
  refine iteF ?_
  refine ⟨_, rfl, .inl ⟨rfl, _, SqL.of e1⟩, _, rfl, _, rfl, log_60 hn, p, _, _, rfl, rfl, e1, (by show 0 < sizeLine; decide), ?_⟩
  rw [str_int, sdg_nat]
  have e2 := upd_same (H := H') (a := p) (o := .lst ([] ++ [V.str (tx (dg n))]))
  have g2 : Same H (upd H' p (.lst ([] ++ [V.str (tx (dg n))]))) := keep_upd np g1
  generalize upd H' p (.lst ([] ++ [V.str (tx (dg n))])) = H2 at *
  refine ⟨rfl, _, rfl, _, rfl, -1, rfl, p, _, rfl, rfl, e2, fun q nq => ?_⟩
  have g3 := same_new nq (.lst ([] ++ [V.str (tx (dg n))]).reverse)
  have ll := dg_60 hn
  refine ⟨_, _, [tx (dg n)], rfl, rfl, SqL.of upd_same, joinOk_of (B := 60) (fun z hz => by rw [List.mem_singleton.mp hz, tx_len]; exact ll) (by show 1 * 60 + 1 * 0 ≤ _; decide), ?_⟩
  rw [show (Str.ofString "" : Str) = tx [] from rfl, show [tx (dg n)] = [dg n].map tx from rfl, join_nil]
  rw [List.flatten_cons, List.flatten_nil, List.append_nil]
  exact k _ (g2.trans g3)
inductive spNum (vs : List V) (H : Hp) (Q : VK) (Y : XK) : Prop
  | mk : ∀ (l : List Nat), (vs = [.str (tx l)]) → (∀ c ∈ l, 48 ≤ c ∧ c ≤ 57) → (l.length ≤ 60) → (∀ H', Same H H' → Q (.int (NumText.digitsVal l : Nat)) H') → spNum vs H Q Y
theorem ok_number_of (B : Fx) : Hs "number_of" ["figures"] 1 (spNum) := by
  refine hs_of B.X B.d3 sc_number_of fun f cdv A outer s H vs Q E nN hr h => ?_
  obtain ⟨l, rfl, hd, hl, k⟩ := h
  obtain ⟨u_PIECE, m_PIECE, r_PIECE⟩ := cv_of B.X B.vPIECE
  refine ⟨_, (pss_cons (pst 1 nN (pe_op op_mod (pe_callB call_len_str rfl (B.z B.y9) PySem.boot_len (p1 (pv 0))) (pe_glob rfl m_PIECE r_PIECE)))
      (pss_cons (pst 2 nN (pe_callTy call_intS rfl (B.z B.y6) PyProof.Rows.boot_int (p1 (pe_op op_add_str pe_str (pe_slice sl_str (pv 0) po_none (po_some (pv 1)))))))
      (pss_cons (pfor (pi_range60 rfl (B.z B.y7) (pa_cons (pv 1) (pa_cons (pe_callB call_len_str rfl (B.z B.y9) PySem.boot_len (p1 (pv 0))) (pa_cons (pe_glob rfl m_PIECE r_PIECE) pa_nil)))) (pgn 3 nN) (pss_one (pst 2 nN (pe_op op_add (pe_op op_mul (pv 2) (pe_op op_pow pe_int pe_int)) (pe_callTy call_intS rfl (B.z B.y6) PyProof.Rows.boot_int (p1 (pe_slice sl_str (pv 0) (po_some (pv 3)) (po_some (pe_op op_add (pv 3) (pe_glob rfl m_PIECE r_PIECE))))))))))
      (pss_one (ps_ret (pv 2)))))), ?_⟩
  try dsimp only [cxOf]
  have sz : (tx l).length ≤ sizeLine := by rw [tx_len]; exact small (by omega)
  refine ⟨_, rfl, _, rfl, sz, _, _, rfl, rfl, (by show (0 : Int) < 60; decide), ?_⟩
  rw [tx_len, show ((l.length : Nat) : Int) % 60 = ((l.length % 60 : Nat) : Int) by omega]
  have fl : l.length % 60 ≤ l.length := Nat.mod_le _ _
  generalize hf : l.length % 60 = f at fl ⊢
  have cs : (f = l.length ∧ l.length < 60) ∨ (f = 0 ∧ l.length = 60) := by omega
  refine ⟨_, rfl, _, rfl, _, rfl, _, rfl, sz, ?_⟩
  rw [slice_to _ fl, show (Str.ofString "0" : Str) = tx [48] from rfl]
  refine ⟨_, _, rfl, rfl, (by rw [tx_len, tx_len, List.length_take]; exact small (by first | omega | (simp; omega) | simp)), ?_⟩
  rw [tx_app]
  refine ⟨_, ((NumText.digitsVal (l.take f) : Nat) : Int), rfl, read_dig (l := 48 :: l.take f) (fun z => nomatch z) (fun c hc => ?_) (by rw [List.length_cons, List.length_take]; omega), (by rw [tx_len, List.length_append, List.length_take]; first | omega | (simp; omega) | simp), ?_⟩
  · rcases List.mem_cons.mp hc with rfl | hc
    · decide
    · exact hd c (List.mem_of_mem_take hc)
  refine ⟨_, rfl, _, rfl, _, rfl, sz, (f : Int), (l.length : Int), (by rw [tx_len]), ⟨by omega, by omega, by omega⟩, for_60 (fun i σ H' => ∃ (x3 : Option V), σ = [some (.str (tx l)), some (.int f), some (.int ((NumText.digitsVal (l.take (f + i * 60)) : Nat) : Int)), x3] ∧ H' = H) ⟨none, rfl, rfl⟩ ?_ ?_⟩
  · rintro i σ H' hi ⟨x3, rfl, rfl⟩
    unfold num60 at hi
    obtain ⟨rfl, l60⟩ : f = 0 ∧ l.length = 60 := by omega
    obtain rfl : i = 0 := by omega
    refine ⟨_, rfl, _, _, rfl, rfl, ⟨by decide, by decide, by decide⟩, _, _, rfl, rfl, .inl ⟨by show (-(2 ^ 64) : Int) < 0; decide, by show (0 : Int) < 2 ^ 64; decide⟩, _, rfl, _, rfl, _, rfl, _, rfl, _, _, rfl, rfl, _, rfl, _, rfl, sz, ?_⟩
    have e : Txt.slice (tx l) (some (((0 : Nat) : Int) + ((0 : Nat) : Int) * 60)) (some (((0 : Nat) : Int) + ((0 : Nat) : Int) * 60 + 60)) = tx l := by
      have := slice_mid l (a := 0) (b := 60) (by decide) (by omega)
      rw [List.drop_zero, Nat.sub_zero, List.take_of_length_le (by omega)] at this
      exact this
    rw [e]
    refine ⟨_, ((NumText.digitsVal l : Nat) : Int), rfl, read_dig (fun z => by rw [z] at l60; cases l60) hd (by omega), (by rw [tx_len]; omega), _, _, rfl, rfl, ?_⟩
    have ev : ((NumText.digitsVal (l.take (0 + 0 * 60)) : Nat) : Int) * 10 ^ Int.toNat 60 + ((NumText.digitsVal l : Nat) : Int) = ((NumText.digitsVal (l.take (0 + (0 + 1) * 60)) : Nat) : Int) := by
      rw [List.take_of_length_le (i := 0 + (0 + 1) * 60) (by omega)]
      show (0 : Int) * _ + _ = _
      rw [Int.zero_mul, Int.zero_add]
    rw [ev]
    exact ⟨_, rfl, rfl⟩
  · rintro σ H' ⟨x3, rfl, rfl⟩
    refine ⟨_, rfl, ?_⟩
    rw [List.take_of_length_le (by unfold num60; omega)]
    exact k _ (Same.refl _)
def figs (l : List Nat) : Bool := decide (l ≠ [] ∧ ∀ c ∈ l, 48 ≤ c ∧ c ≤ 57)
inductive spAre (vs : List V) (H : Hp) (Q : VK) (Y : XK) : Prop
  | mk : ∀ (l : List Nat), (vs = [.str (tx l)]) → (∀ c ∈ l, c < 128) → (l.length ≤ 900) → (∀ H', Same H H' → Q (.bl (figs l)) H') → spAre vs H Q Y
theorem ok_are_figures (B : Fx) : Hs "are_figures" ["text"] 1 (spAre) := by
  refine hs_of B.X B.d4 sc_are_figures fun f cdv A outer s H vs Q E nN hr h => ?_
  obtain ⟨l, rfl, ok, hl, k⟩ := h
  obtain ⟨u_FIGURES, m_FIGURES, r_FIGURES⟩ := cv_of B.X B.vFIGURES
  refine ⟨_, (pss_one (ps_ret (pe_and (pe_cmpR op_ne (pv 0) pe_str (nomark _)) (pe_one (pe_callB (call_allL rfl) rfl (B.z B.y10) PyProof.Rows.boot_all (p1 (pe_lc1x (Nc := ["mark"]) (js := [none]) rfl rfl (pi_str (pv 0)) (CS.of rfl rfl) rfl (fun C s₂ H₂ fp pins => (pgc 0)) (fun C s₂ H₂ fp pins D L => (pt_tail0 (pb_app (pe_cmpR op_in_str (pv 0) (pe_glob rfl m_FIGURES r_FIGURES) rfl))))))))))), ?_⟩
  try dsimp only [cxOf]
  refine ⟨_, rfl, rfl, _, rfl, ?_⟩
  by_cases h0 : l = []
  · subst h0
    rw [decide_eq_true (show V.str (tx []) = V.str (Str.ofString "") from rfl)]
    refine iteF ?_
    exact k H (Same.refl H)
  rw [decide_eq_false (show ¬ V.str (tx l) = V.str (Str.ofString "") from fun z => h0 (tx_inj (b := []) (V.str.inj z)))]
  refine iteT ?_
  refine ⟨_, rfl, _, rfl, asc_tx ok, fun C nC => ?_⟩
  have kC := same_new nC (.lst [])
  refine walk_str (fun i σ H2 => ∃ (x0 : Option V), σ = [x0] ∧ Same H H2 ∧ H2 C = some (.lst (((l.take i).map fun c => decide (48 ≤ c ∧ c ≤ 57)).map V.bl))) ⟨none, rfl, kC, upd_same⟩ ?_ ?_
  · rintro i c σ H2 hc ⟨x0, rfl, g2, hC⟩
    rw [tx_at] at hc
    have hi := (List.getElem?_eq_some_iff.mp hc).1
    refine ⟨_, rfl, tx [c], _, rfl, rfl, ?_⟩
    rw [show (Str.ofString "0123456789" : Str) = tx [48, 49, 50, 51, 52, 53, 54, 55, 56, 57] by decide +kernel, in_one]
    refine ⟨_, hC, small1000 (by rw [List.length_map, List.length_map, List.length_take]; omega), _, rfl, keep_upd nC g2, ?_⟩
    rw [map_snoc _ hc, List.map_append, upd_same]
    have : decide (c ∈ [48, 49, 50, 51, 52, 53, 54, 55, 56, 57]) = decide (48 ≤ c ∧ c ≤ 57) := by
      rw [decide_eq_decide]
      simp
      omega
    rw [this]
    rfl
  · rintro σ H2 ⟨x0, rfl, g2, hC⟩
    rw [tx_size, List.take_length] at hC
    refine ⟨C, _, rfl, SqL.of hC, ?_⟩
    have e : (l.map fun c => decide (48 ≤ c ∧ c ≤ 57)).all id = figs l := by
      unfold figs
      rw [Bool.eq_iff_iff, List.all_map, List.all_eq_true, decide_eq_true_iff]
      exact ⟨fun z => ⟨h0, fun c hc => of_decide_eq_true (z c hc)⟩, fun z c hc => decide_eq_true (z.2 c hc)⟩
    rw [e]
    exact k H2 g2
inductive spFT (vs : List V) (H : Hp) (Q : VK) (Y : XK) : Prop
  | mk : ∀ (p : Addr) (n : Int) (d : Nat), (vs = [.ref p]) → (H p = some (.tup [.int n, .int d])) → (n.natAbs < 10 ^ 60) → (d < 10 ^ 60) → (∀ H', Same H H' → Q (.str (tx (ft n d))) H') → spFT vs H Q Y
theorem ok_fraction_text (B : Fx) : Hs "fraction_text" ["one"] 2 (spFT) := by
  refine hs_of B.X B.d5 sc_fraction_text fun f cdv A outer s H vs Q E nN hr h => ?_
  obtain ⟨p, n, d, rfl, hp, hn, hd, k⟩ := h
  refine ⟨_, (pss_cons (ps_asg (pv 0) (pg_tup (n := 2) rfl (pgs_cons (pgn 1 nN) (pgs_cons (pgn 2 nN) pgs_nil))))
      (pss_cons (pst 3 nN (pf (ok_figures_of B) hr (p1 (pe_callB call_abs rfl (B.z B.y3) PyProof.Rows.boot_abs (p1 (pv 1))))))
      (pss_cons (ps_if (pt_cmpR op_lt (pv 1) pe_int (nomark _)) (pss_one (pst 3 nN (pe_op op_add_str pe_str (pv 3)))) pss_nil)
      (pss_one (ps_ret (pe_ifExp (pt_cmpR op_eq (pv 2) pe_int (nomark _)) (pv 3) (pe_op op_add_str (pe_op op_add_str (pv 3) pe_str) (pf (ok_figures_of B) hr (p1 (pv 2)))))))))), ?_⟩
  try dsimp only [cxOf]
  refine ⟨_, rfl, p, _, rfl, SqT.of hp, rfl, _, _, rfl, _, _, rfl, rfl, ?_⟩
  refine ⟨_, rfl, n, rfl, n.natAbs, (by rw [abs_eq]; rfl), hn, fun H1 g1 => ?_⟩
  have ln := dg_60 hn
  have ld := dg_60 hd
  have ls : (sdg n).length ≤ 61 := by unfold sdg; split <;> (first | omega | (simp; omega))
  dsimp only [gName]
  refine ifs_two (I := fun σ H' => σ = [some (.ref p), some (.int n), some (.int d), some (.str (tx (sdg n)))] ∧ Same H H') ?_ (fun j => ?_)
  rotate_left
  · refine ⟨_, rfl, _, _, rfl, rfl, _, rfl, ?_⟩
    by_cases c : n < 0
    · rw [decide_eq_true c]
      refine iteT ?_
      refine ⟨_, rfl, _, _, rfl, rfl, (by rw [tx_len, show (Str.ofString "-" : Str) = tx [45] from rfl, tx_len]; exact small (by first | omega | (simp; omega) | simp)), ?_⟩
      rw [show (Str.ofString "-" : Str) = tx [45] from rfl, tx_app]
      refine j _ _ ⟨?_, g1⟩
      rw [show sdg n = [45] ++ dg n.natAbs by unfold sdg; rw [if_pos c]; rfl]
      rfl
    · rw [decide_eq_false c]
      refine iteF ?_
      refine j _ _ ⟨?_, g1⟩
      rw [show sdg n = dg n.natAbs by unfold sdg; rw [if_neg c]]
      rfl
  · rintro σ H2 ⟨rfl, g2⟩
    refine ⟨_, rfl, rfl, _, rfl, ?_⟩
    by_cases c : d = 1
    · subst c
      rw [decide_eq_true (show V.int ((1 : Nat) : Int) = V.int 1 from rfl)]
      refine iteT ⟨_, rfl, ?_⟩
      have := k H2 g2
      unfold ft at this
      rw [if_pos rfl, List.append_nil] at this
      exact this
    · rw [decide_eq_false (show ¬ V.int ((d : Nat) : Int) = V.int 1 from fun z => c (by injection z with z; omega))]
      refine iteF ?_
      refine ⟨_, rfl, _, _, rfl, rfl, (by rw [tx_len, show (Str.ofString "/" : Str) = tx [47] from rfl, tx_len]; exact small (by first | omega | (simp; omega) | simp)), _, rfl, d, rfl, hd, fun H3 g3 => ?_⟩
      rw [show (Str.ofString "/" : Str) = tx [47] from rfl, tx_app]
      refine ⟨_, _, rfl, rfl, (by rw [tx_len, tx_len, List.length_append]; exact small (by first | omega | (simp; omega) | simp)), ?_⟩
      rw [tx_app]
      have := k H3 (g2.trans g3)
      unfold ft at this
      rw [if_neg c] at this
      rw [List.append_assoc]
      exact this
--SPLIT
open Txs Mth Dig
theorem starts_one (l : List Nat) (c : Nat) : Txt.startswith (tx l) (tx [c]) = (l.head? == some c) := by
  have key : (Txt.startswith (tx l) (tx [c]) = true) ↔ l[0]? = some c := by
    rw [← at_one l c 0]
    unfold Txt.startswith PySem.StrLaws.At
    rw [Bool.and_eq_true, decide_eq_true_iff]
    simp only [tx_len]
  rw [Bool.eq_iff_iff, key, ← List.head?_eq_getElem?]
  simp
theorem until_none {c : Nat} : ∀ {l r : List Nat}, c ∉ l → (l ++ r).takeWhile (· != c) = l ++ r.takeWhile (· != c) ∧ (l ++ r).dropWhile (· != c) = r.dropWhile (· != c)
  | [], r, _ => ⟨rfl, rfl⟩
  | a :: l, r, h => by
    have ne : (a != c) = true := by
      have : a ≠ c := fun z => h (by rw [z]; exact List.mem_cons_self)
      simpa using this
    obtain ⟨h1, h2⟩ := until_none (l := l) (r := r) fun z => h (List.mem_cons_of_mem _ z)
    rw [List.cons_append, List.takeWhile_cons_of_pos (p := fun x => x != c) ne, List.dropWhile_cons_of_pos (p := fun x => x != c) ne, h1, h2]
    exact ⟨rfl, rfl⟩
theorem part_one (l : List Nat) (c : Nat) : Txt.partition (tx l) (tx [c]) = (tx (l.takeWhile (· != c)), tx (if c ∈ l then [c] else []), tx (l.dropWhile (· != c)).tail) := by
  unfold Txt.partition
  rcases PySem.StrLaws.occ_head (tx l) (tx [c]) 1 (Nat.le_refl 1) with ⟨h0, hn⟩ | ⟨i, r, h0, hi, hn⟩
  · rw [h0]
    have n : c ∉ l := fun z => by
      obtain ⟨i, hi, e⟩ := List.getElem_of_mem z
      exact hn i (by rw [tx_len]; exact (at_one l c i).mpr (by rw [List.getElem?_eq_getElem hi, e]))
    have u := until_none (r := []) n
    rw [List.append_nil] at u
    rw [u.1, u.2, if_neg n, List.takeWhile_nil, List.append_nil]
    rfl
  · rw [h0]
    rw [tx_len] at hi hn
    have ei := (at_one l c i).mp hi
    have li := (List.getElem?_eq_some_iff.mp ei).1
    have n : c ∉ l.take i := fun z => by
      obtain ⟨k, hk, e⟩ := List.getElem_of_mem z
      rw [List.length_take] at hk
      refine hn k (by omega) ((at_one l c k).mpr ?_)
      rw [List.getElem_take] at e
      rw [List.getElem?_eq_getElem (by omega), e]
    have el : l = l.take i ++ c :: l.drop (i + 1) := by
      have := List.take_append_drop i l
      rw [List.drop_eq_getElem_cons li] at this
      rw [List.getElem?_eq_getElem li] at ei
      rw [Option.some.inj ei] at this
      exact this.symm
    have u := until_none (c := c) (r := c :: l.drop (i + 1)) n
    rw [← el] at u
    have m : c ∈ l := List.mem_of_getElem? ei
    have t0 : (c :: l.drop (i + 1)).takeWhile (· != c) = [] := by simp
    have d0 : (c :: l.drop (i + 1)).dropWhile (· != c) = c :: l.drop (i + 1) := by simp
    rw [u.1, u.2, t0, d0, if_pos m, List.append_nil]
    show (Builtin.Str.strSub (tx l) 0 i, tx [c], Builtin.Str.strSub (tx l) (i + (tx [c]).length) (tx l).length) = _
    rw [sub_tx, sub_tx, tx_len, tx_len, List.drop_zero, Nat.sub_zero]
    show (_, _, tx (List.take (l.length - (i + 1)) (List.drop (i + 1) l))) = _
    have tk : List.take (l.length - (i + 1)) (List.drop (i + 1) l) = List.drop (i + 1) l := List.take_of_length_le (by rw [List.length_drop]; exact Nat.le_refl _)
    have tk0 : List.take i l = List.take i l := rfl
    rw [tk]
    rfl
theorem slice_from (l : List Nat) {n : Nat} (h : n ≤ l.length) : Txt.slice (tx l) (some (n : Int)) none = tx (l.drop n) := by
  have e : (tx l).cps.toList = l := by simp [tx]
  have := PySem.StrLaws.sliceText_from (x := tx l) (i := (n : Int)) ⟨by omega, by rw [e]; omega⟩
  rw [show Txt.slice (tx l) (some (n : Int)) none = PySem.StrLaws.sliceText (tx l) (some (n : Int)) none from rfl, this, e, Int.toNat_natCast]
  rw [List.take_of_length_le (by rw [List.length_drop]; omega)]
  rfl
/-- texts that read_fraction is asked of here -/
structure PreR (l : List Nat) : Prop where
  ok : ∀ c ∈ l, c < 128
  len : l.length ≤ 200
  u : figs (fg l) = true → (fg l).length ≤ 60
  b : figs (dn l) = true → (dn l).length ≤ 60
def lo (l : List Nat) : List Nat := if sk l then dn l else [49]
def vU (l : List Nat) : Int := if ng l then -((NumText.digitsVal (fg l) : Nat) : Int) else ((NumText.digitsVal (fg l) : Nat) : Int)
/-- it may be a fraction's text -/
structure May (l : List Nat) : Prop where
  u : figs (fg l) = true
  b : figs (lo l) = true
  nz : NumText.digitsVal (lo l) ≠ 0
inductive spLoose (vs : List V) (H : Hp) (Q : VK) (Y : XK) : Prop
  | mk : ∀ (l : List Nat), (vs = [.str (tx l)]) → PreR l → (∀ H', Same H H' → ¬ May l → Q .non H') → (∀ (n' d' : Int) (p : Addr) (H' : Hp), May l → Fr (vU l) ((NumText.digitsVal (lo l) : Nat) : Int) n' d' → Same H H' → H' p = some (.tup [.int n', .int d']) → Q (.ref p) H') → spLoose vs H Q Y
theorem ok_loosely_read (B : Fx) : Hs "loosely_read" ["text"] 3 (spLoose) := by
  refine hs_of B.X B.d6 sc_loosely_read fun f cdv A outer s H vs Q E nN hr h => ?_
  obtain ⟨l, rfl, pr, kn, ks⟩ := h
  refine ⟨_, (pss_cons (pst 1 nN (pe_bm PySem.F.plainAttrs_str PySem.F.slot_str_startswith PySem.F.type_str_startswith mt_startswith (pv 0) (p1 pe_str)))
      (pss_cons (ps_asg (pe_bm PySem.F.plainAttrs_str PySem.F.slot_str_partition PySem.F.type_str_partition mt_partition (pe_ifExp (pt_val (pv 1)) (pe_slice sl_str (pv 0) (po_some pe_int) po_none) (pv 0)) (p1 pe_str)) (pg_tup (n := 3) rfl (pgs_cons (pgn 2 nN) (pgs_cons (pgn 3 nN) (pgs_cons (pgn 4 nN) pgs_nil)))))
      (pss_cons (ps_if (pt_cmpR op_eq (pv 3) pe_str (nomark _)) (pss_one (pst 4 nN pe_str)) pss_nil)
      (pss_cons (ps_if (PW.pt (pw_or (pt_not (pt_val (pf (ok_are_figures B) hr (p1 (pv 2))))) (pw_or1 (pt_not (pt_val (pf (ok_are_figures B) hr (p1 (pv 4)))))))) (pss_one (ps_ret pe_non)) pss_nil)
      (pss_cons (pst 5 nN (pf (ok_number_of B) hr (p1 (pv 2))))
      (pss_cons (pst 6 nN (pf (ok_number_of B) hr (p1 (pv 4))))
      (pss_one (ps_ret (pe_ifExp (pt_cmpR op_eq (pv 6) pe_int (nomark _)) pe_non (pf (ok_fraction B) hr (p2 (pe_ifExp (pt_val (pv 1)) (pe_un un_neg (pv 5)) (pv 5)) (pv 6)))))))))))), ?_⟩
  try dsimp only [cxOf]
  have len := pr.len
  refine ⟨_, rfl, rfl, tx l, tx [45], rfl, rfl, ?_⟩
  rw [starts_one]
  have hl : (l.head? == some 45) = ng l := rfl
  rw [hl]
  -- the text without its sign
  have body : ∀ {R : VK}, R (.str (tx (bd l))) H → (tIf (tB (tVar 1)) (tSl rSlS (tVar 0) (tPart (tC (V.int 1))) tNoPart) (tVar 0)) [some (.str (tx l)), some (.bl (ng l)), none, none, none, none, none] H R := fun {R} h => by
    refine ⟨_, rfl, _, rfl, ?_⟩
    unfold bd at h
    cases e : ng l with
    | true =>
      rw [e] at h
      refine iteT ⟨_, rfl, _, rfl, _, rfl, (by rw [tx_len]; exact small (by omega)), ?_⟩
      have l1 : 1 ≤ l.length := by
        cases l with
        | nil => cases e
        | cons a r => simp
      have s1 := slice_from l l1
      rw [show (((1 : Nat) : Int)) = 1 from rfl] at s1
      rw [s1, List.drop_one]
      exact h
    | false =>
      rw [e] at h
      exact iteF ⟨_, rfl, h⟩
  have lb : (bd l).length ≤ 200 := by unfold bd; split <;> (first | omega | (rw [List.length_tail]; omega))
  refine body ?_
  refine ⟨rfl, tx (bd l), tx [47], rfl, rfl, (by rw [tx_len]; decide), (by rw [tx_len]; exact small (by omega)), fun q nq => ?_⟩
  rw [part_one]
  have g1 := same_new nq (.tup [V.str (tx (List.takeWhile (fun x => x != 47) (bd l))), V.str (tx (if 47 ∈ bd l then [47] else [])), V.str (tx (List.dropWhile (fun x => x != 47) (bd l)).tail)])
  refine ⟨q, _, rfl, SqT.of upd_same, rfl, _, _, rfl, _, _, rfl, _, _, rfl, rfl, ?_⟩
  dsimp only [gName]
  generalize upd H q (.tup [V.str (tx (List.takeWhile (fun x => x != 47) (bd l))), V.str (tx (if 47 ∈ bd l then [47] else [])), V.str (tx (List.dropWhile (fun x => x != 47) (bd l)).tail)]) = H1 at g1 ⊢
  refine ifs_two (I := fun σ H' => H' = H1 ∧ ∃ x3, σ = [some (.str (tx l)), some (.bl (ng l)), some (.str (tx (fg l))), x3, some (.str (tx (lo l))), none, none]) ?_ (fun j => ?_)
  rotate_left
  · refine ⟨_, rfl, rfl, _, rfl, ?_⟩
    by_cases m : 47 ∈ bd l
    · rw [if_pos m, decide_eq_false (show ¬ V.str (tx [47]) = V.str (Str.ofString "") from fun z => by have := tx_inj (a := [47]) (b := []) (V.str.inj z); cases this)]
      refine iteF (j _ _ ⟨rfl, some (.str (tx [47])), ?_⟩)
      rw [show lo l = dn l by unfold lo sk; rw [decide_eq_true m]; rfl]
      rfl
    · rw [if_neg m, decide_eq_true (show V.str (tx []) = V.str (Str.ofString "") from rfl)]
      refine iteT (j _ _ ⟨rfl, some (.str (tx [])), ?_⟩)
      rw [show lo l = [49] by unfold lo sk; rw [decide_eq_false m]; rfl]
      rfl
  rintro σ H' ⟨rfl, x3, rfl⟩
  have ob : ∀ c ∈ bd l, c < 128 := fun c hc => pr.ok c (by unfold bd at hc; split at hc; exact List.mem_of_mem_tail hc; exact hc)
  have ou : ∀ c ∈ fg l, c < 128 := fun c hc => ob c (List.takeWhile_subset _ hc)
  have od : ∀ c ∈ lo l, c < 128 := fun c hc => by
    unfold lo at hc
    split at hc
    · exact ob c (List.dropWhile_subset _ (List.mem_of_mem_tail hc))
    · rw [List.mem_singleton.mp hc]; decide
  have lu : (fg l).length ≤ 200 := Nat.le_trans (List.takeWhile_sublist _).length_le lb
  have ld : (lo l).length ≤ 200 := by
    unfold lo
    split
    · unfold dn
      rw [List.length_tail]
      have := (List.dropWhile_sublist (fun x => x != 47) (l := bd l)).length_le
      omega
    · decide
  refine ⟨_, rfl, fg l, rfl, ou, by omega, fun H2 g2 => ⟨_, rfl, ?_⟩⟩
  cases eu : figs (fg l) with
  | false => exact iteT (iteT (kn H2 (g1.trans g2) fun m => by rw [m.u] at eu; cases eu))
  | true =>
  refine iteF ?_
  refine ⟨_, rfl, lo l, rfl, od, by omega, fun H3 g3 => ⟨_, rfl, ?_⟩⟩
  have g13 := g1.trans (g2.trans g3)
  cases ed : figs (lo l) with
  | false => exact iteT (kn H3 g13 fun m => by rw [m.b] at ed; cases ed)
  | true =>
  refine iteF ?_
  have du : ∀ c ∈ fg l, 48 ≤ c ∧ c ≤ 57 := (of_decide_eq_true eu).2
  have dd : ∀ c ∈ lo l, 48 ≤ c ∧ c ≤ 57 := (of_decide_eq_true ed).2
  have lu := pr.u eu
  have ld : (lo l).length ≤ 60 := by
    unfold lo at ed ⊢
    split
    · rename_i h
      rw [h] at ed
      exact pr.b ed
    · decide
  refine ⟨_, rfl, fg l, rfl, du, lu, fun H4 g4 => ?_⟩
  refine ⟨_, rfl, lo l, rfl, dd, ld, fun H5 g5 => ?_⟩
  have g15 := g13.trans (g4.trans g5)
  refine ⟨_, rfl, rfl, _, rfl, ?_⟩
  by_cases z : NumText.digitsVal (lo l) = 0
  · rw [decide_eq_true (show V.int ((NumText.digitsVal (lo l) : Nat) : Int) = V.int 0 by rw [z]; rfl)]
    exact iteT (kn H5 g15 fun m => m.nz z)
  rw [decide_eq_false (show ¬ V.int ((NumText.digitsVal (lo l) : Nat) : Int) = V.int 0 from fun q => z (by injection q with q; omega))]
  refine iteF ?_
  have hb : ((NumText.digitsVal (lo l) : Nat) : Int).natAbs < 2 ^ 9000 := by
    have h1 := val_lt (lo l) dd
    have h2 : NumText.digitsVal (lo l) < 10 ^ 60 := Nat.lt_of_lt_of_le h1 (Nat.pow_le_pow_right (by decide) ld)
    exact lit9 (by rw [Int.natAbs_natCast]; exact ten60 h2)
  have m : May l := ⟨eu, ed, z⟩
  have arg : ∀ {R : VK}, R (.int (vU l)) H5 → (tIf (tB (tVar 1)) (tUn (rU fun i => V.int (-i)) (tVar 5)) (tVar 5)) [some (.str (tx l)), some (.bl (ng l)), some (.str (tx (fg l))), x3, some (.str (tx (lo l))), some (.int ((NumText.digitsVal (fg l) : Nat) : Int)), some (.int ((NumText.digitsVal (lo l) : Nat) : Int))] H5 R := fun {R} h => by
    refine ⟨_, rfl, _, rfl, ?_⟩
    unfold vU at h
    cases e : ng l with
    | true =>
      rw [e] at h
      exact iteT ⟨_, rfl, _, rfl, h⟩
    | false =>
      rw [e] at h
      exact iteF ⟨_, rfl, h⟩
  refine arg ?_
  exact ⟨_, rfl, vU l, _, rfl, (by omega), hb, fun n' d' p H6 fr g6 hp => ks n' d' p H6 m fr (g15.trans g6) hp⟩
--SPLIT
open Txs Mth Dig
theorem ok_init_D {f : Addr} {fd : FuncData} (F : Fun K "__init__" "DrawError.__init__" s_init_DrawError f fd) (z : mg "ValueError" = none) (vf : PySem.W.findCls K (.type "ValueError") (.type "type") "__init__" = some (.val (.builtin "ValueError.__init__"))) :
    FnOk P w K mg base CX0 1 f fd ["self", "words"] (spInitD K) := by
  refine Fun.ok F sc_init_DrawError (fun vs H Q E h => ?_) (fun cdv A outer s H vs Q E hr h => ?_)
  · obtain ⟨a, C, x, rfl, _⟩ := h
    rfl
  obtain ⟨a, C, x, rfl, ha, x0, hv, q⟩ := h
  refine ⟨_, (pss_one (ps_expr (pe_vinit rfl z vf (pa_cons (pv 0) (pa_cons (pv 1) pa_nil))))), ?_⟩
  exact ⟨_, rfl, _, rfl, a, C, none, _, rfl, ha, x0, hv, by simp, q⟩
theorem ok_words {C : Addr} {y : Str} {H : Hp} {E : XK} (ve : PySem.W.mroIn K C (.type "ValueError") = some true) (x0 : Ex.XK0 K C) (q : ∀ H', Same H H' → E (.ref C) none H') :
    ∀ a, H a = none → spInitD K [.ref a, .str y] (upd H a (.ext (XO a C none .none))) (fun v H2 => v = .non ∧ sRaiseY K E (.ref a) H2) E0 := by
  refine fun a na => ⟨a, C, y, rfl, upd_same, x0, ve, rfl, a, C, none, rfl, ⟨upd_same, fun d' e => by cases e⟩, x0, fun T nT nTa => q _ fun b o e => ?_⟩
  have ba : b ≠ a := ne_of_none e na
  have e1 : upd H a (.ext (XO a C none .none)) b = some o := by rw [upd_ne ba]; exact e
  unfold tr2
  rw [upd_ne ba, upd_ne (ne_of_none e1 nT)]
  exact e1
theorem figs_dg (n : Nat) : figs (dg n) = true := decide_eq_true ⟨dg_ne n, dg_dig n⟩
theorem frac_may {l : List Nat} {n : Int} {d : Nat} (f : Frac l n d) : May l ∧ vU l = n ∧ NumText.digitsVal (lo l) = d := by
  obtain ⟨p1, p2, p3, p4⟩ := ft_parts n d
  rw [← f.txt] at p1 p2 p3 p4
  have pos := f.pos
  have el : lo l = dg d := by
    unfold lo
    rw [p3, p4]
    by_cases c : d = 1
    · subst c
      rfl
    · rw [decide_eq_true c, if_neg c]
      rfl
  refine ⟨⟨by rw [p2]; exact figs_dg _, by rw [el]; exact figs_dg _, by rw [el, val_dg]; omega⟩, ?_, by rw [el, val_dg]⟩
  unfold vU
  rw [p1, p2, val_dg]
  by_cases c : n < 0
  · rw [decide_eq_true c, if_pos rfl]; omega
  · rw [decide_eq_false c, if_neg Bool.false_ne_true]; omega
theorem fr_same {n d n' d' : Int} (fr : Fr n d n' d') (d0 : 0 < d) (g : Int.gcd n d = 1) : n' = n ∧ d' = d := by
  have p := fr.pos
  have l := fr.ld
  have h : d.natAbs ∣ d'.natAbs := by
    have c : Nat.Coprime d.natAbs n.natAbs := Nat.Coprime.symm g
    refine c.dvd_of_dvd_mul_left ⟨n'.natAbs, ?_⟩
    rw [← Int.natAbs_mul, ← fr.eq, Int.natAbs_mul, Nat.mul_comm]
  have h2 := Nat.le_of_dvd (by omega) h
  have : d' = d := by omega
  subst this
  exact ⟨Int.eq_of_mul_eq_mul_right (by omega) fr.eq, rfl⟩
theorem may_lt {l : List Nat} (pr : PreR l) (m : May l) : (vU l).natAbs < 10 ^ 60 ∧ NumText.digitsVal (lo l) < 10 ^ 60 := by
  have du := (of_decide_eq_true m.u : _ ∧ _).2
  have db := (of_decide_eq_true m.b : _ ∧ _).2
  have h1 := Nat.lt_of_lt_of_le (val_lt _ du) (Nat.pow_le_pow_right (by decide : 0 < 10) (pr.u m.u))
  have lb : (lo l).length ≤ 60 := by
    have mb := m.b
    unfold lo at mb ⊢
    split
    · rename_i h
      rw [h] at mb
      exact pr.b mb
    · decide
  have h2 := Nat.lt_of_lt_of_le (val_lt _ db) (Nat.pow_le_pow_right (by decide : 0 < 10) lb)
  refine ⟨?_, h2⟩
  unfold vU
  split <;> omega
/-- a text, or a thing that is none; H' is what is left -/
inductive spReadX (vs : List V) (H : Hp) (Q : VK) (E : XK) : Prop
  | txt : ∀ (C : Addr) (l : List Nat), (mg "NoText" = some (.ref C)) → (vs = [.str (tx l)]) → PreR l → (∀ (n : Int) (d : Nat) (p : Addr) (H' : Hp), Frac l n d → Same H H' → H' p = some (.tup [.int n, .int (d : Int)]) → Q (.ref p) H') →
      ((¬ ∃ (n : Int) (d : Nat), Frac l n d) → ∀ H', Same H H' → E (.ref C) none H') → spReadX vs H Q E
  | oth : ∀ (C : Addr) (x : V) (t : Value), (mg "NoText" = some (.ref C)) → (vs = [x]) → (TyOf K H x t) → (PySem.W.kitOne K t (.type "str") = some false) → (∀ H', Same H H' → E (.ref C) none H') → spReadX vs H Q E
theorem ok_read_fractionX (B : Fx) : HasX P w K mg base "read_fraction" ["text"] 4 spReadX := by
  refine hsX_of B.X B.d7 sc_read_fraction (fun f cdv A outer s H vs Q E nN hr h => ?_) (by intro _ _ _ _ h; cases h <;> (subst_vars; rfl)) (by intro _ _ _ _ _ _ us hl; obtain ⟨_, rfl⟩ := len1 hl; rfl)
  obtain ⟨C, D, F, fd, g_NoText, gD, m_NoText, f_NoText, b_NoText, ve, vd⟩ := wx_of B.X B.w_NoText B.xg sc_init_DrawError (fun f fd F z => ok_init_D F z B.xg.vf) (fun f fd F => F.binds (by intro _ _ _ _ _ _ us hl; obtain ⟨_, _, rfl⟩ := len2 hl; rfl))
  refine ⟨_, (pss_cons (ps_if (pt_not (pt_val (pe_callB Own.call_isi rfl (B.z B.y0) PyProof.Rows.boot_isinstance (p2 (pv 0) (pe_bltn (v := .ty "str") rfl (B.z B.y8) PyProof.Rows.boot_str rfl))))) (pss_one (ps_raise (E := E) (pe_xmake m_NoText f_NoText (hr.mono (by decide)) rfl g_NoText b_NoText (by decide) (p1 pe_str)) rfl rfl rfl rfl rfl)) pss_nil)
      (pss_cons (pst 1 nN (pf (ok_loosely_read B) hr (p1 (pv 0))))
      (pss_cons (ps_if (PW.pt (pw_or (pt_cmpR op_isN (pv 1) pe_non (nomark _)) (pw_or1 (pt_cmpR op_ne (pf (ok_fraction_text B) hr (p1 (pv 1))) (pv 0) (nomark _))))) (pss_one (ps_raise (E := E) (pe_xmake m_NoText f_NoText (hr.mono (by decide)) rfl g_NoText b_NoText (by decide) (p1 pe_str)) rfl rfl rfl rfl rfl)) pss_nil)
      (pss_one (ps_ret (pv 1)))))), ?_⟩
  try dsimp only [cxOf]
  rcases h with ⟨C', l, mC, rfl, pr, kq, ke⟩ | ⟨C', x, t, mC, rfl, ty, kt, ke⟩
  rotate_left
  · obtain rfl : C = C' := by rw [g_NoText] at mC; cases mC; rfl
    refine ⟨_, rfl, _, _, _, _, rfl, ty, kt, _, rfl, ?_⟩
    refine iteT ?_
    exact ok_words ve m_NoText.x0 ke
  obtain rfl : C = C' := by rw [g_NoText] at mC; cases mC; rfl
  refine ⟨_, rfl, _, _, _, _, rfl, .str _, rfl, _, rfl, ?_⟩
  refine iteF ?_
  refine ⟨_, rfl, l, rfl, pr, fun H1 g1 nm => ?_, fun n' d' p H1 m fr g1 hp => ?_⟩
  · refine ⟨_, rfl, rfl, _, rfl, ?_⟩
    rw [decide_eq_true rfl]
    refine iteT (iteT ?_)
    refine ok_words ve m_NoText.x0 fun H' g => ke ?_ H' (g1.trans g)
    rintro ⟨n, d, f⟩
    exact nm (frac_may f).1
  · refine ⟨_, rfl, rfl, _, rfl, ?_⟩
    rw [decide_eq_false (fun z => nomatch z)]
    refine iteF ?_
    obtain ⟨b1, b2⟩ := may_lt pr m
    have pos := fr.pos
    have ln := fr.ln
    have ld := fr.ld
    obtain ⟨d, rfl⟩ := Int.eq_ofNat_of_zero_le (Int.le_of_lt pos)
    refine ⟨_, rfl, p, n', d, rfl, hp, by omega, by omega, fun H2 g2 => ?_⟩
    refine ⟨_, rfl, rfl, _, rfl, ?_⟩
    have g12 := g1.trans g2
    by_cases same : ft n' d = l
    · rw [decide_eq_true (congrArg (fun z => V.str (tx z)) same)]
      refine iteF ?_
      exact ⟨_, rfl, kq n' d p _ ⟨by omega, by have := fr.co; exact this, same.symm⟩ g12 (g2 _ _ hp)⟩
    · rw [decide_eq_false (fun z => same (tx_inj (V.str.inj z)))]
      refine iteT ?_
      refine ok_words ve m_NoText.x0 fun H' g => ke ?_ H' (g12.trans g)
      rintro ⟨n, d0, f⟩
      obtain ⟨_, e1, e2⟩ := frac_may f
      rw [e1, e2] at fr
      have := fr_same fr (by have := f.pos; omega) f.gcd
      obtain ⟨h1, h2⟩ := this
      refine same ?_
      rw [h1, show d = d0 by omega]
      exact f.txt.symm
--SPLIT
open Txs Mth Dig
theorem boot_VE : bootBuiltins "ValueError" = some (.type "ValueError") := by decide +kernel
theorem XAt_same {H H' : Hp} {a C : Addr} {dx : Option Addr} {t1 : Value} (x : XAt H a C dx t1) (g : Same H H') : XAt H' a C dx t1 := ⟨g _ _ x.1, fun d e => by
  obtain ⟨fs, z⟩ := x.2 d e
  exact ⟨fs, g _ _ z⟩⟩
theorem vals_refs : ∀ (gs : List Addr) (us : List Value), Vals (gs.map V.ref) us → us = gs.map Value.ref
  | [], _, r => by cases r; rfl
  | g :: gs, _, r => by
    cases r with
    | cons a b =>
      cases a
      rw [vals_refs gs _ b]
      rfl
theorem refs_vals : ∀ (gs : List Addr), Vals (gs.map V.ref) (gs.map Value.ref)
  | [] => .nil
  | _ :: gs => .cons rfl (refs_vals gs)
theorem kit_none {t : Value} : ∀ (gs : List Addr), (∀ g ∈ gs, PySem.W.kitOne K t (.ref g) = some false) → PySem.W.kitAny K t (gs.map Value.ref) = some false
  | [], _ => rfl
  | g :: gs, h => by
    show (match PySem.W.kitOne K t (.ref g) with
      | some true => some true
      | some false => PySem.W.kitAny K t (gs.map Value.ref)
      | none => none) = _
    rw [h g List.mem_cons_self]
    exact kit_none gs fun x hx => h x (List.mem_cons_of_mem _ hx)
def SameX (H H' : Hp) : Prop := ∀ b o, (∀ φ, o ≠ .ext φ) → H b = some o → H' b = some o
/-- whether read_fraction refuses it: the text 'no text', else 'told' -/
inductive RefY (x : V) (H : Hp) (Q : VK) : Prop
  | txt : ∀ (l : List Nat), (x = .str (tx l)) → PreR l → (∀ (n : Int) (d : Nat) (H' : Hp), Frac l n d → Same H H' → Q (.str (Str.ofString "told")) H') → ((¬ ∃ (n : Int) (d : Nat), Frac l n d) → ∀ H', SameX H H' → Q (.str (Str.ofString "no text")) H') → RefY x H Q
  | oth : ∀ (t : Value), (TyOf K H x t) → (PySem.W.kitOne K t (.type "str") = some false) → (∀ H', SameX H H' → Q (.str (Str.ofString "no text")) H') → RefY x H Q
inductive spRefused (vs : List V) (H : Hp) (Q : VK) (Y : XK) : Prop
  | mk : ∀ (x : V), (vs = [x]) → RefY x H Q → spRefused vs H Q Y
theorem spReadX.mono {vs : List V} {H : Hp} {Q Q' : VK} {E : XK} (f : ∀ v H', Q v H' → Q' v H') (h : spReadX vs H Q E) : spReadX vs H Q' E := by
  cases h with
  | txt C l a b c d e => exact .txt C l a b c (fun n d' p H' x1 x2 x3 => f _ _ (d n d' p H' x1 x2 x3)) e
  | oth C x t a b c d e => exact .oth C x t a b c d e
theorem ok_law_refused (B : Fx) : Hs "_law_refused" ["_law_text"] 5 (spRefused) := by
  refine hs_of B.X B.d15 sc_law_refused fun f cdv A outer s H vs Q E nN hr h => ?_
  obtain ⟨fo, od, FO, bo, ko, mo⟩ := ok_read_fractionX B
  obtain ⟨D, g_D, GD, ht⟩ := dx_of B.X B.xd
  obtain ⟨C, D', F', fd', g_NoText', gD', m_NoText, f_NoText, b_NoText, ve, vd⟩ := wx_of B.X B.w_NoText B.xg sc_init_DrawError (fun f fd F z => ok_init_D F z B.xg.vf) (fun f fd F => F.binds (by intro _ _ _ _ _ _ us hl; obtain ⟨_, _, rfl⟩ := len2 hl; rfl))
  obtain rfl : D = D' := by rw [g_D] at gD'; cases gD'; rfl
  have hC := g_NoText'
  obtain ⟨C1, G_Alike, m1, g_Alike, k_Alike⟩ := kd_of B.X B.kd_NoText_Alike
  obtain rfl : C = C1 := by rw [hC] at m1; cases m1; rfl
  clear m1
  obtain ⟨C1, G_Doubled, m1, g_Doubled, k_Doubled⟩ := kd_of B.X B.kd_NoText_Doubled
  obtain rfl : C = C1 := by rw [hC] at m1; cases m1; rfl
  clear m1
  obtain ⟨C1, G_Folded, m1, g_Folded, k_Folded⟩ := kd_of B.X B.kd_NoText_Folded
  obtain rfl : C = C1 := by rw [hC] at m1; cases m1; rfl
  clear m1
  obtain ⟨C1, G_NoBase, m1, g_NoBase, k_NoBase⟩ := kd_of B.X B.kd_NoText_NoBase
  obtain rfl : C = C1 := by rw [hC] at m1; cases m1; rfl
  clear m1
  obtain ⟨C1, G_NoCorners, m1, g_NoCorners, k_NoCorners⟩ := kd_of B.X B.kd_NoText_NoCorners
  obtain rfl : C = C1 := by rw [hC] at m1; cases m1; rfl
  clear m1
  obtain ⟨C1, G_NoFace, m1, g_NoFace, k_NoFace⟩ := kd_of B.X B.kd_NoText_NoFace
  obtain rfl : C = C1 := by rw [hC] at m1; cases m1; rfl
  clear m1
  obtain ⟨C1, G_NoOrder, m1, g_NoOrder, k_NoOrder⟩ := kd_of B.X B.kd_NoText_NoOrder
  obtain rfl : C = C1 := by rw [hC] at m1; cases m1; rfl
  clear m1
  obtain ⟨C1, G_NoRim, m1, g_NoRim, k_NoRim⟩ := kd_of B.X B.kd_NoText_NoRim
  obtain rfl : C = C1 := by rw [hC] at m1; cases m1; rfl
  clear m1
  obtain ⟨C1, G_NoTie, m1, g_NoTie, k_NoTie⟩ := kd_of B.X B.kd_NoText_NoTie
  obtain rfl : C = C1 := by rw [hC] at m1; cases m1; rfl
  clear m1
  obtain ⟨C1, G_NoWeights, m1, g_NoWeights, k_NoWeights⟩ := kd_of B.X B.kd_NoText_NoWeights
  obtain rfl : C = C1 := by rw [hC] at m1; cases m1; rfl
  clear m1
  obtain ⟨C1, G_NoWoods, m1, g_NoWoods, k_NoWoods⟩ := kd_of B.X B.kd_NoText_NoWoods
  obtain rfl : C = C1 := by rw [hC] at m1; cases m1; rfl
  clear m1
  obtain ⟨C1, G_NotCornered, m1, g_NotCornered, k_NotCornered⟩ := kd_of B.X B.kd_NoText_NotCornered
  obtain rfl : C = C1 := by rw [hC] at m1; cases m1; rfl
  clear m1
  obtain ⟨C1, G_NotFlat, m1, g_NotFlat, k_NotFlat⟩ := kd_of B.X B.kd_NoText_NotFlat
  obtain rfl : C = C1 := by rw [hC] at m1; cases m1; rfl
  clear m1
  obtain ⟨C1, G_NotTied, m1, g_NotTied, k_NotTied⟩ := kd_of B.X B.kd_NoText_NotTied
  obtain rfl : C = C1 := by rw [hC] at m1; cases m1; rfl
  clear m1
  obtain ⟨C1, G_Parted, m1, g_Parted, k_Parted⟩ := kd_of B.X B.kd_NoText_Parted
  obtain rfl : C = C1 := by rw [hC] at m1; cases m1; rfl
  clear m1
  obtain ⟨C1, G_NoText, m1, g_NoText, k_NoText⟩ := kd_of B.X B.kd_NoText_NoText
  obtain rfl : C = C1 := by rw [hC] at m1; cases m1; rfl
  clear m1
  obtain ⟨C1, m1, kVE⟩ := kv_of B.X B.kv_NoText
  obtain rfl : C = C1 := by rw [hC] at m1; cases m1; rfl
  clear m1
  refine ⟨_, (pss_cons (pst 1 sc_law_refused.nd pe_str)
    (pss_cons (ps_try (i := 2) (E := fun cls dx H' => cls = .ref C ∧ dx = none ∧ Same H H' ∧ ∀ H'', SameX H H'' → Q (.str (Str.ofString "no text")) H'') sc_law_refused.nd rfl rfl rfl g_D GD ht rfl rfl
      (fun pins E' hp => pss_one (ps_expr (pe_call FO hr rfl mo ko bo .nil hp (pa_cons (pv 0) pa_nil))))
      (fun a => (pss_cons (pst 1 nN pe_str)
      (pss_cons (pst 3 nN (pe_callB (show CallR _ _ (call_isiXTY K) from call_isiXT) rfl (B.z B.y0) PyProof.Rows.boot_isinstance (p2 (pv 2) (pe_tup (pa_cons (pe_glob (v := .ref G_Alike) rfl g_Alike rfl) (pa_cons (pe_glob (v := .ref G_Doubled) rfl g_Doubled rfl) (pa_cons (pe_glob (v := .ref G_Folded) rfl g_Folded rfl) (pa_cons (pe_glob (v := .ref G_NoBase) rfl g_NoBase rfl) (pa_cons (pe_glob (v := .ref G_NoCorners) rfl g_NoCorners rfl) (pa_cons (pe_glob (v := .ref G_NoFace) rfl g_NoFace rfl) (pa_cons (pe_glob (v := .ref G_NoOrder) rfl g_NoOrder rfl) (pa_cons (pe_glob (v := .ref G_NoRim) rfl g_NoRim rfl) (pa_cons (pe_glob (v := .ref G_NoTie) rfl g_NoTie rfl) pa_nil)))))))))))))
      (pss_cons (pst 3 nN (pe_or (pv 3) (pe_one (pe_callB (show CallR _ _ (call_isiXTY K) from call_isiXT) rfl (B.z B.y0) PyProof.Rows.boot_isinstance (p2 (pv 2) (pe_tup (pa_cons (pe_glob (v := .ref G_NoWeights) rfl g_NoWeights rfl) (pa_cons (pe_glob (v := .ref G_NoWoods) rfl g_NoWoods rfl) (pa_cons (pe_glob (v := .ref G_NotCornered) rfl g_NotCornered rfl) (pa_cons (pe_glob (v := .ref G_NotFlat) rfl g_NotFlat rfl) (pa_cons (pe_glob (v := .ref G_NotTied) rfl g_NotTied rfl) (pa_cons (pe_glob (v := .ref G_Parted) rfl g_Parted rfl) pa_nil))))))))))))
      (pss_one (ps_if (PW.pt (pw_and (pt_val (pe_callB (show CallR _ _ (call_isiXY K) from call_isiX) rfl (B.z B.y0) PyProof.Rows.boot_isinstance (p2 (pv 2) (pe_glob (v := .ref G_NoText) rfl g_NoText rfl)))) (pw_and (pt_val (pe_callB (show CallR _ _ (call_isiXY K) from call_isiX) rfl (B.z B.y0) PyProof.Rows.boot_isinstance (p2 (pv 2) (pe_bltn (v := .ty "ValueError") rfl (B.z B.y1) boot_VE rfl)))) (pw_and1 (pt_not (pt_val (pv 3))))))) (pss_one (pst 1 nN pe_str)) pss_nil)))))))
    (pss_one (ps_ret (pv 1))))), ?_⟩
  obtain ⟨x, rfl, h⟩ := h
  have hq : spReadX [x] H (fun v H' => Q (.str (Str.ofString "told")) H') (fun cls dx H' => cls = .ref C ∧ dx = none ∧ Same H H' ∧ ∀ H'', SameX H H'' → Q (.str (Str.ofString "no text")) H'') := by
    cases h with
    | txt l a b c d => exact .txt C l g_NoText' (by rw [a]) b (fun n d' p H' x1 x2 _ => c n d' H' x1 x2) fun nx H' g => ⟨rfl, rfl, g, d nx⟩
    | oth t a b c => exact .oth C x t g_NoText' rfl a b fun H' g => ⟨rfl, rfl, g, c⟩
  refine ⟨⟨_, rfl, hq.mono fun v H' z => ⟨_, rfl, z⟩⟩, fun σ' H' e C' dx T hl hE xa hT => ?_⟩
  obtain ⟨eC, rfl, g, q⟩ := hE
  cases eC
  obtain ⟨w0, w1, w2, w3, rfl⟩ : ∃ w0 w1 w2 w3, σ' = [w0, w1, w2, w3] := by
    match σ', hl with
    | [w0, w1, w2, w3], _ => exact ⟨_, _, _, _, rfl⟩
  refine ⟨m_NoText.x0, vd, fun T' nT na => ?_⟩
  have xe : XAt (tr2 H' e C none T') e C none (.ref T') := ⟨upd_same, fun d z => by cases z⟩
  have s0 : SameX H (tr2 H' e C none T') := fun b o ne eb => by
    have eb := g _ _ eb
    have m1 : b ≠ e := fun z => by subst z; rw [xa.1] at eb; cases eb; exact ne _ rfl
    unfold tr2
    rw [upd_ne m1, upd_ne (ne_of_none eb nT)]
    exact eb
  generalize tr2 H' e C none T' = H0 at xe s0 ⊢
  have x0 := m_NoText.x0
  refine ⟨_, rfl, (by show 9 ≤ sizeLine; decide), fun tp np => ?_⟩
  have g1 := same_new np (.tup (([G_Alike, G_Doubled, G_Folded, G_NoBase, G_NoCorners, G_NoFace, G_NoOrder, G_NoRim, G_NoTie] : List Addr).map V.ref))
  have e1 := upd_same (H := H0) (a := tp) (o := .tup (([G_Alike, G_Doubled, G_Folded, G_NoBase, G_NoCorners, G_NoFace, G_NoOrder, G_NoRim, G_NoTie] : List Addr).map V.ref))
  have xe1 := XAt_same xe g1
  refine ⟨e, C, none, .ref T', tp, _, ([G_Alike, G_Doubled, G_Folded, G_NoBase, G_NoCorners, G_NoFace, G_NoOrder, G_NoRim, G_NoTie] : List Addr).map Value.ref, false, rfl, e1, refs_vals _, vals_refs _, xe1, x0, kit_none _ (fun g hg => by
      rcases List.mem_cons.mp hg with rfl | hg
      · exact k_Alike
      rcases List.mem_cons.mp hg with rfl | hg
      · exact k_Doubled
      rcases List.mem_cons.mp hg with rfl | hg
      · exact k_Folded
      rcases List.mem_cons.mp hg with rfl | hg
      · exact k_NoBase
      rcases List.mem_cons.mp hg with rfl | hg
      · exact k_NoCorners
      rcases List.mem_cons.mp hg with rfl | hg
      · exact k_NoFace
      rcases List.mem_cons.mp hg with rfl | hg
      · exact k_NoOrder
      rcases List.mem_cons.mp hg with rfl | hg
      · exact k_NoRim
      rcases List.mem_cons.mp hg with rfl | hg
      · exact k_NoTie
      cases hg), ?_⟩
  refine ⟨_, rfl, false, rfl, iteF ?_⟩
  refine ⟨_, rfl, (by show 6 ≤ sizeLine; decide), fun tq nq => ?_⟩
  have g2 := g1.trans (same_new nq (.tup (([G_NoWeights, G_NoWoods, G_NotCornered, G_NotFlat, G_NotTied, G_Parted] : List Addr).map V.ref)))
  have e2 := upd_same (H := upd H0 tp (.tup (([G_Alike, G_Doubled, G_Folded, G_NoBase, G_NoCorners, G_NoFace, G_NoOrder, G_NoRim, G_NoTie] : List Addr).map V.ref))) (a := tq) (o := .tup (([G_NoWeights, G_NoWoods, G_NotCornered, G_NotFlat, G_NotTied, G_Parted] : List Addr).map V.ref))
  have xe2 := XAt_same xe g2
  refine ⟨e, C, none, .ref T', tq, _, ([G_NoWeights, G_NoWoods, G_NotCornered, G_NotFlat, G_NotTied, G_Parted] : List Addr).map Value.ref, false, rfl, e2, refs_vals _, vals_refs _, xe2, x0, kit_none _ (fun g hg => by
      rcases List.mem_cons.mp hg with rfl | hg
      · exact k_NoWeights
      rcases List.mem_cons.mp hg with rfl | hg
      · exact k_NoWoods
      rcases List.mem_cons.mp hg with rfl | hg
      · exact k_NotCornered
      rcases List.mem_cons.mp hg with rfl | hg
      · exact k_NotFlat
      rcases List.mem_cons.mp hg with rfl | hg
      · exact k_NotTied
      rcases List.mem_cons.mp hg with rfl | hg
      · exact k_Parted
      cases hg), ?_⟩
  refine ⟨_, rfl, e, C, none, .ref T', _, _, _, rfl, rfl, (fun _ z => z), xe2, x0, k_NoText, _, rfl, iteT ?_⟩
  refine ⟨_, rfl, e, C, none, .ref T', _, _, _, rfl, rfl, (fun _ z => z), xe2, x0, kVE, _, rfl, iteT ?_⟩
  refine ⟨_, rfl, _, rfl, iteT ?_⟩
  exact ⟨_, rfl, q _ fun b o ne eb => g2 _ _ (s0 b o ne eb)⟩
--SPLIT
open Txs Mth Dig
def vL (ls : List (List Nat)) : List V := ls.map fun z => V.str (tx z)
theorem vL_len (ls : List (List Nat)) : (vL ls).length = ls.length := List.length_map _
theorem dtAll_str {H : Hp} : ∀ (ls : List (List Nat)), DtAll K H (ls.map fun z => PyData.str (tx z)) (vL ls)
  | [] => rfl
  | z :: r => ⟨_, _, rfl, rfl, dtAll_str r⟩
theorem tx_ok {z : List Nat} (h : ∀ c ∈ z, c < 128) : PyData.strOk (tx z) = true := by
  unfold PyData.strOk
  rw [Array.all_eq_true]
  intro i hi
  have hi' : i < z.length := by simpa [tx] using hi
  have : (tx z).cps[i] ∈ z := by simp [tx]
  have := h _ this
  simp only [decide_eq_true_eq]
  omega
theorem strs_lay (ls : List (List Nat)) (h : ∀ z ∈ ls, ∀ c ∈ z, c < 128) : PyData.canLayAll0 (ls.map fun z => PyData.str (tx z)) = true ∧ PyData.depthAll (ls.map fun z => PyData.str (tx z)) ≤ 1 := by
  induction ls with
  | nil => exact ⟨rfl, by decide⟩
  | cons t T ih =>
    have ih := ih fun z hz => h z (List.mem_cons_of_mem _ hz)
    have h1 : PyData.canLay0 (PyData.str (tx t)) = true := by simp [PyData.canLay0, tx_ok (h t List.mem_cons_self)]
    have h2 : PyData.depth (PyData.str (tx t)) ≤ 1 := by simp [PyData.depth]
    simp only [List.map_cons, PyData.canLayAll0, PyData.depthAll, h1, ih.1]
    have := ih.2
    refine ⟨rfl, ?_⟩
    omega
theorem shaped_strs (ls : List (List Nat)) (h : ∀ z ∈ ls, ∀ c ∈ z, c < 128) : SeqAt.shaped (.list (ls.map fun z => PyData.str (tx z))) = true := by
  obtain ⟨h1, h2⟩ := strs_lay ls h
  unfold SeqAt.shaped
  simp only [PyData.canLay0, PyData.depth, h1]
  first | (simp; omega) | (rw [Bool.and_eq_true]; exact ⟨rfl, decide_eq_true (by omega)⟩) | simp_all
theorem eqv_strs {ls : List (List Nat)} (h : ls ≠ []) : PyData.eqv (.list (ls.map fun z => PyData.str (tx z))) (.list []) = false := by
  cases ls with
  | nil => exact absurd rfl h
  | cons a r => rfl
theorem asg_c {v : V} {i : Nat} {r : TS} {D : Ends} {σ : St} {H : Hp} (h : r D (σ.set i (some v)) H) : tSeq (tAsg (tC v) (gName i)) r D σ H := h
/-- what the law asks of a fraction's text -/
structure Can (l : List Nat) : Prop where
  u : Cano (fg l)
  b : Cano (lo l)
  two : sk l = true → 2 ≤ NumText.digitsVal (lo l)
  co : Nat.gcd (NumText.digitsVal (fg l)) (NumText.digitsVal (lo l)) = 1
  nz : ng l = true → NumText.digitsVal (fg l) ≠ 0
theorem can_frac {l : List Nat} (c : Can l) : Frac l (vU l) (NumText.digitsVal (lo l)) := by
  have hv : (vU l).natAbs = NumText.digitsVal (fg l) := by unfold vU; split <;> omega
  refine ⟨?_, by rw [hv]; exact c.co, ?_⟩
  · cases e : sk l with
    | true => have := c.two e; omega
    | false =>
      have : lo l = [49] := by unfold lo; rw [e]; rfl
      rw [this]; decide
  · have hs : sdg (vU l) = (if ng l then [45] else []) ++ fg l := by
      unfold sdg
      rw [hv, cano_dg c.u]
      have nz := c.nz
      unfold vU
      cases e : ng l with
      | true =>
        have := nz e
        rw [if_pos rfl, if_pos (by omega)]
        rfl
      | false =>
        rw [if_neg Bool.false_ne_true, if_neg (by omega)]
        rfl
    have hd : (if NumText.digitsVal (lo l) = 1 then [] else 47 :: dg (NumText.digitsVal (lo l))) = if sk l then 47 :: dn l else [] := by
      rw [cano_dg c.b]
      cases e : sk l with
      | true =>
        have := c.two e
        rw [if_neg (by omega), if_pos rfl]
        unfold lo
        rw [e]
        rfl
      | false =>
        have h49 : lo l = [49] := by unfold lo; rw [e]; rfl
        rw [h49]
        rfl
    unfold ft
    rw [hs, hd, List.append_assoc]
    exact parts l
theorem frac_can {l : List Nat} {n : Int} {d : Nat} (f : Frac l n d) : Can l := by
  obtain ⟨p1, p2, p3, p4⟩ := ft_parts n d
  rw [← f.txt] at p1 p2 p3 p4
  have pos := f.pos
  have el : lo l = dg d := by
    unfold lo
    rw [p3, p4]
    by_cases c : d = 1
    · subst c
      rfl
    · rw [decide_eq_true c, if_neg c]
      rfl
  refine ⟨by rw [p2]; exact dg_cano _, by rw [el]; exact dg_cano _, fun h => ?_, ?_, fun h => ?_⟩
  · rw [p3, decide_eq_true_iff] at h
    rw [el, val_dg]
    omega
  · rw [p2, el, val_dg, val_dg]
    exact f.gcd
  · rw [p1, decide_eq_true_iff] at h
    rw [p2, val_dg]
    omega
inductive spFg (vs : List V) (H : Hp) (Q : VK) (Y : XK) : Prop
  | mk : ∀ (l : List Nat), (vs = [.str (tx l)]) → (∀ c ∈ l, c < 128) → (l.length ≤ 200) → (Cano l → ∀ H', Same H H' → Q (.int ((NumText.digitsVal l : Nat) : Int)) H') → (¬ Cano l → ∀ H', Same H H' → Q .non H') → spFg vs H Q Y
theorem ok_law_figures (B : Fx) : Hs "_law_figures" ["_law_text"] 1 (spFg) := by
  refine hs_of B.X B.d16 sc_law_figures fun f cdv A outer s H vs Q E nN hr h => ?_
  obtain ⟨l, rfl, ok, len, ks, kn⟩ := h
  refine ⟨_, (pss_cons (ps_if (PW.pt (pw_or (pt_cmpR op_eq (pv 0) pe_str (nomark _)) (pw_or1 (pt_cmpR (op_neD hr.units) (pe_lc1x (Nc := ["_law_one"]) (js := [none]) rfl rfl (pi_str (pv 0)) (CS.of rfl rfl) rfl (fun C s₂ H₂ fp pins => (pgc 0)) (fun C s₂ H₂ fp pins D L => (pt_tail1 (pt_cmpR op_notin_str (pv 0) pe_str rfl) (pb_app (pv 0))))) (pe_lst pa_nil) (nomark _))))) (pss_one (ps_ret pe_non)) pss_nil)
      (pss_cons (ps_if (PW.pt (pw_and (pt_cmpR op_eq (pix ix_str (pv 0) pe_int) pe_str (nomark _)) (pw_and1 (pt_cmpR op_gt (pe_callB call_len_str rfl (B.z B.y9) PySem.boot_len (p1 (pv 0))) pe_int (nomark _))))) (pss_one (ps_ret pe_non)) pss_nil)
      (pss_one (ps_ret (pe_callTy call_intS rfl (B.z B.y6) PyProof.Rows.boot_int (p1 (pv 0))))))), ?_⟩
  try dsimp only [cxOf]
  have sz : (tx l).length ≤ sizeLine := by rw [tx_len]; exact small (by omega)
  refine ⟨_, rfl, rfl, _, rfl, ?_⟩
  by_cases h0 : l = []
  · subst h0
    rw [decide_eq_true (show V.str (tx []) = V.str (Str.ofString "") from rfl)]
    exact iteT (iteT (kn (fun c => c.ne rfl) H (Same.refl H)))
  rw [decide_eq_false (show ¬ V.str (tx l) = V.str (Str.ofString "") from fun z => h0 (tx_inj (b := []) (V.str.inj z)))]
  refine iteF ?_
  refine ⟨_, rfl, _, rfl, asc_tx ok, fun C nC => ?_⟩
  have kC := same_new nC (.lst [])
  refine walk_str (fun i σ H2 => ∃ (x0 : Option V), σ = [x0] ∧ Same H H2 ∧ H2 C = some (.lst (vL (((l.take i).filter fun c => !decide (48 ≤ c ∧ c ≤ 57)).map fun c => [c])))) ⟨none, rfl, kC, upd_same⟩ ?_ ?_
  · rintro i c σ H2 hc ⟨x0, rfl, g2, hC⟩
    rw [tx_at] at hc
    have hi := (List.getElem?_eq_some_iff.mp hc).1
    have et : l.take (i + 1) = l.take i ++ [c] := by rw [List.take_add_one, hc]; rfl
    refine ⟨_, rfl, tx [c], _, rfl, rfl, ?_⟩
    rw [show (Str.ofString "0123456789" : Str) = tx [48, 49, 50, 51, 52, 53, 54, 55, 56, 57] by decide +kernel, in_one]
    have : decide (c ∈ [48, 49, 50, 51, 52, 53, 54, 55, 56, 57]) = decide (48 ≤ c ∧ c ≤ 57) := by
      rw [decide_eq_decide]
      simp
      omega
    rw [this]
    refine ⟨_, rfl, ?_⟩
    by_cases mm : 48 ≤ c ∧ c ≤ 57
    · rw [decide_eq_true mm]
      refine iteF ⟨_, rfl, g2, ?_⟩
      rw [et, List.filter_append, List.filter_cons_of_neg (by rw [decide_eq_true mm]; decide), List.filter_nil, List.append_nil]
      exact hC
    · rw [decide_eq_false mm]
      refine iteT ⟨_, rfl, _, hC, (by rw [vL_len, List.length_map]; exact Nat.lt_of_le_of_lt (List.length_filter_le _ _) (by rw [List.length_take]; exact smallB (by omega))), _, rfl, keep_upd nC g2, ?_⟩
      rw [et, List.filter_append, List.filter_cons_of_pos (by rw [decide_eq_false mm]; decide), List.filter_nil, upd_same]
      unfold vL
      rw [List.map_append, List.map_append]
      rfl
  rintro σ H2 ⟨x0, rfl, g2, hC⟩
  rw [tx_size, List.take_length] at hC
  refine ⟨(by show 0 ≤ sizeLine; decide), fun q nq => ?_⟩
  have gq := same_new nq (.lst [])
  have eq := upd_same (H := H2) (a := q) (o := .lst [])
  have hC3 := gq _ _ hC
  have g3 := g2.trans gq
  generalize upd H2 q (.lst []) = H3 at *
  generalize hfl : (l.filter fun c => !decide (48 ≤ c ∧ c ≤ 57)) = fl at hC3
  refine ⟨.list ((fl.map fun c => [c]).map fun z => .str (tx z)), .list [], ⟨C, _, rfl, SqL.of hC3, dtAll_str _⟩, ⟨q, _, rfl, SqL.of eq, rfl⟩, shaped_strs _ (fun z hz c hc => ?_), rfl, ?_⟩
  · obtain ⟨c', hc', rfl⟩ := List.mem_map.mp hz
    rw [List.mem_singleton.mp hc]
    rw [← hfl] at hc'
    exact ok _ (List.mem_filter.mp hc').1
  refine ⟨_, rfl, ?_⟩
  by_cases hE : fl = []
  rotate_left
  · rw [eqv_strs (fun z => hE (List.map_eq_nil_iff.mp z))]
    refine iteT (kn (fun c => hE ?_) H3 g3)
    rw [← hfl]
    refine List.filter_eq_nil_iff.mpr fun x hx => ?_
    rw [decide_eq_true (c.dig x hx)]
    decide
  rw [hE]
  refine iteF ?_
  have dig : ∀ c ∈ l, 48 ≤ c ∧ c ≤ 57 := fun c hc => by
    rw [hE] at hfl
    have := List.filter_eq_nil_iff.mp hfl c hc
    simpa using this
  have fin : (¬ (∃ r, l = 48 :: r ∧ r ≠ [])) → (tRet (tCB call_intSY (tCons (tVar 0) tNil))) { nx := fun x H' => Q V.non H', rt := Q } [some (.str (tx l))] H3 := fun n => by
    refine ⟨_, rfl, _, _, rfl, read_dig h0 dig (by omega), (by rw [tx_len]; omega), ks ⟨h0, dig, fun r e => ?_⟩ H3 g3⟩
    exact Classical.byContradiction fun z => n ⟨r, e, z⟩
  obtain ⟨c0, r, el⟩ : ∃ c0 r, l = c0 :: r := by
    cases l with
    | nil => exact absurd rfl h0
    | cons a b => exact ⟨a, b, rfl⟩
  refine ⟨_, rfl, _, _, c0, rfl, rfl, sz, (by rw [show (tx l).cps.toList = l by simp [tx], el]; exact atI_nat (j := 0) rfl), ?_⟩
  refine ⟨rfl, _, rfl, ?_⟩
  by_cases c48 : c0 = 48
  · subst c48
    rw [decide_eq_true (show V.str { cps := #[48] } = V.str (Str.ofString "0") from rfl)]
    refine iteT ?_
    refine ⟨_, rfl, _, rfl, sz, _, _, rfl, rfl, _, rfl, ?_⟩
    rw [tx_len]
    by_cases r0 : r = []
    · rw [decide_eq_false (show ¬ (1 : Int) < ((l.length : Nat) : Int) by rw [el, r0]; decide)]
      refine iteF (fin ?_)
      rintro ⟨r', e, n⟩
      rw [el] at e
      injection e with _ e
      exact n (e ▸ r0)
    · rw [decide_eq_true (show (1 : Int) < ((l.length : Nat) : Int) by rw [el, List.length_cons]; have := List.length_pos_iff.mpr r0; omega)]
      exact iteT (kn (fun c => r0 (c.lead r el)) H3 g3)
  · rw [decide_eq_false (show ¬ V.str { cps := #[c0] } = V.str (Str.ofString "0") from fun z => c48 (by have := tx_inj (a := [c0]) (b := [48]) (V.str.inj z); injection this))]
    refine iteF (iteF (fin ?_))
    rintro ⟨r', e, n⟩
    rw [el] at e
    injection e with e _
    exact c48 e
theorem spFg.of {l : List Nat} {H : Hp} {Q : VK} {Y : XK} (ok : ∀ c ∈ l, c < 128) (len : l.length ≤ 200) (k : ∀ v H', ((Cano l ∧ v = .int ((NumText.digitsVal l : Nat) : Int)) ∨ (¬ Cano l ∧ v = .non)) → Same H H' → Q v H') : spFg [.str (tx l)] H Q Y := ⟨l, rfl, ok, len, fun c H' g => k _ H' (.inl ⟨c, rfl⟩) g, fun n H' g => k _ H' (.inr ⟨n, rfl⟩) g⟩
theorem slice_one (l : List Nat) : Txt.slice (tx l) none (some 1) = tx (l.take 1) := by
  cases l with
  | nil => decide
  | cons a r => exact slice_to (a :: r) (n := 1) (by simp)
theorem one_ng (l : List Nat) : decide (V.str (tx (l.take 1)) = V.str (Str.ofString "-")) = ng l := by
  rw [Bool.eq_iff_iff, decide_eq_true_iff]
  unfold ng
  cases l with
  | nil =>
    constructor
    · intro z
      have := tx_inj (a := []) (b := [45]) (V.str.inj z)
      cases this
    · intro z
      cases z
  | cons a r =>
    constructor
    · intro z
      have := tx_inj (a := [a]) (b := [45]) (V.str.inj z)
      injection this with h
      rw [h]
      rfl
    · intro z
      have h : a = 45 := by simpa using z
      rw [h]
      rfl
inductive spReadL (vs : List V) (H : Hp) (Q : VK) (Y : XK) : Prop
  | mk : ∀ (l : List Nat), (vs = [.str (tx l)]) → PreR l → (∀ (p : Addr) (H' : Hp), Can l → Same H H' → H' p = some (.tup [.int (vU l), .int ((NumText.digitsVal (lo l) : Nat) : Int)]) → Q (.ref p) H') → (¬ Can l → ∀ H', Same H H' → Q .non H') → spReadL vs H Q Y
theorem ok_law_read (B : Fx) : Hs "_law_read" ["_law_text"] 2 (spReadL) := by
  refine hs_of B.X B.d17 sc_law_read fun f cdv A outer s H vs Q E nN hr h => ?_
  obtain ⟨l, rfl, pr, ks, kn⟩ := h
  refine ⟨_, (pss_cons (pst 1 nN (pv 0))
      (pss_cons (ps_if (pt_cmpR op_eq (pe_slice sl_str (pv 0) po_none (po_some pe_int)) pe_str (nomark _)) (pss_one (pst 1 nN (pe_slice sl_str (pv 0) (po_some pe_int) po_none))) pss_nil)
      (pss_cons (ps_asg (pe_bm PySem.F.plainAttrs_str PySem.F.slot_str_partition PySem.F.type_str_partition mt_partition (pv 1) (p1 pe_str)) (pg_tup (n := 3) rfl (pgs_cons (pgn 2 nN) (pgs_cons (pgn 3 nN) (pgs_cons (pgn 4 nN) pgs_nil)))))
      (pss_cons (pst 5 nN (pf (ok_law_figures B) hr (p1 (pv 2))))
      (pss_cons (pst 6 nN pe_int)
      (pss_cons (ps_if (pt_cmpR op_ne (pv 3) pe_str (nomark _)) (pss_one (pst 6 nN (pf (ok_law_figures B) hr (p1 (pv 4))))) pss_nil)
      (pss_cons (ps_if (PW.pt (pw_or (pt_cmpR op_isN (pv 5) pe_non (nomark _)) (pw_or (pt_cmpR op_isN (pv 6) pe_non (nomark _)) (pw_or (PW.pt (pw_and (pt_cmpR op_ne (pv 3) pe_str (nomark _)) (pw_and1 (pt_cmpR op_lt (pv 6) pe_int (nomark _))))) (pw_or1 (pt_cmpR op_ne (pf (ok_law_common B) hr (p2 (pv 5) (pv 6))) pe_int (nomark _))))))) (pss_one (ps_ret pe_non)) pss_nil)
      (pss_cons (ps_if (PW.pt (pw_and (pt_cmpR op_eq (pe_slice sl_str (pv 0) po_none (po_some pe_int)) pe_str (nomark _)) (pw_and1 (pt_cmpR op_eq (pv 5) pe_int (nomark _))))) (pss_one (ps_ret pe_non)) pss_nil)
      (pss_one (ps_ret (pe_tup (p2 (pe_op op_mul (pv 5) (pe_op op_sub pe_int (pe_op op_mul pe_int (pe_callTy call_int1 rfl (B.z B.y6) PyProof.Rows.boot_int (p1 (pe_cmpR op_eq (pe_slice sl_str (pv 0) po_none (po_some pe_int)) pe_str (nomark _))))))) (pv 6))))))))))))), ?_⟩
  try dsimp only [cxOf]
  have len := pr.len
  have sz : (tx l).length ≤ sizeLine := by rw [tx_len]; exact small (by omega)
  refine ⟨_, rfl, ?_⟩
  dsimp only [gName]
  have lb : (bd l).length ≤ 200 := by unfold bd; split <;> (first | omega | (rw [List.length_tail]; omega))
  refine ifs_two (I := fun σ H' => H' = H ∧ σ = [some (.str (tx l)), some (.str (tx (bd l))), none, none, none, none, none]) ?_ (fun j => ?_)
  rotate_left
  · refine ⟨_, rfl, _, rfl, _, rfl, sz, ?_⟩
    rw [slice_one]
    refine ⟨rfl, _, rfl, ?_⟩
    rw [one_ng]
    cases e : ng l with
    | true =>
      refine iteT ⟨_, rfl, _, rfl, _, rfl, sz, ?_⟩
      have l1 : 1 ≤ l.length := by
        cases l with
        | nil => cases e
        | cons a r => simp
      have s1 := slice_from l l1
      rw [show (((1 : Nat) : Int)) = 1 from rfl] at s1
      rw [s1, List.drop_one]
      refine j _ _ ⟨rfl, ?_⟩
      rw [show bd l = l.tail by unfold bd; rw [e]; rfl]
      rfl
    | false =>
      refine iteF (j _ _ ⟨rfl, ?_⟩)
      rw [show bd l = l by unfold bd; rw [e]; rfl]
      rfl
  rintro σ H' ⟨rfl, rfl⟩
  refine ⟨_, rfl, rfl, tx (bd l), tx [47], rfl, rfl, (by rw [tx_len]; decide), (by rw [tx_len]; exact small (by omega)), fun q nq => ?_⟩
  rw [part_one]
  have g1 := same_new nq (.tup [V.str (tx (List.takeWhile (fun x => x != 47) (bd l))), V.str (tx (if 47 ∈ bd l then [47] else [])), V.str (tx (List.dropWhile (fun x => x != 47) (bd l)).tail)])
  refine ⟨q, _, rfl, SqT.of upd_same, rfl, _, _, rfl, _, _, rfl, _, _, rfl, rfl, ?_⟩
  generalize upd H' q (.tup [V.str (tx (List.takeWhile (fun x => x != 47) (bd l))), V.str (tx (if 47 ∈ bd l then [47] else [])), V.str (tx (List.dropWhile (fun x => x != 47) (bd l)).tail)]) = H1 at g1 ⊢
  have ob : ∀ c ∈ bd l, c < 128 := fun c hc => pr.ok c (by unfold bd at hc; split at hc; exact List.mem_of_mem_tail hc; exact hc)
  have ou : ∀ c ∈ fg l, c < 128 := fun c hc => ob c (List.takeWhile_subset _ hc)
  have od : ∀ c ∈ dn l, c < 128 := fun c hc => ob c (List.dropWhile_subset _ (List.mem_of_mem_tail hc))
  have lu : (fg l).length ≤ 200 := Nat.le_trans (List.takeWhile_sublist _).length_le lb
  have ld : (dn l).length ≤ 200 := by
    unfold dn
    rw [List.length_tail]
    have := (List.dropWhile_sublist (fun x => x != 47) (l := bd l)).length_le
    omega
  refine ⟨_, rfl, spFg.of (l := fg l) ou lu fun v5 H2 h5 g2 => ?_⟩
  dsimp only [gName]
  refine asg_c ?_
  have g12 := g1.trans g2
  refine ifs_two (I := fun σ H3 => Same H' H3 ∧ ∃ v6, ((Cano (lo l) ∧ v6 = .int ((NumText.digitsVal (lo l) : Nat) : Int)) ∨ (¬ Cano (lo l) ∧ v6 = .non)) ∧ σ = [some (.str (tx l)), some (.str (tx (bd l))), some (.str (tx (fg l))), some (.str (tx (if 47 ∈ bd l then [47] else []))), some (.str (tx (dn l))), some v5, some v6]) ?_ (fun j => ?_)
  rotate_left
  · refine ⟨_, rfl, rfl, _, rfl, ?_⟩
    by_cases m : 47 ∈ bd l
    · rw [show decide (V.str (tx (if 47 ∈ bd l then [47] else [])) = V.str (Str.ofString "")) = false by rw [if_pos m]; exact decide_eq_false fun z => by have := tx_inj (a := [47]) (b := []) (V.str.inj z); cases this]
      refine iteT ⟨_, rfl, spFg.of (l := dn l) od ld fun v6 H3 h6 g3 => ?_⟩
      have el : lo l = dn l := by unfold lo sk; rw [decide_eq_true m]; rfl
      exact j _ _ ⟨g12.trans g3, v6, by rw [el]; exact h6, rfl⟩
    · rw [show decide (V.str (tx (if 47 ∈ bd l then [47] else [])) = V.str (Str.ofString "")) = true by rw [if_neg m]; exact decide_eq_true rfl]
      refine iteF (j _ _ ⟨g12, .int 1, .inl ?_, rfl⟩)
      have el : lo l = [49] := by unfold lo sk; rw [decide_eq_false m]; rfl
      rw [el]
      exact ⟨⟨(fun z => nomatch z), (fun c hc => by rw [List.mem_singleton.mp hc]; decide), (fun r e => by injection e with e; cases e)⟩, rfl⟩
  rintro σ H3 ⟨g3, v6, h6, rfl⟩
  refine ⟨_, rfl, rfl, _, rfl, ?_⟩
  rcases h5 with ⟨cu, rfl⟩ | ⟨nu, rfl⟩
  rotate_left
  · rw [decide_eq_true rfl]
    exact iteT (iteT (kn (fun c => nu c.u) H3 g3))
  rw [decide_eq_false (fun z => nomatch z)]
  refine iteF ?_
  refine ⟨_, rfl, rfl, _, rfl, ?_⟩
  rcases h6 with ⟨cl, rfl⟩ | ⟨nl, rfl⟩
  rotate_left
  · rw [decide_eq_true rfl]
    exact iteT (iteT (kn (fun c => nl c.b) H3 g3))
  rw [decide_eq_false (fun z => nomatch z)]
  refine iteF ?_
  refine ⟨_, rfl, rfl, _, rfl, ?_⟩
  rcases Decidable.em (47 ∈ bd l) with m | m
  rw [show decide (V.str (tx (if 47 ∈ bd l then [47] else [])) = V.str (Str.ofString "")) = false by rw [if_pos m]; exact decide_eq_false fun z => by have := tx_inj (a := [47]) (b := []) (V.str.inj z); cases this]
  refine iteT ⟨_, rfl, _, _, rfl, rfl, _, rfl, ?_⟩
  rcases Decidable.em (2 ≤ NumText.digitsVal (lo l)) with t2 | t2
  rotate_left
  · rw [decide_eq_true (show ((NumText.digitsVal (lo l) : Nat) : Int) < 2 by omega)]
    exact iteT (iteT (kn (fun c => t2 (c.two (decide_eq_true m))) H3 g3))
  rw [show decide (V.str (tx (if 47 ∈ bd l then [47] else [])) = V.str (Str.ofString "")) = true by rw [if_neg m]; exact decide_eq_true rfl]
  refine iteF (iteF ?_)
  have two : sk l = true → 2 ≤ NumText.digitsVal (lo l) := fun z => absurd (of_decide_eq_true z) m
  rotate_left
  rw [decide_eq_false (show ¬ ((NumText.digitsVal (lo l) : Nat) : Int) < 2 by omega)]
  refine iteF ?_
  have two : sk l = true → 2 ≤ NumText.digitsVal (lo l) := fun _ => t2
  clear t2
  all_goals
    refine ⟨_, rfl, _, rfl, _, _, rfl, ?_⟩
    refine ⟨rfl, _, rfl, ?_⟩
    have eg : Int.gcd ((NumText.digitsVal (fg l) : Nat) : Int) ((NumText.digitsVal (lo l) : Nat) : Int) = Nat.gcd (NumText.digitsVal (fg l)) (NumText.digitsVal (lo l)) := rfl
    rw [eg]
    by_cases co : Nat.gcd (NumText.digitsVal (fg l)) (NumText.digitsVal (lo l)) = 1
    rotate_left
    · rw [decide_eq_false (show ¬ V.int ((Nat.gcd (NumText.digitsVal (fg l)) (NumText.digitsVal (lo l)) : Nat) : Int) = V.int 1 from fun z => co (by injection z with z; omega))]
      exact iteT (kn (fun c => co c.co) H3 g3)
    rw [decide_eq_true (show V.int ((Nat.gcd (NumText.digitsVal (fg l)) (NumText.digitsVal (lo l)) : Nat) : Int) = V.int 1 by rw [co]; rfl)]
    refine iteF ?_
    refine ⟨_, rfl, _, rfl, _, rfl, sz, ?_⟩
    rw [slice_one]
    refine ⟨rfl, _, rfl, ?_⟩
    rw [one_ng]
    have fin : (ng l = true → NumText.digitsVal (fg l) ≠ 0) → (tRet (tTup (tCons (tOp (rI CMul fun i j => V.int (i * j)) (tVar 5) (tOp (rI0 fun i j => V.int (i - j)) (tC (V.int 1)) (tOp (rI CMul fun i j => V.int (i * j)) (tC (V.int 2)) (tCB (fun xs H Q => (∃ i, xs = [V.int i] ∧ Q (V.int i) H) ∨ ∃ k, xs = [V.bl k] ∧ Q (V.int (if k = true then 1 else 0)) H) (tCons (tOp rEq (tSl rSlS (tVar 0) tNoPart (tPart (tC (V.int 1)))) (tC (V.str (Str.ofString "-")))) tNil))))) (tCons (tVar 6) tNil)))) { nx := fun x H' => Q V.non H', rt := Q } [some (.str (tx l)), some (.str (tx (bd l))), some (.str (tx (fg l))), some (.str (tx (if 47 ∈ bd l then [47] else []))), some (.str (tx (dn l))), some (.int ((NumText.digitsVal (fg l) : Nat) : Int)), some (.int ((NumText.digitsVal (lo l) : Nat) : Int))] H3 := fun nz => by
      refine ⟨_, rfl, _, rfl, _, rfl, _, rfl, sz, ?_⟩
      rw [slice_one]
      refine ⟨rfl, .inr ⟨_, rfl, ?_⟩⟩
      rw [one_ng]
      refine ⟨_, _, rfl, rfl, .inl ⟨by decide, by decide⟩, _, _, rfl, rfl, _, _, rfl, rfl, .inr ⟨by split <;> decide, by split <;> decide⟩, _, rfl, (by show 2 ≤ sizeLine; decide), fun p np => ?_⟩
      have ev : ((NumText.digitsVal (fg l) : Nat) : Int) * (1 - 2 * (if ng l = true then 1 else 0)) = vU l := by
        unfold vU
        split <;> omega
      rw [ev]
      exact ks p _ ⟨cu, cl, two, co, nz⟩ (g3.trans (same_new np _)) upd_same
    cases e : ng l with
    | true =>
      refine iteT ⟨_, rfl, rfl, _, rfl, ?_⟩
      by_cases z : NumText.digitsVal (fg l) = 0
      · rw [decide_eq_true (show V.int ((NumText.digitsVal (fg l) : Nat) : Int) = V.int 0 by rw [z]; rfl)]
        exact iteT (kn (fun c => c.nz e z) H3 g3)
      · rw [decide_eq_false (show ¬ V.int ((NumText.digitsVal (fg l) : Nat) : Int) = V.int 0 from fun q => z (by injection q with q; omega))]
        exact iteF (fin fun _ => z)
    | false => exact iteF (iteF (fin fun x => by rw [e] at x; cases x))
--SPLIT
open Txs Mth Dig
theorem no_X {k : Nat} {f : Addr} {fd : FuncData} {ps : List Str} {sp : Sp} (F : FnOk P w K mg base (CXo P w) k f fd ps sp) : FnOk P w K mg base CX0 k f fd ps (fun vs H Q _ => sp vs H Q (fun _ _ _ => False)) := by
  refine ⟨fun vs H Q E h => F.len vs H Q _ h, fun A outer s H args us vs Q E hr he hb hv hs => ?_⟩
  refine codeAny_mono (F.run A outer s H args us vs Q _ hr he hb hv hs) fun r s' hq => ?_
  cases r with
  | ok c => cases c <;> exact hq
  | error e =>
    obtain ⟨_, _, _, _, _, _, _, _, _, _, _, _, _, z⟩ := hq
    exact z.elim
inductive spReadF (vs : List V) (H : Hp) (Q : VK) (Y : XK) : Prop
  | mk : ∀ (l : List Nat) (n : Int) (d : Nat), (vs = [.str (tx l)]) → PreR l → Frac l n d → (∀ (p : Addr) (H' : Hp), Same H H' → H' p = some (.tup [.int n, .int (d : Int)]) → Q (.ref p) H') → spReadF vs H Q Y
theorem ok_read_fraction (B : Fx) : Hs "read_fraction" ["text"] 4 spReadF := by
  obtain ⟨f, fd, F, b, ko, mo⟩ := ok_read_fractionX B
  obtain ⟨C, D', F', fd', g_NoText, gD', m_NoText, f_NoText, b_NoText, ve, vd⟩ := wx_of B.X B.w_NoText B.xg sc_init_DrawError (fun f fd F z => ok_init_D F z B.xg.vf) (fun f fd F => F.binds (by intro _ _ _ _ _ _ us hl; obtain ⟨_, _, rfl⟩ := len2 hl; rfl))
  refine ⟨f, fd, (no_X F).imp fun vs H Q E h => ?_, b, ko, mo⟩
  obtain ⟨l, n, d, rfl, pr, fr, k⟩ := h
  refine .txt C l g_NoText rfl pr (fun n' d' p H' fr' g hp => ?_) fun nx => absurd ⟨n, d, fr⟩ nx
  obtain ⟨rfl, rfl⟩ := fr.uniq fr'
  exact k p H' g hp
theorem ch_at {l : List Nat} {d : Int} (d0 : 0 ≤ d) (d1 : d < l.length) (h : ∀ c ∈ l, c < 128) : ∃ c, atI (tx l).cps.toList d = some c ∧ c < 128 := by
  have hd : d.toNat < l.length := by omega
  refine ⟨l[d.toNat], ?_, h _ (List.getElem_mem hd)⟩
  have e := atI_nat (List.getElem?_eq_getElem hd)
  rw [show ((d.toNat : Nat) : Int) = d by omega] at e
  rw [show (tx l).cps.toList = l by simp [tx]]
  exact e
def EV : List Nat := [32, 33, 34, 35, 36, 38, 39, 40, 41, 42, 43, 44, 45, 46, 47, 48, 49, 50, 51, 52, 53, 54, 55, 56, 57, 58, 59, 60, 61, 62, 63, 64, 65, 66, 67, 68, 69, 70, 71, 72, 73, 74, 75, 76, 77, 78, 79, 80, 81, 82, 83, 84, 85, 86, 87, 88, 89, 90, 91, 92, 93, 94, 95, 96, 97, 98, 99, 100, 101, 102, 103, 104, 105, 106, 107, 108, 109, 110, 111, 112, 113, 114, 115, 116, 117, 118, 119, 120, 121, 122, 123, 124, 125, 126, 10]
def SM : List Nat := [48, 49, 50, 51, 52, 53, 54, 55, 56, 57, 45, 47, 32, 10, 46, 43, 120, 95]
theorem ev_str : (Str.ofString " !\"#$&'()*+,-./0123456789:;<=>?@ABCDEFGHIJKLMNOPQRSTUVWXYZ[\\]^_`abcdefghijklmnopqrstuvwxyz{|}~\n" : Str) = tx EV := by decide +kernel
theorem sm_str : (Str.ofString "0123456789-/ \n.+x_" : Str) = tx SM := by decide +kernel
theorem ev_ok : ∀ c ∈ EV, c < 128 := by decide
theorem sm_ok : ∀ c ∈ SM, c < 128 := by decide
inductive spSign (vs : List V) (H : Hp) (Q : VK) (Y : XK) : Prop
  | mk : ∀ (a : Addr) (l : List Nat), (vs = [.ref a, .str (tx l)]) → (PotAt H a) → (∀ c ∈ l, c < 128) → (0 < l.length) → (l.length ≤ 200) → (∀ (c : Nat) (H' : Hp), c < 128 → SameBut a H H' → PotAt H' a → Q (.str (tx [c])) H') → spSign vs H Q Y
theorem ok_law_sign (B : Fx) : Hs "_law_sign" ["_law_pot_here", "_law_some"] 2 (spSign) := by
  refine hs_of B.X B.d18 sc_law_sign fun f cdv A outer s H vs Q E nN hr h => ?_
  obtain ⟨a, l, rfl, pa, ok, l0, l1, k⟩ := h
  refine ⟨_, (pss_cons (pst 2 nN pe_str)
      (pss_cons (ps_if (pt_cmpR op_eq (pf (ok_law_digit B) hr (p2 (pv 0) pe_int)) pe_int (nomark _)) (pss_one (ps_ret (pix ix_str (pv 2) (pf (ok_law_digit B) hr (p2 (pv 0) (pe_callB call_len_str rfl (B.z B.y9) PySem.boot_len (p1 (pv 2)))))))) pss_nil)
      (pss_one (ps_ret (pix ix_str (pv 1) (pf (ok_law_digit B) hr (p2 (pv 0) (pe_callB call_len_str rfl (B.z B.y9) PySem.boot_len (p1 (pv 1)))))))))), ?_⟩
  try dsimp only [cxOf]
  refine ⟨_, rfl, a, 2, rfl, pa, by decide, lit9 (by decide), fun d H1 d0 d1 s1 p1 => ?_⟩
  refine ⟨rfl, _, rfl, ?_⟩
  by_cases e0 : V.int d = V.int 0
  · rw [decide_eq_true e0]
    refine iteT ?_
    rw [ev_str]
    refine ⟨_, rfl, _, rfl, _, rfl, _, rfl, (by rw [tx_len]; exact small (by decide)), a, ((EV.length : Nat) : Int), (by rw [tx_len]; rfl), p1, (by decide), lit9 (by decide), fun d2 H2 c0 c1 s2 p2 => ?_⟩
    obtain ⟨c, e, hc⟩ := ch_at c0 c1 ev_ok
    exact ⟨_, _, _, rfl, rfl, small (by rw [tx_len]; decide), e, k c H2 hc (s1.trans s2) p2⟩
  · rw [decide_eq_false e0]
    refine iteF ?_
    refine ⟨_, rfl, _, rfl, _, rfl, _, rfl, (by rw [tx_len]; exact small (by omega)), a, ((l.length : Nat) : Int), (by rw [tx_len]; rfl), p1, (by omega), lit9 (Nat.lt_of_le_of_lt (m := 200) (by omega) (by decide)), fun d2 H2 c0 c1 s2 p2 => ?_⟩
    obtain ⟨c, e, hc⟩ := ch_at c0 c1 ok
    exact ⟨_, _, _, rfl, rfl, small (by rw [tx_len]; omega), e, k c H2 hc (s1.trans s2) p2⟩
def tv (c : Nat) : V := .str (tx [c])
theorem join_tv (l : List Nat) : PySem.Txt.join (tx []) (l.map fun c => tx [c]) = tx l := by
  have := join_nil (l.map fun c => [c])
  rw [List.map_map] at this
  rw [show (l.map fun c => tx [c]) = l.map (tx ∘ fun c => [c]) from rfl, this]
  congr 1
  clear this
  induction l with
  | nil => rfl
  | cons a r ih => simp [ih]
theorem ap {H : Hp} {a l : Addr} (p : PotAt H a) (n : H l = none) : l ≠ a := fun z => by
  obtain ⟨_, _, e, _⟩ := p
  rw [z, e] at n
  cases n
theorem but_free {H H' : Hp} {a l : Addr} (b : SameBut a H H') (n : H' l = none) (la : l ≠ a) : H l = none := by
  cases e : H l with
  | none => rfl
  | some o => rw [b l o la e] at n; cases n
theorem but_keep {a p : Addr} {H H1 : Hp} {o : HO} (n : H p = none) (b : SameBut a H H1) : SameBut a H (upd H1 p o) := fun c u ne e => by rw [upd_ne (ne_of_none e n)]; exact b c u ne e
inductive spSpoilt (vs : List V) (H : Hp) (Q : VK) (Y : XK) : Prop
  | mk : ∀ (a : Addr) (l : List Nat), (vs = [.ref a, .str (tx l)]) → (PotAt H a) → (∀ c ∈ l, c < 128) → (0 < l.length) → (l.length ≤ 59) → (∀ (m : List Nat) (H' : Hp), (∀ c ∈ m, c < 128) → m.length ≤ 60 → SameBut a H H' → PotAt H' a → Q (.str (tx m)) H') → spSpoilt vs H Q Y
theorem ok_law_spoilt (B : Fx) : Hs "_law_spoilt" ["_law_pot_here", "_law_text"] 3 (spSpoilt) := by
  refine hs_of B.X B.d19 sc_law_spoilt fun f cdv A outer s H vs Q E nN hr h => ?_
  obtain ⟨a, l, rfl, pa, ok, l0, l1, k⟩ := h
  refine ⟨_, (pss_cons (pst 2 nN (pf (ok_law_digit B) hr (p2 (pv 0) pe_int)))
      (pss_cons (pst 3 nN pe_str)
      (pss_cons (pst 4 nN (pf (ok_law_digit B) hr (p2 (pv 0) (pe_callB call_len_str rfl (B.z B.y9) PySem.boot_len (p1 (pv 1))))))
      (pss_cons (pst 5 nN (pf (ok_law_sign B) hr (p2 (pv 0) (pv 3))))
      (pss_cons (ps_if (pt_cmpR op_eq (pv 2) pe_int (nomark _)) (pss_one (ps_ret (pv 1))) pss_nil)
      (pss_cons (ps_if (pt_cmpR op_eq (pv 2) pe_int (nomark _)) (pss_one (ps_ret (pe_op op_add_str (pe_op op_add_str (pe_slice sl_str (pv 1) po_none (po_some (pv 4))) (pv 5)) (pe_slice sl_str (pv 1) (po_some (pv 4)) po_none)))) pss_nil)
      (pss_cons (ps_if (pt_cmpR op_eq (pv 2) pe_int (nomark _)) (pss_one (ps_ret (pe_op op_add_str (pe_op op_add_str (pe_slice sl_str (pv 1) po_none (po_some (pv 4))) (pv 5)) (pe_slice sl_str (pv 1) (po_some (pe_op op_add (pv 4) pe_int)) po_none)))) pss_nil)
      (pss_cons (ps_if (pt_cmpR op_eq (pv 2) pe_int (nomark _)) (pss_one (ps_ret (pe_op op_add_str (pe_slice sl_str (pv 1) po_none (po_some (pv 4))) (pe_slice sl_str (pv 1) (po_some (pe_op op_add (pv 4) pe_int)) po_none)))) pss_nil)
      (pss_one (ps_ret (pe_bm PySem.F.plainAttrs_str PySem.F.slot_str_join PySem.F.type_str_join mt_join pe_str (p1 (pe_lc1x (Nc := ["_law_k", "_law_some", "_law_pot_here"]) (js := [none, some 3, some 0]) rfl rfl (pi_range1 rfl (B.z B.y7) (p1 (pf (ok_law_digit B) hr (p2 (pv 0) pe_int)))) (CS.of rfl rfl) rfl (fun C s₂ H₂ fp pins => (pgc 0)) (fun C s₂ H₂ fp pins D L => (pt_tail0 (pb_app (pix ix_str (pv 1) (pf (ok_law_digit B) hr (p2 (pv 2) pe_int))))))))))))))))))), ?_⟩
  try dsimp only [cxOf]
  refine ⟨_, rfl, a, 5, rfl, pa, by decide, lit9 (by decide), fun d H1 d0 d1 s1 p1 => ?_⟩
  refine ⟨_, rfl, _, rfl, _, rfl, (by rw [tx_len]; exact small (by omega)), a, ((l.length : Nat) : Int), (by rw [tx_len]; rfl), p1, (by omega), lit9 (Nat.lt_of_le_of_lt (m := 60) (by omega) (by decide)), fun at' H2 a0 a1 s2 p2 => ?_⟩
  refine ⟨_, rfl, _, rfl, a, SM, (by rw [sm_str]; rfl), p2, sm_ok, by decide, by decide, fun c H3 hc s3 p3 => ?_⟩
  have b3 : SameBut a H H3 := s1.trans (s2.trans s3)
  have le : (tx l).length ≤ sizeLine := by rw [tx_len]; exact small (by omega)
  have fin : ∀ (x y z : List Nat), (∀ c ∈ x, c ∈ l) → (∀ c ∈ y, c < 128) → (∀ c ∈ z, c ∈ l) → (x ++ y ++ z).length ≤ 60 → Q (.str (tx (x ++ y ++ z))) H3 := fun x y z x1 y1 z1 n => by
    refine k _ H3 (fun c hc => ?_) n b3 p3
    rcases List.mem_append.mp hc with hc | hc
    · rcases List.mem_append.mp hc with hc | hc
      · exact ok c (x1 c hc)
      · exact y1 c hc
    · exact ok c (z1 c hc)
  have sum : ∀ (i j : Int), 0 ≤ i → i ≤ j → j ≤ l.length → ∃ x z : List Nat, Txt.slice (tx l) none (some i) = tx x ∧ Txt.slice (tx l) (some j) none = tx z ∧ (∀ c ∈ x, c ∈ l) ∧ (∀ c ∈ z, c ∈ l) ∧ x.length + z.length ≤ l.length := fun i j i0 ij jl => by
    obtain ⟨i, rfl⟩ := Int.eq_ofNat_of_zero_le i0
    obtain ⟨j, rfl⟩ := Int.eq_ofNat_of_zero_le (Int.le_trans i0 ij)
    refine ⟨l.take i, l.drop j, slice_to l (by omega), slice_from l (by omega), fun c hc => List.mem_of_mem_take hc, fun c hc => List.mem_of_mem_drop hc, ?_⟩
    rw [List.length_take, List.length_drop]
    omega
  refine ⟨_, rfl, rfl, _, rfl, ?_⟩
  by_cases e0 : V.int d = V.int 0
  · rw [decide_eq_true e0]
    refine iteT ⟨_, rfl, k l H3 ok (by omega) b3 p3⟩
  rw [decide_eq_false e0]
  refine iteF ?_
  refine ⟨_, rfl, rfl, _, rfl, ?_⟩
  by_cases e0 : V.int d = V.int 1
  · rw [decide_eq_true e0]
    refine iteT ?_
    obtain ⟨x, z, ex, ez, x1, z1, n⟩ := sum at' at' a0 (Int.le_refl _) (by omega)
    refine ⟨_, rfl, _, rfl, _, rfl, _, rfl, le, ?_⟩
    rw [ex]
    refine ⟨_, rfl, _, _, rfl, rfl, (by rw [tx_len, tx_len]; exact small (by simp; omega)), ?_⟩
    rw [tx_app]
    refine ⟨_, rfl, _, rfl, _, rfl, _, rfl, le, ?_⟩
    rw [ez]
    refine ⟨_, _, rfl, rfl, (by rw [tx_len, tx_len]; exact small (by simp; omega)), ?_⟩
    rw [tx_app]
    exact fin x [c] z x1 (fun y hy => by rw [List.mem_singleton.mp hy]; exact hc) z1 (by simp; omega)
  rw [decide_eq_false e0]
  refine iteF ?_
  refine ⟨_, rfl, rfl, _, rfl, ?_⟩
  by_cases e0 : V.int d = V.int 2
  · rw [decide_eq_true e0]
    refine iteT ?_
    obtain ⟨x, z, ex, ez, x1, z1, n⟩ := sum at' (at' + 1) a0 (by omega) (by omega)
    refine ⟨_, rfl, _, rfl, _, rfl, _, rfl, le, ?_⟩
    rw [ex]
    refine ⟨_, rfl, _, _, rfl, rfl, (by rw [tx_len, tx_len]; exact small (by simp; omega)), ?_⟩
    rw [tx_app]
    refine ⟨_, rfl, _, rfl, _, _, rfl, rfl, _, rfl, _, rfl, le, ?_⟩
    rw [ez]
    refine ⟨_, _, rfl, rfl, (by rw [tx_len, tx_len]; exact small (by simp; omega)), ?_⟩
    rw [tx_app]
    exact fin x [c] z x1 (fun y hy => by rw [List.mem_singleton.mp hy]; exact hc) z1 (by simp; omega)
  rw [decide_eq_false e0]
  refine iteF ?_
  refine ⟨_, rfl, rfl, _, rfl, ?_⟩
  by_cases e0 : V.int d = V.int 3
  · rw [decide_eq_true e0]
    refine iteT ?_
    obtain ⟨x, z, ex, ez, x1, z1, n⟩ := sum at' (at' + 1) a0 (by omega) (by omega)
    refine ⟨_, rfl, _, rfl, _, rfl, _, rfl, le, ?_⟩
    rw [ex]
    refine ⟨_, rfl, _, rfl, _, _, rfl, rfl, _, rfl, _, rfl, le, ?_⟩
    rw [ez]
    refine ⟨_, _, rfl, rfl, (by rw [tx_len, tx_len]; exact small (by omega)), ?_⟩
    rw [tx_app]
    have := fin x [] z x1 (fun y hy => nomatch hy) z1 (by simp; omega)
    rw [List.append_nil] at this
    exact this
  rw [decide_eq_false e0]
  refine iteF ?_
  refine ⟨rfl, _, rfl, a, 8, rfl, p3, by decide, lit9 (by decide), fun n H4 c2 c3 s4 p4 => ?_⟩
  refine ⟨n, rfl, by omega, by omega, fun D nD => ?_⟩
  have Da := ap p4 nD
  have b4 := b3.trans s4
  have nD0 := but_free b4 nD Da
  refine walk_range (lo := 0) (n := n.toNat) (fun i σ H' => ∃ (x0 : Option V) (z : List Nat), σ = [x0, some (.str (Str.ofString "0123456789-/ \n.+x_")), some (.ref a)] ∧ SameBut a H H' ∧ PotAt H' a ∧ H' D = some (.lst (z.map tv)) ∧ z.length = i ∧ ∀ c ∈ z, c < 128) ⟨none, [], rfl, but_keep nD0 b4, p4.other Da.symm, upd_same, rfl, fun c hc => nomatch hc⟩ ?_ ?_
  · rintro i σ H5 hi ⟨x0, z, rfl, b5, p5, hD, lz, oz⟩
    refine ⟨_, rfl, _, rfl, a, 14, rfl, p5, by decide, lit9 (by decide), fun e H6 f0 f1 s6 p6 => ?_⟩
    obtain ⟨c', e', hc'⟩ := ch_at (l := SM) f0 (by show e < 18; omega) sm_ok
    refine ⟨_, _, c', (by rw [sm_str]), rfl, small (by rw [tx_len]; decide), e', ?_⟩
    refine ⟨_, s6 _ _ Da hD, small1000 (by rw [List.length_map]; omega), _, z ++ [c'], rfl, but_keep nD0 (b5.trans s6), p6.other Da.symm, (by rw [upd_same, List.map_append]; rfl), (by rw [List.length_append, lz]; rfl), fun x hx => ?_⟩
    rcases List.mem_append.mp hx with hx | hx
    · exact oz x hx
    · rw [List.mem_singleton.mp hx]; exact hc'
  · rintro σ H5 ⟨x0, z, rfl, b5, p5, hD, lz, oz⟩
    have e1 : z.map tv = (z.map fun c => tx [c]).map V.str := by rw [List.map_map]; rfl
    refine ⟨_, _, _, rfl, rfl, SqL.of (by rw [← e1]; exact hD), joinOk_of (B := 1) ?_ ?_, ?_⟩
    · intro y hy
      obtain ⟨c, _, rfl⟩ := List.mem_map.mp hy
      exact Nat.le_of_eq (tx_len _)
    · rw [List.length_map]
      show z.length * 1 + z.length * 0 ≤ _
      omega
    · rw [show (Str.ofString "" : Str) = tx [] from rfl, join_tv]
      exact k z H5 oz (by omega) b5 p5
def iD (a b : Int) : PyData := .tuple [.int a, .int b]
theorem iD_ok (a b : Int) : SeqAt.shaped (iD a b) = true := by
  simp [iD, SeqAt.shaped, PyData.canLay0, PyData.canLayAll0, PyData.depth, PyData.depthAll]
theorem iD_eqv (a b : Int) : PyData.eqv (iD a b) (iD a b) = true := by
  simp [iD, PyData.eqv, PyData.eqvAll]
theorem dt_iD {H : Hp} {z : Addr} {a b : Int} (h : H z = some (.tup [.int a, .int b])) : Dt K H (iD a b) (.ref z) := by
  unfold iD Dt
  exact ⟨z, _, rfl, SqT.of h, by simp only [DtAll, Dt]; exact ⟨_, _, rfl, rfl, _, _, rfl, rfl, rfl⟩⟩
inductive spIsRead (vs : List V) (H : Hp) (Q : VK) (Y : XK) : Prop
  | mk : ∀ (m : List Nat), (vs = [.str (tx m)]) → PreR m → (∀ H', SameX H H' → Q (.bl true) H') → spIsRead vs H Q Y
theorem ok_law_is_read (B : Fx) : Hs "_law_is_read" ["_law_text"] 6 (spIsRead) := by
  refine hs_of B.X B.d20 sc_law_is_read fun f cdv A outer s H vs Q E nN hr h => ?_
  obtain ⟨m, rfl, pr, k⟩ := h
  refine ⟨_, (pss_cons (pst 1 nN (pf (ok_law_read B) hr (p1 (pv 0))))
      (pss_cons (ps_if (pt_cmpR op_isN (pv 1) pe_non (nomark _)) (pss_one (ps_ret (pe_cmpR op_eq (pf (ok_law_refused B) hr (p1 (pv 0))) pe_str (nomark _)))) pss_nil)
      (pss_cons (pst 2 nN (pf (ok_read_fraction B) hr (p1 (pv 0))))
      (pss_cons (ps_if (PW.pt (pw_or (pt_not (pt_val (pe_callB Own.call_isi rfl (B.z B.y0) PyProof.Rows.boot_isinstance (p2 (pv 2) (pe_bltn (v := .ty "tuple") rfl (B.z B.y11) PyProof.Rows.boot_tuple rfl))))) (pw_or1 (pt_cmpR op_ne (pe_callB call_len_seq rfl (B.z B.y9) PySem.boot_len (p1 (pv 2))) pe_int (nomark _))))) (pss_one (ps_ret pe_bl)) pss_nil)
      (pss_one (ps_ret (pe_and (pf (ok_law_is_whole B) hr (p1 (pix ix_tup (pv 2) pe_int))) (pe_and (pf (ok_law_is_whole B) hr (p1 (pix ix_tup (pv 2) pe_int))) (pe_one (pe_cmpR (op_eqD hr.units) (pv 2) (pv 1) (nomark _))))))))))), ?_⟩
  try dsimp only [cxOf]
  refine ⟨_, rfl, m, rfl, pr, fun p H1 c g1 hp => ?_, fun nc H1 g1 => ?_⟩
  rotate_left
  · refine ⟨_, rfl, rfl, _, rfl, ?_⟩
    rw [decide_eq_true rfl]
    refine iteT ⟨_, rfl, .str (tx m), rfl, .txt m rfl pr (fun n d H' f => absurd (frac_can f) nc) fun _ H2 g2 => ⟨rfl, ?_⟩⟩
    rw [decide_eq_true rfl]
    exact k H2 fun b o ne e => g2 b o ne (g1 b o e)
  refine ⟨_, rfl, rfl, _, rfl, ?_⟩
  rw [decide_eq_false (fun z => nomatch z)]
  refine iteF ?_
  refine ⟨_, rfl, m, vU m, _, rfl, pr, can_frac c, fun p2 H2 g2 hp2 => ?_⟩
  refine ⟨_, rfl, _, _, _, _, rfl, .tup hp2, rfl, _, rfl, iteF ?_⟩
  refine ⟨_, rfl, p2, _, rfl, .inr (SqT.of hp2), rfl, _, rfl, ?_⟩
  rw [decide_eq_true (show V.int ((([V.int (vU m), V.int ((NumText.digitsVal (lo m) : Nat) : Int)] : List V).length : Nat) : Int) = V.int 2 from rfl)]
  refine iteF ?_
  refine ⟨_, rfl, p2, _, _, _, rfl, rfl, SqT.of hp2, at0, _, rfl, true, rfl, iteT ?_⟩
  refine ⟨_, rfl, p2, _, _, _, rfl, rfl, SqT.of hp2, at1, _, rfl, true, rfl, iteT ?_⟩
  refine ⟨_, rfl, _, rfl, iD _ _, iD _ _, dt_iD hp2, dt_iD (g2 _ _ hp), iD_ok _ _, iD_ok _ _, ?_⟩
  rw [show (if false = true then !PyData.eqv (iD (vU m) _) (iD (vU m) _) else PyData.eqv (iD (vU m) ((NumText.digitsVal (lo m) : Nat) : Int)) (iD (vU m) ((NumText.digitsVal (lo m) : Nat) : Int))) = true from iD_eqv _ _]
  exact k H2 fun b o _ e => g2 b o (g1 b o e)
--SPLIT
open Txs Mth Dig
section
variable {X : Cx} {es : List Expr} {t : TA}
theorem pai_non {k p} (hr : PAi X es t) : PAi X (.Constant .none k p :: es) (tCons (tC .non) t) := by
  rw [pai_of] at hr ⊢
  exact pa_cons pe_non hr
theorem pai_int {i : Int} {k p} (hr : PAi X es t) : PAi X (.Constant (.int i) k p :: es) (tCons (tC (.int i)) t) := by
  rw [pai_of] at hr ⊢
  exact pa_cons pe_int hr
theorem pai_bl {b : Bool} {k p} (hr : PAi X es t) : PAi X (.Constant (.bool b) k p :: es) (tCons (tC (.bl b)) t) := by
  rw [pai_of] at hr ⊢
  exact pa_cons pe_bl hr
theorem pai_tupS {x : Str} {k p k' p'} (hr : PAi X es t) : PAi X (.Tuple [.Constant (.str x) k p] k' p' :: es) (tCons (tTup (tCons (tC (.str x)) tNil)) t) := by
  rw [pai_of] at hr ⊢
  exact pa_cons (pe_tup (pa_cons pe_str pa_nil)) hr se_tup
theorem pai_lstS {x : Str} {k p p'} (hr : PAi X es t) : PAi X (.List [.Constant (.str x) k p] p' :: es) (tCons (tLst (tCons (tC (.str x)) tNil)) t) := by
  rw [pai_of] at hr ⊢
  exact pa_cons (pe_lst (pa_cons pe_str pa_nil)) hr
theorem pai_lstI {i : Int} {k p p'} (hr : PAi X es t) : PAi X (.List [.Constant (.int i) k p] p' :: es) (tCons (tLst (tCons (tC (.int i)) tNil)) t) := by
  rw [pai_of] at hr ⊢
  exact pa_cons (pe_lst (pa_cons pe_int pa_nil)) hr
theorem pai_dk {p} (hr : PAi X es t) : PAi X (.Dict [] [] p :: es) (tCons tDNewK t) := by
  rw [pai_of] at hr ⊢
  exact pa_cons pe_dnewK hr
theorem psi_mk {st : Stmt} {t : TS} (h : PS X st t) : PSi X st t := by
  rw [psi_of]
  exact h
theorem pssi_mk {l : List Stmt} {t : TS} (h : PSs X l t) : PSsi X l t := by
  rw [pssi_of]
  exact h
theorem pssI_cons {st : Stmt} {rest : List Stmt} {t u : TS} (h : PSi X st t) (hr : PSsi X rest u) : PSsi X (st :: rest) (tSeq t u) := by
  rw [psi_of] at h
  rw [pssi_of] at hr ⊢
  exact pss_cons h hr
theorem pforI {tg iter : Expr} {body : List Stmt} {wi : TI} {g : TG} {tb : TS} {pos : Pos} (hi : PI X tg iter wi) (hg : PG X tg g) (hb : PSsi X body tb) (hp : PassesOwn (model X.prog X.w) X.A X.env X.xe := by exact PassesOwn.never) (hc : X.calm = true := by rfl)
    (hs : ∀ x, foldedSetIterable iter X.env x = pure x := by intro _; rfl) : PSi X (.For tg iter body [] pos) (tFor wi g tb) := by
  rw [pssi_of] at hb
  rw [psi_of]
  exact ps_for hp hc hi hg hb hs
theorem exI {l : List Stmt} {R : TS → Prop} (h : ∃ t, PSsi X l t ∧ R t) : ∃ t, PSs X l t ∧ R t := by
  obtain ⟨t, h1, h2⟩ := h
  rw [pssi_of] at h1
  exact ⟨t, h1, h2⟩
end
theorem ft_chars (n : Int) (d : Nat) : ∀ c ∈ ft n d, (48 ≤ c ∧ c ≤ 57) ∨ c = 45 ∨ c = 47 := fun c hc => by
  unfold ft sdg at hc
  rcases List.mem_append.mp hc with hc | hc
  · split at hc
    · rcases List.mem_cons.mp hc with rfl | hc
      · exact .inr (.inl rfl)
      · exact .inl (dg_dig _ c hc)
    · exact .inl (dg_dig _ c hc)
  · split at hc
    · cases hc
    · rcases List.mem_cons.mp hc with rfl | hc
      · exact .inr (.inr rfl)
      · exact .inl (dg_dig _ c hc)
theorem ft_ok (n : Int) (d : Nat) : ∀ c ∈ ft n d, c < 128 := fun c hc => by have := ft_chars n d c hc; omega
theorem part_len (m : List Nat) : (fg m).length ≤ m.length ∧ (dn m).length ≤ m.length := by
  have lb : (bd m).length ≤ m.length := by
    unfold bd
    split
    · rw [List.length_tail]; omega
    · exact Nat.le_refl _
  refine ⟨Nat.le_trans (List.takeWhile_sublist _).length_le lb, ?_⟩
  unfold dn
  rw [List.length_tail]
  have := (List.dropWhile_sublist (fun x => x != 47) (l := bd m)).length_le
  omega
theorem pre_small {m : List Nat} (ok : ∀ c ∈ m, c < 128) (len : m.length ≤ 60) : PreR m := by
  obtain ⟨a, b⟩ := part_len m
  exact ⟨ok, by omega, fun _ => by omega, fun _ => by omega⟩
theorem sdg_len {n : Int} {k : Nat} (h : n.natAbs < 10 ^ (k + 1)) : (sdg n).length ≤ k + 2 := by
  have := dg_len k n.natAbs h
  unfold sdg
  split
  · rw [List.length_cons]; omega
  · omega
theorem ft_len {n : Int} {d k : Nat} (hn : n.natAbs < 10 ^ (k + 1)) (hd : d < 10 ^ (k + 1)) : (ft n d).length ≤ 2 * k + 4 := by
  have h1 := sdg_len hn
  have h2 := dg_len k d hd
  unfold ft
  rw [List.length_append]
  split
  · simp; omega
  · rw [List.length_cons]; omega
theorem ft_ne (n : Int) (d : Nat) : ft n d ≠ [] := fun z => by
  have h : sdg n = [] := (List.append_eq_nil_iff.mp z).1
  unfold sdg at h
  split at h
  · cases h
  · exact dg_ne _ h
theorem pre_ft {n : Int} {d : Nat} (hn : n.natAbs < 10 ^ 60) (hd : d < 10 ^ 60) : PreR (ft n d) := by
  obtain ⟨_, p2, _, p4⟩ := ft_parts n d
  refine ⟨ft_ok n d, by have := ft_len (k := 59) hn hd; omega, fun _ => by rw [p2]; exact dg_60 hn, fun _ => ?_⟩
  rw [p4]
  split
  · decide
  · exact dg_60 hd
theorem figs_no {l : List Nat} {c : Nat} (hc : c ∈ l) (n : c < 48 ∨ 57 < c) : figs l = false := decide_eq_false fun z => by have := z.2 c hc; omega
theorem tw_snoc {c : Nat} (h : c ≠ 47) : ∀ b : List Nat, (47 ∈ b ∧ (b ++ [c]).takeWhile (· != 47) = b.takeWhile (· != 47) ∧ (b ++ [c]).dropWhile (· != 47) = b.dropWhile (· != 47) ++ [c] ∧ b.dropWhile (· != 47) ≠ []) ∨ (47 ∉ b ∧ (b ++ [c]).takeWhile (· != 47) = b ++ [c] ∧ (b ++ [c]).dropWhile (· != 47) = [])
  | [] => .inr ⟨(fun z => nomatch z), by simp [h], by simp [h]⟩
  | a :: b => by
    by_cases e : a = 47
    · subst e
      exact .inl ⟨List.mem_cons_self, by simp, by simp, by simp⟩
    · have hx : (a != 47) = true := by simpa using e
      rw [List.cons_append, List.takeWhile_cons_of_pos (p := fun x => x != 47) hx, List.dropWhile_cons_of_pos (p := fun x => x != 47) hx, List.takeWhile_cons_of_pos (p := fun x => x != 47) hx, List.dropWhile_cons_of_pos (p := fun x => x != 47) hx]
      rcases tw_snoc h b with ⟨m, h1, h2, h3⟩ | ⟨m, h1, h2⟩
      · exact .inl ⟨List.mem_cons_of_mem _ m, by rw [h1], h2, h3⟩
      · exact .inr ⟨fun z => (List.mem_cons.mp z).elim (fun y => e y.symm) m, by rw [h1], h2⟩
theorem pre_snoc {l : List Nat} (p : PreR l) (ne : l ≠ []) (len : l.length ≤ 199) {c : Nat} (hc : c < 48) (h47 : c ≠ 47) : PreR (l ++ [c]) := by
  have eb : bd (l ++ [c]) = bd l ++ [c] := by
    cases l with
    | nil => exact absurd rfl ne
    | cons a r =>
      have : ng ((a :: r) ++ [c]) = ng (a :: r) := rfl
      unfold bd
      rw [this]
      split <;> rfl
  have hw := tw_snoc h47 (bd l)
  refine ⟨fun x hx => ?_, by rw [List.length_append]; simp; omega, fun f => ?_, fun f => ?_⟩
  · rcases List.mem_append.mp hx with hx | hx
    · exact p.ok x hx
    · rw [List.mem_singleton.mp hx]; omega
  · have ef : fg (l ++ [c]) = (bd l ++ [c]).takeWhile (· != 47) := by unfold fg; rw [eb]
    rcases hw with ⟨_, h1, _, _⟩ | ⟨_, h1, _⟩
    · have e2 : fg (l ++ [c]) = fg l := ef.trans h1
      rw [e2] at f ⊢
      exact p.u f
    · rw [ef, h1] at f
      rw [figs_no (c := c) (List.mem_append_right _ (List.mem_singleton_self _)) (.inl hc)] at f
      cases f
  · have ed : dn (l ++ [c]) = ((bd l ++ [c]).dropWhile (· != 47)).tail := by unfold dn; rw [eb]
    rcases hw with ⟨_, _, h2, h3⟩ | ⟨_, _, h2⟩
    · rw [ed, h2, List.tail_append_of_ne_nil h3] at f
      rw [figs_no (c := c) (List.mem_append_right _ (List.mem_singleton_self _)) (.inl hc)] at f
      cases f
    · rw [ed, h2]
      decide
theorem pre_cons {l : List Nat} (p : PreR l) (len : l.length ≤ 199) : PreR (10 :: l) := by
  have eb : bd (10 :: l) = 10 :: l := rfl
  refine ⟨fun x hx => ?_, by rw [List.length_cons]; omega, fun f => ?_, fun f => ?_⟩
  · rcases List.mem_cons.mp hx with rfl | hx
    · decide
    · exact p.ok x hx
  · have ef : fg (10 :: l) = 10 :: l.takeWhile (· != 47) := by unfold fg; rw [eb]; rfl
    rw [ef, figs_no (c := 10) List.mem_cons_self (.inl (by decide))] at f
    cases f
  · have ed : dn (10 :: l) = dn l := by
      unfold dn
      rw [eb]
      show (l.dropWhile (· != 47)).tail = _
      unfold bd
      cases l with
      | nil => rfl
      | cons a r =>
        by_cases e : a = 45
        · subst e
          rfl
        · have : ng (a :: r) = false := by
            unfold ng
            simpa using e
          rw [this]
          rfl
    rw [ed] at f ⊢
    exact p.b f
theorem no_frac {m : List Nat} {c : Nat} (hc : c ∈ m) (h : c < 45) : ¬ ∃ (n : Int) (d : Nat), Frac m n d := by
  rintro ⟨n, d, f⟩
  rw [f.txt] at hc
  have := ft_chars n d c hc
  omega
theorem SameX.of {H H' : Hp} (g : Same H H') : SameX H H' := fun b o _ e => g b o e
theorem SameX.trans {H H1 H2 : Hp} (x : SameX H H1) (y : SameX H1 H2) : SameX H H2 := fun b o n e => y b o n (x b o n e)
theorem SameX.refl (H : Hp) : SameX H H := fun _ _ _ e => e
theorem SameX.seq {H H' : Hp} {a : Addr} {xs : List V} (e : SameX H H') (h : SqL K H a xs) : SqL K H' a xs := by
  rcases h with (h | ⟨o, h⟩) | h
  · exact .inl (.inl (e _ _ (fun φ z => nomatch z) h))
  · exact .inl (.inr ⟨o, e _ _ (fun φ z => nomatch z) h⟩)
  · exact .inr h
theorem SameX.tup {H H' : Hp} {a : Addr} {xs : List V} (e : SameX H H') (h : H a = some (.tup xs)) : H' a = some (.tup xs) := e _ _ (fun φ z => nomatch z) h
theorem SameX.pot {H H' : Hp} {a : Addr} (e : SameX H H') (h : PotAt H a) : PotAt H' a := by
  obtain ⟨x, y, h1, h2⟩ := h
  exact ⟨x, y, e _ _ (fun φ z => nomatch z) h1, h2⟩
theorem keepX {H H1 H2 : Hp} {p : Addr} (g : SameX H H1) (n : H p = none) (b : SameBut p H1 H2) : SameX H H2 := fun c o ne e => b c o (ne_of_none e n) (g c o ne e)
/-- '' or '/d' -/
theorem pick_low (n : Int) {d : Nat} (d1 : 1 ≤ d) : ∃ v : List Nat, atI [V.str (Str.ofString ""), V.str (tx ([47] ++ dg d))] (if decide ((1 : Int) < (d : Int)) = true then 1 else 0) = some (.str (tx v)) ∧ sdg n ++ v = ft n d := by
  by_cases c : d = 1
  · subst c
    refine ⟨[], rfl, ?_⟩
    unfold ft
    rw [if_pos rfl]
  · refine ⟨47 :: dg d, ?_, ?_⟩
    · rw [decide_eq_true (show (1 : Int) < (d : Int) by omega)]
      rfl
    · unfold ft
      rw [if_neg c]
theorem ok_law (B : Fx) {f : Addr} {fd : FuncData} (F : Fun K "law" "law" s_law f fd) : FnOk P w K mg base CX0 10 f fd ["_law_script"] (spLaw K) := by
  refine F.ok sc_law (fun vs H Q E h => ?_) (fun cdv A outer s H vs Q E hr h => ?_)
  · obtain ⟨a, ns, rfl, _⟩ := h
    rfl
  obtain ⟨a, ns, rfl, hS, h63, q⟩ := h
  refine exI ?_
  refine ⟨_, (pssI_cons (pforI (pi_range1 rfl (B.z B.y7) (p1 (pe_callB (call_max2 rfl) rfl (B.z B.y2) PyProof.Rows.boot_max (p2 pe_int (pe_callB (call_min2 rfl) rfl (B.z B.y12) PyProof.Rows.boot_min (p2 pe_int (pe_callB call_len_seq rfl (B.z B.y9) PySem.boot_len (p1 (pv 0))))))))) (pgn 1 sc_law.nd) (pssI_cons (psi_mk (pst 2 sc_law.nd (pf (ok_law_pot B) hr (p2 (pv 0) (pv 1)))))
      (pssI_cons (psi_mk (pst 3 sc_law.nd (pf (ok_law_drawn B) hr (p1 (pv 2)))))
      (pssI_cons (psi_mk (pst 4 sc_law.nd (pe_op op_add_str (pe_callTy call_str_int rfl (B.z B.y8) PyProof.Rows.boot_str (p1 (pix ix_tup (pv 3) pe_int))) (pix ix_list (pe_lst (p2 pe_str (pe_op op_add_str pe_str (pe_callTy call_str_int rfl (B.z B.y8) PyProof.Rows.boot_str (p1 (pix ix_tup (pv 3) pe_int)))))) (pe_callTy call_int1 rfl (B.z B.y6) PyProof.Rows.boot_int (p1 (pe_cmpR op_gt (pix ix_tup (pv 3) pe_int) pe_int (nomark _))))))))
      (pssI_cons (psi_mk (pst 5 sc_law.nd (pf (ok_fraction_text B) hr (p1 (pv 3)))))
      (pssI_cons (psi_mk (ps_if (PW.pt (pw_or (pt_not (pt_val (pe_callB Own.call_isi rfl (B.z B.y0) PyProof.Rows.boot_isinstance (p2 (pv 5) (pe_bltn (v := .ty "str") rfl (B.z B.y8) PyProof.Rows.boot_str rfl))))) (pw_or (pt_cmpR op_ne (pv 5) (pv 4) (nomark _)) (pw_or1 (pt_cmpR (op_neD hr.units) (pf (ok_read_fraction B) hr (p1 (pv 4))) (pv 3) (nomark _)))))) (pss_one (ps_ret pe_bl)) pss_nil))
      (pssI_cons (psi_mk (ps_if (pt_cmpR (op_neD hr.units) (pe_lc1x (Nc := ["_law_more"]) (js := [none]) rfl rfl (pi_list (pe_lst (pa_cons (pe_op op_add_str (pv 4) pe_str) (pa_cons (pe_op op_add_str pe_str (pv 4)) (pa_cons (pe_op op_add_str (pv 4) pe_str) pa_nil))))) (CS.of rfl rfl) rfl (fun C s₂ H₂ fp pins => (pgc 0)) (fun C s₂ H₂ fp pins D L => (pt_tail1 (pt_cmpR op_ne (pf (ok_law_refused B) hr (p1 (pv 0))) pe_str (nomark _)) (pb_app (pv 0))))) (pe_lst pa_nil) (nomark _)) (pss_one (ps_ret pe_bl)) pss_nil))
      (pssI_cons (psi_mk (pst 6 sc_law.nd (pe_op op_mul (pe_op op_mod (pe_callB call_abs rfl (B.z B.y3) PyProof.Rows.boot_abs (p1 (pix ix_tup (pv 3) pe_int))) (pe_op op_pow pe_int pe_int)) (pe_op op_sub pe_int (pe_op op_mul pe_int (pe_callTy call_int1 rfl (B.z B.y6) PyProof.Rows.boot_int (p1 (pe_cmpR op_lt (pix ix_tup (pv 3) pe_int) pe_int (nomark _)))))))))
      (pssI_cons (psi_mk (pst 7 sc_law.nd (pf (ok_law_made B) hr (p2 (pv 6) (pe_op op_add pe_int (pe_op op_mod (pix ix_tup (pv 3) pe_int) (pe_op op_pow pe_int pe_int)))))))
      (pssI_cons (psi_mk (ps_if (pt_not (pt_val (pf (ok_law_is_read B) hr (p1 (pf (ok_law_spoilt B) hr (p2 (pv 2) (pe_op op_add_str (pe_callTy call_str_int rfl (B.z B.y8) PyProof.Rows.boot_str (p1 (pix ix_tup (pv 7) pe_int))) (pix ix_list (pe_lst (p2 pe_str (pe_op op_add_str pe_str (pe_callTy call_str_int rfl (B.z B.y8) PyProof.Rows.boot_str (p1 (pix ix_tup (pv 7) pe_int)))))) (pe_callTy call_int1 rfl (B.z B.y6) PyProof.Rows.boot_int (p1 (pe_cmpR op_gt (pix ix_tup (pv 7) pe_int) pe_int (nomark _)))))))))))) (pss_one (ps_ret pe_bl)) pss_nil))
      (pssI_cons (psi_pick (pai_non (pai_int (pai_bl (pai_two (pai_lstI (pai_dk (pai_tupS (pai_lstS pai_nil)))))))) (pf (ok_law_digit B) hr (p2 (pv 2) pe_int)) (pgn 8 sc_law.nd))
      (pssi_mk (pss_one (ps_if (PW.pt (pw_or (pt_cmpR op_ne (pf (ok_law_refused B) hr (p1 (pv 8))) pe_str (nomark _)) (pw_or1 (pt_cmpR op_ne (pf (ok_law_refused B) hr (p1 pe_str)) pe_str (nomark _))))) (pss_one (ps_ret pe_bl)) pss_nil))))))))))))))
      (pssi_mk (pss_one (ps_ret pe_bl)))), ?_⟩
  try dsimp only [cxOf]
  have hl : (ns.map V.int).length = ns.length := List.length_map _
  refine ⟨_, rfl, a, _, rfl, .inl hS, 30, _, rfl, 1, _, rfl, ?_⟩
  rw [hl]
  generalize hj : (if (if (ns.length : Int) < 30 then (ns.length : Int) else 30) > 1 then (if (ns.length : Int) < 30 then (ns.length : Int) else 30) else 1) = j
  have j0 : 0 ≤ j := by rw [← hj]; split <;> omega
  have j1 : j ≤ 63 := by
    rw [← hj]
    split
    · split <;> omega
    · omega
  refine ⟨j, rfl, by omega, by omega, for_range (lo := 0) (n := j.toNat) (fun i σ H2 => ∃ (x1 x2 x3 x4 x5 x6 x7 x8 : Option V), σ = [some (.ref a), x1, x2, x3, x4, x5, x6, x7, x8] ∧ SqL K H2 a (ns.map V.int))
    ⟨none, none, none, none, none, none, none, none, rfl, hS⟩ ?_ ?_⟩
  rotate_left
  · rintro σ H2 ⟨x1, x2, x3, x4, x5, x6, x7, x8, rfl, g⟩
    exact q _
  rintro i σ H2 hi ⟨x1, x2, x3, x4, x5, x6, x7, x8, rfl, hS2⟩
  refine ⟨_, rfl, _, rfl, a, ns, _, rfl, hS2, h63, (by omega), (by omega), fun p x y H3 hx g3 hn hp => ?_⟩
  have pA : PotAt H3 p := ⟨x, y, hp, hx⟩
  refine ⟨_, rfl, p, rfl, pA, fun o n d H4 s4 p4 fo => ?_⟩
  obtain ⟨ho, d0, co, bn, bd'⟩ := fo
  obtain ⟨d, rfl⟩ := Int.eq_ofNat_of_zero_le (Int.le_of_lt d0)
  have X4 : SameX H2 H4 := keepX (SameX.of g3) hn s4
  have bd2 : d < 10 ^ 60 := by omega
  have fr : Frac (ft n d) n d := ⟨by omega, co, rfl⟩
  have pr := pre_ft bn bd2
  have fl := ft_len (k := 59) bn bd2
  have ls := sdg_len (k := 59) bn
  have ld := dg_60 bd2
  clear s4 pA hp g3 hx
  refine ⟨_, rfl, o, _, _, _, rfl, rfl, SqT.of ho, at0, n, rfl, log_60 bn, ?_⟩
  rw [str_int]
  refine ⟨_, rfl, o, _, _, _, rfl, rfl, SqT.of ho, at1, (d : Int), rfl, log_60 bd2, ?_⟩
  rw [str_int, sdg_nat, show (Str.ofString "/" : Str) = tx [47] from rfl]
  refine ⟨_, _, rfl, rfl, (by rw [tx_len, tx_len]; exact small (by simp; omega)), ?_⟩
  rw [tx_app]
  refine ⟨(by show 2 ≤ sizeLine; decide), fun l nl => ?_⟩
  have gl := same_new nl (.lst [V.str (Str.ofString ""), V.str (tx ([47] ++ dg d))])
  have el := upd_same (H := H4) (a := l) (o := .lst [V.str (Str.ofString ""), V.str (tx ([47] ++ dg d))])
  have ho5 := gl _ _ ho
  have X5 := X4.trans (SameX.of gl)
  have p5 := p4.kept gl
  generalize upd H4 l (.lst [V.str (Str.ofString ""), V.str (tx ([47] ++ dg d))]) = H5 at *
  obtain ⟨v, ev, hv⟩ := pick_low n (d := d) (by omega)
  refine ⟨_, rfl, o, _, _, _, rfl, rfl, SqT.of ho5, at1, _, _, rfl, rfl, .inr ⟨_, rfl, ?_⟩⟩
  refine ⟨l, _, _, _, rfl, rfl, SqL.of el, ev, ?_⟩
  refine ⟨_, _, rfl, rfl, (by rw [tx_len, tx_len]; exact small (by have := congrArg List.length hv; rw [List.length_append] at this; omega)), ?_⟩
  rw [tx_app, hv]
  clear el gl nl ho p4 X4 ev hv v
  refine ⟨_, rfl, o, n, d, rfl, ho5, bn, bd2, fun H6 g6 => ?_⟩
  refine ⟨_, rfl, _, _, _, _, rfl, .str _, rfl, _, rfl, iteF ?_⟩
  refine ⟨_, rfl, _, rfl, rfl, _, rfl, ?_⟩
  rw [decide_eq_true rfl]
  refine iteF ?_
  refine ⟨_, rfl, ft n d, n, d, rfl, pr, fr, fun r H7 g7 hr7 => ?_⟩
  have g67 := g6.trans g7
  have ho7 := g67 _ _ ho5
  have X7 := X5.trans (SameX.of g67)
  have p7 := p5.kept g67
  refine ⟨_, rfl, iD _ _, iD _ _, dt_iD hr7, dt_iD ho7, iD_ok _ _, iD_ok _ _, ?_⟩
  rw [iD_eqv]
  refine ⟨_, rfl, iteF ?_⟩
  clear hr7 g67 g7 g6 ho5 X5 p5
  -- what is no fraction's text
  refine ⟨_, rfl, _, _, rfl, rfl, (by rw [show (Str.ofString "\n" : Str) = tx [10] from rfl, tx_len, tx_len]; exact small (by simp; omega)), ?_⟩
  refine ⟨_, rfl, _, _, rfl, rfl, (by rw [show (Str.ofString "\n" : Str) = tx [10] from rfl, tx_len, tx_len]; exact small (by simp; omega)), ?_⟩
  refine ⟨_, rfl, _, _, rfl, rfl, (by rw [show (Str.ofString " " : Str) = tx [32] from rfl, tx_len, tx_len]; exact small (by simp; omega)), ?_⟩
  rw [show (Str.ofString "\n" : Str) = tx [10] from rfl, show (Str.ofString " " : Str) = tx [32] from rfl, tx_app, tx_app, tx_app]
  refine ⟨(by show 3 ≤ sizeLine; decide), fun l nl => ?_⟩
  have gl := same_new nl (.lst [V.str (tx (ft n d ++ [10])), V.str (tx ([10] ++ ft n d)), V.str (tx (ft n d ++ [32]))])
  have el := upd_same (H := H7) (a := l) (o := .lst [V.str (tx (ft n d ++ [10])), V.str (tx ([10] ++ ft n d)), V.str (tx (ft n d ++ [32]))])
  have ho8 := gl _ _ ho7
  have X8 := X7.trans (SameX.of gl)
  have p8 := p7.kept gl
  generalize upd H7 l (.lst [V.str (tx (ft n d ++ [10])), V.str (tx ([10] ++ ft n d)), V.str (tx (ft n d ++ [32]))]) = H8 at *
  refine ⟨l, rfl, ⟨_, SqL.of el⟩, fun D nD => ?_⟩
  have kD := same_new nD (.lst [])
  have each : ∀ (i : Nat) (v : V), [V.str (tx (ft n d ++ [10])), V.str (tx ([10] ++ ft n d)), V.str (tx (ft n d ++ [32]))][i]? = some v → ∃ m, v = .str (tx m) ∧ PreR m ∧ ¬ ∃ (n : Int) (d : Nat), Frac m n d := fun i v e => by
    match i, e with
    | 0, e => cases e; exact ⟨_, rfl, pre_snoc pr (ft_ne n d) (by omega) (by decide) (by decide), no_frac (c := 10) (by simp) (by decide)⟩
    | 1, e => cases e; exact ⟨_, rfl, pre_cons (l := ft n d) pr (by omega), no_frac (c := 10) (by simp) (by decide)⟩
    | 2, e => cases e; exact ⟨_, rfl, pre_snoc pr (ft_ne n d) (by omega) (by decide) (by decide), no_frac (c := 32) (by simp) (by decide)⟩
  refine walk_list (xs := [V.str (tx (ft n d ++ [10])), V.str (tx ([10] ++ ft n d)), V.str (tx (ft n d ++ [32]))]) (fun i σ H' => ∃ (x0 : Option V), σ = [x0] ∧ SameX H8 H' ∧ H' D = some (.lst [])) ⟨none, rfl, SameX.of kD, upd_same⟩ ?_ ?_ ?_
  · rintro i σ H' _ ⟨x0, rfl, g2, _⟩
    exact SqL.of (g2 _ _ (fun φ z => nomatch z) el)
  · rintro i v σ H' hv ⟨x0, rfl, g2, hD⟩
    obtain ⟨m, rfl, pm, nf⟩ := each i v hv
    refine ⟨_, rfl, .str (tx m), rfl, .txt m rfl pm (fun n' d' H'' f _ => absurd ⟨n', d', f⟩ nf) fun _ H'' g' => ?_⟩
    refine ⟨rfl, _, rfl, ?_⟩
    rw [decide_eq_true rfl]
    exact iteF ⟨_, rfl, g2.trans g', g' _ _ (fun φ z => nomatch z) hD⟩
  rintro σ H9 ⟨x0, rfl, g9, hD⟩
  refine ⟨(by show 0 ≤ sizeLine; decide), fun q' nq => ?_⟩
  have gq := same_new nq (.lst [])
  have eq := upd_same (H := H9) (a := q') (o := .lst [])
  have hD10 := gq _ _ hD
  have g10 := g9.trans (SameX.of gq)
  have ho10 := g10.tup ho8
  have X10 := X8.trans g10
  have p10 := g10.pot p8
  generalize upd H9 q' (.lst []) = H10 at *
  refine ⟨.list [], .list [], ⟨D, _, rfl, SqL.of hD10, rfl⟩, ⟨q', _, rfl, SqL.of eq, rfl⟩, rfl, rfl, ?_⟩
  refine ⟨_, rfl, iteF ?_⟩
  clear each kD nD hD hD10 eq gq nq g10 g9 el gl nl ho7 ho8 X7 X8 p7 p8 D q' l H9 H8 H7 H6 H5 H4
  -- a lesser fraction, spoilt
  refine ⟨_, rfl, o, _, _, _, rfl, rfl, SqT.of ho10, at0, n, rfl, ?_⟩
  rw [abs_eq]
  refine ⟨_, _, rfl, rfl, ⟨by decide, by decide, by decide⟩, _, _, rfl, rfl, (by show (0 : Int) < 10 ^ 28; decide), ?_⟩
  refine ⟨_, rfl, o, _, _, _, rfl, rfl, SqT.of ho10, at0, _, _, rfl, rfl, .inr ⟨_, rfl, ?_⟩⟩
  refine ⟨_, _, rfl, rfl, .inl ⟨by decide, by decide⟩, _, _, rfl, rfl, _, _, rfl, rfl, .inr ⟨by split <;> decide, by split <;> decide⟩, ?_⟩
  obtain ⟨T, eT, bT⟩ : ∃ T : Int, ((n.natAbs : Nat) : Int) % 10 ^ Int.toNat 28 * (1 - 2 * (if decide (n < 0) = true then 1 else 0)) = T ∧ T.natAbs < 10 ^ 28 := by
    refine ⟨_, rfl, ?_⟩
    show (((n.natAbs : Nat) : Int) % 10 ^ 28 * (1 - 2 * (if decide (n < 0) = true then 1 else 0))).natAbs < 10 ^ 28
    have e0 : 0 ≤ ((n.natAbs : Nat) : Int) % 10 ^ 28 := Int.emod_nonneg _ (by decide)
    have e1 : ((n.natAbs : Nat) : Int) % 10 ^ 28 < 10 ^ 28 := Int.emod_lt_of_pos _ (by decide)
    generalize ((n.natAbs : Nat) : Int) % 10 ^ 28 = u at e0 e1
    rw [Int.natAbs_mul]
    have : (1 - 2 * (if decide (n < 0) = true then (1 : Int) else 0)).natAbs = 1 := by split <;> decide
    rw [this, Nat.mul_one]
    omega
  rw [eT]
  refine ⟨_, rfl, _, rfl, o, _, _, _, rfl, rfl, SqT.of ho10, at1, _, _, rfl, rfl, ⟨by decide, by decide, by decide⟩, _, _, rfl, rfl, (by show (0 : Int) < 10 ^ 27; decide), _, _, rfl, rfl, ?_⟩
  obtain ⟨L, eL, bL0, bL⟩ : ∃ L : Int, 1 + (d : Int) % 10 ^ Int.toNat 27 = L ∧ 0 < L ∧ L ≤ 10 ^ 27 := by
    refine ⟨_, rfl, ?_⟩
    show 0 < 1 + (d : Int) % 10 ^ 27 ∧ 1 + (d : Int) % 10 ^ 27 ≤ 10 ^ 27
    have e0 : 0 ≤ (d : Int) % 10 ^ 27 := Int.emod_nonneg _ (by decide)
    have e1 : (d : Int) % 10 ^ 27 < 10 ^ 27 := Int.emod_lt_of_pos _ (by decide)
    omega
  rw [eL]
  have bL9 : L.natAbs < 2 ^ 9000 := lit9 (Nat.lt_of_le_of_lt (m := 10 ^ 27) (by omega) (by decide))
  clear fr pr fl ls ld eT eL
  refine ⟨T, L, rfl, bL0, bL9, fun n' d' o2 H11 fr2 g11 ho2 => ?_⟩
  have X11 := X10.trans (SameX.of g11)
  have p11 := p10.kept g11
  have pos := fr2.pos
  have ln := fr2.ln
  have ld' := fr2.ld
  obtain ⟨e, rfl⟩ := Int.eq_ofNat_of_zero_le (Int.le_of_lt pos)
  have bn' : n'.natAbs < 10 ^ 28 := by omega
  have be : e < 10 ^ 28 := by omega
  have ls := sdg_len (k := 27) bn'
  have ld := dg_len 27 e be
  have fl := ft_len (k := 27) bn' be
  clear g11 X10 p10 ho10 fr2 ln ld' bT bL bL0 bL9
  refine ⟨_, rfl, _, rfl, o2, _, _, _, rfl, rfl, SqT.of ho2, at0, n', rfl, log_60 (Nat.lt_trans bn' (by decide)), ?_⟩
  rw [str_int]
  refine ⟨_, rfl, o2, _, _, _, rfl, rfl, SqT.of ho2, at1, (e : Int), rfl, log_60 (Nat.lt_trans be (by decide)), ?_⟩
  rw [str_int, sdg_nat]
  refine ⟨_, _, rfl, rfl, (by rw [tx_len, tx_len]; exact small (by simp; omega)), ?_⟩
  rw [tx_app]
  refine ⟨(by show 2 ≤ sizeLine; decide), fun l nl => ?_⟩
  have gl := same_new nl (.lst [V.str (Str.ofString ""), V.str (tx ([47] ++ dg e))])
  have el := upd_same (H := H11) (a := l) (o := .lst [V.str (Str.ofString ""), V.str (tx ([47] ++ dg e))])
  have ho3 := gl _ _ ho2
  have X12 := X11.trans (SameX.of gl)
  have p12 := p11.kept gl
  generalize upd H11 l (.lst [V.str (Str.ofString ""), V.str (tx ([47] ++ dg e))]) = H12 at *
  obtain ⟨v, ev, hv⟩ := pick_low n' (d := e) (by omega)
  refine ⟨_, rfl, o2, _, _, _, rfl, rfl, SqT.of ho3, at1, _, _, rfl, rfl, .inr ⟨_, rfl, ?_⟩⟩
  refine ⟨l, _, _, _, rfl, rfl, SqL.of el, ev, ?_⟩
  refine ⟨_, _, rfl, rfl, (by rw [tx_len, tx_len]; exact small (by have := congrArg List.length hv; rw [List.length_append] at this; omega)), ?_⟩
  rw [tx_app, hv]
  refine ⟨p, ft n' e, rfl, p12, ft_ok n' e, List.length_pos_iff.mpr (ft_ne n' e), by omega, fun m H13 om lm s13 p13 => ?_⟩
  have X13 := keepX X12 hn s13
  refine ⟨m, rfl, pre_small om lm, fun H14 g14 => ⟨_, rfl, iteF ?_⟩⟩
  have X14 := X13.trans g14
  have p14 := g14.pot p13
  clear X11 X12 X13 p11 p12 p13 g14 s13 el gl nl ho2 ho3 ev hv v om lm m H13 H12 H11 l
  -- things that are no texts
  refine ⟨(by show 2 ≤ sizeLine; decide), fun t1 n1 => ?_⟩
  refine ⟨(by show 1 ≤ sizeLine; decide), fun l1 n2 => ?_⟩
  intro d1 n3
  refine ⟨(by show 1 ≤ sizeLine; decide), fun t2 n4 => ?_⟩
  refine ⟨(by show 1 ≤ sizeLine; decide), fun l2 n5 => ?_⟩
  refine ⟨(by show 8 ≤ sizeLine; decide), fun l nl => ?_⟩
  have gg : Same H14 (upd (upd (upd (upd (upd (upd H14 t1 (HO.tup [V.int 1, V.int 2])) l1 (HO.lst [V.int 1])) d1 (HO.dK [])) t2 (HO.tup [V.str (Str.ofString "1")])) l2 (HO.lst [V.str (Str.ofString "1/2")])) l (HO.lst [V.non, V.int 0, V.bl true, V.ref t1, V.ref l1, V.ref d1, V.ref t2, V.ref l2])) := (same_new n1 _).trans ((same_new n2 _).trans ((same_new n3 _).trans ((same_new n4 _).trans ((same_new n5 _).trans (same_new nl _)))))
  have f1 := same_new nl (HO.lst [V.non, V.int 0, V.bl true, V.ref t1, V.ref l1, V.ref d1, V.ref t2, V.ref l2]) _ _ (same_new n5 (HO.lst [V.str (Str.ofString "1/2")]) _ _ (same_new n4 (HO.tup [V.str (Str.ofString "1")]) _ _ (same_new n3 (HO.dK []) _ _ (same_new n2 (HO.lst [V.int 1]) _ _ (upd_same (H := H14) (a := t1) (o := HO.tup [V.int 1, V.int 2]))))))
  have f2 := same_new nl (HO.lst [V.non, V.int 0, V.bl true, V.ref t1, V.ref l1, V.ref d1, V.ref t2, V.ref l2]) _ _ (same_new n5 (HO.lst [V.str (Str.ofString "1/2")]) _ _ (same_new n4 (HO.tup [V.str (Str.ofString "1")]) _ _ (same_new n3 (HO.dK []) _ _ (upd_same (H := upd H14 t1 (HO.tup [V.int 1, V.int 2])) (a := l1) (o := HO.lst [V.int 1])))))
  have f3 := same_new nl (HO.lst [V.non, V.int 0, V.bl true, V.ref t1, V.ref l1, V.ref d1, V.ref t2, V.ref l2]) _ _ (same_new n5 (HO.lst [V.str (Str.ofString "1/2")]) _ _ (same_new n4 (HO.tup [V.str (Str.ofString "1")]) _ _ (upd_same (H := upd (upd H14 t1 (HO.tup [V.int 1, V.int 2])) l1 (HO.lst [V.int 1])) (a := d1) (o := HO.dK []))))
  have f4 := same_new nl (HO.lst [V.non, V.int 0, V.bl true, V.ref t1, V.ref l1, V.ref d1, V.ref t2, V.ref l2]) _ _ (same_new n5 (HO.lst [V.str (Str.ofString "1/2")]) _ _ (upd_same (H := upd (upd (upd H14 t1 (HO.tup [V.int 1, V.int 2])) l1 (HO.lst [V.int 1])) d1 (HO.dK [])) (a := t2) (o := HO.tup [V.str (Str.ofString "1")])))
  have f5 := same_new nl (HO.lst [V.non, V.int 0, V.bl true, V.ref t1, V.ref l1, V.ref d1, V.ref t2, V.ref l2]) _ _ (upd_same (H := upd (upd (upd (upd H14 t1 (HO.tup [V.int 1, V.int 2])) l1 (HO.lst [V.int 1])) d1 (HO.dK [])) t2 (HO.tup [V.str (Str.ofString "1")])) (a := l2) (o := HO.lst [V.str (Str.ofString "1/2")]))
  have f6 := upd_same (H := upd (upd (upd (upd (upd H14 t1 (HO.tup [V.int 1, V.int 2])) l1 (HO.lst [V.int 1])) d1 (HO.dK [])) t2 (HO.tup [V.str (Str.ofString "1")])) l2 (HO.lst [V.str (Str.ofString "1/2")])) (a := l) (o := HO.lst [V.non, V.int 0, V.bl true, V.ref t1, V.ref l1, V.ref d1, V.ref t2, V.ref l2])
  generalize upd (upd (upd (upd (upd (upd H14 t1 (HO.tup [V.int 1, V.int 2])) l1 (HO.lst [V.int 1])) d1 (HO.dK [])) t2 (HO.tup [V.str (Str.ofString "1")])) l2 (HO.lst [V.str (Str.ofString "1/2")])) l (HO.lst [V.non, V.int 0, V.bl true, V.ref t1, V.ref l1, V.ref d1, V.ref t2, V.ref l2]) = HL at gg f1 f2 f3 f4 f5 f6 ⊢
  clear n1 n2 n3 n4 n5 nl
  have pL := p14.kept gg
  have XL := X14.trans (SameX.of gg)
  obtain ⟨px, py, hpL, _⟩ := id pL
  refine ⟨_, rfl, p, 8, rfl, pL, by decide, lit9 (by decide), fun k H15 k0 k1 s15 p15 => ?_⟩
  have np : ∀ {b : Addr} {o : HO}, HL b = some o → o ≠ HO.lst [V.int px, V.int py] → b ≠ p := fun {b o} e n => ne_of e hpL n
  have X15 := keepX XL hn s15
  obtain ⟨th, eth, t, ty, kt⟩ : ∃ th, atI [V.non, V.int 0, V.bl true, V.ref t1, V.ref l1, V.ref d1, V.ref t2, V.ref l2] k = some th ∧ ∃ t, TyOf K H15 th t ∧ PySem.W.kitOne K t (.type "str") = some false := by
    rcases (by omega : k = 0 ∨ k = 1 ∨ k = 2 ∨ k = 3 ∨ k = 4 ∨ k = 5 ∨ k = 6 ∨ k = 7) with rfl | rfl | rfl | rfl | rfl | rfl | rfl | rfl
    · exact ⟨_, rfl, _, .non, rfl⟩
    · exact ⟨_, rfl, _, .int 0, rfl⟩
    · exact ⟨_, rfl, _, .bl true, rfl⟩
    · exact ⟨_, rfl, _, .tup (s15 _ _ (np f1 (fun z => nomatch z)) f1), rfl⟩
    · exact ⟨_, rfl, _, .lst (s15 _ _ (np f2 (fun z => by injection z with z; injection z with z z2; cases z2)) f2), rfl⟩
    · exact ⟨_, rfl, _, .dK (s15 _ _ (np f3 (fun z => nomatch z)) f3), rfl⟩
    · exact ⟨_, rfl, _, .tup (s15 _ _ (np f4 (fun z => nomatch z)) f4), rfl⟩
    · exact ⟨_, rfl, _, .lst (s15 _ _ (np f5 (fun z => by injection z with z; injection z with z z2; cases z2)) f5), rfl⟩
  have f6' := s15 _ _ (np f6 (fun z => by injection z with z; injection z with z z2; cases z)) f6
  clear f1 f2 f3 f4 f5 f6 np hpL gg pL XL s15
  refine ⟨l, _, _, _, rfl, rfl, SqL.of f6', eth, ?_⟩
  refine ⟨_, rfl, th, rfl, .oth t ty kt fun H16 g16 => ?_⟩
  refine ⟨rfl, _, rfl, ?_⟩
  rw [decide_eq_true rfl]
  refine iteF ?_
  have ne : ¬ ∃ (n : Int) (d : Nat), Frac [] n d := by
    rintro ⟨n, d, f⟩
    exact ft_ne n d f.txt.symm
  refine ⟨.str (tx []), rfl, .txt [] rfl (pre_small (fun c hc => nomatch hc) (by decide)) (fun n d H'' f _ => absurd ⟨n, d, f⟩ ne) fun _ H17 g17 => ?_⟩
  refine ⟨rfl, _, rfl, ?_⟩
  rw [decide_eq_true rfl]
  refine iteF ?_
  exact ⟨_, _, _, _, _, _, _, _, rfl, ((X15.trans g16).trans g17).seq hS2⟩
--SPLIT
theorem all_mk {l : PySem.W.OpenLaw} {w : World} {K : PySem.W.Frag} {h : Heap} {mg : Str → Option Value} {fa : Addr} (X : K.In h) (G : h.Ns mainGlobals mg) (hfa : mg "law" = some (.ref fa)) (B : FxG K mg) : ∃ fd : FuncData, (∀ (s : Shared) (v : Value), BindsTo s fd ⟨[v], []⟩ [("_law_script", v)]) ∧ ∀ base : Heap, K.In base → base.Ns mainGlobals mg → FnOk l.prog w K mg base CX0 10 fa fd ["_law_script"] (spLaw K) := by
  obtain ⟨f, fd, e, F⟩ := B.d21
  cases hfa.symm.trans (PySem.W.mg_of X G e)
  refine ⟨fd, fun s v => ?_, fun base _ _ => ?_⟩
  · obtain ⟨oc, od, kV, doc, pm, an, cdv, ct, osl, rfl, _⟩ := F.ex
    exact .of_eq rfl
  refine Classical.byContradiction fun n => ?_
  obtain ⟨B', f', fd', F', n'⟩ : Bad c0 := Classical.epsilon_spec ⟨⟨l.prog, w, K, mg, base⟩, B, fa, fd, F, n⟩
  exact n' (ok_law B' F')
theorem walk {l : PySem.W.OpenLaw} {q : Program} {loose : List Str} {XP : (Str → Option Value) → Heap → Prop} {YP : World → Heap → Prop} {d : DefRec} {K : Params → PySem.W.Frag} (hn : l.most = some 63) (hdf : d.params.defaults = [])
    (hY : ∀ (w : World) (h : Heap), YP w h → (K w.params).In h)
    (F : ∀ (w : World) (mg : Str → Option Value) (fa : Addr) (h : Heap), (K w.params).In h → h.Ns mainGlobals mg → mg d.name = some (.ref fa) →
      ∃ fd : FuncData, (∀ (s : Shared) (u : Value), BindsTo s fd ⟨[u], []⟩ [("_law_script", u)]) ∧ ∀ base : Heap, (K w.params).In base → base.Ns mainGlobals mg → FnOk l.prog w (K w.params) mg base CX0 10 fa fd ["_law_script"] (spLaw (K w.params))) :
    PySem.W.WalkO q loose XP YP l.row.toRowW d [] (fun f vs => PySem.call f vs) :=
  L2.walk_of (n := 63) (k := 10) (x := "_law_script") (CX := fun _ => CX0) (sp := fun w => spLaw (K w.params)) hn (by decide) hdf ⟨rfl, by decide, by decide, rfl⟩ hY F (fun _ _ a ns hl _ hS => ⟨a, ns, rfl, hS, hl, fun _ => rfl⟩) fun _ _ _ _ _ z => z
end Prf
def PySem.W.Fast.tw8630720977890125056 : Nat := 0
def PySem.W.Fast.tw17793914952040452961 : Nat := 0
def PySem.W.Fast.tw14931767798084022658 : Nat := 0
def PySem.W.Fast.tw9945063896282123013 : Nat := 0
def PySem.W.Fast.tw10488901330409244199 : Nat := 0
def PySem.W.Fast.tw7926815713363022952 : Nat := 0
def PySem.W.Fast.tw7269066048094520648 : Nat := 0
def PySem.W.Fast.tw5775632493345243210 : Nat := 0
def PySem.W.Fast.tw6430518786018360107 : Nat := 0
def PySem.W.Fast.tw4989795347284754350 : Nat := 0
def PySem.W.Fast.tw8262702482065615282 : Nat := 0
def PySem.W.Fast.tw12116991509146390261 : Nat := 0
def PySem.W.Fast.tw12320818852046353237 : Nat := 0
def PySem.W.Fast.tw7756281876817302485 : Nat := 0
def PySem.W.Fast.tw3711667218985020982 : Nat := 0
def PySem.W.Fast.tw17165629018525581879 : Nat := 0
def PySem.W.Fast.tw753390914278133464 : Nat := 0
def PySem.W.Fast.tw1979807531753969432 : Nat := 0
def PySem.W.Fast.tw7991533289595402232 : Nat := 0
def PySem.W.Fast.tw14712760243281585850 : Nat := 0
def PySem.W.Fast.tw228903184583924252 : Nat := 0
def PySem.W.Fast.tw10434261645512173085 : Nat := 0
def PySem.W.Fast.tw16458533338928130909 : Nat := 0
def PySem.W.Fast.tw17589753350493041566 : Nat := 0
open PySem PySem.W PyProof.Rows
set_option maxRecDepth 100000 in
set_option maxHeartbeats 0 in
theorem PySem.Challenge.cw_restdraw_k12_fractions_written_holds : PySem.Challenge.rw_restdraw_k12_fractions_written.Holds := by
  w_on; o_law; k_head; (case hw => w_witness2)
  k_fill
  refine Prf.walk (l := PySem.Challenge.rw_restdraw_k12_fractions_written) rfl rfl (fun w h Y => PySem.W.kIn_of Y) ?F
  case F =>
    intro w mg fa h KX G hmg
    refine' Prf.all_mk KX G hmg ?_
    apply Prf.FxG.mk ⟨_, KX, G⟩ <;> first | (refine' L2.df_mk ?a ?l ?c ?k; (case a => k_is); (case l => k_is); (case c => k_is); (case k => k_is)) | (refine' L2.cn_mk ?a ?l ?v; (case a => k_is); (case l => k_is); (case v => first | rfl | decide)) | (refine' L2.cv_mk ?a ?v; (case a => k_is); (case v => first | rfl | decide +kernel)) | (refine' L2.XgAt.mk ?a ?b; (case a => k_is); (case b => k_is)) | (refine' L2.dx_mk ?a ?l ?t ?sa ?ga ?gh ?cl ?cg ?ct ?it; (case a => k_is); (case l => k_is); (case t => k_is); (case sa => k_is); (case ga => k_is); (case gh => k_is); (case cl => k_is); (case cg => k_is); (case ct => k_is); (case it => k_is)) | (refine' L2.wx_mk ?a ?d ?l ?t ?sa ?ga ?gh ?cl ?cg ?ct ?i ?f ?k ?fl ?fc ?fk; (case a => k_is); (case d => k_is); (case l => k_is); (case t => k_is); (case sa => k_is); (case ga => k_is); (case gh => k_is); (case cl => k_is); (case cg => k_is); (case ct => k_is); (case i => k_is); (case f => k_is); (case k => k_is); (case fl => k_is); (case fc => k_is); (case fk => k_is)) | (refine' L2.kd_mk ?a ?d ?i ?t ?s ?ss; (case a => k_is); (case d => k_is); (case i => k_is); (case t => k_is); (case s => k_is); (case ss => k_is)) | (refine' L2.kv_mk' ?a ?s; (case a => k_is); (case s => k_is)) | k_is
